/- Portions, the programs and the chapters: the law on the machine. -/
import Derived.Test.YtbmgalmnjaimeaaPd
set_option linter.unusedVariables false
set_option linter.unusedSimpArgs false
/- Portions, the program's and the chapter's: the law on the machine. -/
namespace Go.Proofs
open Go Go.RowKit Go.Sim
set_option maxRecDepth 100000
set_option maxHeartbeats 4000000 in
theorem lots_law (w : AW) (xs : List Value) (f : Fresh w) (h : HdAll Try.prog w [3, 32] xs) : CallT Try.prog Try.T1 (.fn (.func 4) #[]) xs.toArray w fun v _ => v = .bool true := by
  cases h with
  | cons n1 h1 h =>
  cases h with
  | cons n2 h2 h =>
  cases h
  rename_i v1 v2
  obtain ⟨pr, rfl⟩ := given_num h1
  obtain ⟨xs, Ds, hs, hsz⟩ := given_parts h2
  clear h1 h2
  obtain ⟨p, cap, rfl, hat⟩ := hs.at
  show CallT Try.prog Try.T1 (.fn (.func 4) #[]) #[.int .i64 pr, .slice p xs.length cap] w _
  refine callT_code rfl Try.func4 rfl Try.s4_eq rfl ?_
  unfold Try.s4
  simp -dsimp -implicitDefEqProofs (maxSteps := 2000000) (disch := first | assumption | omega | (simp only [AW.next_push, AW.next_put]; omega) | ((repeat refine Fresh.push ?_ _); assumption) | (simp only [same_int, same_bool, same_ptr, same_slice, same_sliceP, same_nil, same_agg2, same_string]; done) | (simp [oneCell, AW.next_push]; done) | fail) only [go_sem, Nat.reduceEqDiff, reduceIte, Nat.reduceAdd, Int.toNat_natCast, Nat.add_zero, Owes_true, Try.results4]
  apply callV_of (e := rfl)
  · exact Portions_ok pr xs Ds _ w f hs
  rintro _ w1 ⟨u, zs, rfl, ⟨hA, hz1, hz2⟩, g1⟩
  simp -dsimp -implicitDefEqProofs (maxSteps := 2000000) (disch := first | assumption | omega | (simp only [AW.next_push, AW.next_put]; omega) | ((repeat refine Fresh.push ?_ _); assumption) | (simp only [same_int, same_bool, same_ptr, same_slice, same_sliceP, same_nil, same_agg2, same_string]; done) | (simp [oneCell, AW.next_push]; done) | fail) only [go_sem, Nat.reduceEqDiff, reduceIte, Nat.reduceAdd, Int.toNat_natCast, Nat.add_zero, Owes_true, Try.results4]
  apply callV_of (e := rfl)
  · exact refPortions_ok pr xs Ds _ w1 g1.2 (hs.grown g1) hsz
  rintro _ w2 ⟨u2, ys, rfl, ⟨hB, hy1, hy2⟩, hg2⟩
  have g2 := g1.trans hg2
  have hA2 := hA.grown hg2
  have hsame : ∃ Q, zs.length = ys.length ∧ zs.length ≤ 1000 ∧ PortOk w2 Q Ds zs ∧ PortOk w2 Q Ds ys := by
    by_cases hE : portE pr xs Ds = 0
    · have := (portE_in hE).len
      exact ⟨_, by rw [(hz1 hE).1, (hy1 hE).1], by rw [(hz1 hE).1]; omega, (hz1 hE).2.grown hg2, (hy1 hE).2⟩
    · rw [hz2 hE, hy2 hE]
      exact ⟨[], rfl, by simp, fun k hk => by simp at hk, fun k hk => by simp at hk⟩
  obtain ⟨Q, hl, hl2, hk1, hk2⟩ := hsame
  simp -dsimp -implicitDefEqProofs (maxSteps := 2000000) (disch := first | assumption | omega | (simp only [AW.next_push, AW.next_put]; omega) | ((repeat refine Fresh.push ?_ _); assumption) | (simp only [same_int, same_bool, same_ptr, same_slice, same_sliceP, same_nil, same_agg2, same_string]; done) | (simp [oneCell, AW.next_push]; done) | fail) only [go_sem, Nat.reduceEqDiff, reduceIte, Nat.reduceAdd, Int.toNat_natCast, Nat.add_zero, Owes_true, Try.results4]
  apply callV_of (e := rfl)
  · exact SamePortions_ok Q Ds zs ys _ _ w2 g2.2 hA2 hB hl hl2 hk1 hk2
  rintro _ w3 ⟨rfl, hg3⟩
  simp -dsimp -implicitDefEqProofs (maxSteps := 2000000) (disch := first | assumption | omega | (simp only [AW.next_push, AW.next_put]; omega) | ((repeat refine Fresh.push ?_ _); assumption) | (simp only [same_int, same_bool, same_ptr, same_slice, same_sliceP, same_nil, same_agg2, same_string]; done) | (simp [oneCell, AW.next_push]; done) | fail) only [go_sem, Nat.reduceEqDiff, reduceIte, Nat.reduceAdd, Int.toNat_natCast, Nat.add_zero, Owes_true, Try.results4]
  apply callV_of (e := rfl)
  · exact callT_told (Q := fun v w' => v = .bool true ∧ w3 = w') (v := .bool true) (w' := w3) rfl ⟨rfl, rfl⟩
  rintro _ _ ⟨rfl, rfl⟩
  simp -dsimp -implicitDefEqProofs (maxSteps := 2000000) (disch := first | assumption | omega | (simp only [AW.next_push, AW.next_put]; omega) | ((repeat refine Fresh.push ?_ _); assumption) | (simp only [same_int, same_bool, same_ptr, same_slice, same_sliceP, same_nil, same_agg2, same_string]; done) | (simp [oneCell, AW.next_push]; done) | fail) only [go_sem, Nat.reduceEqDiff, reduceIte, Nat.reduceAdd, Int.toNat_natCast, Nat.add_zero, Owes_true, Try.results4]
end Go.Proofs
