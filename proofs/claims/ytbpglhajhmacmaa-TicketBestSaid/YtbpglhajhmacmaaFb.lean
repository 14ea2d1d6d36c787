/- What is given, and the law of fits on the machine. -/
import Derived.Test.YtbpglhajhmacmaaFa
import Derived.Test.YtbpglhajhmacmaaNb
set_option linter.unusedVariables false
set_option linter.unusedSimpArgs false
/- Halves of tickets: what is given, and the two laws. -/
namespace Go.Proofs
open Go Go.RowKit Go.Sim
set_option maxRecDepth 100000
theorem Try.und3 : Try.prog.underlying 3 = some (.int .i64) := by kernel_rfl
theorem Try.und27 : Try.prog.underlying 27 = some (.slice 3) := by kernel_rfl
theorem Try.und33 : Try.prog.underlying 33 = some (.slice 27) := by kernel_rfl
theorem Try.cells3 : Try.prog.cellsOf 3 = 1 := by kernel_rfl
theorem Try.cells27 : Try.prog.cellsOf 27 = 1 := by kernel_rfl
theorem given_int {w : AW} {n : Nat} {cs : List Value} (h : Hd Try.prog w n 3 cs) : ∃ x : Int, cs = icells x := by
  cases n with
  | zero => exact h.elim
  | succ n =>
    simp only [Hd, Try.und3] at h
    obtain ⟨i, rfl, _⟩ := h
    exact ⟨i, rfl⟩
theorem given_ints {w : AW} {n : Nat} {cs : List Value} (h : Hd Try.prog w n 27 cs) : ∃ v, cs = [v] ∧ ∃ xs, ArrOf w 1 icells v xs := by
  cases n with
  | zero => exact h.elim
  | succ n =>
    simp only [Hd, Try.und27, Try.cells3] at h
    obtain ⟨v, rows, rfl, ha, hr, hgv⟩ := h
    obtain ⟨xs, rfl⟩ := rows_of fun r hq => given_int (hr r hq)
    exact ⟨v, rfl, xs, ha⟩
theorem given_list {w : AW} {n : Nat} {v : Value} (h : HdV Try.prog w n 27 v) : ∃ xs, ArrOf w 1 icells v xs := by
  simp only [HdV, Try.und27] at h
  obtain ⟨v', e, xs, hx⟩ := given_ints h
  injection e with e; subst e
  exact ⟨xs, hx⟩
theorem given_rows {w : AW} {n : Nat} {u : Value} (h : HdV Try.prog w n 33 u) : ∃ rss, NumRows w u rss := by
  simp only [HdV, Try.und33] at h
  cases n with
  | zero => exact h.elim
  | succ n =>
    simp only [Hd, Try.und33, Try.cells27] at h
    obtain ⟨v, rows, e, ha, hr, hgv⟩ := h
    injection e with e; subst e
    obtain ⟨vs, rfl⟩ := rows_of (enc := vcells) fun r hq => (let ⟨v, e, _⟩ := given_ints (hr r hq); ⟨v, e⟩)
    have key : ∀ vs : List Value, (∀ r ∈ vs.map vcells, Hd Try.prog w n 27 r) → ∃ rss : List (List Int), vs.length = rss.length ∧ ∀ (i : Nat) v rs, vs[i]? = some v → rss[i]? = some rs → ArrOf w 1 icells v rs := by
      intro vs
      induction vs with
      | nil => exact fun _ => ⟨[], rfl, fun i v rs h => by simp at h⟩
      | cons v vs ih =>
        intro h
        obtain ⟨v', e, xs, hx⟩ := given_ints (h (vcells v) (by simp))
        injection e with e; subst e
        obtain ⟨rss, h1, h2⟩ := ih fun r hq => h r (by simp at hq ⊢; exact .inr hq)
        refine ⟨xs :: rss, by simp [h1], fun i a b ha hb => ?_⟩
        cases i with
        | zero => simp at ha hb; subst ha hb; exact hx
        | succ i => exact h2 i a b (by simpa using ha) (by simpa using hb)
    obtain ⟨rss, h1, h2⟩ := key vs hr
    exact ⟨rss, vs, h1, ha, h2⟩

set_option maxHeartbeats 1000000 in
theorem fits_law (w : AW) (xs : List Value) (f : Fresh w) (h : HdAll Try.prog w [27, 27, 33] xs) : CallT Try.prog Try.T1 (.fn (.func 4) #[]) xs.toArray w fun v _ => v = .bool true := by
  cases h with
  | cons n1 h1 h =>
  cases h with
  | cons n2 h2 h =>
  cases h with
  | cons n3 h3 h =>
  cases h
  obtain ⟨e, he⟩ := given_list h1
  obtain ⟨l, hl⟩ := given_list h2
  obtain ⟨rss, hr⟩ := given_rows h3
  clear h1 h2 h3
  rename_i u v x
  show CallT Try.prog Try.T1 (.fn (.func 4) #[]) #[u, v, x] w _
  refine callT_code rfl Try.func4 rfl Try.s4_eq rfl ?_
  unfold Try.s4
  simp -dsimp -implicitDefEqProofs (maxSteps := 2000000) (disch := first | assumption | omega | (simp only [AW.next_push, AW.next_put]; omega) | ((repeat refine Fresh.push ?_ _); assumption) | (simp only [same_int, same_bool, same_ptr, same_slice, same_sliceP, same_nil, same_agg2, same_string]; done) | (simp [oneCell, AW.next_push]; done) | fail) only [go_sem, Nat.reduceEqDiff, reduceIte, Nat.reduceAdd, Int.toNat_natCast, Nat.add_zero, Owes_true, Try.results4]
  apply callV_of (e := rfl)
  · exact Fit_ok e l u v w f he hl
  rintro _ w1 ⟨rfl, g1⟩
  simp -dsimp -implicitDefEqProofs (maxSteps := 2000000) (disch := first | assumption | omega | (simp only [AW.next_push, AW.next_put]; omega) | ((repeat refine Fresh.push ?_ _); assumption) | (simp only [same_int, same_bool, same_ptr, same_slice, same_sliceP, same_nil, same_agg2, same_string]; done) | (simp [oneCell, AW.next_push]; done) | fail) only [go_sem, Nat.reduceEqDiff, reduceIte, Nat.reduceAdd, Int.toNat_natCast, Nat.add_zero, Owes_true, Try.results4]
  apply callV_of (e := rfl)
  · exact refFitE_ok e l u v w1 g1.2 (he.grown g1) (hl.grown g1)
  rintro _ w2 ⟨rfl, hg2⟩
  have g2 := g1.trans hg2
  simp -dsimp -implicitDefEqProofs (maxSteps := 2000000) (disch := first | assumption | omega | (simp only [AW.next_push, AW.next_put]; omega) | ((repeat refine Fresh.push ?_ _); assumption) | (simp only [same_int, same_bool, same_ptr, same_slice, same_sliceP, same_nil, same_agg2, same_string]; done) | (simp [oneCell, AW.next_push]; done) | fail) only [go_sem, Nat.reduceEqDiff, reduceIte, Nat.reduceAdd, Int.toNat_natCast, Nat.add_zero, Owes_true, Try.results4, ne_eq, not_true]
  apply callV_of (e := rfl)
  · exact Best_ok e rss u x w2 g2.2 (he.grown g2) (hr.grown g2)
  rintro _ w3 ⟨rfl, hg3⟩
  have g3 := g2.trans hg3
  simp -dsimp -implicitDefEqProofs (maxSteps := 2000000) (disch := first | assumption | omega | (simp only [AW.next_push, AW.next_put]; omega) | ((repeat refine Fresh.push ?_ _); assumption) | (simp only [same_int, same_bool, same_ptr, same_slice, same_sliceP, same_nil, same_agg2, same_string]; done) | (simp [oneCell, AW.next_push]; done) | fail) only [go_sem, Nat.reduceEqDiff, reduceIte, Nat.reduceAdd, Int.toNat_natCast, Nat.add_zero, Owes_true, Try.results4, ne_eq, not_true]
  apply callV_of (e := rfl)
  · exact refBest_ok e rss u x w3 g3.2 (he.grown g3) (hr.grown g3)
  rintro _ w4 ⟨rfl, hg4⟩
  simp -dsimp -implicitDefEqProofs (maxSteps := 2000000) (disch := first | assumption | omega | (simp only [AW.next_push, AW.next_put]; omega) | ((repeat refine Fresh.push ?_ _); assumption) | (simp only [same_int, same_bool, same_ptr, same_slice, same_sliceP, same_nil, same_agg2, same_string]; done) | (simp [oneCell, AW.next_push]; done) | fail) only [go_sem, Nat.reduceEqDiff, reduceIte, Nat.reduceAdd, Int.toNat_natCast, Nat.add_zero, Owes_true, Try.results4, ne_eq, not_true]
  apply callV_of (e := rfl)
  · exact callT_told (Q := fun v w' => v = .bool true ∧ w4 = w') (v := .bool true) (w' := w4) rfl ⟨rfl, rfl⟩
  rintro _ w8 ⟨rfl, rfl⟩
  simp -dsimp -implicitDefEqProofs (maxSteps := 2000000) (disch := first | assumption | omega | (simp only [AW.next_push, AW.next_put]; omega) | ((repeat refine Fresh.push ?_ _); assumption) | (simp only [same_int, same_bool, same_ptr, same_slice, same_sliceP, same_nil, same_agg2, same_string]; done) | (simp [oneCell, AW.next_push]; done) | fail) only [go_sem, Nat.reduceEqDiff, reduceIte, Nat.reduceAdd, Int.toNat_natCast, Nat.add_zero, Owes_true, Try.results4]
end Go.Proofs
