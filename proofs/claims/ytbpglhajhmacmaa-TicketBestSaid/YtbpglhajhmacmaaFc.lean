/- The law of the half that fits best, on the machine. -/
import Derived.Test.YtbpglhajhmacmaaFb
set_option linter.unusedVariables false
set_option linter.unusedSimpArgs false
/- Halves of tickets: the half that fits best. -/
namespace Go.Proofs
open Go Go.RowKit Go.Sim
set_option maxRecDepth 100000
theorem cut_up {e : List Int} (h : cutB 0 e = true) : cutB (-1) e = true := by
  rw [cutB, Bool.and_eq_true, List.all_eq_true] at h ⊢
  exact ⟨h.1, fun n hn => (inR_iff _ _ _).2 (by have := (inR_iff _ _ _).1 (h.2 n hn); omega)⟩
theorem fitR_self {e : List Int} (h : cutB 0 e = true) : fitR e e = true ∧ kn e e.length = e.length := by
  have hk : kn e e.length = e.length := by
    rw [kn, List.take_length, List.countP_eq_length]
    intro n hn
    have := cutB_lo h n hn
    exact decide_eq_true (by omega)
  refine ⟨?_, hk⟩
  have h1 := cutB_len h
  have h2 : okTo e e e.length = true := by rw [okTo, List.all_eq_true]; intro k _; simp [okP]
  rw [fitR, hk, h2, decide_eq_true rfl, decide_eq_true (by omega)]; rfl
theorem bestF_lt {s : Nat → Int} {n i : Nat} (h : bestF s n = some i) : i < n := List.mem_range.mp (List.mem_of_find?_eq_some h)
theorem best_none {e : List Int} {rss : List (List Int)} (h : okHs e rss = true) (hF : bestF (sc e rss) rss.length = none) : bestE e rss = 4 := by simp [bestE, h, hF]
theorem best_some {e : List Int} {rss : List (List Int)} {i : Nat} (h : okHs e rss = true) (hF : bestF (sc e rss) rss.length = some i) : bestE e rss = 0 ∧ bestV e rss = (i : Int) := by simp [bestE, bestV, h, hF]
set_option maxHeartbeats 1000000 in
theorem best_law (w : AW) (xs : List Value) (f : Fresh w) (h : HdAll Try.prog w [27, 33] xs) : CallT Try.prog Try.T1 (.fn (.func 9) #[]) xs.toArray w fun v _ => v = .bool true := by
  cases h with
  | cons n1 h1 h =>
  cases h with
  | cons n2 h2 h =>
  cases h
  obtain ⟨e, he⟩ := given_list h1
  obtain ⟨rss, hr⟩ := given_rows h2
  clear h1 h2
  rename_i u x
  show CallT Try.prog Try.T1 (.fn (.func 9) #[]) #[u, x] w _
  obtain ⟨p0, cap0, rfl, _⟩ := id he.open
  obtain ⟨p, cap, rfl, hcap, hmax, hat⟩ := id hr.open
  refine callT_code rfl Try.func9 rfl Try.s9_eq rfl ?_
  unfold Try.s9
  simp -dsimp -implicitDefEqProofs (maxSteps := 2000000) (disch := first | assumption | omega | (simp only [AW.next_push, AW.next_put]; omega) | ((repeat refine Fresh.push ?_ _); assumption) | (simp only [same_int, same_bool, same_ptr, same_slice, same_sliceP, same_nil, same_agg2, same_string]; done) | (simp [oneCell, AW.next_push]; done) | fail) only [go_sem, Nat.reduceEqDiff, reduceIte, Nat.reduceAdd, Int.toNat_natCast, Nat.add_zero, Owes_true, Try.results9]
  apply callV_of (e := rfl)
  · exact Best_ok e rss _ _ w f he hr
  rintro _ w1 ⟨rfl, g1⟩
  cases hok : okHs e rss with
  | false =>
    have hE : bestE e rss = 31 := by simp [bestE, hok]
    have hV : bestV e rss = 0 := by simp [bestV, hok]
    simp -dsimp -implicitDefEqProofs (maxSteps := 2000000) (disch := first | assumption | omega | (simp only [AW.next_push, AW.next_put]; omega) | ((repeat refine Fresh.push ?_ _); assumption) | (simp only [same_int, same_bool, same_ptr, same_slice, same_sliceP, same_nil, same_agg2, same_string]; done) | (simp [oneCell, AW.next_push]; done) | fail) only [go_sem, Nat.reduceEqDiff, reduceIte, Nat.reduceAdd, Int.toNat_natCast, Nat.add_zero, Owes_true, Try.results9, hE, hV]
    apply callV_of (e := rfl)
    · exact callT_told (Q := fun v w' => v = .bool true ∧ w1 = w') (v := .bool true) (w' := w1) rfl ⟨rfl, rfl⟩
    rintro _ w8 ⟨rfl, rfl⟩
    simp -dsimp -implicitDefEqProofs (maxSteps := 2000000) (disch := first | assumption | omega | (simp only [AW.next_push, AW.next_put]; omega) | ((repeat refine Fresh.push ?_ _); assumption) | (simp only [same_int, same_bool, same_ptr, same_slice, same_sliceP, same_nil, same_agg2, same_string]; done) | (simp [oneCell, AW.next_push]; done) | fail) only [go_sem, Nat.reduceEqDiff, reduceIte, Nat.reduceAdd, Int.toNat_natCast, Nat.add_zero, Owes_true, Try.results9]
  | true =>
  have hA : cutB 0 e = true := by simp only [okHs, Bool.and_eq_true] at hok; exact hok.1.1
  have hall : rss.all (cutB (-1)) = true := by simp only [okHs, Bool.and_eq_true] at hok; exact hok.2
  obtain ⟨hR, hkn⟩ := fitR_self hA
  have hne : ¬ bestE e rss = 31 := by
    cases hF : bestF (sc e rss) rss.length with
    | none => rw [best_none hok hF]; omega
    | some i => rw [(best_some hok hF).1]; omega
  have hEs : fitE e e = 0 := by simp [fitE, hA, cut_up hA, hR]
  have hVs : fitV e e = (e.length : Int) := by simp [fitV, hA, cut_up hA, fitZ, hR, hkn]
  simp -dsimp -implicitDefEqProofs (maxSteps := 2000000) (disch := first | assumption | omega | (simp only [AW.next_push, AW.next_put]; omega) | ((repeat refine Fresh.push ?_ _); assumption) | (simp only [same_int, same_bool, same_ptr, same_slice, same_sliceP, same_nil, same_agg2, same_string]; done) | (simp [oneCell, AW.next_push]; done) | fail) only [go_sem, Nat.reduceEqDiff, reduceIte, Nat.reduceAdd, Int.toNat_natCast, Nat.add_zero, Owes_true, Try.results9, hne]
  apply callV_of (e := rfl)
  · exact Fit_ok e e _ _ w1 g1.2 (he.grown g1) (he.grown g1)
  rintro _ w2 ⟨rfl, hg2⟩
  have g2 := g1.trans hg2
  simp -dsimp -implicitDefEqProofs (maxSteps := 2000000) (disch := first | assumption | omega | (simp only [AW.next_push, AW.next_put]; omega) | ((repeat refine Fresh.push ?_ _); assumption) | (simp only [same_int, same_bool, same_ptr, same_slice, same_sliceP, same_nil, same_agg2, same_string]; done) | (simp [oneCell, AW.next_push]; done) | fail) only [go_sem, Nat.reduceEqDiff, reduceIte, Nat.reduceAdd, Int.toNat_natCast, Nat.add_zero, Owes_true, Try.results9, hEs, hVs, ne_eq, not_true]
  refine loopR (fun k t ds w3 => ∃ j : Nat, j ≤ rss.length ∧ k = rss.length - j ∧ ds = [] ∧ ev t (.tmp 0) = .slice p0 e.length cap0 ∧ ev t (.tmp 1) = .slice p rss.length cap ∧ ev t (.tmp 5) = .int .i64 (bestV e rss) ∧ ev t (.tmp 6) = .int .i64 (bestE e rss) ∧ ev t (.tmp 9) = .int .i64 (raceTo (sc e rss) j).1 ∧ ev t (.tmp 10) = .int .i64 ((raceTo (sc e rss) j).2.1 : Int) ∧ ev t (.tmp 11) = .int .i64 (j : Int) ∧ Grown w w3) (rss.length) ?_ ?_
  · refine ⟨0, by omega, by omega, rfl, ?_, ?_, ?_, ?_, ?_, ?_, ?_, g2⟩ <;> simp -dsimp -implicitDefEqProofs (maxSteps := 2000000) (disch := first | assumption | omega | (simp only [AW.next_push, AW.next_put]; omega) | ((repeat refine Fresh.push ?_ _); assumption) | (simp only [same_int, same_bool, same_ptr, same_slice, same_sliceP, same_nil, same_agg2, same_string]; done) | (simp [oneCell, AW.next_push]; done) | fail) only [go_sem, Nat.reduceEqDiff, reduceIte, Nat.reduceAdd, Int.toNat_natCast, Nat.add_zero, Owes_true, raceTo] <;> rfl
  rintro k t ds w3 ⟨j, hij, rfl, rfl, e0, e1, e5, e6, e9, e10, e11, hg⟩
  have hrace := race_ok (sc_lo e rss) j
  by_cases hlt : (j : Int) < (rss.length : Int)
  case pos =>
    have hlt' : j < rss.length := by omega
    obtain ⟨b1, o1, v, rfl, hb1, harr, hcell⟩ := hat j hlt'
    have hc0 := hcell w3 hg.1
    obtain ⟨p3, cap3, rfl, _⟩ := id harr.open
    have hB := all_at hall hlt'
    have hsc : sc e rss j = scZ e rss[j] := by rw [sc, getD_at hlt']
    have hrs : raceTo (sc e rss) (j + 1) = raceStep (sc e rss j) j (raceTo (sc e rss) j) := rfl
    rw [hsc] at hrs
    simp -dsimp -implicitDefEqProofs (maxSteps := 2000000) (disch := first | assumption | omega | (simp only [AW.next_push, AW.next_put]; omega) | ((repeat refine Fresh.push ?_ _); assumption) | (simp only [same_int, same_bool, same_ptr, same_slice, same_sliceP, same_nil, same_agg2, same_string]; done) | (simp [oneCell, AW.next_push]; done) | fail) only [go_sem, Nat.reduceEqDiff, reduceIte, Nat.reduceAdd, Int.toNat_natCast, Nat.add_zero, Owes_true, Try.results9, e0, e1, e5, e6, e9, e10, e11, hlt, indexV_eq, hc0]
    apply callV_of (e := rfl)
    · exact Fit_ok e rss[j] _ _ w3 hg.2 (he.grown hg) (harr.grown hg)
    rintro _ w4 ⟨rfl, hg4⟩
    have g4 := hg.trans hg4
    have hle := hrace.2.1
    generalize raceTo (sc e rss) j = X at *
    obtain ⟨m, c, b⟩ := X
    simp only at e9 e10 hle
    rcases scZ_lo e rss[j] with ⟨q1, q2, q3⟩ | ⟨q1, q2⟩
    · have hFE : fitE e rss[j] = 0 := by simp [fitE, hA, hB, q1]
      have hFV : fitV e rss[j] = (kn rss[j] rss[j].length : Int) := by simp [fitV, hA, hB, fitZ, q1]
      rw [q2] at hrs
      generalize kn rss[j] rss[j].length = K at *
      by_cases c1 : (K : Int) < m
      · have c2 : ¬ (K : Int) = m := by omega
        have c3 : ¬ m < (K : Int) := by omega
        rw [raceStep, if_pos (.inr c1)] at hrs
        simp -dsimp -implicitDefEqProofs (maxSteps := 2000000) (disch := first | assumption | omega | (simp only [AW.next_push, AW.next_put]; omega) | ((repeat refine Fresh.push ?_ _); assumption) | (simp only [same_int, same_bool, same_ptr, same_slice, same_sliceP, same_nil, same_agg2, same_string]; done) | (simp [oneCell, AW.next_push]; done) | fail) only [go_sem, Nat.reduceEqDiff, reduceIte, Nat.reduceAdd, Int.toNat_natCast, Nat.add_zero, Owes_true, Try.results9, e0, e1, e5, e6, e9, e10, e11, hFE, hFV, c2, c3, ne_eq, not_true]
        refine ⟨_, by omega, j + 1, by omega, rfl, rfl, by (simp -dsimp -implicitDefEqProofs (maxSteps := 2000000) (disch := first | assumption | omega | (simp only [AW.next_push, AW.next_put]; omega) | ((repeat refine Fresh.push ?_ _); assumption) | (simp only [same_int, same_bool, same_ptr, same_slice, same_sliceP, same_nil, same_agg2, same_string]; done) | (simp [oneCell, AW.next_push]; done) | fail) only [go_sem, Nat.reduceEqDiff, reduceIte, Nat.reduceAdd, Int.toNat_natCast, Nat.add_zero, Owes_true, e0, hrs]; try rfl), by (simp -dsimp -implicitDefEqProofs (maxSteps := 2000000) (disch := first | assumption | omega | (simp only [AW.next_push, AW.next_put]; omega) | ((repeat refine Fresh.push ?_ _); assumption) | (simp only [same_int, same_bool, same_ptr, same_slice, same_sliceP, same_nil, same_agg2, same_string]; done) | (simp [oneCell, AW.next_push]; done) | fail) only [go_sem, Nat.reduceEqDiff, reduceIte, Nat.reduceAdd, Int.toNat_natCast, Nat.add_zero, Owes_true, e1, hrs]; try rfl), by (simp -dsimp -implicitDefEqProofs (maxSteps := 2000000) (disch := first | assumption | omega | (simp only [AW.next_push, AW.next_put]; omega) | ((repeat refine Fresh.push ?_ _); assumption) | (simp only [same_int, same_bool, same_ptr, same_slice, same_sliceP, same_nil, same_agg2, same_string]; done) | (simp [oneCell, AW.next_push]; done) | fail) only [go_sem, Nat.reduceEqDiff, reduceIte, Nat.reduceAdd, Int.toNat_natCast, Nat.add_zero, Owes_true, e5, hrs]; try rfl), by (simp -dsimp -implicitDefEqProofs (maxSteps := 2000000) (disch := first | assumption | omega | (simp only [AW.next_push, AW.next_put]; omega) | ((repeat refine Fresh.push ?_ _); assumption) | (simp only [same_int, same_bool, same_ptr, same_slice, same_sliceP, same_nil, same_agg2, same_string]; done) | (simp [oneCell, AW.next_push]; done) | fail) only [go_sem, Nat.reduceEqDiff, reduceIte, Nat.reduceAdd, Int.toNat_natCast, Nat.add_zero, Owes_true, e6, hrs]; try rfl), by (simp -dsimp -implicitDefEqProofs (maxSteps := 2000000) (disch := first | assumption | omega | (simp only [AW.next_push, AW.next_put]; omega) | ((repeat refine Fresh.push ?_ _); assumption) | (simp only [same_int, same_bool, same_ptr, same_slice, same_sliceP, same_nil, same_agg2, same_string]; done) | (simp [oneCell, AW.next_push]; done) | fail) only [go_sem, Nat.reduceEqDiff, reduceIte, Nat.reduceAdd, Int.toNat_natCast, Nat.add_zero, Owes_true, e9, hrs]; try rfl), by (simp -dsimp -implicitDefEqProofs (maxSteps := 2000000) (disch := first | assumption | omega | (simp only [AW.next_push, AW.next_put]; omega) | ((repeat refine Fresh.push ?_ _); assumption) | (simp only [same_int, same_bool, same_ptr, same_slice, same_sliceP, same_nil, same_agg2, same_string]; done) | (simp [oneCell, AW.next_push]; done) | fail) only [go_sem, Nat.reduceEqDiff, reduceIte, Nat.reduceAdd, Int.toNat_natCast, Nat.add_zero, Owes_true, e10, hrs]; try rfl), by (simp -dsimp -implicitDefEqProofs (maxSteps := 2000000) (disch := first | assumption | omega | (simp only [AW.next_push, AW.next_put]; omega) | ((repeat refine Fresh.push ?_ _); assumption) | (simp only [same_int, same_bool, same_ptr, same_slice, same_sliceP, same_nil, same_agg2, same_string]; done) | (simp [oneCell, AW.next_push]; done) | fail) only [go_sem, Nat.reduceEqDiff, reduceIte, Nat.reduceAdd, Int.toNat_natCast, Nat.add_zero, Owes_true, e11, hrs]; try rfl), g4⟩
      · by_cases c2 : (K : Int) = m
        · rw [raceStep, if_neg (by simp only; omega), if_pos c2] at hrs
          have hd : decide ((K : Int) = m) = true := decide_eq_true c2
          have c3 : ¬ m < (K : Int) := by omega
          simp -dsimp -implicitDefEqProofs (maxSteps := 2000000) (disch := first | assumption | omega | (simp only [AW.next_push, AW.next_put]; omega) | ((repeat refine Fresh.push ?_ _); assumption) | (simp only [same_int, same_bool, same_ptr, same_slice, same_sliceP, same_nil, same_agg2, same_string]; done) | (simp [oneCell, AW.next_push]; done) | fail) only [go_sem, Nat.reduceEqDiff, reduceIte, Nat.reduceAdd, Int.toNat_natCast, Nat.add_zero, Owes_true, Try.results9, e0, e1, e5, e6, e9, e10, e11, hFE, hFV, hd, c3, ne_eq, not_true]
          refine ⟨_, by omega, j + 1, by omega, rfl, rfl, by (simp -dsimp -implicitDefEqProofs (maxSteps := 2000000) (disch := first | assumption | omega | (simp only [AW.next_push, AW.next_put]; omega) | ((repeat refine Fresh.push ?_ _); assumption) | (simp only [same_int, same_bool, same_ptr, same_slice, same_sliceP, same_nil, same_agg2, same_string]; done) | (simp [oneCell, AW.next_push]; done) | fail) only [go_sem, Nat.reduceEqDiff, reduceIte, Nat.reduceAdd, Int.toNat_natCast, Nat.add_zero, Owes_true, e0, hrs]; try rfl), by (simp -dsimp -implicitDefEqProofs (maxSteps := 2000000) (disch := first | assumption | omega | (simp only [AW.next_push, AW.next_put]; omega) | ((repeat refine Fresh.push ?_ _); assumption) | (simp only [same_int, same_bool, same_ptr, same_slice, same_sliceP, same_nil, same_agg2, same_string]; done) | (simp [oneCell, AW.next_push]; done) | fail) only [go_sem, Nat.reduceEqDiff, reduceIte, Nat.reduceAdd, Int.toNat_natCast, Nat.add_zero, Owes_true, e1, hrs]; try rfl), by (simp -dsimp -implicitDefEqProofs (maxSteps := 2000000) (disch := first | assumption | omega | (simp only [AW.next_push, AW.next_put]; omega) | ((repeat refine Fresh.push ?_ _); assumption) | (simp only [same_int, same_bool, same_ptr, same_slice, same_sliceP, same_nil, same_agg2, same_string]; done) | (simp [oneCell, AW.next_push]; done) | fail) only [go_sem, Nat.reduceEqDiff, reduceIte, Nat.reduceAdd, Int.toNat_natCast, Nat.add_zero, Owes_true, e5, hrs]; try rfl), by (simp -dsimp -implicitDefEqProofs (maxSteps := 2000000) (disch := first | assumption | omega | (simp only [AW.next_push, AW.next_put]; omega) | ((repeat refine Fresh.push ?_ _); assumption) | (simp only [same_int, same_bool, same_ptr, same_slice, same_sliceP, same_nil, same_agg2, same_string]; done) | (simp [oneCell, AW.next_push]; done) | fail) only [go_sem, Nat.reduceEqDiff, reduceIte, Nat.reduceAdd, Int.toNat_natCast, Nat.add_zero, Owes_true, e6, hrs]; try rfl), by (simp -dsimp -implicitDefEqProofs (maxSteps := 2000000) (disch := first | assumption | omega | (simp only [AW.next_push, AW.next_put]; omega) | ((repeat refine Fresh.push ?_ _); assumption) | (simp only [same_int, same_bool, same_ptr, same_slice, same_sliceP, same_nil, same_agg2, same_string]; done) | (simp [oneCell, AW.next_push]; done) | fail) only [go_sem, Nat.reduceEqDiff, reduceIte, Nat.reduceAdd, Int.toNat_natCast, Nat.add_zero, Owes_true, e9, hrs]; try rfl), by (simp -dsimp -implicitDefEqProofs (maxSteps := 2000000) (disch := first | assumption | omega | (simp only [AW.next_push, AW.next_put]; omega) | ((repeat refine Fresh.push ?_ _); assumption) | (simp only [same_int, same_bool, same_ptr, same_slice, same_sliceP, same_nil, same_agg2, same_string]; done) | (simp [oneCell, AW.next_push]; done) | fail) only [go_sem, Nat.reduceEqDiff, reduceIte, Nat.reduceAdd, Int.toNat_natCast, Nat.add_zero, Owes_true, e10, hrs]; try rfl), by (simp -dsimp -implicitDefEqProofs (maxSteps := 2000000) (disch := first | assumption | omega | (simp only [AW.next_push, AW.next_put]; omega) | ((repeat refine Fresh.push ?_ _); assumption) | (simp only [same_int, same_bool, same_ptr, same_slice, same_sliceP, same_nil, same_agg2, same_string]; done) | (simp [oneCell, AW.next_push]; done) | fail) only [go_sem, Nat.reduceEqDiff, reduceIte, Nat.reduceAdd, Int.toNat_natCast, Nat.add_zero, Owes_true, e11, hrs]; try rfl), g4⟩
        · rw [raceStep, if_neg (by simp only; omega), if_neg (by simp only; omega)] at hrs
          have c3 : m < (K : Int) := by omega
          simp -dsimp -implicitDefEqProofs (maxSteps := 2000000) (disch := first | assumption | omega | (simp only [AW.next_push, AW.next_put]; omega) | ((repeat refine Fresh.push ?_ _); assumption) | (simp only [same_int, same_bool, same_ptr, same_slice, same_sliceP, same_nil, same_agg2, same_string]; done) | (simp [oneCell, AW.next_push]; done) | fail) only [go_sem, Nat.reduceEqDiff, reduceIte, Nat.reduceAdd, Int.toNat_natCast, Nat.add_zero, Owes_true, Try.results9, e0, e1, e5, e6, e9, e10, e11, hFE, hFV, c2, c3, ne_eq, not_true]
          refine ⟨_, by omega, j + 1, by omega, rfl, rfl, by (simp -dsimp -implicitDefEqProofs (maxSteps := 2000000) (disch := first | assumption | omega | (simp only [AW.next_push, AW.next_put]; omega) | ((repeat refine Fresh.push ?_ _); assumption) | (simp only [same_int, same_bool, same_ptr, same_slice, same_sliceP, same_nil, same_agg2, same_string]; done) | (simp [oneCell, AW.next_push]; done) | fail) only [go_sem, Nat.reduceEqDiff, reduceIte, Nat.reduceAdd, Int.toNat_natCast, Nat.add_zero, Owes_true, e0, hrs]; try rfl), by (simp -dsimp -implicitDefEqProofs (maxSteps := 2000000) (disch := first | assumption | omega | (simp only [AW.next_push, AW.next_put]; omega) | ((repeat refine Fresh.push ?_ _); assumption) | (simp only [same_int, same_bool, same_ptr, same_slice, same_sliceP, same_nil, same_agg2, same_string]; done) | (simp [oneCell, AW.next_push]; done) | fail) only [go_sem, Nat.reduceEqDiff, reduceIte, Nat.reduceAdd, Int.toNat_natCast, Nat.add_zero, Owes_true, e1, hrs]; try rfl), by (simp -dsimp -implicitDefEqProofs (maxSteps := 2000000) (disch := first | assumption | omega | (simp only [AW.next_push, AW.next_put]; omega) | ((repeat refine Fresh.push ?_ _); assumption) | (simp only [same_int, same_bool, same_ptr, same_slice, same_sliceP, same_nil, same_agg2, same_string]; done) | (simp [oneCell, AW.next_push]; done) | fail) only [go_sem, Nat.reduceEqDiff, reduceIte, Nat.reduceAdd, Int.toNat_natCast, Nat.add_zero, Owes_true, e5, hrs]; try rfl), by (simp -dsimp -implicitDefEqProofs (maxSteps := 2000000) (disch := first | assumption | omega | (simp only [AW.next_push, AW.next_put]; omega) | ((repeat refine Fresh.push ?_ _); assumption) | (simp only [same_int, same_bool, same_ptr, same_slice, same_sliceP, same_nil, same_agg2, same_string]; done) | (simp [oneCell, AW.next_push]; done) | fail) only [go_sem, Nat.reduceEqDiff, reduceIte, Nat.reduceAdd, Int.toNat_natCast, Nat.add_zero, Owes_true, e6, hrs]; try rfl), by (simp -dsimp -implicitDefEqProofs (maxSteps := 2000000) (disch := first | assumption | omega | (simp only [AW.next_push, AW.next_put]; omega) | ((repeat refine Fresh.push ?_ _); assumption) | (simp only [same_int, same_bool, same_ptr, same_slice, same_sliceP, same_nil, same_agg2, same_string]; done) | (simp [oneCell, AW.next_push]; done) | fail) only [go_sem, Nat.reduceEqDiff, reduceIte, Nat.reduceAdd, Int.toNat_natCast, Nat.add_zero, Owes_true, e9, hrs]; try rfl), by (simp -dsimp -implicitDefEqProofs (maxSteps := 2000000) (disch := first | assumption | omega | (simp only [AW.next_push, AW.next_put]; omega) | ((repeat refine Fresh.push ?_ _); assumption) | (simp only [same_int, same_bool, same_ptr, same_slice, same_sliceP, same_nil, same_agg2, same_string]; done) | (simp [oneCell, AW.next_push]; done) | fail) only [go_sem, Nat.reduceEqDiff, reduceIte, Nat.reduceAdd, Int.toNat_natCast, Nat.add_zero, Owes_true, e10, hrs]; try rfl), by (simp -dsimp -implicitDefEqProofs (maxSteps := 2000000) (disch := first | assumption | omega | (simp only [AW.next_push, AW.next_put]; omega) | ((repeat refine Fresh.push ?_ _); assumption) | (simp only [same_int, same_bool, same_ptr, same_slice, same_sliceP, same_nil, same_agg2, same_string]; done) | (simp [oneCell, AW.next_push]; done) | fail) only [go_sem, Nat.reduceEqDiff, reduceIte, Nat.reduceAdd, Int.toNat_natCast, Nat.add_zero, Owes_true, e11, hrs]; try rfl), g4⟩
    · have hFE : fitE e rss[j] = 32 := by simp [fitE, hA, hB, q1]
      rw [q2] at hrs
      rw [raceStep, if_pos (.inl (by omega))] at hrs
      have h320 : ¬ (32 : Int) = 0 := by decide
      simp -dsimp -implicitDefEqProofs (maxSteps := 2000000) (disch := first | assumption | omega | (simp only [AW.next_push, AW.next_put]; omega) | ((repeat refine Fresh.push ?_ _); assumption) | (simp only [same_int, same_bool, same_ptr, same_slice, same_sliceP, same_nil, same_agg2, same_string]; done) | (simp [oneCell, AW.next_push]; done) | fail) only [go_sem, Nat.reduceEqDiff, reduceIte, Nat.reduceAdd, Int.toNat_natCast, Nat.add_zero, Owes_true, Try.results9, e0, e1, e5, e6, e9, e10, e11, hFE, h320, ne_eq, not_true]
      refine ⟨_, by omega, j + 1, by omega, rfl, rfl, by (simp -dsimp -implicitDefEqProofs (maxSteps := 2000000) (disch := first | assumption | omega | (simp only [AW.next_push, AW.next_put]; omega) | ((repeat refine Fresh.push ?_ _); assumption) | (simp only [same_int, same_bool, same_ptr, same_slice, same_sliceP, same_nil, same_agg2, same_string]; done) | (simp [oneCell, AW.next_push]; done) | fail) only [go_sem, Nat.reduceEqDiff, reduceIte, Nat.reduceAdd, Int.toNat_natCast, Nat.add_zero, Owes_true, e0, hrs]; try rfl), by (simp -dsimp -implicitDefEqProofs (maxSteps := 2000000) (disch := first | assumption | omega | (simp only [AW.next_push, AW.next_put]; omega) | ((repeat refine Fresh.push ?_ _); assumption) | (simp only [same_int, same_bool, same_ptr, same_slice, same_sliceP, same_nil, same_agg2, same_string]; done) | (simp [oneCell, AW.next_push]; done) | fail) only [go_sem, Nat.reduceEqDiff, reduceIte, Nat.reduceAdd, Int.toNat_natCast, Nat.add_zero, Owes_true, e1, hrs]; try rfl), by (simp -dsimp -implicitDefEqProofs (maxSteps := 2000000) (disch := first | assumption | omega | (simp only [AW.next_push, AW.next_put]; omega) | ((repeat refine Fresh.push ?_ _); assumption) | (simp only [same_int, same_bool, same_ptr, same_slice, same_sliceP, same_nil, same_agg2, same_string]; done) | (simp [oneCell, AW.next_push]; done) | fail) only [go_sem, Nat.reduceEqDiff, reduceIte, Nat.reduceAdd, Int.toNat_natCast, Nat.add_zero, Owes_true, e5, hrs]; try rfl), by (simp -dsimp -implicitDefEqProofs (maxSteps := 2000000) (disch := first | assumption | omega | (simp only [AW.next_push, AW.next_put]; omega) | ((repeat refine Fresh.push ?_ _); assumption) | (simp only [same_int, same_bool, same_ptr, same_slice, same_sliceP, same_nil, same_agg2, same_string]; done) | (simp [oneCell, AW.next_push]; done) | fail) only [go_sem, Nat.reduceEqDiff, reduceIte, Nat.reduceAdd, Int.toNat_natCast, Nat.add_zero, Owes_true, e6, hrs]; try rfl), by (simp -dsimp -implicitDefEqProofs (maxSteps := 2000000) (disch := first | assumption | omega | (simp only [AW.next_push, AW.next_put]; omega) | ((repeat refine Fresh.push ?_ _); assumption) | (simp only [same_int, same_bool, same_ptr, same_slice, same_sliceP, same_nil, same_agg2, same_string]; done) | (simp [oneCell, AW.next_push]; done) | fail) only [go_sem, Nat.reduceEqDiff, reduceIte, Nat.reduceAdd, Int.toNat_natCast, Nat.add_zero, Owes_true, e9, hrs]; try rfl), by (simp -dsimp -implicitDefEqProofs (maxSteps := 2000000) (disch := first | assumption | omega | (simp only [AW.next_push, AW.next_put]; omega) | ((repeat refine Fresh.push ?_ _); assumption) | (simp only [same_int, same_bool, same_ptr, same_slice, same_sliceP, same_nil, same_agg2, same_string]; done) | (simp [oneCell, AW.next_push]; done) | fail) only [go_sem, Nat.reduceEqDiff, reduceIte, Nat.reduceAdd, Int.toNat_natCast, Nat.add_zero, Owes_true, e10, hrs]; try rfl), by (simp -dsimp -implicitDefEqProofs (maxSteps := 2000000) (disch := first | assumption | omega | (simp only [AW.next_push, AW.next_put]; omega) | ((repeat refine Fresh.push ?_ _); assumption) | (simp only [same_int, same_bool, same_ptr, same_slice, same_sliceP, same_nil, same_agg2, same_string]; done) | (simp [oneCell, AW.next_push]; done) | fail) only [go_sem, Nat.reduceEqDiff, reduceIte, Nat.reduceAdd, Int.toNat_natCast, Nat.add_zero, Owes_true, e11, hrs]; try rfl), g4⟩
  obtain rfl : j = rss.length := by omega
  have hend := race_end hrace
  cases hF : bestF (sc e rss) rss.length with
  | none =>
    have hE' : bestE e rss = 4 := best_none hok hF
    have hc : ¬ ((raceTo (sc e rss) rss.length).2.1 : Int) = 1 := by
      intro q
      have := hend.1 (by omega)
      rw [hF] at this; cases this
    have h40 : ¬ (4 : Int) = 0 := by decide
    simp -dsimp -implicitDefEqProofs (maxSteps := 2000000) (disch := first | assumption | omega | (simp only [AW.next_push, AW.next_put]; omega) | ((repeat refine Fresh.push ?_ _); assumption) | (simp only [same_int, same_bool, same_ptr, same_slice, same_sliceP, same_nil, same_agg2, same_string]; done) | (simp [oneCell, AW.next_push]; done) | fail) only [go_sem, Nat.reduceEqDiff, reduceIte, Nat.reduceAdd, Int.toNat_natCast, Nat.add_zero, Owes_true, Try.results9, e0, e1, e5, e6, e9, e10, e11, hlt, hE', hc, h40, ne_eq, not_true]
    apply callV_of (e := rfl)
    · exact callT_told (Q := fun v w' => v = .bool true ∧ w3 = w') (v := .bool true) (w' := w3) rfl ⟨rfl, rfl⟩
    rintro _ w8 ⟨rfl, rfl⟩
    simp -dsimp -implicitDefEqProofs (maxSteps := 2000000) (disch := first | assumption | omega | (simp only [AW.next_push, AW.next_put]; omega) | ((repeat refine Fresh.push ?_ _); assumption) | (simp only [same_int, same_bool, same_ptr, same_slice, same_sliceP, same_nil, same_agg2, same_string]; done) | (simp [oneCell, AW.next_push]; done) | fail) only [go_sem, Nat.reduceEqDiff, reduceIte, Nat.reduceAdd, Int.toNat_natCast, Nat.add_zero, Owes_true, Try.results9]
  | some i =>
    have hE' : bestE e rss = 0 := (best_some hok hF).1
    have hV' : bestV e rss = (i : Int) := (best_some hok hF).2
    have hi := bestF_lt hF
    have hc1 : (raceTo (sc e rss) rss.length).2.1 = 1 := by
      rcases Nat.decEq (raceTo (sc e rss) rss.length).2.1 1 with q | q
      · have := hend.2 q
        rw [hF] at this; cases this
      · exact q
    have hi2 : (raceTo (sc e rss) rss.length).2.2 = i := by have := hend.1 hc1; rw [hF] at this; exact (Option.some.inj this).symm
    obtain ⟨hm1, hm2⟩ : 0 ≤ (raceTo (sc e rss) rss.length).1 ∧ sc e rss i = (raceTo (sc e rss) rss.length).1 := by
      rcases hrace.2.2 with ⟨q, _⟩ | ⟨_, q, _, q2, _⟩ | ⟨q, _⟩
      · omega
      · exact ⟨q, by rw [← hi2]; exact q2⟩
      · omega
    have hn1 : (1 : Int) ≤ (rss.length : Int) := by omega
    obtain ⟨b1, o1, v, rfl, hb1, harr, hcell⟩ := hat i hi
    have hc0 := hcell w3 hg.1
    obtain ⟨p3, cap3, rfl, _⟩ := id harr.open
    have hB := all_at hall hi
    have hsc : sc e rss i = scZ e rss[i] := by rw [sc, getD_at hi]
    have hin : inR 0 (i : Int) ((rss.length : Int) - 1) = true := (inR_iff _ _ _).2 (by omega)
    have hlti : (i : Int) < (rss.length : Int) := by omega
    generalize raceTo (sc e rss) rss.length = X at *
    obtain ⟨m, c, b⟩ := X
    simp only at e9 e10 hc1 hm1 hm2
    subst hc1
    have hone : ((1 : Nat) : Int) = 1 := rfl
    simp -dsimp -implicitDefEqProofs (maxSteps := 2000000) (disch := first | assumption | omega | (simp only [AW.next_push, AW.next_put]; omega) | ((repeat refine Fresh.push ?_ _); assumption) | (simp only [same_int, same_bool, same_ptr, same_slice, same_sliceP, same_nil, same_agg2, same_string]; done) | (simp [oneCell, AW.next_push]; done) | fail) only [go_sem, Nat.reduceEqDiff, reduceIte, Nat.reduceAdd, Int.toNat_natCast, Nat.add_zero, Owes_true, Try.results9, e0, e1, e5, e6, e9, e10, e11, hlt, hE', hV']
    apply callV_of (e := rfl)
    · exact From_ok _ _ _ _
    rintro _ _ ⟨rfl, rfl⟩
    rw [hin]
    simp -dsimp -implicitDefEqProofs (maxSteps := 2000000) (disch := first | assumption | omega | (simp only [AW.next_push, AW.next_put]; omega) | ((repeat refine Fresh.push ?_ _); assumption) | (simp only [same_int, same_bool, same_ptr, same_slice, same_sliceP, same_nil, same_agg2, same_string]; done) | (simp [oneCell, AW.next_push]; done) | fail) only [go_sem, Nat.reduceEqDiff, reduceIte, Nat.reduceAdd, Int.toNat_natCast, Nat.add_zero, Owes_true, Try.results9, e0, e1, e5, e6, e9, e10, e11, hone, indexV_eq, hlti, hc0, ne_eq, not_true, hV']
    apply callV_of (e := rfl)
    · exact Fit_ok e rss[i] _ _ w3 hg.2 (he.grown hg) (harr.grown hg)
    rintro _ w4 ⟨rfl, hg4⟩
    rcases scZ_lo e rss[i] with ⟨q1, q2, q3⟩ | ⟨q1, q2⟩
    · have hFE : fitE e rss[i] = 0 := by simp [fitE, hA, hB, q1]
      have hFV : fitV e rss[i] = m := by rw [← hm2, hsc, q2]; simp [fitV, hA, hB, fitZ, q1]
      simp -dsimp -implicitDefEqProofs (maxSteps := 2000000) (disch := first | assumption | omega | (simp only [AW.next_push, AW.next_put]; omega) | ((repeat refine Fresh.push ?_ _); assumption) | (simp only [same_int, same_bool, same_ptr, same_slice, same_sliceP, same_nil, same_agg2, same_string]; done) | (simp [oneCell, AW.next_push]; done) | fail) only [go_sem, Nat.reduceEqDiff, reduceIte, Nat.reduceAdd, Int.toNat_natCast, Nat.add_zero, Owes_true, Try.results9, e0, e1, e5, e6, e9, e10, e11, hFE, hFV]
      apply callV_of (e := rfl)
      · exact callT_told (Q := fun v w' => v = .bool true ∧ w4 = w') (v := .bool true) (w' := w4) rfl ⟨rfl, rfl⟩
      rintro _ w8 ⟨rfl, rfl⟩
      simp -dsimp -implicitDefEqProofs (maxSteps := 2000000) (disch := first | assumption | omega | (simp only [AW.next_push, AW.next_put]; omega) | ((repeat refine Fresh.push ?_ _); assumption) | (simp only [same_int, same_bool, same_ptr, same_slice, same_sliceP, same_nil, same_agg2, same_string]; done) | (simp [oneCell, AW.next_push]; done) | fail) only [go_sem, Nat.reduceEqDiff, reduceIte, Nat.reduceAdd, Int.toNat_natCast, Nat.add_zero, Owes_true, Try.results9]
    · omega
end Go.Proofs
