/- Halves of tickets: contracts of Fit and Best, of the program and of the papers. -/
import Derived.Test.YtbpglhajhmacmaaTb
import Derived.Test.YtbpglhajhmacmaaNb
set_option linter.unusedVariables false
set_option linter.unusedSimpArgs false
/- Halves of tickets: small functions, and how much a half agrees with an edge. -/
namespace Go.Proofs
open Go Go.RowKit Go.Sim
set_option maxRecDepth 100000
theorem within_ok (n a b : Int) (w : AW) : CallT Try.prog Try.T1 (.fn (.func 43) #[]) #[.int .i64 n, .int .i64 a, .int .i64 b] w (Ret (.bool (inR a n b)) fun w' => w = w') := by
  refine callT_code rfl Try.func43 rfl Try.s43_eq rfl ?_
  unfold Try.s43
  by_cases h : a ≤ n
  all_goals
    simp -dsimp -implicitDefEqProofs (maxSteps := 2000000) (disch := first | assumption | omega | (simp only [AW.next_push, AW.next_put]; omega) | ((repeat refine Fresh.push ?_ _); assumption) | (simp only [same_int, same_bool, same_ptr, same_slice, same_sliceP, same_nil, same_agg2, same_string]; done) | (simp [oneCell, AW.next_push]; done) | fail) only [go_sem, Nat.reduceEqDiff, reduceIte, Nat.reduceAdd, Int.toNat_natCast, Nat.add_zero, Owes_true, Try.results43, h]
    exact ⟨by simp [inR, h], rfl⟩
theorem From_ok (a n b : Int) (w : AW) : CallT Try.prog Try.T1 (.fn (.func 32) #[]) #[.int .i64 a, .int .i64 n, .int .i64 b] w (Ret (.bool (inR a n b)) fun w' => w = w') := by
  refine callT_code rfl Try.func32 rfl Try.s32_eq rfl ?_
  unfold Try.s32
  by_cases h : a ≤ n
  all_goals
    simp -dsimp -implicitDefEqProofs (maxSteps := 2000000) (disch := first | assumption | omega | (simp only [AW.next_push, AW.next_put]; omega) | ((repeat refine Fresh.push ?_ _); assumption) | (simp only [same_int, same_bool, same_ptr, same_slice, same_sliceP, same_nil, same_agg2, same_string]; done) | (simp [oneCell, AW.next_push]; done) | fail) only [go_sem, Nat.reduceEqDiff, reduceIte, Nat.reduceAdd, Int.toNat_natCast, Nat.add_zero, Owes_true, Try.results32, h]
    exact ⟨by simp [inR, h], rfl⟩
def cutB (lo : Int) (l : List Int) : Bool := inR 8 (l.length : Int) 16 && l.all fun n => inR lo n 9
theorem isCut_ok (l : List Int) (lo : Int) (v : Value) (w : AW) (hs : ArrOf w 1 icells v l) : CallT Try.prog Try.T1 (.fn (.func 77) #[]) #[v, .int .i64 lo] w (Ret (.bool (cutB lo l)) fun w' => w = w') := by
  obtain ⟨p, cap, rfl, hcap, hmax, hat⟩ := hs.open
  refine callT_code rfl Try.func77 rfl Try.s77_eq rfl ?_
  unfold Try.s77
  simp -dsimp -implicitDefEqProofs (maxSteps := 2000000) (disch := first | assumption | omega | (simp only [AW.next_push, AW.next_put]; omega) | ((repeat refine Fresh.push ?_ _); assumption) | (simp only [same_int, same_bool, same_ptr, same_slice, same_sliceP, same_nil, same_agg2, same_string]; done) | (simp [oneCell, AW.next_push]; done) | fail) only [go_sem, Nat.reduceEqDiff, reduceIte, Nat.reduceAdd, Int.toNat_natCast, Nat.add_zero, Owes_true, Try.results77]
  apply callV_of (e := rfl)
  · exact within_ok _ _ _ _
  rintro _ _ ⟨rfl, rfl⟩
  cases h1 : inR 8 (l.length : Int) 16 with
  | false =>
    simp -dsimp -implicitDefEqProofs (maxSteps := 2000000) (disch := first | assumption | omega | (simp only [AW.next_push, AW.next_put]; omega) | ((repeat refine Fresh.push ?_ _); assumption) | (simp only [same_int, same_bool, same_ptr, same_slice, same_sliceP, same_nil, same_agg2, same_string]; done) | (simp [oneCell, AW.next_push]; done) | fail) only [go_sem, Nat.reduceEqDiff, reduceIte, Nat.reduceAdd, Int.toNat_natCast, Nat.add_zero, Owes_true, Try.results77]
    exact ⟨by rw [cutB, h1]; rfl, rfl⟩
  | true =>
    simp -dsimp -implicitDefEqProofs (maxSteps := 2000000) (disch := first | assumption | omega | (simp only [AW.next_push, AW.next_put]; omega) | ((repeat refine Fresh.push ?_ _); assumption) | (simp only [same_int, same_bool, same_ptr, same_slice, same_sliceP, same_nil, same_agg2, same_string]; done) | (simp [oneCell, AW.next_push]; done) | fail) only [go_sem, Nat.reduceEqDiff, reduceIte, Nat.reduceAdd, Int.toNat_natCast, Nat.add_zero, Owes_true, Try.results77]
    refine loopR (fun k t ds w1 => ∃ i : Nat, i ≤ l.length ∧ k = l.length - i ∧ ds = [] ∧ ev t (.tmp 1) = .int .i64 lo ∧ ev t (.tmp 11) = .slice p l.length cap ∧ ev t (.tmp 12) = .int .i64 (l.length : Int) ∧ ev t (.tmp 13) = .int .i64 (i : Int) ∧ w = w1 ∧ ((l.take i).all fun n => inR lo n 9) = true) (l.length) ?_ ?_
    · refine ⟨0, by omega, by omega, rfl, ?_, ?_, ?_, ?_, rfl, rfl⟩ <;> simp -dsimp -implicitDefEqProofs (maxSteps := 2000000) (disch := first | assumption | omega | (simp only [AW.next_push, AW.next_put]; omega) | ((repeat refine Fresh.push ?_ _); assumption) | (simp only [same_int, same_bool, same_ptr, same_slice, same_sliceP, same_nil, same_agg2, same_string]; done) | (simp [oneCell, AW.next_push]; done) | fail) only [go_sem, Nat.reduceEqDiff, reduceIte, Nat.reduceAdd, Int.toNat_natCast, Nat.add_zero, Owes_true] <;> rfl
    rintro k t ds w1 ⟨i, hii, rfl, rfl, e1, e11, e12, e13, hw, hall⟩
    subst hw
    by_cases hlt : (i : Int) < (l.length : Int)
    case neg =>
      have h2 : l.take i = l := List.take_of_length_le (by omega)
      rw [h2] at hall
      simp -dsimp -implicitDefEqProofs (maxSteps := 2000000) (disch := first | assumption | omega | (simp only [AW.next_push, AW.next_put]; omega) | ((repeat refine Fresh.push ?_ _); assumption) | (simp only [same_int, same_bool, same_ptr, same_slice, same_sliceP, same_nil, same_agg2, same_string]; done) | (simp [oneCell, AW.next_push]; done) | fail) only [go_sem, Nat.reduceEqDiff, reduceIte, Nat.reduceAdd, Int.toNat_natCast, Nat.add_zero, Owes_true, Try.results77, e1, e11, e12, e13, hlt]
      exact ⟨by rw [cutB, h1, hall]; rfl, rfl⟩
    have hlt' : i < l.length := by omega
    obtain ⟨b1, o1, rfl, hb1, hcell⟩ := hat i hlt'
    have hc0 := hcell w (.refl _ _) 0 _ rfl
    rw [Nat.add_zero] at hc0
    simp -dsimp -implicitDefEqProofs (maxSteps := 2000000) (disch := first | assumption | omega | (simp only [AW.next_push, AW.next_put]; omega) | ((repeat refine Fresh.push ?_ _); assumption) | (simp only [same_int, same_bool, same_ptr, same_slice, same_sliceP, same_nil, same_agg2, same_string]; done) | (simp [oneCell, AW.next_push]; done) | fail) only [go_sem, Nat.reduceEqDiff, reduceIte, Nat.reduceAdd, Int.toNat_natCast, Nat.add_zero, Owes_true, Try.results77, e1, e11, e12, e13, hlt, indexV_eq, hc0]
    apply callV_of (e := rfl)
    · exact within_ok _ _ _ _
    rintro _ _ ⟨rfl, rfl⟩
    cases hA : inR lo l[i] 9 with
    | true =>
      simp -dsimp -implicitDefEqProofs (maxSteps := 2000000) (disch := first | assumption | omega | (simp only [AW.next_push, AW.next_put]; omega) | ((repeat refine Fresh.push ?_ _); assumption) | (simp only [same_int, same_bool, same_ptr, same_slice, same_sliceP, same_nil, same_agg2, same_string]; done) | (simp [oneCell, AW.next_push]; done) | fail) only [go_sem, Nat.reduceEqDiff, reduceIte, Nat.reduceAdd, Int.toNat_natCast, Nat.add_zero, Owes_true, Try.results77, e1, e11, e12, e13]
      refine ⟨_, by omega, i + 1, by omega, rfl, rfl, by (simp -dsimp -implicitDefEqProofs (maxSteps := 2000000) (disch := first | assumption | omega | (simp only [AW.next_push, AW.next_put]; omega) | ((repeat refine Fresh.push ?_ _); assumption) | (simp only [same_int, same_bool, same_ptr, same_slice, same_sliceP, same_nil, same_agg2, same_string]; done) | (simp [oneCell, AW.next_push]; done) | fail) only [go_sem, Nat.reduceEqDiff, reduceIte, Nat.reduceAdd, Int.toNat_natCast, Nat.add_zero, Owes_true, e1]; try rfl), by (simp -dsimp -implicitDefEqProofs (maxSteps := 2000000) (disch := first | assumption | omega | (simp only [AW.next_push, AW.next_put]; omega) | ((repeat refine Fresh.push ?_ _); assumption) | (simp only [same_int, same_bool, same_ptr, same_slice, same_sliceP, same_nil, same_agg2, same_string]; done) | (simp [oneCell, AW.next_push]; done) | fail) only [go_sem, Nat.reduceEqDiff, reduceIte, Nat.reduceAdd, Int.toNat_natCast, Nat.add_zero, Owes_true, e11]; try rfl), by (simp -dsimp -implicitDefEqProofs (maxSteps := 2000000) (disch := first | assumption | omega | (simp only [AW.next_push, AW.next_put]; omega) | ((repeat refine Fresh.push ?_ _); assumption) | (simp only [same_int, same_bool, same_ptr, same_slice, same_sliceP, same_nil, same_agg2, same_string]; done) | (simp [oneCell, AW.next_push]; done) | fail) only [go_sem, Nat.reduceEqDiff, reduceIte, Nat.reduceAdd, Int.toNat_natCast, Nat.add_zero, Owes_true, e12]; try rfl), by (simp -dsimp -implicitDefEqProofs (maxSteps := 2000000) (disch := first | assumption | omega | (simp only [AW.next_push, AW.next_put]; omega) | ((repeat refine Fresh.push ?_ _); assumption) | (simp only [same_int, same_bool, same_ptr, same_slice, same_sliceP, same_nil, same_agg2, same_string]; done) | (simp [oneCell, AW.next_push]; done) | fail) only [go_sem, Nat.reduceEqDiff, reduceIte, Nat.reduceAdd, Int.toNat_natCast, Nat.add_zero, Owes_true, e13]; try rfl), rfl, by rw [List.take_succ_eq_append_getElem hlt', List.all_append, hall]; simp [hA]⟩
    | false =>
      simp -dsimp -implicitDefEqProofs (maxSteps := 2000000) (disch := first | assumption | omega | (simp only [AW.next_push, AW.next_put]; omega) | ((repeat refine Fresh.push ?_ _); assumption) | (simp only [same_int, same_bool, same_ptr, same_slice, same_sliceP, same_nil, same_agg2, same_string]; done) | (simp [oneCell, AW.next_push]; done) | fail) only [go_sem, Nat.reduceEqDiff, reduceIte, Nat.reduceAdd, Int.toNat_natCast, Nat.add_zero, Owes_true, Try.results77]
      refine ⟨?_, rfl⟩
      have : (l.all fun n => inR lo n 9) = false := by
        rw [List.all_eq_false]; exact ⟨l[i], List.getElem_mem hlt', by rw [hA]; simp⟩
      rw [cutB, this, h1]; rfl
theorem cut_ok (l : List Int) (lo : Int) (v : Value) (w : AW) (hs : ArrOf w 1 icells v l) : CallT Try.prog Try.T1 (.fn (.func 80) #[]) #[v, .int .i64 lo] w (Ret (.bool (cutB lo l)) fun w' => w = w') := by
  obtain ⟨p, cap, rfl, hcap, hmax, hat⟩ := hs.open
  refine callT_code rfl Try.func80 rfl Try.s80_eq rfl ?_
  unfold Try.s80
  simp -dsimp -implicitDefEqProofs (maxSteps := 2000000) (disch := first | assumption | omega | (simp only [AW.next_push, AW.next_put]; omega) | ((repeat refine Fresh.push ?_ _); assumption) | (simp only [same_int, same_bool, same_ptr, same_slice, same_sliceP, same_nil, same_agg2, same_string]; done) | (simp [oneCell, AW.next_push]; done) | fail) only [go_sem, Nat.reduceEqDiff, reduceIte, Nat.reduceAdd, Int.toNat_natCast, Nat.add_zero, Owes_true, Try.results80]
  apply callV_of (e := rfl)
  · exact From_ok _ _ _ _
  rintro _ _ ⟨rfl, rfl⟩
  cases h1 : inR 8 (l.length : Int) 16 with
  | false =>
    simp -dsimp -implicitDefEqProofs (maxSteps := 2000000) (disch := first | assumption | omega | (simp only [AW.next_push, AW.next_put]; omega) | ((repeat refine Fresh.push ?_ _); assumption) | (simp only [same_int, same_bool, same_ptr, same_slice, same_sliceP, same_nil, same_agg2, same_string]; done) | (simp [oneCell, AW.next_push]; done) | fail) only [go_sem, Nat.reduceEqDiff, reduceIte, Nat.reduceAdd, Int.toNat_natCast, Nat.add_zero, Owes_true, Try.results80]
    exact ⟨by rw [cutB, h1]; rfl, rfl⟩
  | true =>
    simp -dsimp -implicitDefEqProofs (maxSteps := 2000000) (disch := first | assumption | omega | (simp only [AW.next_push, AW.next_put]; omega) | ((repeat refine Fresh.push ?_ _); assumption) | (simp only [same_int, same_bool, same_ptr, same_slice, same_sliceP, same_nil, same_agg2, same_string]; done) | (simp [oneCell, AW.next_push]; done) | fail) only [go_sem, Nat.reduceEqDiff, reduceIte, Nat.reduceAdd, Int.toNat_natCast, Nat.add_zero, Owes_true, Try.results80]
    refine loopR (fun k t ds w1 => ∃ i : Nat, i ≤ l.length ∧ k = l.length - i ∧ ds = [] ∧ ev t (.tmp 0) = .slice p l.length cap ∧ ev t (.tmp 1) = .int .i64 lo ∧ ev t (.tmp 5) = .int .i64 (i : Int) ∧ w = w1 ∧ ((l.take i).all fun n => inR lo n 9) = true) (l.length) ?_ ?_
    · refine ⟨0, by omega, by omega, rfl, ?_, ?_, ?_, rfl, rfl⟩ <;> simp -dsimp -implicitDefEqProofs (maxSteps := 2000000) (disch := first | assumption | omega | (simp only [AW.next_push, AW.next_put]; omega) | ((repeat refine Fresh.push ?_ _); assumption) | (simp only [same_int, same_bool, same_ptr, same_slice, same_sliceP, same_nil, same_agg2, same_string]; done) | (simp [oneCell, AW.next_push]; done) | fail) only [go_sem, Nat.reduceEqDiff, reduceIte, Nat.reduceAdd, Int.toNat_natCast, Nat.add_zero, Owes_true] <;> rfl
    rintro k t ds w1 ⟨i, hii, rfl, rfl, e0, e1, e5, hw, hall⟩
    subst hw
    by_cases hlt : (i : Int) < (l.length : Int)
    case neg =>
      have h2 : l.take i = l := List.take_of_length_le (by omega)
      rw [h2] at hall
      simp -dsimp -implicitDefEqProofs (maxSteps := 2000000) (disch := first | assumption | omega | (simp only [AW.next_push, AW.next_put]; omega) | ((repeat refine Fresh.push ?_ _); assumption) | (simp only [same_int, same_bool, same_ptr, same_slice, same_sliceP, same_nil, same_agg2, same_string]; done) | (simp [oneCell, AW.next_push]; done) | fail) only [go_sem, Nat.reduceEqDiff, reduceIte, Nat.reduceAdd, Int.toNat_natCast, Nat.add_zero, Owes_true, Try.results80, e0, e1, e5, hlt]
      exact ⟨by rw [cutB, h1, hall]; rfl, rfl⟩
    have hlt' : i < l.length := by omega
    obtain ⟨b1, o1, rfl, hb1, hcell⟩ := hat i hlt'
    have hc0 := hcell w (.refl _ _) 0 _ rfl
    rw [Nat.add_zero] at hc0
    simp -dsimp -implicitDefEqProofs (maxSteps := 2000000) (disch := first | assumption | omega | (simp only [AW.next_push, AW.next_put]; omega) | ((repeat refine Fresh.push ?_ _); assumption) | (simp only [same_int, same_bool, same_ptr, same_slice, same_sliceP, same_nil, same_agg2, same_string]; done) | (simp [oneCell, AW.next_push]; done) | fail) only [go_sem, Nat.reduceEqDiff, reduceIte, Nat.reduceAdd, Int.toNat_natCast, Nat.add_zero, Owes_true, Try.results80, e0, e1, e5, hlt, indexV_eq, hc0]
    apply callV_of (e := rfl)
    · exact From_ok _ _ _ _
    rintro _ _ ⟨rfl, rfl⟩
    cases hA : inR lo l[i] 9 with
    | true =>
      simp -dsimp -implicitDefEqProofs (maxSteps := 2000000) (disch := first | assumption | omega | (simp only [AW.next_push, AW.next_put]; omega) | ((repeat refine Fresh.push ?_ _); assumption) | (simp only [same_int, same_bool, same_ptr, same_slice, same_sliceP, same_nil, same_agg2, same_string]; done) | (simp [oneCell, AW.next_push]; done) | fail) only [go_sem, Nat.reduceEqDiff, reduceIte, Nat.reduceAdd, Int.toNat_natCast, Nat.add_zero, Owes_true, Try.results80, e0, e1, e5]
      refine ⟨_, by omega, i + 1, by omega, rfl, rfl, by (simp -dsimp -implicitDefEqProofs (maxSteps := 2000000) (disch := first | assumption | omega | (simp only [AW.next_push, AW.next_put]; omega) | ((repeat refine Fresh.push ?_ _); assumption) | (simp only [same_int, same_bool, same_ptr, same_slice, same_sliceP, same_nil, same_agg2, same_string]; done) | (simp [oneCell, AW.next_push]; done) | fail) only [go_sem, Nat.reduceEqDiff, reduceIte, Nat.reduceAdd, Int.toNat_natCast, Nat.add_zero, Owes_true, e0]; try rfl), by (simp -dsimp -implicitDefEqProofs (maxSteps := 2000000) (disch := first | assumption | omega | (simp only [AW.next_push, AW.next_put]; omega) | ((repeat refine Fresh.push ?_ _); assumption) | (simp only [same_int, same_bool, same_ptr, same_slice, same_sliceP, same_nil, same_agg2, same_string]; done) | (simp [oneCell, AW.next_push]; done) | fail) only [go_sem, Nat.reduceEqDiff, reduceIte, Nat.reduceAdd, Int.toNat_natCast, Nat.add_zero, Owes_true, e1]; try rfl), by (simp -dsimp -implicitDefEqProofs (maxSteps := 2000000) (disch := first | assumption | omega | (simp only [AW.next_push, AW.next_put]; omega) | ((repeat refine Fresh.push ?_ _); assumption) | (simp only [same_int, same_bool, same_ptr, same_slice, same_sliceP, same_nil, same_agg2, same_string]; done) | (simp [oneCell, AW.next_push]; done) | fail) only [go_sem, Nat.reduceEqDiff, reduceIte, Nat.reduceAdd, Int.toNat_natCast, Nat.add_zero, Owes_true, e5]; try rfl), rfl, by rw [List.take_succ_eq_append_getElem hlt', List.all_append, hall]; simp [hA]⟩
    | false =>
      simp -dsimp -implicitDefEqProofs (maxSteps := 2000000) (disch := first | assumption | omega | (simp only [AW.next_push, AW.next_put]; omega) | ((repeat refine Fresh.push ?_ _); assumption) | (simp only [same_int, same_bool, same_ptr, same_slice, same_sliceP, same_nil, same_agg2, same_string]; done) | (simp [oneCell, AW.next_push]; done) | fail) only [go_sem, Nat.reduceEqDiff, reduceIte, Nat.reduceAdd, Int.toNat_natCast, Nat.add_zero, Owes_true, Try.results80]
      refine ⟨?_, rfl⟩
      have : (l.all fun n => inR lo n 9) = false := by
        rw [List.all_eq_false]; exact ⟨l[i], List.getElem_mem hlt', by rw [hA]; simp⟩
      rw [cutB, this, h1]; rfl
theorem isEdge_ok (l : List Int) (v : Value) (w : AW) (hs : ArrOf w 1 icells v l) : CallT Try.prog Try.T1 (.fn (.func 52) #[]) #[v] w (Ret (.bool (cutB 0 l)) fun w' => w = w') := by
  refine callT_code rfl Try.func52 rfl Try.s52_eq rfl ?_
  unfold Try.s52
  simp -dsimp -implicitDefEqProofs (maxSteps := 2000000) (disch := first | assumption | omega | (simp only [AW.next_push, AW.next_put]; omega) | ((repeat refine Fresh.push ?_ _); assumption) | (simp only [same_int, same_bool, same_ptr, same_slice, same_sliceP, same_nil, same_agg2, same_string]; done) | (simp [oneCell, AW.next_push]; done) | fail) only [go_sem, Nat.reduceEqDiff, reduceIte, Nat.reduceAdd, Int.toNat_natCast, Nat.add_zero, Owes_true, Try.results52]
  apply callV_of (e := rfl)
  · exact isCut_ok l 0 v w hs
  rintro _ _ ⟨rfl, rfl⟩
  simp -dsimp -implicitDefEqProofs (maxSteps := 2000000) (disch := first | assumption | omega | (simp only [AW.next_push, AW.next_put]; omega) | ((repeat refine Fresh.push ?_ _); assumption) | (simp only [same_int, same_bool, same_ptr, same_slice, same_sliceP, same_nil, same_agg2, same_string]; done) | (simp [oneCell, AW.next_push]; done) | fail) only [go_sem, Nat.reduceEqDiff, reduceIte, Nat.reduceAdd, Int.toNat_natCast, Nat.add_zero, Owes_true, Try.results52]
  exact ⟨rfl, rfl⟩
theorem isHalf_ok (l : List Int) (v : Value) (w : AW) (hs : ArrOf w 1 icells v l) : CallT Try.prog Try.T1 (.fn (.func 53) #[]) #[v] w (Ret (.bool (cutB (-1) l)) fun w' => w = w') := by
  refine callT_code rfl Try.func53 rfl Try.s53_eq rfl ?_
  unfold Try.s53
  simp -dsimp -implicitDefEqProofs (maxSteps := 2000000) (disch := first | assumption | omega | (simp only [AW.next_push, AW.next_put]; omega) | ((repeat refine Fresh.push ?_ _); assumption) | (simp only [same_int, same_bool, same_ptr, same_slice, same_sliceP, same_nil, same_agg2, same_string]; done) | (simp [oneCell, AW.next_push]; done) | fail) only [go_sem, Nat.reduceEqDiff, reduceIte, Nat.reduceAdd, Int.toNat_natCast, Nat.add_zero, Owes_true, Try.results53]
  apply callV_of (e := rfl)
  · exact isCut_ok l (-1) v w hs
  rintro _ _ ⟨rfl, rfl⟩
  simp -dsimp -implicitDefEqProofs (maxSteps := 2000000) (disch := first | assumption | omega | (simp only [AW.next_push, AW.next_put]; omega) | ((repeat refine Fresh.push ?_ _); assumption) | (simp only [same_int, same_bool, same_ptr, same_slice, same_sliceP, same_nil, same_agg2, same_string]; done) | (simp [oneCell, AW.next_push]; done) | fail) only [go_sem, Nat.reduceEqDiff, reduceIte, Nat.reduceAdd, Int.toNat_natCast, Nat.add_zero, Owes_true, Try.results53]
  exact ⟨rfl, rfl⟩
theorem Edge_ok (l : List Int) (v : Value) (w : AW) (hs : ArrOf w 1 icells v l) : CallT Try.prog Try.T1 (.fn (.func 55) #[]) #[v] w (Ret (.bool (cutB 0 l)) fun w' => w = w') := by
  refine callT_code rfl Try.func55 rfl Try.s55_eq rfl ?_
  unfold Try.s55
  simp -dsimp -implicitDefEqProofs (maxSteps := 2000000) (disch := first | assumption | omega | (simp only [AW.next_push, AW.next_put]; omega) | ((repeat refine Fresh.push ?_ _); assumption) | (simp only [same_int, same_bool, same_ptr, same_slice, same_sliceP, same_nil, same_agg2, same_string]; done) | (simp [oneCell, AW.next_push]; done) | fail) only [go_sem, Nat.reduceEqDiff, reduceIte, Nat.reduceAdd, Int.toNat_natCast, Nat.add_zero, Owes_true, Try.results55]
  apply callV_of (e := rfl)
  · exact cut_ok l 0 v w hs
  rintro _ _ ⟨rfl, rfl⟩
  simp -dsimp -implicitDefEqProofs (maxSteps := 2000000) (disch := first | assumption | omega | (simp only [AW.next_push, AW.next_put]; omega) | ((repeat refine Fresh.push ?_ _); assumption) | (simp only [same_int, same_bool, same_ptr, same_slice, same_sliceP, same_nil, same_agg2, same_string]; done) | (simp [oneCell, AW.next_push]; done) | fail) only [go_sem, Nat.reduceEqDiff, reduceIte, Nat.reduceAdd, Int.toNat_natCast, Nat.add_zero, Owes_true, Try.results55]
  exact ⟨rfl, rfl⟩
theorem Half_ok (l : List Int) (v : Value) (w : AW) (hs : ArrOf w 1 icells v l) : CallT Try.prog Try.T1 (.fn (.func 56) #[]) #[v] w (Ret (.bool (cutB (-1) l)) fun w' => w = w') := by
  refine callT_code rfl Try.func56 rfl Try.s56_eq rfl ?_
  unfold Try.s56
  simp -dsimp -implicitDefEqProofs (maxSteps := 2000000) (disch := first | assumption | omega | (simp only [AW.next_push, AW.next_put]; omega) | ((repeat refine Fresh.push ?_ _); assumption) | (simp only [same_int, same_bool, same_ptr, same_slice, same_sliceP, same_nil, same_agg2, same_string]; done) | (simp [oneCell, AW.next_push]; done) | fail) only [go_sem, Nat.reduceEqDiff, reduceIte, Nat.reduceAdd, Int.toNat_natCast, Nat.add_zero, Owes_true, Try.results56]
  apply callV_of (e := rfl)
  · exact cut_ok l (-1) v w hs
  rintro _ _ ⟨rfl, rfl⟩
  simp -dsimp -implicitDefEqProofs (maxSteps := 2000000) (disch := first | assumption | omega | (simp only [AW.next_push, AW.next_put]; omega) | ((repeat refine Fresh.push ?_ _); assumption) | (simp only [same_int, same_bool, same_ptr, same_slice, same_sliceP, same_nil, same_agg2, same_string]; done) | (simp [oneCell, AW.next_push]; done) | fail) only [go_sem, Nat.reduceEqDiff, reduceIte, Nat.reduceAdd, Int.toNat_natCast, Nat.add_zero, Owes_true, Try.results56]
  exact ⟨rfl, rfl⟩

/- A half beside an edge. -/
def okP (a c : Int) : Bool := decide (c = -1) || decide (a = c)
def okTo (e h : List Int) (n : Nat) : Bool := (List.range n).all fun k => okP (e.getD k 0) (h.getD k 0)
def kn (h : List Int) (n : Nat) : Nat := (h.take n).countP fun c => decide (c ≠ -1)
def fitR (e h : List Int) : Bool := decide (e.length = h.length) && okTo e h h.length && decide (4 ≤ kn h h.length)
theorem okTo_succ (e h : List Int) (n : Nat) : okTo e h (n + 1) = (okTo e h n && okP (e.getD n 0) (h.getD n 0)) := by simp [okTo, List.range_succ]
theorem okTo_bad {e h : List Int} {n m : Nat} (hn : n < m) (hb : okP (e.getD n 0) (h.getD n 0) = false) : okTo e h m = false := by
  rw [okTo, List.all_eq_false]; exact ⟨n, List.mem_range.mpr hn, by rw [hb]; simp⟩
theorem kn_succ {h : List Int} {n : Nat} (hn : n < h.length) : kn h (n + 1) = kn h n + (if h[n] = -1 then 0 else 1) := by
  rw [kn, List.take_succ_eq_append_getElem hn, List.countP_append, ← kn]
  by_cases q : h[n] = -1 <;> simp [q]
theorem kn_le (h : List Int) (n : Nat) : kn h n ≤ h.length := Nat.le_trans List.countP_le_length (by simp; omega)
theorem seen_ok (a c n : Int) (b : Nat) (w : AW) (hO : Own w b 3 [.int .i64 n]) (h0 : 0 ≤ n) (h1 : n ≤ 1000000000000000) :
    CallT Try.prog Try.T1 (.fn (.func 79) #[.pointer (some ⟨b, 0, none⟩)]) #[.int .i64 a, .int .i64 c] w (Ret (.bool (okP a c)) fun w' => w' = if c = -1 then w else w.put b (.cells [.int .i64 (n + 1)] 3 b 0 0)) := by
  have hc := hO.cell (o := 0) rfl rfl
  refine callT_code rfl Try.func79 rfl Try.s79_eq rfl ?_
  unfold Try.s79
  by_cases h : c = -1
  · have hd : decide (c = -1) = true := decide_eq_true h
    simp -dsimp -implicitDefEqProofs (maxSteps := 2000000) (disch := first | assumption | omega | (simp only [AW.next_push, AW.next_put]; omega) | ((repeat refine Fresh.push ?_ _); assumption) | (simp only [same_int, same_bool, same_ptr, same_slice, same_sliceP, same_nil, same_agg2, same_string]; done) | (simp [oneCell, AW.next_push]; done) | fail) only [go_sem, Nat.reduceEqDiff, reduceIte, Nat.reduceAdd, Int.toNat_natCast, Nat.add_zero, Owes_true, Try.results79, hd]
    exact ⟨by simp [okP, h], by simp [h]⟩
  · have hst := storeV_own1 (o := 0) (v := .int .i64 (n + 1)) hO (by simp) rfl
    have hset : setL [Value.int .i64 n] 0 (.int .i64 (n + 1)) = [Value.int .i64 (n + 1)] := rfl
    rw [hset] at hst
    simp -dsimp -implicitDefEqProofs (maxSteps := 2000000) (disch := first | assumption | omega | (simp only [AW.next_push, AW.next_put]; omega) | ((repeat refine Fresh.push ?_ _); assumption) | (simp only [same_int, same_bool, same_ptr, same_slice, same_sliceP, same_nil, same_agg2, same_string]; done) | (simp [oneCell, AW.next_push]; done) | fail) only [go_sem, Nat.reduceEqDiff, reduceIte, Nat.reduceAdd, Int.toNat_natCast, Nat.add_zero, Owes_true, Try.results79, h, hc, hst]
    exact ⟨by simp [okP, h], by simp [h]⟩
theorem same_fn (f b : Nat) : same 12 (.func (.func f) #[] #[.pointer (some ⟨b, 0, none⟩)]) (.func (.func f) #[] #[.pointer (some ⟨b, 0, none⟩)]) = true := by simp [same, same.all]
theorem alike_ok (e h : List Int) (u v : Value) (b : Nat) (w0 w : AW) (f : Fresh w) (hk0 : Keep w0.next w0 w) (hb : w0.next ≤ b) (hbw : b < w.next) (hO : Own w b 3 [.int .i64 0]) (he : ArrOf w0 1 icells u e) (hh : ArrOf w0 1 icells v h) :
    CallT Try.prog Try.T1 (.fn (.func 78) #[]) #[u, v, .func (.func 79) #[] #[.pointer (some ⟨b, 0, none⟩)]] w
      (fun r w' => r = .bool (decide (e.length = h.length) && okTo e h h.length) ∧ Keep w0.next w0 w' ∧ Fresh w' ∧ ∃ n : Int, Own w' b 3 [.int .i64 n] ∧ ((decide (e.length = h.length) && okTo e h h.length) = true → n = (kn h h.length : Int))) := by
  obtain ⟨p, cap, rfl, hcap, hmax, hat⟩ := he.open
  obtain ⟨q, cap2, rfl, hcap2, hmax2, hat2⟩ := hh.open
  refine callT_code rfl Try.func78 rfl Try.s78_eq rfl ?_
  unfold Try.s78
  by_cases h1 : (e.length : Int) = (h.length : Int)
  case neg =>
    have h1' : ¬ e.length = h.length := by omega
    simp -dsimp -implicitDefEqProofs (maxSteps := 2000000) (disch := first | assumption | omega | (simp only [AW.next_push, AW.next_put]; omega) | ((repeat refine Fresh.push ?_ _); assumption) | (simp only [same_int, same_bool, same_ptr, same_slice, same_sliceP, same_nil, same_agg2, same_string]; done) | (simp [oneCell, AW.next_push]; done) | fail) only [go_sem, Nat.reduceEqDiff, reduceIte, Nat.reduceAdd, Int.toNat_natCast, Nat.add_zero, Owes_true, Try.results78, h1]
    refine ⟨by simp [h1'], hk0, f, _, hO, by simp [h1']⟩
  have h1' : e.length = h.length := by omega
  simp -dsimp -implicitDefEqProofs (maxSteps := 2000000) (disch := first | assumption | omega | (simp only [AW.next_push, AW.next_put]; omega) | ((repeat refine Fresh.push ?_ _); assumption) | (simp only [same_int, same_bool, same_ptr, same_slice, same_sliceP, same_nil, same_agg2, same_string]; done) | (simp [oneCell, AW.next_push]; done) | fail) only [go_sem, Nat.reduceEqDiff, reduceIte, Nat.reduceAdd, Int.toNat_natCast, Nat.add_zero, Owes_true, Try.results78, h1]
  refine loopR (fun k t ds w1 => ∃ i : Nat, i ≤ h.length ∧ k = h.length - i ∧ ds = [] ∧ ev t (.tmp 0) = .slice p e.length cap ∧ ev t (.tmp 1) = .slice q h.length cap2 ∧ ev t (.tmp 2) = .func (.func 79) #[] #[.pointer (some ⟨b, 0, none⟩)] ∧ ev t (.tmp 14) = .int .i64 (h.length : Int) ∧ ev t (.tmp 15) = .int .i64 (i : Int) ∧ Keep w0.next w0 w1 ∧ Fresh w1 ∧ b < w1.next ∧ Own w1 b 3 [.int .i64 (kn h i : Int)] ∧ okTo e h i = true) (h.length) ?_ ?_
  · refine ⟨0, by omega, by omega, rfl, ?_, ?_, ?_, ?_, ?_, hk0, f, hbw, hO, rfl⟩ <;> simp -dsimp -implicitDefEqProofs (maxSteps := 2000000) (disch := first | assumption | omega | (simp only [AW.next_push, AW.next_put]; omega) | ((repeat refine Fresh.push ?_ _); assumption) | (simp only [same_int, same_bool, same_ptr, same_slice, same_sliceP, same_nil, same_agg2, same_string]; done) | (simp [oneCell, AW.next_push]; done) | fail) only [go_sem, Nat.reduceEqDiff, reduceIte, Nat.reduceAdd, Int.toNat_natCast, Nat.add_zero, Owes_true, h1] <;> rfl
  rintro k t ds w1 ⟨i, hii, rfl, rfl, e0, e1, e2, e14, e15, hk1, f1, hb1, hO1, hall⟩
  by_cases hlt : (i : Int) < (h.length : Int)
  case neg =>
    obtain rfl : i = h.length := by omega
    simp -dsimp -implicitDefEqProofs (maxSteps := 2000000) (disch := first | assumption | omega | (simp only [AW.next_push, AW.next_put]; omega) | ((repeat refine Fresh.push ?_ _); assumption) | (simp only [same_int, same_bool, same_ptr, same_slice, same_sliceP, same_nil, same_agg2, same_string]; done) | (simp [oneCell, AW.next_push]; done) | fail) only [go_sem, Nat.reduceEqDiff, reduceIte, Nat.reduceAdd, Int.toNat_natCast, Nat.add_zero, Owes_true, Try.results78, e0, e1, e2, e14, e15, hlt]
    refine ⟨by simp [h1', hall], hk1, f1, _, hO1, fun _ => rfl⟩
  have hlt' : i < h.length := by omega
  have hlte : i < e.length := by omega
  obtain ⟨b2, o2, rfl, hb2, hcell⟩ := hat i hlte
  obtain ⟨b3, o3, rfl, hb3, hcell2⟩ := hat2 i hlt'
  have hc0 := hcell w1 hk1 0 _ rfl
  have hd0 := hcell2 w1 hk1 0 _ rfl
  rw [Nat.add_zero] at hc0 hd0
  have hkn := kn_le h i
  have hfn := same_fn 79 b
  simp -dsimp -implicitDefEqProofs (maxSteps := 2000000) (disch := first | assumption | omega | (simp only [AW.next_push, AW.next_put]; omega) | ((repeat refine Fresh.push ?_ _); assumption) | (simp only [same_int, same_bool, same_ptr, same_slice, same_sliceP, same_nil, same_agg2, same_string]; done) | (simp [oneCell, AW.next_push]; done) | fail) only [go_sem, Nat.reduceEqDiff, reduceIte, Nat.reduceAdd, Int.toNat_natCast, Nat.add_zero, Owes_true, Try.results78, e0, e1, e2, e14, e15, hlt, indexV_eq, hc0, hd0]
  apply callV_of (e := rfl)
  · exact seen_ok e[i] h[i] (kn h i : Int) b w1 hO1 (by omega) (by omega)
  rintro _ w2 ⟨rfl, hw2⟩
  have hO2 : Own w2 b 3 [.int .i64 (kn h (i + 1) : Int)] := by
    rw [hw2, kn_succ hlt']
    split
    · exact hO1
    · exact hO1.put _
  have hk2 : Keep w0.next w0 w2 := by
    rw [hw2]; split
    · exact hk1
    · exact hk1.put hb _
  have f2 : Fresh w2 := by
    rw [hw2]; split
    · exact f1
    · exact f1.put hb1 _
  have hb2' : b < w2.next := by
    rw [hw2]; split
    · exact hb1
    · rw [AW.next_put]; exact hb1
  have hx : okP e[i] h[i] = okP (e.getD i 0) (h.getD i 0) := by rw [getD_at hlte, getD_at hlt']
  cases hA : okP e[i] h[i] with
  | true =>
    simp -dsimp -implicitDefEqProofs (maxSteps := 2000000) (disch := first | assumption | omega | (simp only [AW.next_push, AW.next_put]; omega) | ((repeat refine Fresh.push ?_ _); assumption) | (simp only [same_int, same_bool, same_ptr, same_slice, same_sliceP, same_nil, same_agg2, same_string]; done) | (simp [oneCell, AW.next_push]; done) | fail) only [go_sem, Nat.reduceEqDiff, reduceIte, Nat.reduceAdd, Int.toNat_natCast, Nat.add_zero, Owes_true, Try.results78, e0, e1, e2, e14, e15]
    refine ⟨_, by omega, i + 1, by omega, rfl, rfl, by (simp -dsimp -implicitDefEqProofs (maxSteps := 2000000) (disch := first | assumption | omega | (simp only [AW.next_push, AW.next_put]; omega) | ((repeat refine Fresh.push ?_ _); assumption) | (simp only [same_int, same_bool, same_ptr, same_slice, same_sliceP, same_nil, same_agg2, same_string]; done) | (simp [oneCell, AW.next_push]; done) | fail) only [go_sem, Nat.reduceEqDiff, reduceIte, Nat.reduceAdd, Int.toNat_natCast, Nat.add_zero, Owes_true, e0]; try rfl), by (simp -dsimp -implicitDefEqProofs (maxSteps := 2000000) (disch := first | assumption | omega | (simp only [AW.next_push, AW.next_put]; omega) | ((repeat refine Fresh.push ?_ _); assumption) | (simp only [same_int, same_bool, same_ptr, same_slice, same_sliceP, same_nil, same_agg2, same_string]; done) | (simp [oneCell, AW.next_push]; done) | fail) only [go_sem, Nat.reduceEqDiff, reduceIte, Nat.reduceAdd, Int.toNat_natCast, Nat.add_zero, Owes_true, e1]; try rfl), by (simp -dsimp -implicitDefEqProofs (maxSteps := 2000000) (disch := first | assumption | omega | (simp only [AW.next_push, AW.next_put]; omega) | ((repeat refine Fresh.push ?_ _); assumption) | (simp only [same_int, same_bool, same_ptr, same_slice, same_sliceP, same_nil, same_agg2, same_string]; done) | (simp [oneCell, AW.next_push]; done) | fail) only [go_sem, Nat.reduceEqDiff, reduceIte, Nat.reduceAdd, Int.toNat_natCast, Nat.add_zero, Owes_true, e2]; try rfl), by (simp -dsimp -implicitDefEqProofs (maxSteps := 2000000) (disch := first | assumption | omega | (simp only [AW.next_push, AW.next_put]; omega) | ((repeat refine Fresh.push ?_ _); assumption) | (simp only [same_int, same_bool, same_ptr, same_slice, same_sliceP, same_nil, same_agg2, same_string]; done) | (simp [oneCell, AW.next_push]; done) | fail) only [go_sem, Nat.reduceEqDiff, reduceIte, Nat.reduceAdd, Int.toNat_natCast, Nat.add_zero, Owes_true, e14]; try rfl), by (simp -dsimp -implicitDefEqProofs (maxSteps := 2000000) (disch := first | assumption | omega | (simp only [AW.next_push, AW.next_put]; omega) | ((repeat refine Fresh.push ?_ _); assumption) | (simp only [same_int, same_bool, same_ptr, same_slice, same_sliceP, same_nil, same_agg2, same_string]; done) | (simp [oneCell, AW.next_push]; done) | fail) only [go_sem, Nat.reduceEqDiff, reduceIte, Nat.reduceAdd, Int.toNat_natCast, Nat.add_zero, Owes_true, e15]; try rfl), hk2, f2, hb2', hO2, by rw [okTo_succ, hall, ← hx, hA]; rfl⟩
  | false =>
    have hbad : okTo e h h.length = false := okTo_bad hlt' (hx ▸ hA)
    simp -dsimp -implicitDefEqProofs (maxSteps := 2000000) (disch := first | assumption | omega | (simp only [AW.next_push, AW.next_put]; omega) | ((repeat refine Fresh.push ?_ _); assumption) | (simp only [same_int, same_bool, same_ptr, same_slice, same_sliceP, same_nil, same_agg2, same_string]; done) | (simp [oneCell, AW.next_push]; done) | fail) only [go_sem, Nat.reduceEqDiff, reduceIte, Nat.reduceAdd, Int.toNat_natCast, Nat.add_zero, Owes_true, Try.results78]
    exact ⟨by rw [hbad]; simp, hk2, f2, _, hO2, by rw [hbad]; simp⟩
end Go.Proofs

/- Halves of tickets: Fit. -/
namespace Go.Proofs
open Go Go.RowKit Go.Sim
set_option maxRecDepth 100000
def fitZ (e h : List Int) : Int := if fitR e h = true then (kn h h.length : Int) else 0
def scZ (e h : List Int) : Int := if fitR e h = true then (kn h h.length : Int) else -1
theorem fit_ok (e h : List Int) (u v : Value) (w : AW) (f : Fresh w) (he : ArrOf w 1 icells u e) (hh : ArrOf w 1 icells v h) :
    CallT Try.prog Try.T1 (.fn (.func 54) #[]) #[u, v] w (Ret (.tuple #[.int .i64 (fitZ e h), .bool (fitR e h)]) (Grown w)) := by
  have hO := Own.new f 3 [.int .i64 0]
  have hk0 := (Keep.refl w.next w).push (Nat.le_refl _) (.cells [.int .i64 0] 3 w.next 0 0)
  have f0 := f.push (.cells [.int .i64 0] 3 w.next 0 0)
  obtain ⟨p, cap, hu, _⟩ := he.open
  obtain ⟨q, cap2, hv, _⟩ := hh.open
  refine callT_code rfl Try.func54 rfl Try.s54_eq rfl ?_
  unfold Try.s54
  simp -dsimp -implicitDefEqProofs (maxSteps := 2000000) (disch := first | assumption | omega | (simp only [AW.next_push, AW.next_put]; omega) | ((repeat refine Fresh.push ?_ _); assumption) | (simp only [same_int, same_bool, same_ptr, same_slice, same_sliceP, same_nil, same_agg2, same_string]; done) | (simp [oneCell, AW.next_push]; done) | fail) only [go_sem, Nat.reduceEqDiff, reduceIte, Nat.reduceAdd, Int.toNat_natCast, Nat.add_zero, Owes_true, Try.results54]
  apply callV_of (e := rfl)
  · exact alike_ok e h u v w.next w _ f0 hk0 (Nat.le_refl _) (by rw [AW.next_push]; omega) hO he hh
  rintro _ w1 ⟨rfl, hk1, f1, n, hO1, hn⟩
  have hc := hO1.cell (o := 0) rfl rfl
  have hb1 : w.next < w1.next := by
    have := hk1.next
    rcases Nat.lt_or_ge w.next w1.next with q | q
    · exact q
    · have := hO1.1
      rw [f1.1 _ q] at this; cases this
  have hput : ∀ z : Int, Own (w1.put w.next (.cells [.int .i64 z] 3 w.next 0 0)) w.next 3 [.int .i64 z] := fun z => hO1.put _
  have hcp : ∀ z : Int, (w1.put w.next (.cells [.int .i64 z] 3 w.next 0 0)).cell? ⟨w.next, 0, none⟩ = some (.int .i64 z) := fun z => (hput z).cell (o := 0) rfl rfl
  have hgp : ∀ z : Int, Grown w (w1.put w.next (.cells [.int .i64 z] 3 w.next 0 0)) := fun z => ⟨hk1.put (Nat.le_refl _) _, f1.put hb1 _⟩
  have hst : ∀ z : Int, storeV w1 false 1 (.pointer (some ⟨w.next, 0, none⟩)) (.int .i64 z) = some (w1.put w.next (.cells [.int .i64 z] 3 w.next 0 0)) := fun z => storeV_own1 (o := 0) (v := .int .i64 z) hO1 (by simp) rfl
  have h0 := hst 0
  have h0c := hcp 0
  cases hA : (decide (e.length = h.length) && okTo e h h.length) with
  | false =>
    have hR : fitR e h = false := by rw [fitR, hA]; rfl
    simp -dsimp -implicitDefEqProofs (maxSteps := 2000000) (disch := first | assumption | omega | (simp only [AW.next_push, AW.next_put]; omega) | ((repeat refine Fresh.push ?_ _); assumption) | (simp only [same_int, same_bool, same_ptr, same_slice, same_sliceP, same_nil, same_agg2, same_string]; done) | (simp [oneCell, AW.next_push]; done) | fail) only [go_sem, Nat.reduceEqDiff, reduceIte, Nat.reduceAdd, Int.toNat_natCast, Nat.add_zero, Owes_true, Try.results54, hc, h0, h0c]
    exact ⟨by simp [hR, fitZ], hgp 0⟩
  | true =>
    obtain rfl := hn hA
    by_cases h4 : (kn h h.length : Int) < 4
    · have hR : fitR e h = false := by rw [fitR, hA]; simp; omega
      simp -dsimp -implicitDefEqProofs (maxSteps := 2000000) (disch := first | assumption | omega | (simp only [AW.next_push, AW.next_put]; omega) | ((repeat refine Fresh.push ?_ _); assumption) | (simp only [same_int, same_bool, same_ptr, same_slice, same_sliceP, same_nil, same_agg2, same_string]; done) | (simp [oneCell, AW.next_push]; done) | fail) only [go_sem, Nat.reduceEqDiff, reduceIte, Nat.reduceAdd, Int.toNat_natCast, Nat.add_zero, Owes_true, Try.results54, hc, h4, h0, h0c]
      exact ⟨by simp [hR, fitZ], hgp 0⟩
    · have hR : fitR e h = true := by rw [fitR, hA]; simp; omega
      have h1 := hst (kn h h.length : Int)
      have h1c := hcp (kn h h.length : Int)
      simp -dsimp -implicitDefEqProofs (maxSteps := 2000000) (disch := first | assumption | omega | (simp only [AW.next_push, AW.next_put]; omega) | ((repeat refine Fresh.push ?_ _); assumption) | (simp only [same_int, same_bool, same_ptr, same_slice, same_sliceP, same_nil, same_agg2, same_string]; done) | (simp [oneCell, AW.next_push]; done) | fail) only [go_sem, Nat.reduceEqDiff, reduceIte, Nat.reduceAdd, Int.toNat_natCast, Nat.add_zero, Owes_true, Try.results54, hc, h4, h1, h1c]
      exact ⟨by simp [hR, fitZ], hgp _⟩
theorem refFit_ok (e h : List Int) (u v : Value) (w : AW) (f : Fresh w) (he : ArrOf w 1 icells u e) (hh : ArrOf w 1 icells v h) (hlo : ∀ n ∈ h, -1 ≤ n) :
    CallT Try.prog Try.T1 (.fn (.func 57) #[]) #[u, v] w (Ret (.int .i64 (scZ e h)) fun w' => w = w') := by
  obtain ⟨p, cap, rfl, hcap, hmax, hat⟩ := he.open
  obtain ⟨q, cap2, rfl, hcap2, hmax2, hat2⟩ := hh.open
  refine callT_code rfl Try.func57 rfl Try.s57_eq rfl ?_
  unfold Try.s57
  simp -dsimp -implicitDefEqProofs (maxSteps := 2000000) (disch := first | assumption | omega | (simp only [AW.next_push, AW.next_put]; omega) | ((repeat refine Fresh.push ?_ _); assumption) | (simp only [same_int, same_bool, same_ptr, same_slice, same_sliceP, same_nil, same_agg2, same_string]; done) | (simp [oneCell, AW.next_push]; done) | fail) only [go_sem, Nat.reduceEqDiff, reduceIte, Nat.reduceAdd, Int.toNat_natCast, Nat.add_zero, Owes_true, Try.results57]
  refine loopR (fun k t ds w1 => ∃ i : Nat, i ≤ h.length ∧ k = h.length - i ∧ ds = [] ∧ ev t (.tmp 0) = .slice p e.length cap ∧ ev t (.tmp 1) = .slice q h.length cap2 ∧ ev t (.tmp 5) = .int .i64 (kn h i : Int) ∧ ev t (.tmp 6) = .int .i64 (i : Int) ∧ w = w1 ∧ (0 < i → e.length = h.length ∧ okTo e h i = true)) (h.length) ?_ ?_
  · refine ⟨0, by omega, by omega, rfl, ?_, ?_, ?_, ?_, rfl, by omega⟩ <;> simp -dsimp -implicitDefEqProofs (maxSteps := 2000000) (disch := first | assumption | omega | (simp only [AW.next_push, AW.next_put]; omega) | ((repeat refine Fresh.push ?_ _); assumption) | (simp only [same_int, same_bool, same_ptr, same_slice, same_sliceP, same_nil, same_agg2, same_string]; done) | (simp [oneCell, AW.next_push]; done) | fail) only [go_sem, Nat.reduceEqDiff, reduceIte, Nat.reduceAdd, Int.toNat_natCast, Nat.add_zero, Owes_true] <;> rfl
  rintro k t ds w1 ⟨i, hii, rfl, rfl, e0, e1, e5, e6, hw, hall⟩
  subst hw
  have hkn := kn_le h i
  have leave : ¬ ((i : Int) < (h.length : Int) ∧ (h.length : Int) = (e.length : Int)) → scZ e h = if (kn h i : Int) < 4 then -1 else (kn h i : Int) := by
    intro hq
    by_cases h1 : e.length = h.length
    · obtain rfl : i = h.length := by omega
      have hok : okTo e h h.length = true := by
        by_cases h0 : 0 < h.length
        · exact (hall h0).2
        · obtain hz : h.length = 0 := by omega
          rw [hz]; rfl
      simp only [scZ, fitR, h1, hok, decide_true, Bool.true_and, decide_eq_true_eq]
      split <;> split <;> omega
    · obtain rfl : i = 0 := by
        rcases Nat.eq_zero_or_pos i with q | q
        · exact q
        · exact absurd (hall q).1 h1
      simp [scZ, fitR, h1, kn]
  by_cases hlt : (i : Int) < (h.length : Int)
  case neg =>
    have hl := leave (by omega)
    by_cases h4 : (kn h i : Int) < 4
    · simp -dsimp -implicitDefEqProofs (maxSteps := 2000000) (disch := first | assumption | omega | (simp only [AW.next_push, AW.next_put]; omega) | ((repeat refine Fresh.push ?_ _); assumption) | (simp only [same_int, same_bool, same_ptr, same_slice, same_sliceP, same_nil, same_agg2, same_string]; done) | (simp [oneCell, AW.next_push]; done) | fail) only [go_sem, Nat.reduceEqDiff, reduceIte, Nat.reduceAdd, Int.toNat_natCast, Nat.add_zero, Owes_true, Try.results57, e0, e1, e5, e6, hlt, h4]
      exact ⟨by rw [hl, if_pos h4], rfl⟩
    · simp -dsimp -implicitDefEqProofs (maxSteps := 2000000) (disch := first | assumption | omega | (simp only [AW.next_push, AW.next_put]; omega) | ((repeat refine Fresh.push ?_ _); assumption) | (simp only [same_int, same_bool, same_ptr, same_slice, same_sliceP, same_nil, same_agg2, same_string]; done) | (simp [oneCell, AW.next_push]; done) | fail) only [go_sem, Nat.reduceEqDiff, reduceIte, Nat.reduceAdd, Int.toNat_natCast, Nat.add_zero, Owes_true, Try.results57, e0, e1, e5, e6, hlt, h4]
      exact ⟨by rw [hl, if_neg h4], rfl⟩
  by_cases hel : (h.length : Int) = (e.length : Int)
  case neg =>
    have hl := leave (by omega)
    by_cases h4 : (kn h i : Int) < 4
    · simp -dsimp -implicitDefEqProofs (maxSteps := 2000000) (disch := first | assumption | omega | (simp only [AW.next_push, AW.next_put]; omega) | ((repeat refine Fresh.push ?_ _); assumption) | (simp only [same_int, same_bool, same_ptr, same_slice, same_sliceP, same_nil, same_agg2, same_string]; done) | (simp [oneCell, AW.next_push]; done) | fail) only [go_sem, Nat.reduceEqDiff, reduceIte, Nat.reduceAdd, Int.toNat_natCast, Nat.add_zero, Owes_true, Try.results57, e0, e1, e5, e6, hlt, hel, h4]
      exact ⟨by rw [hl, if_pos h4], rfl⟩
    · simp -dsimp -implicitDefEqProofs (maxSteps := 2000000) (disch := first | assumption | omega | (simp only [AW.next_push, AW.next_put]; omega) | ((repeat refine Fresh.push ?_ _); assumption) | (simp only [same_int, same_bool, same_ptr, same_slice, same_sliceP, same_nil, same_agg2, same_string]; done) | (simp [oneCell, AW.next_push]; done) | fail) only [go_sem, Nat.reduceEqDiff, reduceIte, Nat.reduceAdd, Int.toNat_natCast, Nat.add_zero, Owes_true, Try.results57, e0, e1, e5, e6, hlt, hel, h4]
      exact ⟨by rw [hl, if_neg h4], rfl⟩
  have hlt' : i < h.length := by omega
  have hlte : i < e.length := by omega
  have hel' : e.length = h.length := by omega
  have hd1 : decide ((h.length : Int) = (e.length : Int)) = true := decide_eq_true hel
  obtain ⟨b2, o2, rfl, hb2, hcell⟩ := hat i hlte
  obtain ⟨b3, o3, rfl, hb3, hcell2⟩ := hat2 i hlt'
  have hc0 := hcell w (.refl _ _) 0 _ rfl
  have hd0 := hcell2 w (.refl _ _) 0 _ rfl
  rw [Nat.add_zero] at hc0 hd0
  have hlo1 := hlo _ (List.getElem_mem hlt')
  have hx : okP e[i] h[i] = okP (e.getD i 0) (h.getD i 0) := by rw [getD_at hlte, getD_at hlt']
  have hks := kn_succ hlt'
  have hokn : okTo e h i = true := by
    rcases Nat.eq_zero_or_pos i with q | q
    · rw [q]; rfl
    · exact (hall q).2
  by_cases hge : 0 ≤ h[i]
  · have hge' : decide (h[i] ≥ 0) = true := decide_eq_true hge
    have hne1 : ¬ h[i] = -1 := by omega
    rw [if_neg hne1] at hks
    by_cases heq : h[i] = e[i]
    · have hde : decide (h[i] = e[i]) = true := decide_eq_true heq
      have hA : okP e[i] h[i] = true := by simp [okP, heq]
      simp -dsimp -implicitDefEqProofs (maxSteps := 2000000) (disch := first | assumption | omega | (simp only [AW.next_push, AW.next_put]; omega) | ((repeat refine Fresh.push ?_ _); assumption) | (simp only [same_int, same_bool, same_ptr, same_slice, same_sliceP, same_nil, same_agg2, same_string]; done) | (simp [oneCell, AW.next_push]; done) | fail) only [go_sem, Nat.reduceEqDiff, reduceIte, Nat.reduceAdd, Int.toNat_natCast, Nat.add_zero, Owes_true, Try.results57, e0, e1, e5, e6, hlt, hd1, indexV_eq, hc0, hd0, hge, hge', hde]
      refine ⟨_, by omega, i + 1, by omega, rfl, rfl, by (simp -dsimp -implicitDefEqProofs (maxSteps := 2000000) (disch := first | assumption | omega | (simp only [AW.next_push, AW.next_put]; omega) | ((repeat refine Fresh.push ?_ _); assumption) | (simp only [same_int, same_bool, same_ptr, same_slice, same_sliceP, same_nil, same_agg2, same_string]; done) | (simp [oneCell, AW.next_push]; done) | fail) only [go_sem, Nat.reduceEqDiff, reduceIte, Nat.reduceAdd, Int.toNat_natCast, Nat.add_zero, Owes_true, e0, hks]; try rfl), by (simp -dsimp -implicitDefEqProofs (maxSteps := 2000000) (disch := first | assumption | omega | (simp only [AW.next_push, AW.next_put]; omega) | ((repeat refine Fresh.push ?_ _); assumption) | (simp only [same_int, same_bool, same_ptr, same_slice, same_sliceP, same_nil, same_agg2, same_string]; done) | (simp [oneCell, AW.next_push]; done) | fail) only [go_sem, Nat.reduceEqDiff, reduceIte, Nat.reduceAdd, Int.toNat_natCast, Nat.add_zero, Owes_true, e1, hks]; try rfl), by (simp -dsimp -implicitDefEqProofs (maxSteps := 2000000) (disch := first | assumption | omega | (simp only [AW.next_push, AW.next_put]; omega) | ((repeat refine Fresh.push ?_ _); assumption) | (simp only [same_int, same_bool, same_ptr, same_slice, same_sliceP, same_nil, same_agg2, same_string]; done) | (simp [oneCell, AW.next_push]; done) | fail) only [go_sem, Nat.reduceEqDiff, reduceIte, Nat.reduceAdd, Int.toNat_natCast, Nat.add_zero, Owes_true, e5, hks]; try rfl), by (simp -dsimp -implicitDefEqProofs (maxSteps := 2000000) (disch := first | assumption | omega | (simp only [AW.next_push, AW.next_put]; omega) | ((repeat refine Fresh.push ?_ _); assumption) | (simp only [same_int, same_bool, same_ptr, same_slice, same_sliceP, same_nil, same_agg2, same_string]; done) | (simp [oneCell, AW.next_push]; done) | fail) only [go_sem, Nat.reduceEqDiff, reduceIte, Nat.reduceAdd, Int.toNat_natCast, Nat.add_zero, Owes_true, e6, hks]; try rfl), rfl, fun _ => ⟨hel', by rw [okTo_succ, hokn, ← hx, hA]; rfl⟩⟩
    · have hA : okP e[i] h[i] = false := by simp [okP, hne1]; omega
      have hbad : okTo e h h.length = false := okTo_bad hlt' (hx ▸ hA)
      have hde : decide (h[i] = e[i]) = false := decide_eq_false heq
      simp -dsimp -implicitDefEqProofs (maxSteps := 2000000) (disch := first | assumption | omega | (simp only [AW.next_push, AW.next_put]; omega) | ((repeat refine Fresh.push ?_ _); assumption) | (simp only [same_int, same_bool, same_ptr, same_slice, same_sliceP, same_nil, same_agg2, same_string]; done) | (simp [oneCell, AW.next_push]; done) | fail) only [go_sem, Nat.reduceEqDiff, reduceIte, Nat.reduceAdd, Int.toNat_natCast, Nat.add_zero, Owes_true, Try.results57, e0, e1, e5, e6, hlt, hd1, indexV_eq, hc0, hd0, hge, hge', hde]
      exact ⟨by simp [scZ, fitR, hbad], rfl⟩
  · have hne1 : h[i] = -1 := by omega
    rw [if_pos hne1] at hks
    have hge' : decide (h[i] ≥ 0) = false := decide_eq_false hge
    have hA : okP e[i] h[i] = true := by simp [okP, hne1]
    simp -dsimp -implicitDefEqProofs (maxSteps := 2000000) (disch := first | assumption | omega | (simp only [AW.next_push, AW.next_put]; omega) | ((repeat refine Fresh.push ?_ _); assumption) | (simp only [same_int, same_bool, same_ptr, same_slice, same_sliceP, same_nil, same_agg2, same_string]; done) | (simp [oneCell, AW.next_push]; done) | fail) only [go_sem, Nat.reduceEqDiff, reduceIte, Nat.reduceAdd, Int.toNat_natCast, Nat.add_zero, Owes_true, Try.results57, e0, e1, e5, e6, hlt, hd1, indexV_eq, hc0, hd0, hge, hge']
    refine ⟨_, by omega, i + 1, by omega, rfl, rfl, by (simp -dsimp -implicitDefEqProofs (maxSteps := 2000000) (disch := first | assumption | omega | (simp only [AW.next_push, AW.next_put]; omega) | ((repeat refine Fresh.push ?_ _); assumption) | (simp only [same_int, same_bool, same_ptr, same_slice, same_sliceP, same_nil, same_agg2, same_string]; done) | (simp [oneCell, AW.next_push]; done) | fail) only [go_sem, Nat.reduceEqDiff, reduceIte, Nat.reduceAdd, Int.toNat_natCast, Nat.add_zero, Owes_true, e0, hks]; try rfl), by (simp -dsimp -implicitDefEqProofs (maxSteps := 2000000) (disch := first | assumption | omega | (simp only [AW.next_push, AW.next_put]; omega) | ((repeat refine Fresh.push ?_ _); assumption) | (simp only [same_int, same_bool, same_ptr, same_slice, same_sliceP, same_nil, same_agg2, same_string]; done) | (simp [oneCell, AW.next_push]; done) | fail) only [go_sem, Nat.reduceEqDiff, reduceIte, Nat.reduceAdd, Int.toNat_natCast, Nat.add_zero, Owes_true, e1, hks]; try rfl), by (simp -dsimp -implicitDefEqProofs (maxSteps := 2000000) (disch := first | assumption | omega | (simp only [AW.next_push, AW.next_put]; omega) | ((repeat refine Fresh.push ?_ _); assumption) | (simp only [same_int, same_bool, same_ptr, same_slice, same_sliceP, same_nil, same_agg2, same_string]; done) | (simp [oneCell, AW.next_push]; done) | fail) only [go_sem, Nat.reduceEqDiff, reduceIte, Nat.reduceAdd, Int.toNat_natCast, Nat.add_zero, Owes_true, e5, hks]; try rfl), by (simp -dsimp -implicitDefEqProofs (maxSteps := 2000000) (disch := first | assumption | omega | (simp only [AW.next_push, AW.next_put]; omega) | ((repeat refine Fresh.push ?_ _); assumption) | (simp only [same_int, same_bool, same_ptr, same_slice, same_sliceP, same_nil, same_agg2, same_string]; done) | (simp [oneCell, AW.next_push]; done) | fail) only [go_sem, Nat.reduceEqDiff, reduceIte, Nat.reduceAdd, Int.toNat_natCast, Nat.add_zero, Owes_true, e6, hks]; try rfl), rfl, fun _ => ⟨hel', by rw [okTo_succ, hokn, ← hx, hA]; rfl⟩⟩

def fitE (e h : List Int) : Int := if cutB 0 e = true ∧ cutB (-1) h = true then (if fitR e h = true then 0 else 32) else 31
def fitV (e h : List Int) : Int := if cutB 0 e = true ∧ cutB (-1) h = true then fitZ e h else 0
theorem cutB_lo {lo : Int} {l : List Int} (h : cutB lo l = true) : ∀ n ∈ l, lo ≤ n := fun n hn => by
  rw [cutB, Bool.and_eq_true, List.all_eq_true] at h
  exact ((inR_iff _ _ _).1 (h.2 n hn)).1
theorem cutB_len {lo : Int} {l : List Int} (h : cutB lo l = true) : 8 ≤ l.length ∧ l.length ≤ 16 := by
  rw [cutB, Bool.and_eq_true] at h
  have := (inR_iff _ _ _).1 h.1
  omega
theorem Fit_ok (e h : List Int) (u v : Value) (w : AW) (f : Fresh w) (he : ArrOf w 1 icells u e) (hh : ArrOf w 1 icells v h) :
    CallT Try.prog Try.T1 (.fn (.func 20) #[]) #[u, v] w (Ret (.tuple #[.int .i64 (fitV e h), .int .i64 (fitE e h)]) (Grown w)) := by
  obtain ⟨p, cap, hu, _⟩ := he.open
  obtain ⟨q, cap2, hv, _⟩ := hh.open
  refine callT_code rfl Try.func20 rfl Try.s20_eq rfl ?_
  unfold Try.s20
  simp -dsimp -implicitDefEqProofs (maxSteps := 2000000) (disch := first | assumption | omega | (simp only [AW.next_push, AW.next_put]; omega) | ((repeat refine Fresh.push ?_ _); assumption) | (simp only [same_int, same_bool, same_ptr, same_slice, same_sliceP, same_nil, same_agg2, same_string]; done) | (simp [oneCell, AW.next_push]; done) | fail) only [go_sem, Nat.reduceEqDiff, reduceIte, Nat.reduceAdd, Int.toNat_natCast, Nat.add_zero, Owes_true, Try.results20]
  apply callV_of (e := rfl)
  · exact isEdge_ok e u w he
  rintro _ _ ⟨rfl, rfl⟩
  cases hA : cutB 0 e with
  | false =>
    simp -dsimp -implicitDefEqProofs (maxSteps := 2000000) (disch := first | assumption | omega | (simp only [AW.next_push, AW.next_put]; omega) | ((repeat refine Fresh.push ?_ _); assumption) | (simp only [same_int, same_bool, same_ptr, same_slice, same_sliceP, same_nil, same_agg2, same_string]; done) | (simp [oneCell, AW.next_push]; done) | fail) only [go_sem, Nat.reduceEqDiff, reduceIte, Nat.reduceAdd, Int.toNat_natCast, Nat.add_zero, Owes_true, Try.results20]
    exact ⟨by simp [fitV, fitE, hA], .refl f⟩
  | true =>
    simp -dsimp -implicitDefEqProofs (maxSteps := 2000000) (disch := first | assumption | omega | (simp only [AW.next_push, AW.next_put]; omega) | ((repeat refine Fresh.push ?_ _); assumption) | (simp only [same_int, same_bool, same_ptr, same_slice, same_sliceP, same_nil, same_agg2, same_string]; done) | (simp [oneCell, AW.next_push]; done) | fail) only [go_sem, Nat.reduceEqDiff, reduceIte, Nat.reduceAdd, Int.toNat_natCast, Nat.add_zero, Owes_true, Try.results20]
    apply callV_of (e := rfl)
    · exact isHalf_ok h v w hh
    rintro _ _ ⟨rfl, rfl⟩
    cases hB : cutB (-1) h with
    | false =>
      simp -dsimp -implicitDefEqProofs (maxSteps := 2000000) (disch := first | assumption | omega | (simp only [AW.next_push, AW.next_put]; omega) | ((repeat refine Fresh.push ?_ _); assumption) | (simp only [same_int, same_bool, same_ptr, same_slice, same_sliceP, same_nil, same_agg2, same_string]; done) | (simp [oneCell, AW.next_push]; done) | fail) only [go_sem, Nat.reduceEqDiff, reduceIte, Nat.reduceAdd, Int.toNat_natCast, Nat.add_zero, Owes_true, Try.results20]
      exact ⟨by simp [fitV, fitE, hA, hB], .refl f⟩
    | true =>
      simp -dsimp -implicitDefEqProofs (maxSteps := 2000000) (disch := first | assumption | omega | (simp only [AW.next_push, AW.next_put]; omega) | ((repeat refine Fresh.push ?_ _); assumption) | (simp only [same_int, same_bool, same_ptr, same_slice, same_sliceP, same_nil, same_agg2, same_string]; done) | (simp [oneCell, AW.next_push]; done) | fail) only [go_sem, Nat.reduceEqDiff, reduceIte, Nat.reduceAdd, Int.toNat_natCast, Nat.add_zero, Owes_true, Try.results20]
      apply callV_of (e := rfl)
      · exact fit_ok e h u v w f he hh
      rintro _ w1 ⟨rfl, hg⟩
      cases hC : fitR e h with
      | false =>
        simp -dsimp -implicitDefEqProofs (maxSteps := 2000000) (disch := first | assumption | omega | (simp only [AW.next_push, AW.next_put]; omega) | ((repeat refine Fresh.push ?_ _); assumption) | (simp only [same_int, same_bool, same_ptr, same_slice, same_sliceP, same_nil, same_agg2, same_string]; done) | (simp [oneCell, AW.next_push]; done) | fail) only [go_sem, Nat.reduceEqDiff, reduceIte, Nat.reduceAdd, Int.toNat_natCast, Nat.add_zero, Owes_true, Try.results20]
        exact ⟨by simp [fitV, fitE, fitZ, hA, hB, hC], hg⟩
      | true =>
        simp -dsimp -implicitDefEqProofs (maxSteps := 2000000) (disch := first | assumption | omega | (simp only [AW.next_push, AW.next_put]; omega) | ((repeat refine Fresh.push ?_ _); assumption) | (simp only [same_int, same_bool, same_ptr, same_slice, same_sliceP, same_nil, same_agg2, same_string]; done) | (simp [oneCell, AW.next_push]; done) | fail) only [go_sem, Nat.reduceEqDiff, reduceIte, Nat.reduceAdd, Int.toNat_natCast, Nat.add_zero, Owes_true, Try.results20]
        exact ⟨by simp [fitV, fitE, fitZ, hA, hB, hC], hg⟩
theorem refFitE_ok (e h : List Int) (u v : Value) (w : AW) (f : Fresh w) (he : ArrOf w 1 icells u e) (hh : ArrOf w 1 icells v h) :
    CallT Try.prog Try.T1 (.fn (.func 21) #[]) #[u, v] w (Ret (.tuple #[.int .i64 (fitV e h), .int .i64 (fitE e h)]) (Grown w)) := by
  obtain ⟨p, cap, hu, _⟩ := he.open
  obtain ⟨q, cap2, hv, _⟩ := hh.open
  refine callT_code rfl Try.func21 rfl Try.s21_eq rfl ?_
  unfold Try.s21
  simp -dsimp -implicitDefEqProofs (maxSteps := 2000000) (disch := first | assumption | omega | (simp only [AW.next_push, AW.next_put]; omega) | ((repeat refine Fresh.push ?_ _); assumption) | (simp only [same_int, same_bool, same_ptr, same_slice, same_sliceP, same_nil, same_agg2, same_string]; done) | (simp [oneCell, AW.next_push]; done) | fail) only [go_sem, Nat.reduceEqDiff, reduceIte, Nat.reduceAdd, Int.toNat_natCast, Nat.add_zero, Owes_true, Try.results21]
  apply callV_of (e := rfl)
  · exact Edge_ok e u w he
  rintro _ _ ⟨rfl, rfl⟩
  cases hA : cutB 0 e with
  | false =>
    simp -dsimp -implicitDefEqProofs (maxSteps := 2000000) (disch := first | assumption | omega | (simp only [AW.next_push, AW.next_put]; omega) | ((repeat refine Fresh.push ?_ _); assumption) | (simp only [same_int, same_bool, same_ptr, same_slice, same_sliceP, same_nil, same_agg2, same_string]; done) | (simp [oneCell, AW.next_push]; done) | fail) only [go_sem, Nat.reduceEqDiff, reduceIte, Nat.reduceAdd, Int.toNat_natCast, Nat.add_zero, Owes_true, Try.results21]
    exact ⟨by simp [fitV, fitE, hA], .refl f⟩
  | true =>
    simp -dsimp -implicitDefEqProofs (maxSteps := 2000000) (disch := first | assumption | omega | (simp only [AW.next_push, AW.next_put]; omega) | ((repeat refine Fresh.push ?_ _); assumption) | (simp only [same_int, same_bool, same_ptr, same_slice, same_sliceP, same_nil, same_agg2, same_string]; done) | (simp [oneCell, AW.next_push]; done) | fail) only [go_sem, Nat.reduceEqDiff, reduceIte, Nat.reduceAdd, Int.toNat_natCast, Nat.add_zero, Owes_true, Try.results21]
    apply callV_of (e := rfl)
    · exact Half_ok h v w hh
    rintro _ _ ⟨rfl, rfl⟩
    cases hB : cutB (-1) h with
    | false =>
      simp -dsimp -implicitDefEqProofs (maxSteps := 2000000) (disch := first | assumption | omega | (simp only [AW.next_push, AW.next_put]; omega) | ((repeat refine Fresh.push ?_ _); assumption) | (simp only [same_int, same_bool, same_ptr, same_slice, same_sliceP, same_nil, same_agg2, same_string]; done) | (simp [oneCell, AW.next_push]; done) | fail) only [go_sem, Nat.reduceEqDiff, reduceIte, Nat.reduceAdd, Int.toNat_natCast, Nat.add_zero, Owes_true, Try.results21]
      exact ⟨by simp [fitV, fitE, hA, hB], .refl f⟩
    | true =>
      simp -dsimp -implicitDefEqProofs (maxSteps := 2000000) (disch := first | assumption | omega | (simp only [AW.next_push, AW.next_put]; omega) | ((repeat refine Fresh.push ?_ _); assumption) | (simp only [same_int, same_bool, same_ptr, same_slice, same_sliceP, same_nil, same_agg2, same_string]; done) | (simp [oneCell, AW.next_push]; done) | fail) only [go_sem, Nat.reduceEqDiff, reduceIte, Nat.reduceAdd, Int.toNat_natCast, Nat.add_zero, Owes_true, Try.results21]
      apply callV_of (e := rfl)
      · exact refFit_ok e h u v w f he hh (cutB_lo hB)
      rintro _ _ ⟨rfl, rfl⟩
      by_cases hC : fitR e h = true
      · have hs : scZ e h = (kn h h.length : Int) := by rw [scZ, if_pos hC]
        have hn : ¬ scZ e h < 0 := by omega
        simp -dsimp -implicitDefEqProofs (maxSteps := 2000000) (disch := first | assumption | omega | (simp only [AW.next_push, AW.next_put]; omega) | ((repeat refine Fresh.push ?_ _); assumption) | (simp only [same_int, same_bool, same_ptr, same_slice, same_sliceP, same_nil, same_agg2, same_string]; done) | (simp [oneCell, AW.next_push]; done) | fail) only [go_sem, Nat.reduceEqDiff, reduceIte, Nat.reduceAdd, Int.toNat_natCast, Nat.add_zero, Owes_true, Try.results21, hn]
        exact ⟨by simp [fitV, fitE, fitZ, hA, hB, hC, hs], .refl f⟩
      · have hs : scZ e h = -1 := by rw [scZ, if_neg hC]
        have hn : scZ e h < 0 := by omega
        simp -dsimp -implicitDefEqProofs (maxSteps := 2000000) (disch := first | assumption | omega | (simp only [AW.next_push, AW.next_put]; omega) | ((repeat refine Fresh.push ?_ _); assumption) | (simp only [same_int, same_bool, same_ptr, same_slice, same_sliceP, same_nil, same_agg2, same_string]; done) | (simp [oneCell, AW.next_push]; done) | fail) only [go_sem, Nat.reduceEqDiff, reduceIte, Nat.reduceAdd, Int.toNat_natCast, Nat.add_zero, Owes_true, Try.results21, hn]
        exact ⟨by simp [fitV, fitE, fitZ, hA, hB, hC], .refl f⟩
end Go.Proofs

/- Halves of tickets: Best. -/
namespace Go.Proofs
open Go Go.RowKit Go.Sim
set_option maxRecDepth 100000
/- Who is ahead. -/
def raceStep (s : Int) (i : Nat) (x : Int × Nat × Nat) : Int × Nat × Nat := if s < 0 ∨ s < x.1 then x else if s = x.1 then (x.1, x.2.1 + 1, x.2.2) else (s, 1, i)
def raceTo (sc : Nat → Int) : Nat → Int × Nat × Nat
  | 0 => (-1, 0, 0)
  | i + 1 => raceStep (sc i) i (raceTo sc i)
def Race (sc : Nat → Int) (k : Nat) (x : Int × Nat × Nat) : Prop := (∀ j, j < k → sc j ≤ x.1) ∧ x.2.1 ≤ k ∧
  ((x.2.1 = 0 ∧ x.1 = -1) ∨ (x.2.1 = 1 ∧ 0 ≤ x.1 ∧ x.2.2 < k ∧ sc x.2.2 = x.1 ∧ ∀ l, l < k → l ≠ x.2.2 → sc l < x.1) ∨ (2 ≤ x.2.1 ∧ 0 ≤ x.1 ∧ ∃ j l, j < k ∧ l < k ∧ j ≠ l ∧ sc j = x.1 ∧ sc l = x.1))
theorem race_ok {sc : Nat → Int} (h : ∀ k, -1 ≤ sc k) : ∀ k, Race sc k (raceTo sc k)
  | 0 => ⟨fun j hj => by omega, Nat.le_refl _, .inl ⟨rfl, rfl⟩⟩
  | k + 1 => by
    have ih := race_ok h k
    have hk := h k
    rw [raceTo]
    generalize raceTo sc k = x at ih ⊢
    obtain ⟨m, c, b⟩ := x
    obtain ⟨h1, h2, h3⟩ := ih
    simp only at h1 h2 h3
    rw [raceStep]
    simp only
    by_cases q1 : sc k < 0 ∨ sc k < m
    · rw [if_pos q1]
      refine ⟨fun j hj => ?_, by simp only; omega, ?_⟩
      · by_cases hjk : j = k
        · subst hjk
          simp only
          rcases h3 with ⟨_, h4⟩ | ⟨_, h4, _⟩ | ⟨_, h4, _⟩ <;> omega
        · exact h1 j (by omega)
      · rcases h3 with h4 | ⟨a1, a2, a3, a4, a5⟩ | ⟨a1, a2, j, l, a3, a4, a5⟩
        · exact .inl h4
        · refine .inr (.inl ⟨a1, a2, by simp only; omega, a4, fun l hl hne => ?_⟩)
          by_cases hlk : l = k
          · subst hlk; simp only; omega
          · exact a5 l (by omega) hne
        · exact .inr (.inr ⟨a1, a2, j, l, by omega, by omega, a5⟩)
    · rw [if_neg q1]
      by_cases q2 : sc k = m
      · rw [if_pos q2]
        refine ⟨fun j hj => ?_, by simp only; omega, ?_⟩
        · by_cases hjk : j = k
          · subst hjk; simp only; omega
          · exact h1 j (by omega)
        · rcases h3 with ⟨_, h4⟩ | ⟨a1, a2, a3, a4, a5⟩ | ⟨a1, a2, j, l, a3, a4, a5⟩
          · omega
          · exact .inr (.inr ⟨by simp only; omega, a2, b, k, by omega, by omega, by omega, a4, q2⟩)
          · exact .inr (.inr ⟨by simp only; omega, a2, j, l, by omega, by omega, a5⟩)
      · rw [if_neg q2]
        refine ⟨fun j hj => ?_, by simp only; omega, .inr (.inl ⟨rfl, by simp only; omega, by simp only; omega, rfl, fun l hl hne => ?_⟩)⟩
        · by_cases hjk : j = k
          · subst hjk; exact Int.le_refl _
          · have := h1 j (by omega); simp only; omega
        · have := h1 l (by simp only at hne; omega); simp only; omega
def topTo (sc : Nat → Int) (i j : Nat) : Bool := decide (0 ≤ sc i) && (List.range j).all fun k => decide (k = i) || decide (sc k < sc i)
def bestF (sc : Nat → Int) (n : Nat) : Option Nat := (List.range n).find? fun i => topTo sc i n
theorem topTo_succ (sc : Nat → Int) (i j : Nat) : topTo sc i (j + 1) = (topTo sc i j && (decide (j = i) || decide (sc j < sc i))) := by
  simp [topTo, List.range_succ, Bool.and_assoc]
theorem topTo_iff (sc : Nat → Int) (i j : Nat) : topTo sc i j = true ↔ 0 ≤ sc i ∧ ∀ k, k < j → k = i ∨ sc k < sc i := by
  simp [topTo]
theorem bestF_of {sc : Nat → Int} {n i : Nat} (hi : i < n) (h : topTo sc i n = true) : bestF sc n = some i := by
  rw [bestF]
  cases hf : (List.range n).find? fun i => topTo sc i n with
  | none =>
    rw [List.find?_eq_none] at hf
    exact absurd h (hf i (List.mem_range.mpr hi))
  | some j =>
    have h1 : topTo sc j n = true := by have := List.find?_some hf; simpa using this
    have h2 := List.mem_range.mp (List.mem_of_find?_eq_some hf)
    rw [topTo_iff] at h h1
    rcases h.2 j h2 with q | q
    · rw [q]
    · rcases h1.2 i hi with q' | q'
      · rw [q']
      · omega
theorem bestF_none {sc : Nat → Int} {n : Nat} (h : ∀ i, i < n → topTo sc i n = false) : bestF sc n = none := by
  rw [bestF, List.find?_eq_none]
  intro i hi
  rw [h i (List.mem_range.mp hi)]; simp
theorem race_end {sc : Nat → Int} {n : Nat} {x : Int × Nat × Nat} (h : Race sc n x) : (x.2.1 = 1 → bestF sc n = some x.2.2) ∧ (x.2.1 ≠ 1 → bestF sc n = none) := by
  obtain ⟨h1, h2, h3⟩ := h
  rcases h3 with ⟨a1, a2⟩ | ⟨a1, a2, a3, a4, a5⟩ | ⟨a1, a2, j, l, a3, a4, a5, a6, a7⟩
  · refine ⟨fun q => by omega, fun _ => bestF_none fun i hi => ?_⟩
    have := h1 i hi
    rw [topTo, decide_eq_false (by omega)]; rfl
  · refine ⟨fun _ => bestF_of a3 ((topTo_iff _ _ _).2 ⟨by omega, fun k hk => ?_⟩), fun q => absurd a1 q⟩
    by_cases hq : k = x.2.2
    · exact .inl hq
    · exact .inr (by have := a5 k hk hq; omega)
  · refine ⟨fun q => by omega, fun _ => bestF_none fun i hi => ?_⟩
    cases ht : topTo sc i n with
    | false => rfl
    | true =>
      rw [topTo_iff] at ht
      have hi1 := h1 i hi
      rcases ht.2 j a3 with q | q
      · rcases ht.2 l a4 with q' | q'
        · omega
        · subst q; omega
      · omega

def sc (e : List Int) (rss : List (List Int)) (k : Nat) : Int := scZ e (rss.getD k [])
theorem scZ_lo (e h : List Int) : (fitR e h = true ∧ scZ e h = (kn h h.length : Int) ∧ 4 ≤ kn h h.length) ∨ (fitR e h = false ∧ scZ e h = -1) := by
  cases q : fitR e h with
  | true =>
    refine .inl ⟨rfl, by rw [scZ, if_pos q], ?_⟩
    rw [fitR, Bool.and_eq_true] at q
    exact of_decide_eq_true q.2
  | false => exact .inr ⟨rfl, by rw [scZ, if_neg (by rw [q]; simp)]⟩
theorem sc_lo (e : List Int) (rss : List (List Int)) (k : Nat) : -1 ≤ sc e rss k := by
  rcases scZ_lo e (rss.getD k []) with ⟨_, q, r⟩ | ⟨_, q⟩ <;> rw [sc, q] <;> omega
def okHs (e : List Int) (rss : List (List Int)) : Bool := cutB 0 e && decide (rss.length ≤ 16) && rss.all (cutB (-1))
def bestE (e : List Int) (rss : List (List Int)) : Int := if okHs e rss = true then (match bestF (sc e rss) rss.length with | some _ => 0 | none => 4) else 31
def bestV (e : List Int) (rss : List (List Int)) : Int := if okHs e rss = true then (match bestF (sc e rss) rss.length with | some i => (i : Int) | none => 0) else 0
def BestPost (e : List Int) (rss : List (List Int)) (w : AW) : Value → AW → Prop := Ret (.tuple #[.int .i64 (bestV e rss), .int .i64 (bestE e rss)]) (Grown w)
theorem BestPost.bad {e : List Int} {rss : List (List Int)} {w w' : AW} (h : okHs e rss = false) (g : Grown w w') : BestPost e rss w (.tuple #[.int .i64 0, .int .i64 31]) w' := by
  exact ⟨by simp [bestV, bestE, h], g⟩
theorem BestPost.none {e : List Int} {rss : List (List Int)} {w w' : AW} (h : okHs e rss = true) (h1 : bestF (sc e rss) rss.length = none) (g : Grown w w') : BestPost e rss w (.tuple #[.int .i64 0, .int .i64 4]) w' := by
  exact ⟨by simp [bestV, bestE, h, h1], g⟩
theorem BestPost.some {e : List Int} {rss : List (List Int)} {w w' : AW} {i : Nat} (h : okHs e rss = true) (h1 : bestF (sc e rss) rss.length = some i) (g : Grown w w') : BestPost e rss w (.tuple #[.int .i64 (i : Int), .int .i64 0]) w' := by
  exact ⟨by simp [bestV, bestE, h, h1], g⟩
end Go.Proofs

/- Halves of tickets: Best, in the program and in the chapter. -/
namespace Go.Proofs
open Go Go.RowKit Go.Sim
set_option maxRecDepth 100000
theorem all_at {rss : List (List Int)} {lo : Int} (h : rss.all (cutB lo) = true) {i : Nat} (hi : i < rss.length) : cutB lo rss[i] = true := List.all_eq_true.mp h _ (List.getElem_mem hi)
theorem Best_ok (e : List Int) (rss : List (List Int)) (u x : Value) (w : AW) (f : Fresh w) (he : ArrOf w 1 icells u e) (hr : NumRows w x rss) :
    CallT Try.prog Try.T1 (.fn (.func 22) #[]) #[u, x] w (BestPost e rss w) := by
  obtain ⟨p0, cap0, hu, _⟩ := he.open
  obtain ⟨p, cap, rfl, hcap, hmax, hat⟩ := hr.open
  refine callT_code rfl Try.func22 rfl Try.s22_eq rfl ?_
  unfold Try.s22
  simp -dsimp -implicitDefEqProofs (maxSteps := 2000000) (disch := first | assumption | omega | (simp only [AW.next_push, AW.next_put]; omega) | ((repeat refine Fresh.push ?_ _); assumption) | (simp only [same_int, same_bool, same_ptr, same_slice, same_sliceP, same_nil, same_agg2, same_string]; done) | (simp [oneCell, AW.next_push]; done) | fail) only [go_sem, Nat.reduceEqDiff, reduceIte, Nat.reduceAdd, Int.toNat_natCast, Nat.add_zero, Owes_true, Try.results22]
  apply callV_of (e := rfl)
  · exact isEdge_ok e u w he
  rintro _ _ ⟨rfl, rfl⟩
  cases hA : cutB 0 e with
  | false =>
    simp -dsimp -implicitDefEqProofs (maxSteps := 2000000) (disch := first | assumption | omega | (simp only [AW.next_push, AW.next_put]; omega) | ((repeat refine Fresh.push ?_ _); assumption) | (simp only [same_int, same_bool, same_ptr, same_slice, same_sliceP, same_nil, same_agg2, same_string]; done) | (simp [oneCell, AW.next_push]; done) | fail) only [go_sem, Nat.reduceEqDiff, reduceIte, Nat.reduceAdd, Int.toNat_natCast, Nat.add_zero, Owes_true, Try.results22]
    exact .bad (by simp [okHs, hA]) (.refl f)
  | true =>
  by_cases h16 : 16 < (rss.length : Int)
  · simp -dsimp -implicitDefEqProofs (maxSteps := 2000000) (disch := first | assumption | omega | (simp only [AW.next_push, AW.next_put]; omega) | ((repeat refine Fresh.push ?_ _); assumption) | (simp only [same_int, same_bool, same_ptr, same_slice, same_sliceP, same_nil, same_agg2, same_string]; done) | (simp [oneCell, AW.next_push]; done) | fail) only [go_sem, Nat.reduceEqDiff, reduceIte, Nat.reduceAdd, Int.toNat_natCast, Nat.add_zero, Owes_true, Try.results22, h16]
    exact .bad (by simp [okHs]; omega) (.refl f)
  simp -dsimp -implicitDefEqProofs (maxSteps := 2000000) (disch := first | assumption | omega | (simp only [AW.next_push, AW.next_put]; omega) | ((repeat refine Fresh.push ?_ _); assumption) | (simp only [same_int, same_bool, same_ptr, same_slice, same_sliceP, same_nil, same_agg2, same_string]; done) | (simp [oneCell, AW.next_push]; done) | fail) only [go_sem, Nat.reduceEqDiff, reduceIte, Nat.reduceAdd, Int.toNat_natCast, Nat.add_zero, Owes_true, Try.results22, h16]
  refine loopR (fun k t ds w1 => ∃ i : Nat, i ≤ rss.length ∧ k = rss.length - i ∧ ds = [] ∧ ev t (.tmp 0) = u ∧ ev t (.tmp 1) = .slice p rss.length cap ∧ ev t (.tmp 23) = .slice p rss.length cap ∧ ev t (.tmp 24) = .int .i64 (rss.length : Int) ∧ ev t (.tmp 25) = .int .i64 (i : Int) ∧ w = w1 ∧ ((rss.take i).all (cutB (-1))) = true) (rss.length) ?_ ?_
  · refine ⟨0, by omega, by omega, rfl, ?_, ?_, ?_, ?_, ?_, rfl, rfl⟩ <;> simp -dsimp -implicitDefEqProofs (maxSteps := 2000000) (disch := first | assumption | omega | (simp only [AW.next_push, AW.next_put]; omega) | ((repeat refine Fresh.push ?_ _); assumption) | (simp only [same_int, same_bool, same_ptr, same_slice, same_sliceP, same_nil, same_agg2, same_string]; done) | (simp [oneCell, AW.next_push]; done) | fail) only [go_sem, Nat.reduceEqDiff, reduceIte, Nat.reduceAdd, Int.toNat_natCast, Nat.add_zero, Owes_true] <;> rfl
  rintro k t ds w1 ⟨i, hii, rfl, rfl, e0, e1, e23, e24, e25, hw, hall⟩
  subst hw
  by_cases hlt : (i : Int) < (rss.length : Int)
  case pos =>
    have hlt' : i < rss.length := by omega
    obtain ⟨b1, o1, v, rfl, hb1, harr, hcell⟩ := hat i hlt'
    have hc0 := hcell w (.refl _ _)
    obtain ⟨p3, cap3, rfl, _⟩ := id harr.open
    simp -dsimp -implicitDefEqProofs (maxSteps := 2000000) (disch := first | assumption | omega | (simp only [AW.next_push, AW.next_put]; omega) | ((repeat refine Fresh.push ?_ _); assumption) | (simp only [same_int, same_bool, same_ptr, same_slice, same_sliceP, same_nil, same_agg2, same_string]; done) | (simp [oneCell, AW.next_push]; done) | fail) only [go_sem, Nat.reduceEqDiff, reduceIte, Nat.reduceAdd, Int.toNat_natCast, Nat.add_zero, Owes_true, Try.results22, e0, e1, e23, e24, e25, hlt, indexV_eq, hc0]
    apply callV_of (e := rfl)
    · exact isHalf_ok _ _ w harr
    rintro _ _ ⟨rfl, rfl⟩
    cases hB : cutB (-1) rss[i] with
    | true =>
      simp -dsimp -implicitDefEqProofs (maxSteps := 2000000) (disch := first | assumption | omega | (simp only [AW.next_push, AW.next_put]; omega) | ((repeat refine Fresh.push ?_ _); assumption) | (simp only [same_int, same_bool, same_ptr, same_slice, same_sliceP, same_nil, same_agg2, same_string]; done) | (simp [oneCell, AW.next_push]; done) | fail) only [go_sem, Nat.reduceEqDiff, reduceIte, Nat.reduceAdd, Int.toNat_natCast, Nat.add_zero, Owes_true, Try.results22, e0, e1, e23, e24, e25]
      refine ⟨_, by omega, i + 1, by omega, rfl, rfl, by (simp -dsimp -implicitDefEqProofs (maxSteps := 2000000) (disch := first | assumption | omega | (simp only [AW.next_push, AW.next_put]; omega) | ((repeat refine Fresh.push ?_ _); assumption) | (simp only [same_int, same_bool, same_ptr, same_slice, same_sliceP, same_nil, same_agg2, same_string]; done) | (simp [oneCell, AW.next_push]; done) | fail) only [go_sem, Nat.reduceEqDiff, reduceIte, Nat.reduceAdd, Int.toNat_natCast, Nat.add_zero, Owes_true, e0]; try rfl), by (simp -dsimp -implicitDefEqProofs (maxSteps := 2000000) (disch := first | assumption | omega | (simp only [AW.next_push, AW.next_put]; omega) | ((repeat refine Fresh.push ?_ _); assumption) | (simp only [same_int, same_bool, same_ptr, same_slice, same_sliceP, same_nil, same_agg2, same_string]; done) | (simp [oneCell, AW.next_push]; done) | fail) only [go_sem, Nat.reduceEqDiff, reduceIte, Nat.reduceAdd, Int.toNat_natCast, Nat.add_zero, Owes_true, e1]; try rfl), by (simp -dsimp -implicitDefEqProofs (maxSteps := 2000000) (disch := first | assumption | omega | (simp only [AW.next_push, AW.next_put]; omega) | ((repeat refine Fresh.push ?_ _); assumption) | (simp only [same_int, same_bool, same_ptr, same_slice, same_sliceP, same_nil, same_agg2, same_string]; done) | (simp [oneCell, AW.next_push]; done) | fail) only [go_sem, Nat.reduceEqDiff, reduceIte, Nat.reduceAdd, Int.toNat_natCast, Nat.add_zero, Owes_true, e23]; try rfl), by (simp -dsimp -implicitDefEqProofs (maxSteps := 2000000) (disch := first | assumption | omega | (simp only [AW.next_push, AW.next_put]; omega) | ((repeat refine Fresh.push ?_ _); assumption) | (simp only [same_int, same_bool, same_ptr, same_slice, same_sliceP, same_nil, same_agg2, same_string]; done) | (simp [oneCell, AW.next_push]; done) | fail) only [go_sem, Nat.reduceEqDiff, reduceIte, Nat.reduceAdd, Int.toNat_natCast, Nat.add_zero, Owes_true, e24]; try rfl), by (simp -dsimp -implicitDefEqProofs (maxSteps := 2000000) (disch := first | assumption | omega | (simp only [AW.next_push, AW.next_put]; omega) | ((repeat refine Fresh.push ?_ _); assumption) | (simp only [same_int, same_bool, same_ptr, same_slice, same_sliceP, same_nil, same_agg2, same_string]; done) | (simp [oneCell, AW.next_push]; done) | fail) only [go_sem, Nat.reduceEqDiff, reduceIte, Nat.reduceAdd, Int.toNat_natCast, Nat.add_zero, Owes_true, e25]; try rfl), rfl, by rw [List.take_succ_eq_append_getElem hlt', List.all_append, hall]; simp [hB]⟩
    | false =>
      simp -dsimp -implicitDefEqProofs (maxSteps := 2000000) (disch := first | assumption | omega | (simp only [AW.next_push, AW.next_put]; omega) | ((repeat refine Fresh.push ?_ _); assumption) | (simp only [same_int, same_bool, same_ptr, same_slice, same_sliceP, same_nil, same_agg2, same_string]; done) | (simp [oneCell, AW.next_push]; done) | fail) only [go_sem, Nat.reduceEqDiff, reduceIte, Nat.reduceAdd, Int.toNat_natCast, Nat.add_zero, Owes_true, Try.results22]
      refine .bad ?_ (.refl f)
      have : rss.all (cutB (-1)) = false := by
        rw [List.all_eq_false]; exact ⟨rss[i], List.getElem_mem hlt', by rw [hB]; simp⟩
      rw [okHs, this, Bool.and_false]
  have h2 : rss.take i = rss := List.take_of_length_le (by omega)
  rw [h2] at hall
  have hok : okHs e rss = true := by rw [okHs, hA, hall]; simp; omega
  have hz : max (-1 : Int) 0 = 0 := rfl
  have hz2 : decide ((0 : Nat) = 1) = false := rfl
  simp -dsimp -implicitDefEqProofs (maxSteps := 2000000) (disch := first | assumption | omega | (simp only [AW.next_push, AW.next_put]; omega) | ((repeat refine Fresh.push ?_ _); assumption) | (simp only [same_int, same_bool, same_ptr, same_slice, same_sliceP, same_nil, same_agg2, same_string]; done) | (simp [oneCell, AW.next_push]; done) | fail) only [go_sem, Nat.reduceEqDiff, reduceIte, Nat.reduceAdd, Int.toNat_natCast, Nat.add_zero, Owes_true, Try.results22, e0, e1, e23, e24, e25, hlt]
  refine loopR (fun k t ds w1 => ∃ j : Nat, j ≤ rss.length ∧ k = rss.length - j ∧ ds = [] ∧ ev t (.tmp 0) = u ∧ ev t (.tmp 8) = .int .i64 ((raceTo (sc e rss) j).2.2 : Int) ∧ ev t (.tmp 9) = .int .i64 (max (raceTo (sc e rss) j).1 0) ∧ ev t (.tmp 10) = .bool (decide ((raceTo (sc e rss) j).2.1 = 1)) ∧ ev t (.tmp 33) = .slice p rss.length cap ∧ ev t (.tmp 34) = .int .i64 (rss.length : Int) ∧ ev t (.tmp 35) = .int .i64 (j : Int) ∧ Grown w w1) (rss.length) ?_ ?_
  · refine ⟨0, by omega, by omega, rfl, ?_, ?_, ?_, ?_, ?_, ?_, ?_, .refl f⟩ <;> simp -dsimp -implicitDefEqProofs (maxSteps := 2000000) (disch := first | assumption | omega | (simp only [AW.next_push, AW.next_put]; omega) | ((repeat refine Fresh.push ?_ _); assumption) | (simp only [same_int, same_bool, same_ptr, same_slice, same_sliceP, same_nil, same_agg2, same_string]; done) | (simp [oneCell, AW.next_push]; done) | fail) only [go_sem, Nat.reduceEqDiff, reduceIte, Nat.reduceAdd, Int.toNat_natCast, Nat.add_zero, Owes_true, raceTo, hz, hz2, e0, e1] <;> rfl
  rintro k t ds w1 ⟨j, hij, rfl, rfl, e0, e8, e9, e10, e33, e34, e35, hg⟩
  have hrace := race_ok (sc_lo e rss) j
  by_cases hlj : (j : Int) < (rss.length : Int)
  case neg =>
    obtain rfl : j = rss.length := by omega
    have hend := race_end hrace
    by_cases h1 : (raceTo (sc e rss) rss.length).2.1 = 1
    · simp -dsimp -implicitDefEqProofs (maxSteps := 2000000) (disch := first | assumption | omega | (simp only [AW.next_push, AW.next_put]; omega) | ((repeat refine Fresh.push ?_ _); assumption) | (simp only [same_int, same_bool, same_ptr, same_slice, same_sliceP, same_nil, same_agg2, same_string]; done) | (simp [oneCell, AW.next_push]; done) | fail) only [go_sem, Nat.reduceEqDiff, reduceIte, Nat.reduceAdd, Int.toNat_natCast, Nat.add_zero, Owes_true, Try.results22, e0, e8, e9, e10, e33, e34, e35, hlj, h1]
      exact .some hok (hend.1 h1) hg
    · simp -dsimp -implicitDefEqProofs (maxSteps := 2000000) (disch := first | assumption | omega | (simp only [AW.next_push, AW.next_put]; omega) | ((repeat refine Fresh.push ?_ _); assumption) | (simp only [same_int, same_bool, same_ptr, same_slice, same_sliceP, same_nil, same_agg2, same_string]; done) | (simp [oneCell, AW.next_push]; done) | fail) only [go_sem, Nat.reduceEqDiff, reduceIte, Nat.reduceAdd, Int.toNat_natCast, Nat.add_zero, Owes_true, Try.results22, e0, e8, e9, e10, e33, e34, e35, hlj, h1]
      exact .none hok (hend.2 h1) hg
  have hlt' : j < rss.length := by omega
  obtain ⟨b1, o1, v, rfl, hb1, harr, hcell⟩ := hat j hlt'
  have hc0 := hcell w1 hg.1
  obtain ⟨p3, cap3, rfl, _⟩ := id harr.open
  have hsc : sc e rss j = scZ e rss[j] := by rw [sc, getD_at hlt']
  have hrs : raceTo (sc e rss) (j + 1) = raceStep (sc e rss j) j (raceTo (sc e rss) j) := rfl
  rw [hsc] at hrs
  simp -dsimp -implicitDefEqProofs (maxSteps := 2000000) (disch := first | assumption | omega | (simp only [AW.next_push, AW.next_put]; omega) | ((repeat refine Fresh.push ?_ _); assumption) | (simp only [same_int, same_bool, same_ptr, same_slice, same_sliceP, same_nil, same_agg2, same_string]; done) | (simp [oneCell, AW.next_push]; done) | fail) only [go_sem, Nat.reduceEqDiff, reduceIte, Nat.reduceAdd, Int.toNat_natCast, Nat.add_zero, Owes_true, Try.results22, e0, e8, e9, e10, e33, e34, e35, hlj, indexV_eq, hc0]
  apply callV_of (e := rfl)
  · exact fit_ok e rss[j] u _ w1 hg.2 (he.grown hg) (harr.grown hg)
  rintro _ w2 ⟨rfl, hg2⟩
  have hg3 := hg.trans hg2
  generalize raceTo (sc e rss) j = X at *
  obtain ⟨m, c, b⟩ := X
  simp only at e8 e9 e10
  rcases scZ_lo e rss[j] with ⟨q1, q2, q3⟩ | ⟨q1, q2⟩
  · rw [q2] at hrs
    have hfz : fitZ e rss[j] = (kn rss[j] rss[j].length : Int) := by rw [fitZ, if_pos q1]
    generalize kn rss[j] rss[j].length = K at *
    by_cases c1 : (K : Int) < max m 0
    · have : (K : Int) < m := by omega
      rw [raceStep, if_pos (.inr this)] at hrs
      simp -dsimp -implicitDefEqProofs (maxSteps := 2000000) (disch := first | assumption | omega | (simp only [AW.next_push, AW.next_put]; omega) | ((repeat refine Fresh.push ?_ _); assumption) | (simp only [same_int, same_bool, same_ptr, same_slice, same_sliceP, same_nil, same_agg2, same_string]; done) | (simp [oneCell, AW.next_push]; done) | fail) only [go_sem, Nat.reduceEqDiff, reduceIte, Nat.reduceAdd, Int.toNat_natCast, Nat.add_zero, Owes_true, Try.results22, e0, e8, e9, e10, e33, e34, e35, q1, hfz, c1]
      refine ⟨_, by omega, j + 1, by omega, rfl, rfl, by (simp -dsimp -implicitDefEqProofs (maxSteps := 2000000) (disch := first | assumption | omega | (simp only [AW.next_push, AW.next_put]; omega) | ((repeat refine Fresh.push ?_ _); assumption) | (simp only [same_int, same_bool, same_ptr, same_slice, same_sliceP, same_nil, same_agg2, same_string]; done) | (simp [oneCell, AW.next_push]; done) | fail) only [go_sem, Nat.reduceEqDiff, reduceIte, Nat.reduceAdd, Int.toNat_natCast, Nat.add_zero, Owes_true, e0, hrs]; try rfl), by (simp -dsimp -implicitDefEqProofs (maxSteps := 2000000) (disch := first | assumption | omega | (simp only [AW.next_push, AW.next_put]; omega) | ((repeat refine Fresh.push ?_ _); assumption) | (simp only [same_int, same_bool, same_ptr, same_slice, same_sliceP, same_nil, same_agg2, same_string]; done) | (simp [oneCell, AW.next_push]; done) | fail) only [go_sem, Nat.reduceEqDiff, reduceIte, Nat.reduceAdd, Int.toNat_natCast, Nat.add_zero, Owes_true, e8, hrs]; try rfl), by (simp -dsimp -implicitDefEqProofs (maxSteps := 2000000) (disch := first | assumption | omega | (simp only [AW.next_push, AW.next_put]; omega) | ((repeat refine Fresh.push ?_ _); assumption) | (simp only [same_int, same_bool, same_ptr, same_slice, same_sliceP, same_nil, same_agg2, same_string]; done) | (simp [oneCell, AW.next_push]; done) | fail) only [go_sem, Nat.reduceEqDiff, reduceIte, Nat.reduceAdd, Int.toNat_natCast, Nat.add_zero, Owes_true, e9, hrs]; try rfl), by (simp -dsimp -implicitDefEqProofs (maxSteps := 2000000) (disch := first | assumption | omega | (simp only [AW.next_push, AW.next_put]; omega) | ((repeat refine Fresh.push ?_ _); assumption) | (simp only [same_int, same_bool, same_ptr, same_slice, same_sliceP, same_nil, same_agg2, same_string]; done) | (simp [oneCell, AW.next_push]; done) | fail) only [go_sem, Nat.reduceEqDiff, reduceIte, Nat.reduceAdd, Int.toNat_natCast, Nat.add_zero, Owes_true, e10, hrs]; try rfl), by (simp -dsimp -implicitDefEqProofs (maxSteps := 2000000) (disch := first | assumption | omega | (simp only [AW.next_push, AW.next_put]; omega) | ((repeat refine Fresh.push ?_ _); assumption) | (simp only [same_int, same_bool, same_ptr, same_slice, same_sliceP, same_nil, same_agg2, same_string]; done) | (simp [oneCell, AW.next_push]; done) | fail) only [go_sem, Nat.reduceEqDiff, reduceIte, Nat.reduceAdd, Int.toNat_natCast, Nat.add_zero, Owes_true, e33, hrs]; try rfl), by (simp -dsimp -implicitDefEqProofs (maxSteps := 2000000) (disch := first | assumption | omega | (simp only [AW.next_push, AW.next_put]; omega) | ((repeat refine Fresh.push ?_ _); assumption) | (simp only [same_int, same_bool, same_ptr, same_slice, same_sliceP, same_nil, same_agg2, same_string]; done) | (simp [oneCell, AW.next_push]; done) | fail) only [go_sem, Nat.reduceEqDiff, reduceIte, Nat.reduceAdd, Int.toNat_natCast, Nat.add_zero, Owes_true, e34, hrs]; try rfl), by (simp -dsimp -implicitDefEqProofs (maxSteps := 2000000) (disch := first | assumption | omega | (simp only [AW.next_push, AW.next_put]; omega) | ((repeat refine Fresh.push ?_ _); assumption) | (simp only [same_int, same_bool, same_ptr, same_slice, same_sliceP, same_nil, same_agg2, same_string]; done) | (simp [oneCell, AW.next_push]; done) | fail) only [go_sem, Nat.reduceEqDiff, reduceIte, Nat.reduceAdd, Int.toNat_natCast, Nat.add_zero, Owes_true, e35, hrs]; try rfl), hg3⟩
    · by_cases c2 : (K : Int) = max m 0
      · have hm : (K : Int) = m := by omega
        have hc : c ≠ 0 := by
          rintro rfl
          rcases hrace.2.2 with ⟨_, h4⟩ | ⟨h4, _⟩ | ⟨h4, _⟩
          · simp only at h4; omega
          · simp only at h4; omega
          · simp only at h4; omega
        rw [raceStep, if_neg (by simp only; omega), if_pos hm] at hrs
        have hd : decide (c = 0) = false := decide_eq_false hc
        have hd2 : decide ((K : Int) = max m 0) = true := decide_eq_true c2
        simp -dsimp -implicitDefEqProofs (maxSteps := 2000000) (disch := first | assumption | omega | (simp only [AW.next_push, AW.next_put]; omega) | ((repeat refine Fresh.push ?_ _); assumption) | (simp only [same_int, same_bool, same_ptr, same_slice, same_sliceP, same_nil, same_agg2, same_string]; done) | (simp [oneCell, AW.next_push]; done) | fail) only [go_sem, Nat.reduceEqDiff, reduceIte, Nat.reduceAdd, Int.toNat_natCast, Nat.add_zero, Owes_true, Try.results22, e0, e8, e9, e10, e33, e34, e35, q1, hfz, c1, hd2]
        refine ⟨_, by omega, j + 1, by omega, rfl, rfl, by (simp -dsimp -implicitDefEqProofs (maxSteps := 2000000) (disch := first | assumption | omega | (simp only [AW.next_push, AW.next_put]; omega) | ((repeat refine Fresh.push ?_ _); assumption) | (simp only [same_int, same_bool, same_ptr, same_slice, same_sliceP, same_nil, same_agg2, same_string]; done) | (simp [oneCell, AW.next_push]; done) | fail) only [go_sem, Nat.reduceEqDiff, reduceIte, Nat.reduceAdd, Int.toNat_natCast, Nat.add_zero, Owes_true, e0, hrs, hd]; try rfl), by (simp -dsimp -implicitDefEqProofs (maxSteps := 2000000) (disch := first | assumption | omega | (simp only [AW.next_push, AW.next_put]; omega) | ((repeat refine Fresh.push ?_ _); assumption) | (simp only [same_int, same_bool, same_ptr, same_slice, same_sliceP, same_nil, same_agg2, same_string]; done) | (simp [oneCell, AW.next_push]; done) | fail) only [go_sem, Nat.reduceEqDiff, reduceIte, Nat.reduceAdd, Int.toNat_natCast, Nat.add_zero, Owes_true, e8, hrs, hd]; try rfl), by (simp -dsimp -implicitDefEqProofs (maxSteps := 2000000) (disch := first | assumption | omega | (simp only [AW.next_push, AW.next_put]; omega) | ((repeat refine Fresh.push ?_ _); assumption) | (simp only [same_int, same_bool, same_ptr, same_slice, same_sliceP, same_nil, same_agg2, same_string]; done) | (simp [oneCell, AW.next_push]; done) | fail) only [go_sem, Nat.reduceEqDiff, reduceIte, Nat.reduceAdd, Int.toNat_natCast, Nat.add_zero, Owes_true, e9, hrs, hd]; try rfl), by (simp -dsimp -implicitDefEqProofs (maxSteps := 2000000) (disch := first | assumption | omega | (simp only [AW.next_push, AW.next_put]; omega) | ((repeat refine Fresh.push ?_ _); assumption) | (simp only [same_int, same_bool, same_ptr, same_slice, same_sliceP, same_nil, same_agg2, same_string]; done) | (simp [oneCell, AW.next_push]; done) | fail) only [go_sem, Nat.reduceEqDiff, reduceIte, Nat.reduceAdd, Int.toNat_natCast, Nat.add_zero, Owes_true, e10, hrs, hd]; try rfl), by (simp -dsimp -implicitDefEqProofs (maxSteps := 2000000) (disch := first | assumption | omega | (simp only [AW.next_push, AW.next_put]; omega) | ((repeat refine Fresh.push ?_ _); assumption) | (simp only [same_int, same_bool, same_ptr, same_slice, same_sliceP, same_nil, same_agg2, same_string]; done) | (simp [oneCell, AW.next_push]; done) | fail) only [go_sem, Nat.reduceEqDiff, reduceIte, Nat.reduceAdd, Int.toNat_natCast, Nat.add_zero, Owes_true, e33, hrs, hd]; try rfl), by (simp -dsimp -implicitDefEqProofs (maxSteps := 2000000) (disch := first | assumption | omega | (simp only [AW.next_push, AW.next_put]; omega) | ((repeat refine Fresh.push ?_ _); assumption) | (simp only [same_int, same_bool, same_ptr, same_slice, same_sliceP, same_nil, same_agg2, same_string]; done) | (simp [oneCell, AW.next_push]; done) | fail) only [go_sem, Nat.reduceEqDiff, reduceIte, Nat.reduceAdd, Int.toNat_natCast, Nat.add_zero, Owes_true, e34, hrs, hd]; try rfl), by (simp -dsimp -implicitDefEqProofs (maxSteps := 2000000) (disch := first | assumption | omega | (simp only [AW.next_push, AW.next_put]; omega) | ((repeat refine Fresh.push ?_ _); assumption) | (simp only [same_int, same_bool, same_ptr, same_slice, same_sliceP, same_nil, same_agg2, same_string]; done) | (simp [oneCell, AW.next_push]; done) | fail) only [go_sem, Nat.reduceEqDiff, reduceIte, Nat.reduceAdd, Int.toNat_natCast, Nat.add_zero, Owes_true, e35, hrs, hd]; try rfl), hg3⟩
      · rw [raceStep, if_neg (by simp only; omega), if_neg (by simp only; omega)] at hrs
        have hmx : max (K : Int) 0 = (K : Int) := by omega
        simp -dsimp -implicitDefEqProofs (maxSteps := 2000000) (disch := first | assumption | omega | (simp only [AW.next_push, AW.next_put]; omega) | ((repeat refine Fresh.push ?_ _); assumption) | (simp only [same_int, same_bool, same_ptr, same_slice, same_sliceP, same_nil, same_agg2, same_string]; done) | (simp [oneCell, AW.next_push]; done) | fail) only [go_sem, Nat.reduceEqDiff, reduceIte, Nat.reduceAdd, Int.toNat_natCast, Nat.add_zero, Owes_true, Try.results22, e0, e8, e9, e10, e33, e34, e35, q1, hfz, c1, c2]
        refine ⟨_, by omega, j + 1, by omega, rfl, rfl, by (simp -dsimp -implicitDefEqProofs (maxSteps := 2000000) (disch := first | assumption | omega | (simp only [AW.next_push, AW.next_put]; omega) | ((repeat refine Fresh.push ?_ _); assumption) | (simp only [same_int, same_bool, same_ptr, same_slice, same_sliceP, same_nil, same_agg2, same_string]; done) | (simp [oneCell, AW.next_push]; done) | fail) only [go_sem, Nat.reduceEqDiff, reduceIte, Nat.reduceAdd, Int.toNat_natCast, Nat.add_zero, Owes_true, e0, hrs, hmx]; try rfl), by (simp -dsimp -implicitDefEqProofs (maxSteps := 2000000) (disch := first | assumption | omega | (simp only [AW.next_push, AW.next_put]; omega) | ((repeat refine Fresh.push ?_ _); assumption) | (simp only [same_int, same_bool, same_ptr, same_slice, same_sliceP, same_nil, same_agg2, same_string]; done) | (simp [oneCell, AW.next_push]; done) | fail) only [go_sem, Nat.reduceEqDiff, reduceIte, Nat.reduceAdd, Int.toNat_natCast, Nat.add_zero, Owes_true, e8, hrs, hmx]; try rfl), by (simp -dsimp -implicitDefEqProofs (maxSteps := 2000000) (disch := first | assumption | omega | (simp only [AW.next_push, AW.next_put]; omega) | ((repeat refine Fresh.push ?_ _); assumption) | (simp only [same_int, same_bool, same_ptr, same_slice, same_sliceP, same_nil, same_agg2, same_string]; done) | (simp [oneCell, AW.next_push]; done) | fail) only [go_sem, Nat.reduceEqDiff, reduceIte, Nat.reduceAdd, Int.toNat_natCast, Nat.add_zero, Owes_true, e9, hrs, hmx]; try rfl), by (simp -dsimp -implicitDefEqProofs (maxSteps := 2000000) (disch := first | assumption | omega | (simp only [AW.next_push, AW.next_put]; omega) | ((repeat refine Fresh.push ?_ _); assumption) | (simp only [same_int, same_bool, same_ptr, same_slice, same_sliceP, same_nil, same_agg2, same_string]; done) | (simp [oneCell, AW.next_push]; done) | fail) only [go_sem, Nat.reduceEqDiff, reduceIte, Nat.reduceAdd, Int.toNat_natCast, Nat.add_zero, Owes_true, e10, hrs, hmx]; try rfl), by (simp -dsimp -implicitDefEqProofs (maxSteps := 2000000) (disch := first | assumption | omega | (simp only [AW.next_push, AW.next_put]; omega) | ((repeat refine Fresh.push ?_ _); assumption) | (simp only [same_int, same_bool, same_ptr, same_slice, same_sliceP, same_nil, same_agg2, same_string]; done) | (simp [oneCell, AW.next_push]; done) | fail) only [go_sem, Nat.reduceEqDiff, reduceIte, Nat.reduceAdd, Int.toNat_natCast, Nat.add_zero, Owes_true, e33, hrs, hmx]; try rfl), by (simp -dsimp -implicitDefEqProofs (maxSteps := 2000000) (disch := first | assumption | omega | (simp only [AW.next_push, AW.next_put]; omega) | ((repeat refine Fresh.push ?_ _); assumption) | (simp only [same_int, same_bool, same_ptr, same_slice, same_sliceP, same_nil, same_agg2, same_string]; done) | (simp [oneCell, AW.next_push]; done) | fail) only [go_sem, Nat.reduceEqDiff, reduceIte, Nat.reduceAdd, Int.toNat_natCast, Nat.add_zero, Owes_true, e34, hrs, hmx]; try rfl), by (simp -dsimp -implicitDefEqProofs (maxSteps := 2000000) (disch := first | assumption | omega | (simp only [AW.next_push, AW.next_put]; omega) | ((repeat refine Fresh.push ?_ _); assumption) | (simp only [same_int, same_bool, same_ptr, same_slice, same_sliceP, same_nil, same_agg2, same_string]; done) | (simp [oneCell, AW.next_push]; done) | fail) only [go_sem, Nat.reduceEqDiff, reduceIte, Nat.reduceAdd, Int.toNat_natCast, Nat.add_zero, Owes_true, e35, hrs, hmx]; try rfl), hg3⟩
  · rw [q2] at hrs
    rw [raceStep, if_pos (.inl (by omega))] at hrs
    simp -dsimp -implicitDefEqProofs (maxSteps := 2000000) (disch := first | assumption | omega | (simp only [AW.next_push, AW.next_put]; omega) | ((repeat refine Fresh.push ?_ _); assumption) | (simp only [same_int, same_bool, same_ptr, same_slice, same_sliceP, same_nil, same_agg2, same_string]; done) | (simp [oneCell, AW.next_push]; done) | fail) only [go_sem, Nat.reduceEqDiff, reduceIte, Nat.reduceAdd, Int.toNat_natCast, Nat.add_zero, Owes_true, Try.results22, e0, e8, e9, e10, e33, e34, e35, q1]
    refine ⟨_, by omega, j + 1, by omega, rfl, rfl, by (simp -dsimp -implicitDefEqProofs (maxSteps := 2000000) (disch := first | assumption | omega | (simp only [AW.next_push, AW.next_put]; omega) | ((repeat refine Fresh.push ?_ _); assumption) | (simp only [same_int, same_bool, same_ptr, same_slice, same_sliceP, same_nil, same_agg2, same_string]; done) | (simp [oneCell, AW.next_push]; done) | fail) only [go_sem, Nat.reduceEqDiff, reduceIte, Nat.reduceAdd, Int.toNat_natCast, Nat.add_zero, Owes_true, e0, hrs]; try rfl), by (simp -dsimp -implicitDefEqProofs (maxSteps := 2000000) (disch := first | assumption | omega | (simp only [AW.next_push, AW.next_put]; omega) | ((repeat refine Fresh.push ?_ _); assumption) | (simp only [same_int, same_bool, same_ptr, same_slice, same_sliceP, same_nil, same_agg2, same_string]; done) | (simp [oneCell, AW.next_push]; done) | fail) only [go_sem, Nat.reduceEqDiff, reduceIte, Nat.reduceAdd, Int.toNat_natCast, Nat.add_zero, Owes_true, e8, hrs]; try rfl), by (simp -dsimp -implicitDefEqProofs (maxSteps := 2000000) (disch := first | assumption | omega | (simp only [AW.next_push, AW.next_put]; omega) | ((repeat refine Fresh.push ?_ _); assumption) | (simp only [same_int, same_bool, same_ptr, same_slice, same_sliceP, same_nil, same_agg2, same_string]; done) | (simp [oneCell, AW.next_push]; done) | fail) only [go_sem, Nat.reduceEqDiff, reduceIte, Nat.reduceAdd, Int.toNat_natCast, Nat.add_zero, Owes_true, e9, hrs]; try rfl), by (simp -dsimp -implicitDefEqProofs (maxSteps := 2000000) (disch := first | assumption | omega | (simp only [AW.next_push, AW.next_put]; omega) | ((repeat refine Fresh.push ?_ _); assumption) | (simp only [same_int, same_bool, same_ptr, same_slice, same_sliceP, same_nil, same_agg2, same_string]; done) | (simp [oneCell, AW.next_push]; done) | fail) only [go_sem, Nat.reduceEqDiff, reduceIte, Nat.reduceAdd, Int.toNat_natCast, Nat.add_zero, Owes_true, e10, hrs]; try rfl), by (simp -dsimp -implicitDefEqProofs (maxSteps := 2000000) (disch := first | assumption | omega | (simp only [AW.next_push, AW.next_put]; omega) | ((repeat refine Fresh.push ?_ _); assumption) | (simp only [same_int, same_bool, same_ptr, same_slice, same_sliceP, same_nil, same_agg2, same_string]; done) | (simp [oneCell, AW.next_push]; done) | fail) only [go_sem, Nat.reduceEqDiff, reduceIte, Nat.reduceAdd, Int.toNat_natCast, Nat.add_zero, Owes_true, e33, hrs]; try rfl), by (simp -dsimp -implicitDefEqProofs (maxSteps := 2000000) (disch := first | assumption | omega | (simp only [AW.next_push, AW.next_put]; omega) | ((repeat refine Fresh.push ?_ _); assumption) | (simp only [same_int, same_bool, same_ptr, same_slice, same_sliceP, same_nil, same_agg2, same_string]; done) | (simp [oneCell, AW.next_push]; done) | fail) only [go_sem, Nat.reduceEqDiff, reduceIte, Nat.reduceAdd, Int.toNat_natCast, Nat.add_zero, Owes_true, e34, hrs]; try rfl), by (simp -dsimp -implicitDefEqProofs (maxSteps := 2000000) (disch := first | assumption | omega | (simp only [AW.next_push, AW.next_put]; omega) | ((repeat refine Fresh.push ?_ _); assumption) | (simp only [same_int, same_bool, same_ptr, same_slice, same_sliceP, same_nil, same_agg2, same_string]; done) | (simp [oneCell, AW.next_push]; done) | fail) only [go_sem, Nat.reduceEqDiff, reduceIte, Nat.reduceAdd, Int.toNat_natCast, Nat.add_zero, Owes_true, e35, hrs]; try rfl), hg3⟩
end Go.Proofs

/- Halves of tickets: Best as the chapter has it. -/
namespace Go.Proofs
open Go Go.RowKit Go.Sim
set_option maxRecDepth 100000
set_option maxHeartbeats 1000000 in
theorem refBest_ok (e : List Int) (rss : List (List Int)) (u x : Value) (w : AW) (f : Fresh w) (he : ArrOf w 1 icells u e) (hr : NumRows w x rss) :
    CallT Try.prog Try.T1 (.fn (.func 23) #[]) #[u, x] w (BestPost e rss w) := by
  obtain ⟨p0, cap0, rfl, _⟩ := id he.open
  obtain ⟨p, cap, rfl, hcap, hmax, hat⟩ := hr.open
  have hle : WLe w w := (Keep.refl _ _).wle f
  refine callT_code rfl Try.func23 rfl Try.s23_eq rfl ?_
  unfold Try.s23
  simp -dsimp -implicitDefEqProofs (maxSteps := 2000000) (disch := first | assumption | omega | (simp only [AW.next_push, AW.next_put]; omega) | ((repeat refine Fresh.push ?_ _); assumption) | (simp only [same_int, same_bool, same_ptr, same_slice, same_sliceP, same_nil, same_agg2, same_string]; done) | (simp [oneCell, AW.next_push]; done) | fail) only [go_sem, Nat.reduceEqDiff, reduceIte, Nat.reduceAdd, Int.toNat_natCast, Nat.add_zero, Owes_true, Try.results23]
  apply callV_of (e := rfl)
  · exact Edge_ok e _ w he
  rintro _ _ ⟨rfl, rfl⟩
  cases hA : cutB 0 e with
  | false =>
    simp -dsimp -implicitDefEqProofs (maxSteps := 2000000) (disch := first | assumption | omega | (simp only [AW.next_push, AW.next_put]; omega) | ((repeat refine Fresh.push ?_ _); assumption) | (simp only [same_int, same_bool, same_ptr, same_slice, same_sliceP, same_nil, same_agg2, same_string]; done) | (simp [oneCell, AW.next_push]; done) | fail) only [go_sem, Nat.reduceEqDiff, reduceIte, Nat.reduceAdd, Int.toNat_natCast, Nat.add_zero, Owes_true, Try.results23]
    exact .bad (by simp [okHs, hA]) (.refl f)
  | true =>
  by_cases h16 : 16 < (rss.length : Int)
  · simp -dsimp -implicitDefEqProofs (maxSteps := 2000000) (disch := first | assumption | omega | (simp only [AW.next_push, AW.next_put]; omega) | ((repeat refine Fresh.push ?_ _); assumption) | (simp only [same_int, same_bool, same_ptr, same_slice, same_sliceP, same_nil, same_agg2, same_string]; done) | (simp [oneCell, AW.next_push]; done) | fail) only [go_sem, Nat.reduceEqDiff, reduceIte, Nat.reduceAdd, Int.toNat_natCast, Nat.add_zero, Owes_true, Try.results23, h16]
    exact .bad (by simp [okHs]; omega) (.refl f)
  simp -dsimp -implicitDefEqProofs (maxSteps := 2000000) (disch := first | assumption | omega | (simp only [AW.next_push, AW.next_put]; omega) | ((repeat refine Fresh.push ?_ _); assumption) | (simp only [same_int, same_bool, same_ptr, same_slice, same_sliceP, same_nil, same_agg2, same_string]; done) | (simp [oneCell, AW.next_push]; done) | fail) only [go_sem, Nat.reduceEqDiff, reduceIte, Nat.reduceAdd, Int.toNat_natCast, Nat.add_zero, Owes_true, Try.results23, h16]
  refine loopR (fun k t ds w1 => ∃ i : Nat, i ≤ rss.length ∧ k = rss.length - i ∧ ds = [] ∧ ev t (.tmp 0) = .slice p0 e.length cap0 ∧ ev t (.tmp 1) = .slice p rss.length cap ∧ ev t (.tmp 6) = .int .i64 (i : Int) ∧ w = w1 ∧ ((rss.take i).all (cutB (-1))) = true) (rss.length) ?_ ?_
  · refine ⟨0, by omega, by omega, rfl, ?_, ?_, ?_, rfl, rfl⟩ <;> simp -dsimp -implicitDefEqProofs (maxSteps := 2000000) (disch := first | assumption | omega | (simp only [AW.next_push, AW.next_put]; omega) | ((repeat refine Fresh.push ?_ _); assumption) | (simp only [same_int, same_bool, same_ptr, same_slice, same_sliceP, same_nil, same_agg2, same_string]; done) | (simp [oneCell, AW.next_push]; done) | fail) only [go_sem, Nat.reduceEqDiff, reduceIte, Nat.reduceAdd, Int.toNat_natCast, Nat.add_zero, Owes_true] <;> rfl
  rintro k t ds w1 ⟨i, hii, rfl, rfl, e0, e1, e6, hw, hall⟩
  subst hw
  by_cases hlt : (i : Int) < (rss.length : Int)
  case pos =>
    have hlt' : i < rss.length := by omega
    obtain ⟨b1, o1, v, rfl, hb1, harr, hcell⟩ := hat i hlt'
    have hc0 := hcell w (.refl _ _)
    obtain ⟨p3, cap3, rfl, _⟩ := id harr.open
    simp -dsimp -implicitDefEqProofs (maxSteps := 2000000) (disch := first | assumption | omega | (simp only [AW.next_push, AW.next_put]; omega) | ((repeat refine Fresh.push ?_ _); assumption) | (simp only [same_int, same_bool, same_ptr, same_slice, same_sliceP, same_nil, same_agg2, same_string]; done) | (simp [oneCell, AW.next_push]; done) | fail) only [go_sem, Nat.reduceEqDiff, reduceIte, Nat.reduceAdd, Int.toNat_natCast, Nat.add_zero, Owes_true, Try.results23, e0, e1, e6, hlt, indexV_eq, hc0]
    apply callV_of (e := rfl)
    · exact Half_ok _ _ w harr
    rintro _ _ ⟨rfl, rfl⟩
    cases hB : cutB (-1) rss[i] with
    | true =>
      simp -dsimp -implicitDefEqProofs (maxSteps := 2000000) (disch := first | assumption | omega | (simp only [AW.next_push, AW.next_put]; omega) | ((repeat refine Fresh.push ?_ _); assumption) | (simp only [same_int, same_bool, same_ptr, same_slice, same_sliceP, same_nil, same_agg2, same_string]; done) | (simp [oneCell, AW.next_push]; done) | fail) only [go_sem, Nat.reduceEqDiff, reduceIte, Nat.reduceAdd, Int.toNat_natCast, Nat.add_zero, Owes_true, Try.results23, e0, e1, e6]
      refine ⟨_, by omega, i + 1, by omega, rfl, rfl, by (simp -dsimp -implicitDefEqProofs (maxSteps := 2000000) (disch := first | assumption | omega | (simp only [AW.next_push, AW.next_put]; omega) | ((repeat refine Fresh.push ?_ _); assumption) | (simp only [same_int, same_bool, same_ptr, same_slice, same_sliceP, same_nil, same_agg2, same_string]; done) | (simp [oneCell, AW.next_push]; done) | fail) only [go_sem, Nat.reduceEqDiff, reduceIte, Nat.reduceAdd, Int.toNat_natCast, Nat.add_zero, Owes_true, e0]; try rfl), by (simp -dsimp -implicitDefEqProofs (maxSteps := 2000000) (disch := first | assumption | omega | (simp only [AW.next_push, AW.next_put]; omega) | ((repeat refine Fresh.push ?_ _); assumption) | (simp only [same_int, same_bool, same_ptr, same_slice, same_sliceP, same_nil, same_agg2, same_string]; done) | (simp [oneCell, AW.next_push]; done) | fail) only [go_sem, Nat.reduceEqDiff, reduceIte, Nat.reduceAdd, Int.toNat_natCast, Nat.add_zero, Owes_true, e1]; try rfl), by (simp -dsimp -implicitDefEqProofs (maxSteps := 2000000) (disch := first | assumption | omega | (simp only [AW.next_push, AW.next_put]; omega) | ((repeat refine Fresh.push ?_ _); assumption) | (simp only [same_int, same_bool, same_ptr, same_slice, same_sliceP, same_nil, same_agg2, same_string]; done) | (simp [oneCell, AW.next_push]; done) | fail) only [go_sem, Nat.reduceEqDiff, reduceIte, Nat.reduceAdd, Int.toNat_natCast, Nat.add_zero, Owes_true, e6]; try rfl), rfl, by rw [List.take_succ_eq_append_getElem hlt', List.all_append, hall]; simp [hB]⟩
    | false =>
      simp -dsimp -implicitDefEqProofs (maxSteps := 2000000) (disch := first | assumption | omega | (simp only [AW.next_push, AW.next_put]; omega) | ((repeat refine Fresh.push ?_ _); assumption) | (simp only [same_int, same_bool, same_ptr, same_slice, same_sliceP, same_nil, same_agg2, same_string]; done) | (simp [oneCell, AW.next_push]; done) | fail) only [go_sem, Nat.reduceEqDiff, reduceIte, Nat.reduceAdd, Int.toNat_natCast, Nat.add_zero, Owes_true, Try.results23]
      refine .bad ?_ (.refl f)
      have : rss.all (cutB (-1)) = false := by
        rw [List.all_eq_false]; exact ⟨rss[i], List.getElem_mem hlt', by rw [hB]; simp⟩
      rw [okHs, this, Bool.and_false]
  have h2 : rss.take i = rss := List.take_of_length_le (by omega)
  rw [h2] at hall
  have hok : okHs e rss = true := by rw [okHs, hA, hall]; simp; omega
  simp -dsimp -implicitDefEqProofs (maxSteps := 2000000) (disch := first | assumption | omega | (simp only [AW.next_push, AW.next_put]; omega) | ((repeat refine Fresh.push ?_ _); assumption) | (simp only [same_int, same_bool, same_ptr, same_slice, same_sliceP, same_nil, same_agg2, same_string]; done) | (simp [oneCell, AW.next_push]; done) | fail) only [go_sem, Nat.reduceEqDiff, reduceIte, Nat.reduceAdd, Int.toNat_natCast, Nat.add_zero, Owes_true, Try.results23, e0, e1, e6, hlt]
  refine loopR (fun k t ds w1 => ∃ a : Nat, a ≤ rss.length ∧ k = rss.length - a ∧ ds = [] ∧ ev t (.tmp 0) = .slice p0 e.length cap0 ∧ ev t (.tmp 1) = .slice p rss.length cap ∧ ev t (.tmp 7) = .int .i64 (a : Int) ∧ w = w1 ∧ (∀ k, k < a → topTo (sc e rss) k rss.length = false)) (rss.length) ?_ ?_
  · refine ⟨0, by omega, by omega, rfl, ?_, ?_, ?_, rfl, fun k hk => by omega⟩ <;> simp -dsimp -implicitDefEqProofs (maxSteps := 2000000) (disch := first | assumption | omega | (simp only [AW.next_push, AW.next_put]; omega) | ((repeat refine Fresh.push ?_ _); assumption) | (simp only [same_int, same_bool, same_ptr, same_slice, same_sliceP, same_nil, same_agg2, same_string]; done) | (simp [oneCell, AW.next_push]; done) | fail) only [go_sem, Nat.reduceEqDiff, reduceIte, Nat.reduceAdd, Int.toNat_natCast, Nat.add_zero, Owes_true, e0, e1] <;> rfl
  rintro k t ds w1 ⟨a, hia, rfl, rfl, e0, e1, e7, hw, hno⟩
  subst hw
  by_cases hla : (a : Int) < (rss.length : Int)
  case neg =>
    simp -dsimp -implicitDefEqProofs (maxSteps := 2000000) (disch := first | assumption | omega | (simp only [AW.next_push, AW.next_put]; omega) | ((repeat refine Fresh.push ?_ _); assumption) | (simp only [same_int, same_bool, same_ptr, same_slice, same_sliceP, same_nil, same_agg2, same_string]; done) | (simp [oneCell, AW.next_push]; done) | fail) only [go_sem, Nat.reduceEqDiff, reduceIte, Nat.reduceAdd, Int.toNat_natCast, Nat.add_zero, Owes_true, Try.results23, e0, e1, e7, hla]
    exact .none hok (bestF_none fun k hk => hno k (by omega)) (.refl f)
  have hla' : a < rss.length := by omega
  obtain ⟨b1, o1, v, rfl, hb1, harr, hcell⟩ := hat a hla'
  have hc0 := hcell w (.refl _ _)
  obtain ⟨p3, cap3, rfl, _⟩ := id harr.open
  have hsa : scZ e rss[a] = sc e rss a := by rw [sc, getD_at hla']
  simp -dsimp -implicitDefEqProofs (maxSteps := 2000000) (disch := first | assumption | omega | (simp only [AW.next_push, AW.next_put]; omega) | ((repeat refine Fresh.push ?_ _); assumption) | (simp only [same_int, same_bool, same_ptr, same_slice, same_sliceP, same_nil, same_agg2, same_string]; done) | (simp [oneCell, AW.next_push]; done) | fail) only [go_sem, Nat.reduceEqDiff, reduceIte, Nat.reduceAdd, Int.toNat_natCast, Nat.add_zero, Owes_true, Try.results23, e0, e1, e7, hla, indexV_eq, hc0]
  apply callV_of (e := rfl)
  · exact refFit_ok e rss[a] _ _ w f he harr (cutB_lo (all_at hall hla'))
  rintro _ _ ⟨rfl, rfl⟩
  rw [hsa]
  simp -dsimp -implicitDefEqProofs (maxSteps := 2000000) (disch := first | assumption | omega | (simp only [AW.next_push, AW.next_put]; omega) | ((repeat refine Fresh.push ?_ _); assumption) | (simp only [same_int, same_bool, same_ptr, same_slice, same_sliceP, same_nil, same_agg2, same_string]; done) | (simp [oneCell, AW.next_push]; done) | fail) only [go_sem, Nat.reduceEqDiff, reduceIte, Nat.reduceAdd, Int.toNat_natCast, Nat.add_zero, Owes_true, Try.results23, e0, e1, e7]
  refine loopR (fun k t ds w1 => ∃ j : Nat, j ≤ rss.length ∧ k = rss.length - j ∧ ds = [] ∧ ev t (.tmp 0) = .slice p0 e.length cap0 ∧ ev t (.tmp 1) = .slice (some ⟨b1, o1, none⟩) rss.length cap ∧ ev t (.tmp 7) = .int .i64 (a : Int) ∧ ev t (.tmp 8) = .bool (topTo (sc e rss) a j) ∧ ev t (.tmp 9) = .int .i64 (j : Int) ∧ w = w1) (rss.length) ?_ ?_
  · refine ⟨0, by omega, by omega, rfl, ?_, ?_, ?_, ?_, ?_, rfl⟩ <;> simp -dsimp -implicitDefEqProofs (maxSteps := 2000000) (disch := first | assumption | omega | (simp only [AW.next_push, AW.next_put]; omega) | ((repeat refine Fresh.push ?_ _); assumption) | (simp only [same_int, same_bool, same_ptr, same_slice, same_sliceP, same_nil, same_agg2, same_string]; done) | (simp [oneCell, AW.next_push]; done) | fail) only [go_sem, Nat.reduceEqDiff, reduceIte, Nat.reduceAdd, Int.toNat_natCast, Nat.add_zero, Owes_true, e0, e1, e7, topTo, List.range_zero, List.all_nil, Bool.and_true, ge_iff_le] <;> rfl
  rintro k t ds w1 ⟨j, hij, rfl, rfl, e0, e1, e7, e8, e9, hw⟩
  subst hw
  by_cases hlj : (j : Int) < (rss.length : Int)
  case neg =>
    obtain rfl : j = rss.length := by omega
    cases ht : topTo (sc e rss) a rss.length with
    | true =>
      rw [ht] at e8
      simp -dsimp -implicitDefEqProofs (maxSteps := 2000000) (disch := first | assumption | omega | (simp only [AW.next_push, AW.next_put]; omega) | ((repeat refine Fresh.push ?_ _); assumption) | (simp only [same_int, same_bool, same_ptr, same_slice, same_sliceP, same_nil, same_agg2, same_string]; done) | (simp [oneCell, AW.next_push]; done) | fail) only [go_sem, Nat.reduceEqDiff, reduceIte, Nat.reduceAdd, Int.toNat_natCast, Nat.add_zero, Owes_true, Try.results23, e0, e1, e7, e8, e9, hlj]
      exact .some hok (bestF_of hla' ht) (.refl f)
    | false =>
      rw [ht] at e8
      simp -dsimp -implicitDefEqProofs (maxSteps := 2000000) (disch := first | assumption | omega | (simp only [AW.next_push, AW.next_put]; omega) | ((repeat refine Fresh.push ?_ _); assumption) | (simp only [same_int, same_bool, same_ptr, same_slice, same_sliceP, same_nil, same_agg2, same_string]; done) | (simp [oneCell, AW.next_push]; done) | fail) only [go_sem, Nat.reduceEqDiff, reduceIte, Nat.reduceAdd, Int.toNat_natCast, Nat.add_zero, Owes_true, Try.results23, e0, e1, e7, e8, e9, hlj]
      have hno2 : ∀ k, k < a + 1 → topTo (sc e rss) k rss.length = false := fun k hk => by
        by_cases q : k = a
        · rw [q, ht]
        · exact hno k (by omega)
      refine ⟨_, by omega, a + 1, by omega, rfl, rfl, by (simp -dsimp -implicitDefEqProofs (maxSteps := 2000000) (disch := first | assumption | omega | (simp only [AW.next_push, AW.next_put]; omega) | ((repeat refine Fresh.push ?_ _); assumption) | (simp only [same_int, same_bool, same_ptr, same_slice, same_sliceP, same_nil, same_agg2, same_string]; done) | (simp [oneCell, AW.next_push]; done) | fail) only [go_sem, Nat.reduceEqDiff, reduceIte, Nat.reduceAdd, Int.toNat_natCast, Nat.add_zero, Owes_true, e0]; try rfl), by (simp -dsimp -implicitDefEqProofs (maxSteps := 2000000) (disch := first | assumption | omega | (simp only [AW.next_push, AW.next_put]; omega) | ((repeat refine Fresh.push ?_ _); assumption) | (simp only [same_int, same_bool, same_ptr, same_slice, same_sliceP, same_nil, same_agg2, same_string]; done) | (simp [oneCell, AW.next_push]; done) | fail) only [go_sem, Nat.reduceEqDiff, reduceIte, Nat.reduceAdd, Int.toNat_natCast, Nat.add_zero, Owes_true, e1]; try rfl), by (simp -dsimp -implicitDefEqProofs (maxSteps := 2000000) (disch := first | assumption | omega | (simp only [AW.next_push, AW.next_put]; omega) | ((repeat refine Fresh.push ?_ _); assumption) | (simp only [same_int, same_bool, same_ptr, same_slice, same_sliceP, same_nil, same_agg2, same_string]; done) | (simp [oneCell, AW.next_push]; done) | fail) only [go_sem, Nat.reduceEqDiff, reduceIte, Nat.reduceAdd, Int.toNat_natCast, Nat.add_zero, Owes_true, e7]; try rfl), rfl, hno2⟩
  have hlj' : j < rss.length := by omega
  obtain ⟨b2, o2, v2, hp2, hb2, harr2, hcell2⟩ := hat j hlj'
  injection hp2 with hp2
  injection hp2 with hp3 hp4 hp5
  subst hp3 hp4
  have hd0 := hcell2 w (.refl _ _)
  obtain ⟨p4, cap4, rfl, _⟩ := id harr2.open
  have hsj : scZ e rss[j] = sc e rss j := by rw [sc, getD_at hlj']
  have hnext := topTo_succ (sc e rss) a j
  cases ht : topTo (sc e rss) a j with
  | false =>
    rw [ht] at e8 hnext
    rw [Bool.false_and] at hnext
    simp -dsimp -implicitDefEqProofs (maxSteps := 2000000) (disch := first | assumption | omega | (simp only [AW.next_push, AW.next_put]; omega) | ((repeat refine Fresh.push ?_ _); assumption) | (simp only [same_int, same_bool, same_ptr, same_slice, same_sliceP, same_nil, same_agg2, same_string]; done) | (simp [oneCell, AW.next_push]; done) | fail) only [go_sem, Nat.reduceEqDiff, reduceIte, Nat.reduceAdd, Int.toNat_natCast, Nat.add_zero, Owes_true, Try.results23, e0, e1, e7, e8, e9, hlj, indexV_eq, hc0, hd0]
    refine ⟨_, by omega, j + 1, by omega, rfl, rfl, by (simp -dsimp -implicitDefEqProofs (maxSteps := 2000000) (disch := first | assumption | omega | (simp only [AW.next_push, AW.next_put]; omega) | ((repeat refine Fresh.push ?_ _); assumption) | (simp only [same_int, same_bool, same_ptr, same_slice, same_sliceP, same_nil, same_agg2, same_string]; done) | (simp [oneCell, AW.next_push]; done) | fail) only [go_sem, Nat.reduceEqDiff, reduceIte, Nat.reduceAdd, Int.toNat_natCast, Nat.add_zero, Owes_true, e0, hnext]; try rfl), by (simp -dsimp -implicitDefEqProofs (maxSteps := 2000000) (disch := first | assumption | omega | (simp only [AW.next_push, AW.next_put]; omega) | ((repeat refine Fresh.push ?_ _); assumption) | (simp only [same_int, same_bool, same_ptr, same_slice, same_sliceP, same_nil, same_agg2, same_string]; done) | (simp [oneCell, AW.next_push]; done) | fail) only [go_sem, Nat.reduceEqDiff, reduceIte, Nat.reduceAdd, Int.toNat_natCast, Nat.add_zero, Owes_true, e1, hnext]; try rfl), by (simp -dsimp -implicitDefEqProofs (maxSteps := 2000000) (disch := first | assumption | omega | (simp only [AW.next_push, AW.next_put]; omega) | ((repeat refine Fresh.push ?_ _); assumption) | (simp only [same_int, same_bool, same_ptr, same_slice, same_sliceP, same_nil, same_agg2, same_string]; done) | (simp [oneCell, AW.next_push]; done) | fail) only [go_sem, Nat.reduceEqDiff, reduceIte, Nat.reduceAdd, Int.toNat_natCast, Nat.add_zero, Owes_true, e7, hnext]; try rfl), by (simp -dsimp -implicitDefEqProofs (maxSteps := 2000000) (disch := first | assumption | omega | (simp only [AW.next_push, AW.next_put]; omega) | ((repeat refine Fresh.push ?_ _); assumption) | (simp only [same_int, same_bool, same_ptr, same_slice, same_sliceP, same_nil, same_agg2, same_string]; done) | (simp [oneCell, AW.next_push]; done) | fail) only [go_sem, Nat.reduceEqDiff, reduceIte, Nat.reduceAdd, Int.toNat_natCast, Nat.add_zero, Owes_true, e8, hnext]; try rfl), by (simp -dsimp -implicitDefEqProofs (maxSteps := 2000000) (disch := first | assumption | omega | (simp only [AW.next_push, AW.next_put]; omega) | ((repeat refine Fresh.push ?_ _); assumption) | (simp only [same_int, same_bool, same_ptr, same_slice, same_sliceP, same_nil, same_agg2, same_string]; done) | (simp [oneCell, AW.next_push]; done) | fail) only [go_sem, Nat.reduceEqDiff, reduceIte, Nat.reduceAdd, Int.toNat_natCast, Nat.add_zero, Owes_true, e9, hnext]; try rfl), rfl⟩
  | true =>
    rw [ht] at e8 hnext
    rw [Bool.true_and] at hnext
    by_cases hja : (j : Int) = (a : Int)
    · have hd : decide ((j : Int) = (a : Int)) = true := decide_eq_true hja
      have hd2 : decide (j = a) = true := decide_eq_true (by omega)
      rw [hd2, Bool.true_or] at hnext
      simp -dsimp -implicitDefEqProofs (maxSteps := 2000000) (disch := first | assumption | omega | (simp only [AW.next_push, AW.next_put]; omega) | ((repeat refine Fresh.push ?_ _); assumption) | (simp only [same_int, same_bool, same_ptr, same_slice, same_sliceP, same_nil, same_agg2, same_string]; done) | (simp [oneCell, AW.next_push]; done) | fail) only [go_sem, Nat.reduceEqDiff, reduceIte, Nat.reduceAdd, Int.toNat_natCast, Nat.add_zero, Owes_true, Try.results23, e0, e1, e7, e8, e9, hlj, indexV_eq, hc0, hd0, hd]
      refine ⟨_, by omega, j + 1, by omega, rfl, rfl, by (simp -dsimp -implicitDefEqProofs (maxSteps := 2000000) (disch := first | assumption | omega | (simp only [AW.next_push, AW.next_put]; omega) | ((repeat refine Fresh.push ?_ _); assumption) | (simp only [same_int, same_bool, same_ptr, same_slice, same_sliceP, same_nil, same_agg2, same_string]; done) | (simp [oneCell, AW.next_push]; done) | fail) only [go_sem, Nat.reduceEqDiff, reduceIte, Nat.reduceAdd, Int.toNat_natCast, Nat.add_zero, Owes_true, e0, hnext]; try rfl), by (simp -dsimp -implicitDefEqProofs (maxSteps := 2000000) (disch := first | assumption | omega | (simp only [AW.next_push, AW.next_put]; omega) | ((repeat refine Fresh.push ?_ _); assumption) | (simp only [same_int, same_bool, same_ptr, same_slice, same_sliceP, same_nil, same_agg2, same_string]; done) | (simp [oneCell, AW.next_push]; done) | fail) only [go_sem, Nat.reduceEqDiff, reduceIte, Nat.reduceAdd, Int.toNat_natCast, Nat.add_zero, Owes_true, e1, hnext]; try rfl), by (simp -dsimp -implicitDefEqProofs (maxSteps := 2000000) (disch := first | assumption | omega | (simp only [AW.next_push, AW.next_put]; omega) | ((repeat refine Fresh.push ?_ _); assumption) | (simp only [same_int, same_bool, same_ptr, same_slice, same_sliceP, same_nil, same_agg2, same_string]; done) | (simp [oneCell, AW.next_push]; done) | fail) only [go_sem, Nat.reduceEqDiff, reduceIte, Nat.reduceAdd, Int.toNat_natCast, Nat.add_zero, Owes_true, e7, hnext]; try rfl), by (simp -dsimp -implicitDefEqProofs (maxSteps := 2000000) (disch := first | assumption | omega | (simp only [AW.next_push, AW.next_put]; omega) | ((repeat refine Fresh.push ?_ _); assumption) | (simp only [same_int, same_bool, same_ptr, same_slice, same_sliceP, same_nil, same_agg2, same_string]; done) | (simp [oneCell, AW.next_push]; done) | fail) only [go_sem, Nat.reduceEqDiff, reduceIte, Nat.reduceAdd, Int.toNat_natCast, Nat.add_zero, Owes_true, e8, hnext]; try rfl), by (simp -dsimp -implicitDefEqProofs (maxSteps := 2000000) (disch := first | assumption | omega | (simp only [AW.next_push, AW.next_put]; omega) | ((repeat refine Fresh.push ?_ _); assumption) | (simp only [same_int, same_bool, same_ptr, same_slice, same_sliceP, same_nil, same_agg2, same_string]; done) | (simp [oneCell, AW.next_push]; done) | fail) only [go_sem, Nat.reduceEqDiff, reduceIte, Nat.reduceAdd, Int.toNat_natCast, Nat.add_zero, Owes_true, e9, hnext]; try rfl), rfl⟩
    · have hd2 : decide (j = a) = false := decide_eq_false (by omega)
      rw [hd2, Bool.false_or] at hnext
      simp -dsimp -implicitDefEqProofs (maxSteps := 2000000) (disch := first | assumption | omega | (simp only [AW.next_push, AW.next_put]; omega) | ((repeat refine Fresh.push ?_ _); assumption) | (simp only [same_int, same_bool, same_ptr, same_slice, same_sliceP, same_nil, same_agg2, same_string]; done) | (simp [oneCell, AW.next_push]; done) | fail) only [go_sem, Nat.reduceEqDiff, reduceIte, Nat.reduceAdd, Int.toNat_natCast, Nat.add_zero, Owes_true, Try.results23, e0, e1, e7, e8, e9, hlj, indexV_eq, hc0, hd0, hja]
      apply callV_of (e := rfl)
      · exact refFit_ok e rss[j] _ _ w f he harr2 (cutB_lo (all_at hall hlj'))
      rintro _ _ ⟨rfl, rfl⟩
      simp -dsimp -implicitDefEqProofs (maxSteps := 2000000) (disch := first | assumption | omega | (simp only [AW.next_push, AW.next_put]; omega) | ((repeat refine Fresh.push ?_ _); assumption) | (simp only [same_int, same_bool, same_ptr, same_slice, same_sliceP, same_nil, same_agg2, same_string]; done) | (simp [oneCell, AW.next_push]; done) | fail) only [go_sem, Nat.reduceEqDiff, reduceIte, Nat.reduceAdd, Int.toNat_natCast, Nat.add_zero, Owes_true, Try.results23, e0, e1, e7, e8, e9, indexV_eq, hc0, hd0, hle]
      apply callV_of (e := rfl)
      · exact refFit_ok e rss[a] _ _ w f he harr (cutB_lo (all_at hall hla'))
      rintro _ _ ⟨rfl, rfl⟩
      rw [hsa, hsj]
      simp -dsimp -implicitDefEqProofs (maxSteps := 2000000) (disch := first | assumption | omega | (simp only [AW.next_push, AW.next_put]; omega) | ((repeat refine Fresh.push ?_ _); assumption) | (simp only [same_int, same_bool, same_ptr, same_slice, same_sliceP, same_nil, same_agg2, same_string]; done) | (simp [oneCell, AW.next_push]; done) | fail) only [go_sem, Nat.reduceEqDiff, reduceIte, Nat.reduceAdd, Int.toNat_natCast, Nat.add_zero, Owes_true, Try.results23, e0, e1, e7, e8, e9]
      refine ⟨_, by omega, j + 1, by omega, rfl, rfl, by (simp -dsimp -implicitDefEqProofs (maxSteps := 2000000) (disch := first | assumption | omega | (simp only [AW.next_push, AW.next_put]; omega) | ((repeat refine Fresh.push ?_ _); assumption) | (simp only [same_int, same_bool, same_ptr, same_slice, same_sliceP, same_nil, same_agg2, same_string]; done) | (simp [oneCell, AW.next_push]; done) | fail) only [go_sem, Nat.reduceEqDiff, reduceIte, Nat.reduceAdd, Int.toNat_natCast, Nat.add_zero, Owes_true, e0, hnext]; try rfl), by (simp -dsimp -implicitDefEqProofs (maxSteps := 2000000) (disch := first | assumption | omega | (simp only [AW.next_push, AW.next_put]; omega) | ((repeat refine Fresh.push ?_ _); assumption) | (simp only [same_int, same_bool, same_ptr, same_slice, same_sliceP, same_nil, same_agg2, same_string]; done) | (simp [oneCell, AW.next_push]; done) | fail) only [go_sem, Nat.reduceEqDiff, reduceIte, Nat.reduceAdd, Int.toNat_natCast, Nat.add_zero, Owes_true, e1, hnext]; try rfl), by (simp -dsimp -implicitDefEqProofs (maxSteps := 2000000) (disch := first | assumption | omega | (simp only [AW.next_push, AW.next_put]; omega) | ((repeat refine Fresh.push ?_ _); assumption) | (simp only [same_int, same_bool, same_ptr, same_slice, same_sliceP, same_nil, same_agg2, same_string]; done) | (simp [oneCell, AW.next_push]; done) | fail) only [go_sem, Nat.reduceEqDiff, reduceIte, Nat.reduceAdd, Int.toNat_natCast, Nat.add_zero, Owes_true, e7, hnext]; try rfl), by (simp -dsimp -implicitDefEqProofs (maxSteps := 2000000) (disch := first | assumption | omega | (simp only [AW.next_push, AW.next_put]; omega) | ((repeat refine Fresh.push ?_ _); assumption) | (simp only [same_int, same_bool, same_ptr, same_slice, same_sliceP, same_nil, same_agg2, same_string]; done) | (simp [oneCell, AW.next_push]; done) | fail) only [go_sem, Nat.reduceEqDiff, reduceIte, Nat.reduceAdd, Int.toNat_natCast, Nat.add_zero, Owes_true, e8, hnext]; try rfl), by (simp -dsimp -implicitDefEqProofs (maxSteps := 2000000) (disch := first | assumption | omega | (simp only [AW.next_push, AW.next_put]; omega) | ((repeat refine Fresh.push ?_ _); assumption) | (simp only [same_int, same_bool, same_ptr, same_slice, same_sliceP, same_nil, same_agg2, same_string]; done) | (simp [oneCell, AW.next_push]; done) | fail) only [go_sem, Nat.reduceEqDiff, reduceIte, Nat.reduceAdd, Int.toNat_natCast, Nat.add_zero, Owes_true, e9, hnext]; try rfl), rfl⟩
end Go.Proofs
