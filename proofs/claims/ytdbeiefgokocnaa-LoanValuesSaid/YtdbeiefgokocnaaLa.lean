/- Terms: contracts of what is lent. -/
import Derived.Test.YtdbeiefgokocnaaKa
import Derived.Test.YtdbeiefgokocnaaTc
set_option linter.unusedVariables false
set_option linter.unusedSimpArgs false
/- Terms: what is lent. -/
namespace Go.Proofs
open Go Go.RowKit Go.Sim
set_option maxRecDepth 100000
def termsB (F L C : Int) : Bool := inR 0 F 64 && inR 0 C 1073741824 && inR 0 L C
def termsE (F L C : Int) : Int := if termsB F L C = true then 0 else 22
theorem termsE_bad {F L C : Int} (h : termsB F L C = false) : termsE F L C = 22 := by rw [termsE, h]; rfl
theorem CheckTerms_ok (F L C : Int) (w : AW) (f : Fresh w) : CallT Try.prog Try.T1 (.fn (.func 24) #[]) #[.agg #[.int .i64 F, .int .i64 L, .int .i64 C]] w (Ret (.int .i64 (termsE F L C)) (Grown w)) := by
  have g := (Grown.refl f).push (.cells [.int .i64 F, .int .i64 L, .int .i64 C] 40 w.next 0 0)
  refine callT_code rfl Try.func24 rfl Try.s24_eq rfl ?_
  unfold Try.s24
  simp -dsimp -implicitDefEqProofs (maxSteps := 2000000) (disch := first | assumption | omega | (simp only [AW.next_push, AW.next_put]; omega) | ((repeat refine Fresh.push ?_ _); assumption) | (simp only [same_int, same_bool, same_ptr, same_slice, same_sliceP, same_nil, same_agg2, same_string]; done) | (simp [oneCell, AW.next_push]; done) | fail) only [go_sem, Nat.reduceEqDiff, reduceIte, Nat.reduceAdd, Int.toNat_natCast, Nat.add_zero, Owes_true, Try.results24, Nat.zero_add]
  apply callV_of (e := rfl)
  · exact within_ok _ _ _ _
  rintro _ _ ⟨rfl, rfl⟩
  cases h1 : inR 0 F 64 with
  | false =>
    simp -dsimp -implicitDefEqProofs (maxSteps := 2000000) (disch := first | assumption | omega | (simp only [AW.next_push, AW.next_put]; omega) | ((repeat refine Fresh.push ?_ _); assumption) | (simp only [same_int, same_bool, same_ptr, same_slice, same_sliceP, same_nil, same_agg2, same_string]; done) | (simp [oneCell, AW.next_push]; done) | fail) only [go_sem, Nat.reduceEqDiff, reduceIte, Nat.reduceAdd, Int.toNat_natCast, Nat.add_zero, Owes_true, Try.results24]
    exact ⟨by rw [termsE_bad (by rw [termsB, h1]; rfl)], g⟩
  | true =>
  simp -dsimp -implicitDefEqProofs (maxSteps := 2000000) (disch := first | assumption | omega | (simp only [AW.next_push, AW.next_put]; omega) | ((repeat refine Fresh.push ?_ _); assumption) | (simp only [same_int, same_bool, same_ptr, same_slice, same_sliceP, same_nil, same_agg2, same_string]; done) | (simp [oneCell, AW.next_push]; done) | fail) only [go_sem, Nat.reduceEqDiff, reduceIte, Nat.reduceAdd, Int.toNat_natCast, Nat.add_zero, Owes_true, Try.results24, Nat.zero_add]
  apply callV_of (e := rfl)
  · exact within_ok _ _ _ _
  rintro _ _ ⟨rfl, rfl⟩
  cases h2 : inR 0 C 1073741824 with
  | false =>
    simp -dsimp -implicitDefEqProofs (maxSteps := 2000000) (disch := first | assumption | omega | (simp only [AW.next_push, AW.next_put]; omega) | ((repeat refine Fresh.push ?_ _); assumption) | (simp only [same_int, same_bool, same_ptr, same_slice, same_sliceP, same_nil, same_agg2, same_string]; done) | (simp [oneCell, AW.next_push]; done) | fail) only [go_sem, Nat.reduceEqDiff, reduceIte, Nat.reduceAdd, Int.toNat_natCast, Nat.add_zero, Owes_true, Try.results24]
    exact ⟨by rw [termsE_bad (by rw [termsB, h2, Bool.and_false]; rfl)], g⟩
  | true =>
  simp -dsimp -implicitDefEqProofs (maxSteps := 2000000) (disch := first | assumption | omega | (simp only [AW.next_push, AW.next_put]; omega) | ((repeat refine Fresh.push ?_ _); assumption) | (simp only [same_int, same_bool, same_ptr, same_slice, same_sliceP, same_nil, same_agg2, same_string]; done) | (simp [oneCell, AW.next_push]; done) | fail) only [go_sem, Nat.reduceEqDiff, reduceIte, Nat.reduceAdd, Int.toNat_natCast, Nat.add_zero, Owes_true, Try.results24, Nat.zero_add]
  apply callV_of (e := rfl)
  · exact within_ok _ _ _ _
  rintro _ _ ⟨rfl, rfl⟩
  cases h3 : inR 0 L C with
  | false =>
    simp -dsimp -implicitDefEqProofs (maxSteps := 2000000) (disch := first | assumption | omega | (simp only [AW.next_push, AW.next_put]; omega) | ((repeat refine Fresh.push ?_ _); assumption) | (simp only [same_int, same_bool, same_ptr, same_slice, same_sliceP, same_nil, same_agg2, same_string]; done) | (simp [oneCell, AW.next_push]; done) | fail) only [go_sem, Nat.reduceEqDiff, reduceIte, Nat.reduceAdd, Int.toNat_natCast, Nat.add_zero, Owes_true, Try.results24]
    exact ⟨by rw [termsE_bad (by rw [termsB, h3, Bool.and_false])], g⟩
  | true =>
  simp -dsimp -implicitDefEqProofs (maxSteps := 2000000) (disch := first | assumption | omega | (simp only [AW.next_push, AW.next_put]; omega) | ((repeat refine Fresh.push ?_ _); assumption) | (simp only [same_int, same_bool, same_ptr, same_slice, same_sliceP, same_nil, same_agg2, same_string]; done) | (simp [oneCell, AW.next_push]; done) | fail) only [go_sem, Nat.reduceEqDiff, reduceIte, Nat.reduceAdd, Int.toNat_natCast, Nat.add_zero, Owes_true, Try.results24]
  exact ⟨by rw [termsE, termsB, h1, h2, h3]; rfl, g⟩
theorem refCheckTerms_ok (F L C : Int) (w : AW) (f : Fresh w) : CallT Try.prog Try.T1 (.fn (.func 25) #[]) #[.agg #[.int .i64 F, .int .i64 L, .int .i64 C]] w (Ret (.int .i64 (termsE F L C)) (Grown w)) := by
  have g := (Grown.refl f).push (.cells [.int .i64 F, .int .i64 L, .int .i64 C] 40 w.next 0 0)
  refine callT_code rfl Try.func25 rfl Try.s25_eq rfl ?_
  unfold Try.s25
  simp -dsimp -implicitDefEqProofs (maxSteps := 2000000) (disch := first | assumption | omega | (simp only [AW.next_push, AW.next_put]; omega) | ((repeat refine Fresh.push ?_ _); assumption) | (simp only [same_int, same_bool, same_ptr, same_slice, same_sliceP, same_nil, same_agg2, same_string]; done) | (simp [oneCell, AW.next_push]; done) | fail) only [go_sem, Nat.reduceEqDiff, reduceIte, Nat.reduceAdd, Int.toNat_natCast, Nat.add_zero, Owes_true, Try.results25, Nat.zero_add]
  apply callV_of (e := rfl)
  · exact From_ok _ _ _ _
  rintro _ _ ⟨rfl, rfl⟩
  cases h1 : inR 0 F 64 with
  | false =>
    simp -dsimp -implicitDefEqProofs (maxSteps := 2000000) (disch := first | assumption | omega | (simp only [AW.next_push, AW.next_put]; omega) | ((repeat refine Fresh.push ?_ _); assumption) | (simp only [same_int, same_bool, same_ptr, same_slice, same_sliceP, same_nil, same_agg2, same_string]; done) | (simp [oneCell, AW.next_push]; done) | fail) only [go_sem, Nat.reduceEqDiff, reduceIte, Nat.reduceAdd, Int.toNat_natCast, Nat.add_zero, Owes_true, Try.results25]
    exact ⟨by rw [termsE_bad (by rw [termsB, h1]; rfl)], g⟩
  | true =>
  simp -dsimp -implicitDefEqProofs (maxSteps := 2000000) (disch := first | assumption | omega | (simp only [AW.next_push, AW.next_put]; omega) | ((repeat refine Fresh.push ?_ _); assumption) | (simp only [same_int, same_bool, same_ptr, same_slice, same_sliceP, same_nil, same_agg2, same_string]; done) | (simp [oneCell, AW.next_push]; done) | fail) only [go_sem, Nat.reduceEqDiff, reduceIte, Nat.reduceAdd, Int.toNat_natCast, Nat.add_zero, Owes_true, Try.results25, Nat.zero_add]
  apply callV_of (e := rfl)
  · exact From_ok _ _ _ _
  rintro _ _ ⟨rfl, rfl⟩
  cases h2 : inR 0 C 1073741824 with
  | false =>
    simp -dsimp -implicitDefEqProofs (maxSteps := 2000000) (disch := first | assumption | omega | (simp only [AW.next_push, AW.next_put]; omega) | ((repeat refine Fresh.push ?_ _); assumption) | (simp only [same_int, same_bool, same_ptr, same_slice, same_sliceP, same_nil, same_agg2, same_string]; done) | (simp [oneCell, AW.next_push]; done) | fail) only [go_sem, Nat.reduceEqDiff, reduceIte, Nat.reduceAdd, Int.toNat_natCast, Nat.add_zero, Owes_true, Try.results25]
    exact ⟨by rw [termsE_bad (by rw [termsB, h2, Bool.and_false]; rfl)], g⟩
  | true =>
  simp -dsimp -implicitDefEqProofs (maxSteps := 2000000) (disch := first | assumption | omega | (simp only [AW.next_push, AW.next_put]; omega) | ((repeat refine Fresh.push ?_ _); assumption) | (simp only [same_int, same_bool, same_ptr, same_slice, same_sliceP, same_nil, same_agg2, same_string]; done) | (simp [oneCell, AW.next_push]; done) | fail) only [go_sem, Nat.reduceEqDiff, reduceIte, Nat.reduceAdd, Int.toNat_natCast, Nat.add_zero, Owes_true, Try.results25, Nat.zero_add]
  apply callV_of (e := rfl)
  · exact From_ok _ _ _ _
  rintro _ _ ⟨rfl, rfl⟩
  cases h3 : inR 0 L C with
  | false =>
    simp -dsimp -implicitDefEqProofs (maxSteps := 2000000) (disch := first | assumption | omega | (simp only [AW.next_push, AW.next_put]; omega) | ((repeat refine Fresh.push ?_ _); assumption) | (simp only [same_int, same_bool, same_ptr, same_slice, same_sliceP, same_nil, same_agg2, same_string]; done) | (simp [oneCell, AW.next_push]; done) | fail) only [go_sem, Nat.reduceEqDiff, reduceIte, Nat.reduceAdd, Int.toNat_natCast, Nat.add_zero, Owes_true, Try.results25]
    exact ⟨by rw [termsE_bad (by rw [termsB, h3, Bool.and_false])], g⟩
  | true =>
  simp -dsimp -implicitDefEqProofs (maxSteps := 2000000) (disch := first | assumption | omega | (simp only [AW.next_push, AW.next_put]; omega) | ((repeat refine Fresh.push ?_ _); assumption) | (simp only [same_int, same_bool, same_ptr, same_slice, same_sliceP, same_nil, same_agg2, same_string]; done) | (simp [oneCell, AW.next_push]; done) | fail) only [go_sem, Nat.reduceEqDiff, reduceIte, Nat.reduceAdd, Int.toNat_natCast, Nat.add_zero, Owes_true, Try.results25]
  exact ⟨by rw [termsE, termsB, h1, h2, h3]; rfl, g⟩
def spanB (a b M : Int) : Bool := decide (0 ≤ a) && decide (a ≤ b) && decide (b ≤ M)
theorem isSpan_ok (a b M : Int) (w : AW) (f : Fresh w) : CallT Try.prog Try.T1 (.fn (.func 53) #[]) #[.agg #[.int .i64 a, .int .i64 b], .int .i64 M] w (Ret (.bool (spanB a b M)) (Grown w)) := by
  have g := (Grown.refl f).push (.cells [.int .i64 a, .int .i64 b] 27 w.next 0 0)
  refine callT_code rfl Try.func53 rfl Try.s53_eq rfl ?_
  unfold Try.s53
  by_cases h1 : 0 ≤ a
  · by_cases h2 : a ≤ b
    · simp -dsimp -implicitDefEqProofs (maxSteps := 2000000) (disch := first | assumption | omega | (simp only [AW.next_push, AW.next_put]; omega) | ((repeat refine Fresh.push ?_ _); assumption) | (simp only [same_int, same_bool, same_ptr, same_slice, same_sliceP, same_nil, same_agg2, same_string]; done) | (simp [oneCell, AW.next_push]; done) | fail) only [go_sem, Nat.reduceEqDiff, reduceIte, Nat.reduceAdd, Int.toNat_natCast, Nat.add_zero, Owes_true, Try.results53, Nat.zero_add, h1, h2]
      exact ⟨by simp [spanB, h1, h2], g⟩
    · simp -dsimp -implicitDefEqProofs (maxSteps := 2000000) (disch := first | assumption | omega | (simp only [AW.next_push, AW.next_put]; omega) | ((repeat refine Fresh.push ?_ _); assumption) | (simp only [same_int, same_bool, same_ptr, same_slice, same_sliceP, same_nil, same_agg2, same_string]; done) | (simp [oneCell, AW.next_push]; done) | fail) only [go_sem, Nat.reduceEqDiff, reduceIte, Nat.reduceAdd, Int.toNat_natCast, Nat.add_zero, Owes_true, Try.results53, Nat.zero_add, h1, h2]
      exact ⟨by simp [spanB, h1, h2], g⟩
  · simp -dsimp -implicitDefEqProofs (maxSteps := 2000000) (disch := first | assumption | omega | (simp only [AW.next_push, AW.next_put]; omega) | ((repeat refine Fresh.push ?_ _); assumption) | (simp only [same_int, same_bool, same_ptr, same_slice, same_sliceP, same_nil, same_agg2, same_string]; done) | (simp [oneCell, AW.next_push]; done) | fail) only [go_sem, Nat.reduceEqDiff, reduceIte, Nat.reduceAdd, Int.toNat_natCast, Nat.add_zero, Owes_true, Try.results53, Nat.zero_add, h1]
    exact ⟨by simp [spanB, h1], g⟩
theorem span_ok (a b M : Int) (w : AW) (f : Fresh w) : CallT Try.prog Try.T1 (.fn (.func 54) #[]) #[.agg #[.int .i64 a, .int .i64 b], .int .i64 0, .int .i64 M] w (Ret (.bool (spanB a b M)) (Grown w)) := by
  have g := (Grown.refl f).push (.cells [.int .i64 a, .int .i64 b] 27 w.next 0 0)
  refine callT_code rfl Try.func54 rfl Try.s54_eq rfl ?_
  unfold Try.s54
  by_cases h1 : 0 ≤ a
  · have h1' : decide (a ≥ 0) = true := decide_eq_true h1
    by_cases h2 : a ≤ b
    · simp -dsimp -implicitDefEqProofs (maxSteps := 2000000) (disch := first | assumption | omega | (simp only [AW.next_push, AW.next_put]; omega) | ((repeat refine Fresh.push ?_ _); assumption) | (simp only [same_int, same_bool, same_ptr, same_slice, same_sliceP, same_nil, same_agg2, same_string]; done) | (simp [oneCell, AW.next_push]; done) | fail) only [go_sem, Nat.reduceEqDiff, reduceIte, Nat.reduceAdd, Int.toNat_natCast, Nat.add_zero, Owes_true, Try.results54, Nat.zero_add, h1, h1', h2]
      exact ⟨by simp [spanB, h1, h2], g⟩
    · simp -dsimp -implicitDefEqProofs (maxSteps := 2000000) (disch := first | assumption | omega | (simp only [AW.next_push, AW.next_put]; omega) | ((repeat refine Fresh.push ?_ _); assumption) | (simp only [same_int, same_bool, same_ptr, same_slice, same_sliceP, same_nil, same_agg2, same_string]; done) | (simp [oneCell, AW.next_push]; done) | fail) only [go_sem, Nat.reduceEqDiff, reduceIte, Nat.reduceAdd, Int.toNat_natCast, Nat.add_zero, Owes_true, Try.results54, Nat.zero_add, h1, h1', h2]
      exact ⟨by simp [spanB, h1, h2], g⟩
  · have h1' : decide (a ≥ 0) = false := decide_eq_false h1
    simp -dsimp -implicitDefEqProofs (maxSteps := 2000000) (disch := first | assumption | omega | (simp only [AW.next_push, AW.next_put]; omega) | ((repeat refine Fresh.push ?_ _); assumption) | (simp only [same_int, same_bool, same_ptr, same_slice, same_sliceP, same_nil, same_agg2, same_string]; done) | (simp [oneCell, AW.next_push]; done) | fail) only [go_sem, Nat.reduceEqDiff, reduceIte, Nat.reduceAdd, Int.toNat_natCast, Nat.add_zero, Owes_true, Try.results54, Nat.zero_add, h1, h1']
    exact ⟨by simp [spanB, h1], g⟩
theorem Down_ok (a : Int) (h0 : 0 ≤ a) (h1 : a ≤ 1000000000000) (w : AW) : CallT Try.prog Try.T1 (.fn (.func 34) #[]) #[.int .i64 a, .int .i64 64] w (Ret (.int .i64 (a / 64)) fun w' => w = w') := by
  have hq : a.tdiv 64 = a / 64 := Int.tdiv_eq_ediv_of_nonneg h0
  have hb : 0 ≤ a / 64 ∧ a / 64 ≤ a := by omega
  have hno : ¬ a < a / 64 * 64 := by omega
  have h640 : ¬ (64 : Int) = 0 := by decide
  refine callT_code rfl Try.func34 rfl Try.s34_eq rfl ?_
  unfold Try.s34
  simp -dsimp -implicitDefEqProofs (maxSteps := 2000000) (disch := first | assumption | omega | (simp only [AW.next_push, AW.next_put]; omega) | ((repeat refine Fresh.push ?_ _); assumption) | (simp only [same_int, same_bool, same_ptr, same_slice, same_sliceP, same_nil, same_agg2, same_string]; done) | (simp [oneCell, AW.next_push]; done) | fail) only [go_sem, Nat.reduceEqDiff, reduceIte, Nat.reduceAdd, Int.toNat_natCast, Nat.add_zero, Owes_true, Try.results34, hq, hno, h640]
  exact ⟨rfl, rfl⟩
def mostZ (F L C a : Int) : Int := min (if a * F / 64 < L then min L a else a * F / 64) C
theorem mul_in {a F : Int} (h0 : 0 ≤ a) (h1 : a ≤ 2147483648) (h2 : 0 ≤ F) (h3 : F ≤ 64) : 0 ≤ a * F ∧ a * F ≤ 137438953472 := by
  refine ⟨Int.mul_nonneg h0 h2, ?_⟩
  have := Int.mul_le_mul h1 h3 h2 (by omega)
  omega
theorem most_ok (F L C a b : Int) (hF : 0 ≤ F ∧ F ≤ 64) (ha : 0 ≤ a ∧ a ≤ 2147483648) (w : AW) (f : Fresh w) :
    CallT Try.prog Try.T1 (.fn (.func 55) #[]) #[.agg #[.int .i64 F, .int .i64 L, .int .i64 C], .agg #[.int .i64 a, .int .i64 b]] w (Ret (.int .i64 (mostZ F L C a)) (Grown w)) := by
  have g := ((Grown.refl f).push (.cells [.int .i64 F, .int .i64 L, .int .i64 C] 40 w.next 0 0)).push (.cells [.int .i64 a, .int .i64 b] 27 (w.next + 1) 0 0)
  have hO := (Own.new f 40 [.int .i64 F, .int .i64 L, .int .i64 C]).push (.cells [.int .i64 a, .int .i64 b] 27 (w.next + 1) 0 0)
  have c0 := hO.cell (o := 0) rfl rfl
  have c1 := hO.cell (o := 1) rfl rfl
  have c2 := hO.cell (o := 2) rfl rfl
  have h640 : ¬ (64 : Int) = 0 := by decide
  have hm := mul_in ha.1 ha.2 hF.1 hF.2
  have hq : (a * F).tdiv 64 = a * F / 64 := Int.tdiv_eq_ediv_of_nonneg hm.1
  have hz : mostZ F L C a = min (if a * F / 64 < L then min L a else a * F / 64) C := rfl
  have hb : 0 ≤ a * F / 64 ∧ a * F / 64 ≤ a * F := by omega
  refine callT_code rfl Try.func55 rfl Try.s55_eq rfl ?_
  unfold Try.s55
  by_cases hl : a * F / 64 < L
  · rw [if_pos hl] at hz
    simp -dsimp -implicitDefEqProofs (maxSteps := 2000000) (disch := first | assumption | omega | (simp only [AW.next_push, AW.next_put]; omega) | ((repeat refine Fresh.push ?_ _); assumption) | (simp only [same_int, same_bool, same_ptr, same_slice, same_sliceP, same_nil, same_agg2, same_string]; done) | (simp [oneCell, AW.next_push]; done) | fail) only [go_sem, Nat.reduceEqDiff, reduceIte, Nat.reduceAdd, Int.toNat_natCast, Nat.add_zero, Owes_true, Try.results55, Nat.zero_add, c0, c1, c2, h640, hq, hl]
    exact ⟨by rw [hz], g⟩
  · rw [if_neg hl] at hz
    simp -dsimp -implicitDefEqProofs (maxSteps := 2000000) (disch := first | assumption | omega | (simp only [AW.next_push, AW.next_put]; omega) | ((repeat refine Fresh.push ?_ _); assumption) | (simp only [same_int, same_bool, same_ptr, same_slice, same_sliceP, same_nil, same_agg2, same_string]; done) | (simp [oneCell, AW.next_push]; done) | fail) only [go_sem, Nat.reduceEqDiff, reduceIte, Nat.reduceAdd, Int.toNat_natCast, Nat.add_zero, Owes_true, Try.results55, Nat.zero_add, c0, c1, c2, h640, hq, hl]
    exact ⟨by rw [hz], g⟩
def MostPost (F L C a b : Int) (w : AW) : Value → AW → Prop := fun r w' => ∃ E V, r = .tuple #[.int .i64 V, .int .i64 E] ∧ Grown w w' ∧
  ((termsB F L C = false ∧ E = 22 ∧ V = 0) ∨ (termsB F L C = true ∧ spanB a b 2147483648 = false ∧ E = 7 ∧ V = 0) ∨ (termsB F L C = true ∧ spanB a b 2147483648 = true ∧ E = 0 ∧ V = mostZ F L C a))
theorem terms_in {F L C : Int} (h : termsB F L C = true) : (0 ≤ F ∧ F ≤ 64) ∧ (0 ≤ L ∧ L ≤ C) ∧ C ≤ 1073741824 := by
  simp only [termsB, Bool.and_eq_true, inR_iff] at h; omega
theorem span_in {a b M : Int} (h : spanB a b M = true) : 0 ≤ a ∧ a ≤ b ∧ b ≤ M := by
  simp only [spanB, Bool.and_eq_true, decide_eq_true_eq] at h; omega
theorem Most_ok (F L C a b : Int) (w : AW) (f : Fresh w) :
    CallT Try.prog Try.T1 (.fn (.func 22) #[]) #[.agg #[.int .i64 F, .int .i64 L, .int .i64 C], .agg #[.int .i64 a, .int .i64 b]] w (MostPost F L C a b w) := by
  have g := ((Grown.refl f).push (.cells [.int .i64 F, .int .i64 L, .int .i64 C] 40 w.next 0 0)).push (.cells [.int .i64 a, .int .i64 b] 27 (w.next + 1) 0 0)
  have hO := (Own.new f 40 [.int .i64 F, .int .i64 L, .int .i64 C]).push (.cells [.int .i64 a, .int .i64 b] 27 (w.next + 1) 0 0)
  have hS := Own.new (f.push (.cells [.int .i64 F, .int .i64 L, .int .i64 C] 40 w.next 0 0)) 27 [.int .i64 a, .int .i64 b]
  simp only [AW.next_push] at hS
  have c0 := hO.cell (o := 0) rfl rfl
  have c1 := hO.cell (o := 1) rfl rfl
  have c2 := hO.cell (o := 2) rfl rfl
  refine callT_code rfl Try.func22 rfl Try.s22_eq rfl ?_
  unfold Try.s22
  simp -dsimp -implicitDefEqProofs (maxSteps := 2000000) (disch := first | assumption | omega | (simp only [AW.next_push, AW.next_put]; omega) | ((repeat refine Fresh.push ?_ _); assumption) | (simp only [same_int, same_bool, same_ptr, same_slice, same_sliceP, same_nil, same_agg2, same_string]; done) | (simp [oneCell, AW.next_push]; done) | fail) only [go_sem, Nat.reduceEqDiff, reduceIte, Nat.reduceAdd, Int.toNat_natCast, Nat.add_zero, Owes_true, Try.results22, Nat.zero_add, c0, c1, c2]
  apply callV_of (e := rfl)
  · exact CheckTerms_ok F L C _ g.2
  rintro _ w1 ⟨rfl, hg1⟩
  have g1 := g.trans hg1
  cases hT : termsB F L C with
  | false =>
    have hE : termsE F L C = 22 := termsE_bad hT
    have h220 : ¬ (22 : Int) = 0 := by decide
    simp -dsimp -implicitDefEqProofs (maxSteps := 2000000) (disch := first | assumption | omega | (simp only [AW.next_push, AW.next_put]; omega) | ((repeat refine Fresh.push ?_ _); assumption) | (simp only [same_int, same_bool, same_ptr, same_slice, same_sliceP, same_nil, same_agg2, same_string]; done) | (simp [oneCell, AW.next_push]; done) | fail) only [go_sem, Nat.reduceEqDiff, reduceIte, Nat.reduceAdd, Int.toNat_natCast, Nat.add_zero, Owes_true, Try.results22, hE, h220]
    exact ⟨_, _, rfl, g1, .inl ⟨hT, rfl, rfl⟩⟩
  | true =>
  have hE : termsE F L C = 0 := by rw [termsE, hT]; rfl
  have hO1 := hO.keep hg1.1
  have hS1 := hS.keep hg1.1
  have c0 := hO1.cell (o := 0) rfl rfl
  have c1 := hO1.cell (o := 1) rfl rfl
  have c2 := hO1.cell (o := 2) rfl rfl
  have u0 := hS1.cell (o := 0) rfl rfl
  have u1 := hS1.cell (o := 1) rfl rfl
  simp -dsimp -implicitDefEqProofs (maxSteps := 2000000) (disch := first | assumption | omega | (simp only [AW.next_push, AW.next_put]; omega) | ((repeat refine Fresh.push ?_ _); assumption) | (simp only [same_int, same_bool, same_ptr, same_slice, same_sliceP, same_nil, same_agg2, same_string]; done) | (simp [oneCell, AW.next_push]; done) | fail) only [go_sem, Nat.reduceEqDiff, reduceIte, Nat.reduceAdd, Int.toNat_natCast, Nat.add_zero, Owes_true, Try.results22, Nat.zero_add, c0, c1, c2, u0, u1, hE, ne_eq, not_true]
  apply callV_of (e := rfl)
  · exact isSpan_ok a b 2147483648 w1 g1.2
  rintro _ w2 ⟨rfl, hg2⟩
  have g2 := g1.trans hg2
  cases hsp : spanB a b 2147483648 with
  | false =>
    simp -dsimp -implicitDefEqProofs (maxSteps := 2000000) (disch := first | assumption | omega | (simp only [AW.next_push, AW.next_put]; omega) | ((repeat refine Fresh.push ?_ _); assumption) | (simp only [same_int, same_bool, same_ptr, same_slice, same_sliceP, same_nil, same_agg2, same_string]; done) | (simp [oneCell, AW.next_push]; done) | fail) only [go_sem, Nat.reduceEqDiff, reduceIte, Nat.reduceAdd, Int.toNat_natCast, Nat.add_zero, Owes_true, Try.results22]
    exact ⟨_, _, rfl, g2, .inr (.inl ⟨hT, hsp, rfl, rfl⟩)⟩
  | true =>
  have hO2 := hO1.keep hg2.1
  have hS2 := hS1.keep hg2.1
  have c0 := hO2.cell (o := 0) rfl rfl
  have c1 := hO2.cell (o := 1) rfl rfl
  have c2 := hO2.cell (o := 2) rfl rfl
  have u0 := hS2.cell (o := 0) rfl rfl
  have u1 := hS2.cell (o := 1) rfl rfl
  have hi := terms_in hT
  have hs := span_in hsp
  simp -dsimp -implicitDefEqProofs (maxSteps := 2000000) (disch := first | assumption | omega | (simp only [AW.next_push, AW.next_put]; omega) | ((repeat refine Fresh.push ?_ _); assumption) | (simp only [same_int, same_bool, same_ptr, same_slice, same_sliceP, same_nil, same_agg2, same_string]; done) | (simp [oneCell, AW.next_push]; done) | fail) only [go_sem, Nat.reduceEqDiff, reduceIte, Nat.reduceAdd, Int.toNat_natCast, Nat.add_zero, Owes_true, Try.results22, Nat.zero_add, c0, c1, c2, u0, u1]
  apply callV_of (e := rfl)
  · exact most_ok F L C a b hi.1 (by omega) w2 g2.2
  rintro _ w3 ⟨rfl, hg3⟩
  simp -dsimp -implicitDefEqProofs (maxSteps := 2000000) (disch := first | assumption | omega | (simp only [AW.next_push, AW.next_put]; omega) | ((repeat refine Fresh.push ?_ _); assumption) | (simp only [same_int, same_bool, same_ptr, same_slice, same_sliceP, same_nil, same_agg2, same_string]; done) | (simp [oneCell, AW.next_push]; done) | fail) only [go_sem, Nat.reduceEqDiff, reduceIte, Nat.reduceAdd, Int.toNat_natCast, Nat.add_zero, Owes_true, Try.results22]
  exact ⟨_, _, rfl, g2.trans hg3, .inr (.inr ⟨hT, hsp, rfl, rfl⟩)⟩
theorem refMost_ok (F L C a b : Int) (w : AW) (f : Fresh w) :
    CallT Try.prog Try.T1 (.fn (.func 23) #[]) #[.agg #[.int .i64 F, .int .i64 L, .int .i64 C], .agg #[.int .i64 a, .int .i64 b]] w (MostPost F L C a b w) := by
  have g := ((Grown.refl f).push (.cells [.int .i64 F, .int .i64 L, .int .i64 C] 40 w.next 0 0)).push (.cells [.int .i64 a, .int .i64 b] 27 (w.next + 1) 0 0)
  have hO := (Own.new f 40 [.int .i64 F, .int .i64 L, .int .i64 C]).push (.cells [.int .i64 a, .int .i64 b] 27 (w.next + 1) 0 0)
  have hS := Own.new (f.push (.cells [.int .i64 F, .int .i64 L, .int .i64 C] 40 w.next 0 0)) 27 [.int .i64 a, .int .i64 b]
  simp only [AW.next_push] at hS
  have c0 := hO.cell (o := 0) rfl rfl
  have c1 := hO.cell (o := 1) rfl rfl
  have c2 := hO.cell (o := 2) rfl rfl
  refine callT_code rfl Try.func23 rfl Try.s23_eq rfl ?_
  unfold Try.s23
  simp -dsimp -implicitDefEqProofs (maxSteps := 2000000) (disch := first | assumption | omega | (simp only [AW.next_push, AW.next_put]; omega) | ((repeat refine Fresh.push ?_ _); assumption) | (simp only [same_int, same_bool, same_ptr, same_slice, same_sliceP, same_nil, same_agg2, same_string]; done) | (simp [oneCell, AW.next_push]; done) | fail) only [go_sem, Nat.reduceEqDiff, reduceIte, Nat.reduceAdd, Int.toNat_natCast, Nat.add_zero, Owes_true, Try.results23, Nat.zero_add, c0, c1, c2]
  apply callV_of (e := rfl)
  · exact refCheckTerms_ok F L C _ g.2
  rintro _ w1 ⟨rfl, hg1⟩
  have g1 := g.trans hg1
  cases hT : termsB F L C with
  | false =>
    have hE : termsE F L C = 22 := termsE_bad hT
    have h220 : ¬ (22 : Int) = 0 := by decide
    simp -dsimp -implicitDefEqProofs (maxSteps := 2000000) (disch := first | assumption | omega | (simp only [AW.next_push, AW.next_put]; omega) | ((repeat refine Fresh.push ?_ _); assumption) | (simp only [same_int, same_bool, same_ptr, same_slice, same_sliceP, same_nil, same_agg2, same_string]; done) | (simp [oneCell, AW.next_push]; done) | fail) only [go_sem, Nat.reduceEqDiff, reduceIte, Nat.reduceAdd, Int.toNat_natCast, Nat.add_zero, Owes_true, Try.results23, hE, h220]
    exact ⟨_, _, rfl, g1, .inl ⟨hT, rfl, rfl⟩⟩
  | true =>
  have hE : termsE F L C = 0 := by rw [termsE, hT]; rfl
  have hO1 := hO.keep hg1.1
  have hS1 := hS.keep hg1.1
  have c0 := hO1.cell (o := 0) rfl rfl
  have c1 := hO1.cell (o := 1) rfl rfl
  have c2 := hO1.cell (o := 2) rfl rfl
  have u0 := hS1.cell (o := 0) rfl rfl
  have u1 := hS1.cell (o := 1) rfl rfl
  simp -dsimp -implicitDefEqProofs (maxSteps := 2000000) (disch := first | assumption | omega | (simp only [AW.next_push, AW.next_put]; omega) | ((repeat refine Fresh.push ?_ _); assumption) | (simp only [same_int, same_bool, same_ptr, same_slice, same_sliceP, same_nil, same_agg2, same_string]; done) | (simp [oneCell, AW.next_push]; done) | fail) only [go_sem, Nat.reduceEqDiff, reduceIte, Nat.reduceAdd, Int.toNat_natCast, Nat.add_zero, Owes_true, Try.results23, Nat.zero_add, c0, c1, c2, u0, u1, hE, ne_eq, not_true]
  apply callV_of (e := rfl)
  · exact span_ok a b 2147483648 w1 g1.2
  rintro _ w2 ⟨rfl, hg2⟩
  have g2 := g1.trans hg2
  cases hsp : spanB a b 2147483648 with
  | false =>
    simp -dsimp -implicitDefEqProofs (maxSteps := 2000000) (disch := first | assumption | omega | (simp only [AW.next_push, AW.next_put]; omega) | ((repeat refine Fresh.push ?_ _); assumption) | (simp only [same_int, same_bool, same_ptr, same_slice, same_sliceP, same_nil, same_agg2, same_string]; done) | (simp [oneCell, AW.next_push]; done) | fail) only [go_sem, Nat.reduceEqDiff, reduceIte, Nat.reduceAdd, Int.toNat_natCast, Nat.add_zero, Owes_true, Try.results23]
    exact ⟨_, _, rfl, g2, .inr (.inl ⟨hT, hsp, rfl, rfl⟩)⟩
  | true =>
  have hO2 := hO1.keep hg2.1
  have hS2 := hS1.keep hg2.1
  have c0 := hO2.cell (o := 0) rfl rfl
  have c1 := hO2.cell (o := 1) rfl rfl
  have c2 := hO2.cell (o := 2) rfl rfl
  have u0 := hS2.cell (o := 0) rfl rfl
  have u1 := hS2.cell (o := 1) rfl rfl
  have hi := terms_in hT
  have hs := span_in hsp
  have hm := mul_in hs.1 (by omega : a ≤ 2147483648) hi.1.1 hi.1.2
  simp -dsimp -implicitDefEqProofs (maxSteps := 2000000) (disch := first | assumption | omega | (simp only [AW.next_push, AW.next_put]; omega) | ((repeat refine Fresh.push ?_ _); assumption) | (simp only [same_int, same_bool, same_ptr, same_slice, same_sliceP, same_nil, same_agg2, same_string]; done) | (simp [oneCell, AW.next_push]; done) | fail) only [go_sem, Nat.reduceEqDiff, reduceIte, Nat.reduceAdd, Int.toNat_natCast, Nat.add_zero, Owes_true, Try.results23, Nat.zero_add, c0, c1, c2, u0, u1]
  apply callV_of (e := rfl)
  · exact Down_ok (a * F) (by omega) (by omega) w2
  rintro _ _ ⟨rfl, rfl⟩
  have hz : mostZ F L C a = min (if a * F / 64 < L then min L a else a * F / 64) C := rfl
  by_cases hl : a * F / 64 < L
  · rw [if_pos hl] at hz
    simp -dsimp -implicitDefEqProofs (maxSteps := 2000000) (disch := first | assumption | omega | (simp only [AW.next_push, AW.next_put]; omega) | ((repeat refine Fresh.push ?_ _); assumption) | (simp only [same_int, same_bool, same_ptr, same_slice, same_sliceP, same_nil, same_agg2, same_string]; done) | (simp [oneCell, AW.next_push]; done) | fail) only [go_sem, Nat.reduceEqDiff, reduceIte, Nat.reduceAdd, Int.toNat_natCast, Nat.add_zero, Owes_true, Try.results23, Nat.zero_add, c0, c1, c2, u0, u1, hl]
    exact ⟨_, _, rfl, g2, .inr (.inr ⟨hT, hsp, rfl, hz.symm⟩)⟩
  · rw [if_neg hl] at hz
    simp -dsimp -implicitDefEqProofs (maxSteps := 2000000) (disch := first | assumption | omega | (simp only [AW.next_push, AW.next_put]; omega) | ((repeat refine Fresh.push ?_ _); assumption) | (simp only [same_int, same_bool, same_ptr, same_slice, same_sliceP, same_nil, same_agg2, same_string]; done) | (simp [oneCell, AW.next_push]; done) | fail) only [go_sem, Nat.reduceEqDiff, reduceIte, Nat.reduceAdd, Int.toNat_natCast, Nat.add_zero, Owes_true, Try.results23, Nat.zero_add, c0, c1, c2, u0, u1, hl]
    exact ⟨_, _, rfl, g2, .inr (.inr ⟨hT, hsp, rfl, hz.symm⟩)⟩
end Go.Proofs
