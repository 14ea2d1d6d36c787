/- Terms: contracts of CheckTerms, Most, Lend, of the program and of the papers; words. -/
import Derived.Test.YtdbeiefgokocnaaKa
import Derived.Test.YtdbeiefgokocnaaTc
import Derived.Test.YtdbeiefgokocnaaTa
set_option linter.unusedVariables false
set_option linter.unusedSimpArgs false
/- Terms: what is lent. -/
namespace Go.Proofs
open Go Go.RowKit Go.Sim
set_option maxRecDepth 100000
def termsB (F L C : Int) : Bool := inR 0 F 64 && inR 0 C 1073741824 && inR 0 L C
def termsE (F L C : Int) : Int := if termsB F L C = true then 0 else 22
theorem termsE_bad {F L C : Int} (h : termsB F L C = false) : termsE F L C = 22 := by rw [termsE, h]; rfl
theorem CheckTerms_ok (F L C : Int) (w : AW) (f : Fresh w) : CallT Try.prog Try.T1 (.fn (.func 24) #[]) #[.agg #[.int .i64 F, .int .i64 L, .int .i64 C]] w (Ret (.int .i64 (termsE F L C)) (Grown w)) := by
  have g := (Grown.refl f).push (.cells [.int .i64 F, .int .i64 L, .int .i64 C] 40 w.next 0 0)
  refine callT_code rfl Try.func24 rfl Try.s24_eq rfl ?_
  unfold Try.s24
  simp -dsimp -implicitDefEqProofs (maxSteps := 2000000) (disch := first | assumption | omega | (simp only [AW.next_push, AW.next_put]; omega) | ((repeat refine Fresh.push ?_ _); assumption) | (simp only [same_int, same_bool, same_ptr, same_slice, same_sliceP, same_nil, same_agg2, same_string]; done) | (simp [oneCell, AW.next_push]; done) | fail) only [go_sem, Nat.reduceEqDiff, reduceIte, Nat.reduceAdd, Int.toNat_natCast, Nat.add_zero, Owes_true, Try.results24, Nat.zero_add]
  apply callV_of (e := rfl)
  · exact within_ok _ _ _ _
  rintro _ _ ⟨rfl, rfl⟩
  cases h1 : inR 0 F 64 with
  | false =>
    simp -dsimp -implicitDefEqProofs (maxSteps := 2000000) (disch := first | assumption | omega | (simp only [AW.next_push, AW.next_put]; omega) | ((repeat refine Fresh.push ?_ _); assumption) | (simp only [same_int, same_bool, same_ptr, same_slice, same_sliceP, same_nil, same_agg2, same_string]; done) | (simp [oneCell, AW.next_push]; done) | fail) only [go_sem, Nat.reduceEqDiff, reduceIte, Nat.reduceAdd, Int.toNat_natCast, Nat.add_zero, Owes_true, Try.results24]
    exact ⟨by rw [termsE_bad (by rw [termsB, h1]; rfl)], g⟩
  | true =>
  simp -dsimp -implicitDefEqProofs (maxSteps := 2000000) (disch := first | assumption | omega | (simp only [AW.next_push, AW.next_put]; omega) | ((repeat refine Fresh.push ?_ _); assumption) | (simp only [same_int, same_bool, same_ptr, same_slice, same_sliceP, same_nil, same_agg2, same_string]; done) | (simp [oneCell, AW.next_push]; done) | fail) only [go_sem, Nat.reduceEqDiff, reduceIte, Nat.reduceAdd, Int.toNat_natCast, Nat.add_zero, Owes_true, Try.results24, Nat.zero_add]
  apply callV_of (e := rfl)
  · exact within_ok _ _ _ _
  rintro _ _ ⟨rfl, rfl⟩
  cases h2 : inR 0 C 1073741824 with
  | false =>
    simp -dsimp -implicitDefEqProofs (maxSteps := 2000000) (disch := first | assumption | omega | (simp only [AW.next_push, AW.next_put]; omega) | ((repeat refine Fresh.push ?_ _); assumption) | (simp only [same_int, same_bool, same_ptr, same_slice, same_sliceP, same_nil, same_agg2, same_string]; done) | (simp [oneCell, AW.next_push]; done) | fail) only [go_sem, Nat.reduceEqDiff, reduceIte, Nat.reduceAdd, Int.toNat_natCast, Nat.add_zero, Owes_true, Try.results24]
    exact ⟨by rw [termsE_bad (by rw [termsB, h2, Bool.and_false]; rfl)], g⟩
  | true =>
  simp -dsimp -implicitDefEqProofs (maxSteps := 2000000) (disch := first | assumption | omega | (simp only [AW.next_push, AW.next_put]; omega) | ((repeat refine Fresh.push ?_ _); assumption) | (simp only [same_int, same_bool, same_ptr, same_slice, same_sliceP, same_nil, same_agg2, same_string]; done) | (simp [oneCell, AW.next_push]; done) | fail) only [go_sem, Nat.reduceEqDiff, reduceIte, Nat.reduceAdd, Int.toNat_natCast, Nat.add_zero, Owes_true, Try.results24, Nat.zero_add]
  apply callV_of (e := rfl)
  · exact within_ok _ _ _ _
  rintro _ _ ⟨rfl, rfl⟩
  cases h3 : inR 0 L C with
  | false =>
    simp -dsimp -implicitDefEqProofs (maxSteps := 2000000) (disch := first | assumption | omega | (simp only [AW.next_push, AW.next_put]; omega) | ((repeat refine Fresh.push ?_ _); assumption) | (simp only [same_int, same_bool, same_ptr, same_slice, same_sliceP, same_nil, same_agg2, same_string]; done) | (simp [oneCell, AW.next_push]; done) | fail) only [go_sem, Nat.reduceEqDiff, reduceIte, Nat.reduceAdd, Int.toNat_natCast, Nat.add_zero, Owes_true, Try.results24]
    exact ⟨by rw [termsE_bad (by rw [termsB, h3, Bool.and_false])], g⟩
  | true =>
  simp -dsimp -implicitDefEqProofs (maxSteps := 2000000) (disch := first | assumption | omega | (simp only [AW.next_push, AW.next_put]; omega) | ((repeat refine Fresh.push ?_ _); assumption) | (simp only [same_int, same_bool, same_ptr, same_slice, same_sliceP, same_nil, same_agg2, same_string]; done) | (simp [oneCell, AW.next_push]; done) | fail) only [go_sem, Nat.reduceEqDiff, reduceIte, Nat.reduceAdd, Int.toNat_natCast, Nat.add_zero, Owes_true, Try.results24]
  exact ⟨by rw [termsE, termsB, h1, h2, h3]; rfl, g⟩
theorem refCheckTerms_ok (F L C : Int) (w : AW) (f : Fresh w) : CallT Try.prog Try.T1 (.fn (.func 25) #[]) #[.agg #[.int .i64 F, .int .i64 L, .int .i64 C]] w (Ret (.int .i64 (termsE F L C)) (Grown w)) := by
  have g := (Grown.refl f).push (.cells [.int .i64 F, .int .i64 L, .int .i64 C] 40 w.next 0 0)
  refine callT_code rfl Try.func25 rfl Try.s25_eq rfl ?_
  unfold Try.s25
  simp -dsimp -implicitDefEqProofs (maxSteps := 2000000) (disch := first | assumption | omega | (simp only [AW.next_push, AW.next_put]; omega) | ((repeat refine Fresh.push ?_ _); assumption) | (simp only [same_int, same_bool, same_ptr, same_slice, same_sliceP, same_nil, same_agg2, same_string]; done) | (simp [oneCell, AW.next_push]; done) | fail) only [go_sem, Nat.reduceEqDiff, reduceIte, Nat.reduceAdd, Int.toNat_natCast, Nat.add_zero, Owes_true, Try.results25, Nat.zero_add]
  apply callV_of (e := rfl)
  · exact From_ok _ _ _ _
  rintro _ _ ⟨rfl, rfl⟩
  cases h1 : inR 0 F 64 with
  | false =>
    simp -dsimp -implicitDefEqProofs (maxSteps := 2000000) (disch := first | assumption | omega | (simp only [AW.next_push, AW.next_put]; omega) | ((repeat refine Fresh.push ?_ _); assumption) | (simp only [same_int, same_bool, same_ptr, same_slice, same_sliceP, same_nil, same_agg2, same_string]; done) | (simp [oneCell, AW.next_push]; done) | fail) only [go_sem, Nat.reduceEqDiff, reduceIte, Nat.reduceAdd, Int.toNat_natCast, Nat.add_zero, Owes_true, Try.results25]
    exact ⟨by rw [termsE_bad (by rw [termsB, h1]; rfl)], g⟩
  | true =>
  simp -dsimp -implicitDefEqProofs (maxSteps := 2000000) (disch := first | assumption | omega | (simp only [AW.next_push, AW.next_put]; omega) | ((repeat refine Fresh.push ?_ _); assumption) | (simp only [same_int, same_bool, same_ptr, same_slice, same_sliceP, same_nil, same_agg2, same_string]; done) | (simp [oneCell, AW.next_push]; done) | fail) only [go_sem, Nat.reduceEqDiff, reduceIte, Nat.reduceAdd, Int.toNat_natCast, Nat.add_zero, Owes_true, Try.results25, Nat.zero_add]
  apply callV_of (e := rfl)
  · exact From_ok _ _ _ _
  rintro _ _ ⟨rfl, rfl⟩
  cases h2 : inR 0 C 1073741824 with
  | false =>
    simp -dsimp -implicitDefEqProofs (maxSteps := 2000000) (disch := first | assumption | omega | (simp only [AW.next_push, AW.next_put]; omega) | ((repeat refine Fresh.push ?_ _); assumption) | (simp only [same_int, same_bool, same_ptr, same_slice, same_sliceP, same_nil, same_agg2, same_string]; done) | (simp [oneCell, AW.next_push]; done) | fail) only [go_sem, Nat.reduceEqDiff, reduceIte, Nat.reduceAdd, Int.toNat_natCast, Nat.add_zero, Owes_true, Try.results25]
    exact ⟨by rw [termsE_bad (by rw [termsB, h2, Bool.and_false]; rfl)], g⟩
  | true =>
  simp -dsimp -implicitDefEqProofs (maxSteps := 2000000) (disch := first | assumption | omega | (simp only [AW.next_push, AW.next_put]; omega) | ((repeat refine Fresh.push ?_ _); assumption) | (simp only [same_int, same_bool, same_ptr, same_slice, same_sliceP, same_nil, same_agg2, same_string]; done) | (simp [oneCell, AW.next_push]; done) | fail) only [go_sem, Nat.reduceEqDiff, reduceIte, Nat.reduceAdd, Int.toNat_natCast, Nat.add_zero, Owes_true, Try.results25, Nat.zero_add]
  apply callV_of (e := rfl)
  · exact From_ok _ _ _ _
  rintro _ _ ⟨rfl, rfl⟩
  cases h3 : inR 0 L C with
  | false =>
    simp -dsimp -implicitDefEqProofs (maxSteps := 2000000) (disch := first | assumption | omega | (simp only [AW.next_push, AW.next_put]; omega) | ((repeat refine Fresh.push ?_ _); assumption) | (simp only [same_int, same_bool, same_ptr, same_slice, same_sliceP, same_nil, same_agg2, same_string]; done) | (simp [oneCell, AW.next_push]; done) | fail) only [go_sem, Nat.reduceEqDiff, reduceIte, Nat.reduceAdd, Int.toNat_natCast, Nat.add_zero, Owes_true, Try.results25]
    exact ⟨by rw [termsE_bad (by rw [termsB, h3, Bool.and_false])], g⟩
  | true =>
  simp -dsimp -implicitDefEqProofs (maxSteps := 2000000) (disch := first | assumption | omega | (simp only [AW.next_push, AW.next_put]; omega) | ((repeat refine Fresh.push ?_ _); assumption) | (simp only [same_int, same_bool, same_ptr, same_slice, same_sliceP, same_nil, same_agg2, same_string]; done) | (simp [oneCell, AW.next_push]; done) | fail) only [go_sem, Nat.reduceEqDiff, reduceIte, Nat.reduceAdd, Int.toNat_natCast, Nat.add_zero, Owes_true, Try.results25]
  exact ⟨by rw [termsE, termsB, h1, h2, h3]; rfl, g⟩
def spanB (a b M : Int) : Bool := decide (0 ≤ a) && decide (a ≤ b) && decide (b ≤ M)
theorem isSpan_ok (a b M : Int) (w : AW) (f : Fresh w) : CallT Try.prog Try.T1 (.fn (.func 53) #[]) #[.agg #[.int .i64 a, .int .i64 b], .int .i64 M] w (Ret (.bool (spanB a b M)) (Grown w)) := by
  have g := (Grown.refl f).push (.cells [.int .i64 a, .int .i64 b] 27 w.next 0 0)
  refine callT_code rfl Try.func53 rfl Try.s53_eq rfl ?_
  unfold Try.s53
  by_cases h1 : 0 ≤ a
  · by_cases h2 : a ≤ b
    · simp -dsimp -implicitDefEqProofs (maxSteps := 2000000) (disch := first | assumption | omega | (simp only [AW.next_push, AW.next_put]; omega) | ((repeat refine Fresh.push ?_ _); assumption) | (simp only [same_int, same_bool, same_ptr, same_slice, same_sliceP, same_nil, same_agg2, same_string]; done) | (simp [oneCell, AW.next_push]; done) | fail) only [go_sem, Nat.reduceEqDiff, reduceIte, Nat.reduceAdd, Int.toNat_natCast, Nat.add_zero, Owes_true, Try.results53, Nat.zero_add, h1, h2]
      exact ⟨by simp [spanB, h1, h2], g⟩
    · simp -dsimp -implicitDefEqProofs (maxSteps := 2000000) (disch := first | assumption | omega | (simp only [AW.next_push, AW.next_put]; omega) | ((repeat refine Fresh.push ?_ _); assumption) | (simp only [same_int, same_bool, same_ptr, same_slice, same_sliceP, same_nil, same_agg2, same_string]; done) | (simp [oneCell, AW.next_push]; done) | fail) only [go_sem, Nat.reduceEqDiff, reduceIte, Nat.reduceAdd, Int.toNat_natCast, Nat.add_zero, Owes_true, Try.results53, Nat.zero_add, h1, h2]
      exact ⟨by simp [spanB, h1, h2], g⟩
  · simp -dsimp -implicitDefEqProofs (maxSteps := 2000000) (disch := first | assumption | omega | (simp only [AW.next_push, AW.next_put]; omega) | ((repeat refine Fresh.push ?_ _); assumption) | (simp only [same_int, same_bool, same_ptr, same_slice, same_sliceP, same_nil, same_agg2, same_string]; done) | (simp [oneCell, AW.next_push]; done) | fail) only [go_sem, Nat.reduceEqDiff, reduceIte, Nat.reduceAdd, Int.toNat_natCast, Nat.add_zero, Owes_true, Try.results53, Nat.zero_add, h1]
    exact ⟨by simp [spanB, h1], g⟩
theorem span_ok (a b M : Int) (w : AW) (f : Fresh w) : CallT Try.prog Try.T1 (.fn (.func 54) #[]) #[.agg #[.int .i64 a, .int .i64 b], .int .i64 0, .int .i64 M] w (Ret (.bool (spanB a b M)) (Grown w)) := by
  have g := (Grown.refl f).push (.cells [.int .i64 a, .int .i64 b] 27 w.next 0 0)
  refine callT_code rfl Try.func54 rfl Try.s54_eq rfl ?_
  unfold Try.s54
  by_cases h1 : 0 ≤ a
  · have h1' : decide (a ≥ 0) = true := decide_eq_true h1
    by_cases h2 : a ≤ b
    · simp -dsimp -implicitDefEqProofs (maxSteps := 2000000) (disch := first | assumption | omega | (simp only [AW.next_push, AW.next_put]; omega) | ((repeat refine Fresh.push ?_ _); assumption) | (simp only [same_int, same_bool, same_ptr, same_slice, same_sliceP, same_nil, same_agg2, same_string]; done) | (simp [oneCell, AW.next_push]; done) | fail) only [go_sem, Nat.reduceEqDiff, reduceIte, Nat.reduceAdd, Int.toNat_natCast, Nat.add_zero, Owes_true, Try.results54, Nat.zero_add, h1, h1', h2]
      exact ⟨by simp [spanB, h1, h2], g⟩
    · simp -dsimp -implicitDefEqProofs (maxSteps := 2000000) (disch := first | assumption | omega | (simp only [AW.next_push, AW.next_put]; omega) | ((repeat refine Fresh.push ?_ _); assumption) | (simp only [same_int, same_bool, same_ptr, same_slice, same_sliceP, same_nil, same_agg2, same_string]; done) | (simp [oneCell, AW.next_push]; done) | fail) only [go_sem, Nat.reduceEqDiff, reduceIte, Nat.reduceAdd, Int.toNat_natCast, Nat.add_zero, Owes_true, Try.results54, Nat.zero_add, h1, h1', h2]
      exact ⟨by simp [spanB, h1, h2], g⟩
  · have h1' : decide (a ≥ 0) = false := decide_eq_false h1
    simp -dsimp -implicitDefEqProofs (maxSteps := 2000000) (disch := first | assumption | omega | (simp only [AW.next_push, AW.next_put]; omega) | ((repeat refine Fresh.push ?_ _); assumption) | (simp only [same_int, same_bool, same_ptr, same_slice, same_sliceP, same_nil, same_agg2, same_string]; done) | (simp [oneCell, AW.next_push]; done) | fail) only [go_sem, Nat.reduceEqDiff, reduceIte, Nat.reduceAdd, Int.toNat_natCast, Nat.add_zero, Owes_true, Try.results54, Nat.zero_add, h1, h1']
    exact ⟨by simp [spanB, h1], g⟩
theorem Down_ok (a : Int) (h0 : 0 ≤ a) (h1 : a ≤ 1000000000000) (w : AW) : CallT Try.prog Try.T1 (.fn (.func 34) #[]) #[.int .i64 a, .int .i64 64] w (Ret (.int .i64 (a / 64)) fun w' => w = w') := by
  have hq : a.tdiv 64 = a / 64 := Int.tdiv_eq_ediv_of_nonneg h0
  have hb : 0 ≤ a / 64 ∧ a / 64 ≤ a := by omega
  have hno : ¬ a < a / 64 * 64 := by omega
  have h640 : ¬ (64 : Int) = 0 := by decide
  refine callT_code rfl Try.func34 rfl Try.s34_eq rfl ?_
  unfold Try.s34
  simp -dsimp -implicitDefEqProofs (maxSteps := 2000000) (disch := first | assumption | omega | (simp only [AW.next_push, AW.next_put]; omega) | ((repeat refine Fresh.push ?_ _); assumption) | (simp only [same_int, same_bool, same_ptr, same_slice, same_sliceP, same_nil, same_agg2, same_string]; done) | (simp [oneCell, AW.next_push]; done) | fail) only [go_sem, Nat.reduceEqDiff, reduceIte, Nat.reduceAdd, Int.toNat_natCast, Nat.add_zero, Owes_true, Try.results34, hq, hno, h640]
  exact ⟨rfl, rfl⟩
def mostZ (F L C a : Int) : Int := min (if a * F / 64 < L then min L a else a * F / 64) C
theorem mul_in {a F : Int} (h0 : 0 ≤ a) (h1 : a ≤ 2147483648) (h2 : 0 ≤ F) (h3 : F ≤ 64) : 0 ≤ a * F ∧ a * F ≤ 137438953472 := by
  refine ⟨Int.mul_nonneg h0 h2, ?_⟩
  have := Int.mul_le_mul h1 h3 h2 (by omega)
  omega
theorem most_ok (F L C a b : Int) (hF : 0 ≤ F ∧ F ≤ 64) (ha : 0 ≤ a ∧ a ≤ 2147483648) (w : AW) (f : Fresh w) :
    CallT Try.prog Try.T1 (.fn (.func 55) #[]) #[.agg #[.int .i64 F, .int .i64 L, .int .i64 C], .agg #[.int .i64 a, .int .i64 b]] w (Ret (.int .i64 (mostZ F L C a)) (Grown w)) := by
  have g := ((Grown.refl f).push (.cells [.int .i64 F, .int .i64 L, .int .i64 C] 40 w.next 0 0)).push (.cells [.int .i64 a, .int .i64 b] 27 (w.next + 1) 0 0)
  have hO := (Own.new f 40 [.int .i64 F, .int .i64 L, .int .i64 C]).push (.cells [.int .i64 a, .int .i64 b] 27 (w.next + 1) 0 0)
  have c0 := hO.cell (o := 0) rfl rfl
  have c1 := hO.cell (o := 1) rfl rfl
  have c2 := hO.cell (o := 2) rfl rfl
  have h640 : ¬ (64 : Int) = 0 := by decide
  have hm := mul_in ha.1 ha.2 hF.1 hF.2
  have hq : (a * F).tdiv 64 = a * F / 64 := Int.tdiv_eq_ediv_of_nonneg hm.1
  have hz : mostZ F L C a = min (if a * F / 64 < L then min L a else a * F / 64) C := rfl
  have hb : 0 ≤ a * F / 64 ∧ a * F / 64 ≤ a * F := by omega
  refine callT_code rfl Try.func55 rfl Try.s55_eq rfl ?_
  unfold Try.s55
  by_cases hl : a * F / 64 < L
  · rw [if_pos hl] at hz
    simp -dsimp -implicitDefEqProofs (maxSteps := 2000000) (disch := first | assumption | omega | (simp only [AW.next_push, AW.next_put]; omega) | ((repeat refine Fresh.push ?_ _); assumption) | (simp only [same_int, same_bool, same_ptr, same_slice, same_sliceP, same_nil, same_agg2, same_string]; done) | (simp [oneCell, AW.next_push]; done) | fail) only [go_sem, Nat.reduceEqDiff, reduceIte, Nat.reduceAdd, Int.toNat_natCast, Nat.add_zero, Owes_true, Try.results55, Nat.zero_add, c0, c1, c2, h640, hq, hl]
    exact ⟨by rw [hz], g⟩
  · rw [if_neg hl] at hz
    simp -dsimp -implicitDefEqProofs (maxSteps := 2000000) (disch := first | assumption | omega | (simp only [AW.next_push, AW.next_put]; omega) | ((repeat refine Fresh.push ?_ _); assumption) | (simp only [same_int, same_bool, same_ptr, same_slice, same_sliceP, same_nil, same_agg2, same_string]; done) | (simp [oneCell, AW.next_push]; done) | fail) only [go_sem, Nat.reduceEqDiff, reduceIte, Nat.reduceAdd, Int.toNat_natCast, Nat.add_zero, Owes_true, Try.results55, Nat.zero_add, c0, c1, c2, h640, hq, hl]
    exact ⟨by rw [hz], g⟩
def MostPost (F L C a b : Int) (w : AW) : Value → AW → Prop := fun r w' => ∃ E V, r = .tuple #[.int .i64 V, .int .i64 E] ∧ Grown w w' ∧
  ((termsB F L C = false ∧ E = 22 ∧ V = 0) ∨ (termsB F L C = true ∧ spanB a b 2147483648 = false ∧ E = 7 ∧ V = 0) ∨ (termsB F L C = true ∧ spanB a b 2147483648 = true ∧ E = 0 ∧ V = mostZ F L C a))
theorem terms_in {F L C : Int} (h : termsB F L C = true) : (0 ≤ F ∧ F ≤ 64) ∧ (0 ≤ L ∧ L ≤ C) ∧ C ≤ 1073741824 := by
  simp only [termsB, Bool.and_eq_true, inR_iff] at h; omega
theorem span_in {a b M : Int} (h : spanB a b M = true) : 0 ≤ a ∧ a ≤ b ∧ b ≤ M := by
  simp only [spanB, Bool.and_eq_true, decide_eq_true_eq] at h; omega
theorem Most_ok (F L C a b : Int) (w : AW) (f : Fresh w) :
    CallT Try.prog Try.T1 (.fn (.func 22) #[]) #[.agg #[.int .i64 F, .int .i64 L, .int .i64 C], .agg #[.int .i64 a, .int .i64 b]] w (MostPost F L C a b w) := by
  have g := ((Grown.refl f).push (.cells [.int .i64 F, .int .i64 L, .int .i64 C] 40 w.next 0 0)).push (.cells [.int .i64 a, .int .i64 b] 27 (w.next + 1) 0 0)
  have hO := (Own.new f 40 [.int .i64 F, .int .i64 L, .int .i64 C]).push (.cells [.int .i64 a, .int .i64 b] 27 (w.next + 1) 0 0)
  have hS := Own.new (f.push (.cells [.int .i64 F, .int .i64 L, .int .i64 C] 40 w.next 0 0)) 27 [.int .i64 a, .int .i64 b]
  simp only [AW.next_push] at hS
  have c0 := hO.cell (o := 0) rfl rfl
  have c1 := hO.cell (o := 1) rfl rfl
  have c2 := hO.cell (o := 2) rfl rfl
  refine callT_code rfl Try.func22 rfl Try.s22_eq rfl ?_
  unfold Try.s22
  simp -dsimp -implicitDefEqProofs (maxSteps := 2000000) (disch := first | assumption | omega | (simp only [AW.next_push, AW.next_put]; omega) | ((repeat refine Fresh.push ?_ _); assumption) | (simp only [same_int, same_bool, same_ptr, same_slice, same_sliceP, same_nil, same_agg2, same_string]; done) | (simp [oneCell, AW.next_push]; done) | fail) only [go_sem, Nat.reduceEqDiff, reduceIte, Nat.reduceAdd, Int.toNat_natCast, Nat.add_zero, Owes_true, Try.results22, Nat.zero_add, c0, c1, c2]
  apply callV_of (e := rfl)
  · exact CheckTerms_ok F L C _ g.2
  rintro _ w1 ⟨rfl, hg1⟩
  have g1 := g.trans hg1
  cases hT : termsB F L C with
  | false =>
    have hE : termsE F L C = 22 := termsE_bad hT
    have h220 : ¬ (22 : Int) = 0 := by decide
    simp -dsimp -implicitDefEqProofs (maxSteps := 2000000) (disch := first | assumption | omega | (simp only [AW.next_push, AW.next_put]; omega) | ((repeat refine Fresh.push ?_ _); assumption) | (simp only [same_int, same_bool, same_ptr, same_slice, same_sliceP, same_nil, same_agg2, same_string]; done) | (simp [oneCell, AW.next_push]; done) | fail) only [go_sem, Nat.reduceEqDiff, reduceIte, Nat.reduceAdd, Int.toNat_natCast, Nat.add_zero, Owes_true, Try.results22, hE, h220]
    exact ⟨_, _, rfl, g1, .inl ⟨hT, rfl, rfl⟩⟩
  | true =>
  have hE : termsE F L C = 0 := by rw [termsE, hT]; rfl
  have hO1 := hO.keep hg1.1
  have hS1 := hS.keep hg1.1
  have c0 := hO1.cell (o := 0) rfl rfl
  have c1 := hO1.cell (o := 1) rfl rfl
  have c2 := hO1.cell (o := 2) rfl rfl
  have u0 := hS1.cell (o := 0) rfl rfl
  have u1 := hS1.cell (o := 1) rfl rfl
  simp -dsimp -implicitDefEqProofs (maxSteps := 2000000) (disch := first | assumption | omega | (simp only [AW.next_push, AW.next_put]; omega) | ((repeat refine Fresh.push ?_ _); assumption) | (simp only [same_int, same_bool, same_ptr, same_slice, same_sliceP, same_nil, same_agg2, same_string]; done) | (simp [oneCell, AW.next_push]; done) | fail) only [go_sem, Nat.reduceEqDiff, reduceIte, Nat.reduceAdd, Int.toNat_natCast, Nat.add_zero, Owes_true, Try.results22, Nat.zero_add, c0, c1, c2, u0, u1, hE, ne_eq, not_true]
  apply callV_of (e := rfl)
  · exact isSpan_ok a b 2147483648 w1 g1.2
  rintro _ w2 ⟨rfl, hg2⟩
  have g2 := g1.trans hg2
  cases hsp : spanB a b 2147483648 with
  | false =>
    simp -dsimp -implicitDefEqProofs (maxSteps := 2000000) (disch := first | assumption | omega | (simp only [AW.next_push, AW.next_put]; omega) | ((repeat refine Fresh.push ?_ _); assumption) | (simp only [same_int, same_bool, same_ptr, same_slice, same_sliceP, same_nil, same_agg2, same_string]; done) | (simp [oneCell, AW.next_push]; done) | fail) only [go_sem, Nat.reduceEqDiff, reduceIte, Nat.reduceAdd, Int.toNat_natCast, Nat.add_zero, Owes_true, Try.results22]
    exact ⟨_, _, rfl, g2, .inr (.inl ⟨hT, hsp, rfl, rfl⟩)⟩
  | true =>
  have hO2 := hO1.keep hg2.1
  have hS2 := hS1.keep hg2.1
  have c0 := hO2.cell (o := 0) rfl rfl
  have c1 := hO2.cell (o := 1) rfl rfl
  have c2 := hO2.cell (o := 2) rfl rfl
  have u0 := hS2.cell (o := 0) rfl rfl
  have u1 := hS2.cell (o := 1) rfl rfl
  have hi := terms_in hT
  have hs := span_in hsp
  simp -dsimp -implicitDefEqProofs (maxSteps := 2000000) (disch := first | assumption | omega | (simp only [AW.next_push, AW.next_put]; omega) | ((repeat refine Fresh.push ?_ _); assumption) | (simp only [same_int, same_bool, same_ptr, same_slice, same_sliceP, same_nil, same_agg2, same_string]; done) | (simp [oneCell, AW.next_push]; done) | fail) only [go_sem, Nat.reduceEqDiff, reduceIte, Nat.reduceAdd, Int.toNat_natCast, Nat.add_zero, Owes_true, Try.results22, Nat.zero_add, c0, c1, c2, u0, u1]
  apply callV_of (e := rfl)
  · exact most_ok F L C a b hi.1 (by omega) w2 g2.2
  rintro _ w3 ⟨rfl, hg3⟩
  simp -dsimp -implicitDefEqProofs (maxSteps := 2000000) (disch := first | assumption | omega | (simp only [AW.next_push, AW.next_put]; omega) | ((repeat refine Fresh.push ?_ _); assumption) | (simp only [same_int, same_bool, same_ptr, same_slice, same_sliceP, same_nil, same_agg2, same_string]; done) | (simp [oneCell, AW.next_push]; done) | fail) only [go_sem, Nat.reduceEqDiff, reduceIte, Nat.reduceAdd, Int.toNat_natCast, Nat.add_zero, Owes_true, Try.results22]
  exact ⟨_, _, rfl, g2.trans hg3, .inr (.inr ⟨hT, hsp, rfl, rfl⟩)⟩
theorem refMost_ok (F L C a b : Int) (w : AW) (f : Fresh w) :
    CallT Try.prog Try.T1 (.fn (.func 23) #[]) #[.agg #[.int .i64 F, .int .i64 L, .int .i64 C], .agg #[.int .i64 a, .int .i64 b]] w (MostPost F L C a b w) := by
  have g := ((Grown.refl f).push (.cells [.int .i64 F, .int .i64 L, .int .i64 C] 40 w.next 0 0)).push (.cells [.int .i64 a, .int .i64 b] 27 (w.next + 1) 0 0)
  have hO := (Own.new f 40 [.int .i64 F, .int .i64 L, .int .i64 C]).push (.cells [.int .i64 a, .int .i64 b] 27 (w.next + 1) 0 0)
  have hS := Own.new (f.push (.cells [.int .i64 F, .int .i64 L, .int .i64 C] 40 w.next 0 0)) 27 [.int .i64 a, .int .i64 b]
  simp only [AW.next_push] at hS
  have c0 := hO.cell (o := 0) rfl rfl
  have c1 := hO.cell (o := 1) rfl rfl
  have c2 := hO.cell (o := 2) rfl rfl
  refine callT_code rfl Try.func23 rfl Try.s23_eq rfl ?_
  unfold Try.s23
  simp -dsimp -implicitDefEqProofs (maxSteps := 2000000) (disch := first | assumption | omega | (simp only [AW.next_push, AW.next_put]; omega) | ((repeat refine Fresh.push ?_ _); assumption) | (simp only [same_int, same_bool, same_ptr, same_slice, same_sliceP, same_nil, same_agg2, same_string]; done) | (simp [oneCell, AW.next_push]; done) | fail) only [go_sem, Nat.reduceEqDiff, reduceIte, Nat.reduceAdd, Int.toNat_natCast, Nat.add_zero, Owes_true, Try.results23, Nat.zero_add, c0, c1, c2]
  apply callV_of (e := rfl)
  · exact refCheckTerms_ok F L C _ g.2
  rintro _ w1 ⟨rfl, hg1⟩
  have g1 := g.trans hg1
  cases hT : termsB F L C with
  | false =>
    have hE : termsE F L C = 22 := termsE_bad hT
    have h220 : ¬ (22 : Int) = 0 := by decide
    simp -dsimp -implicitDefEqProofs (maxSteps := 2000000) (disch := first | assumption | omega | (simp only [AW.next_push, AW.next_put]; omega) | ((repeat refine Fresh.push ?_ _); assumption) | (simp only [same_int, same_bool, same_ptr, same_slice, same_sliceP, same_nil, same_agg2, same_string]; done) | (simp [oneCell, AW.next_push]; done) | fail) only [go_sem, Nat.reduceEqDiff, reduceIte, Nat.reduceAdd, Int.toNat_natCast, Nat.add_zero, Owes_true, Try.results23, hE, h220]
    exact ⟨_, _, rfl, g1, .inl ⟨hT, rfl, rfl⟩⟩
  | true =>
  have hE : termsE F L C = 0 := by rw [termsE, hT]; rfl
  have hO1 := hO.keep hg1.1
  have hS1 := hS.keep hg1.1
  have c0 := hO1.cell (o := 0) rfl rfl
  have c1 := hO1.cell (o := 1) rfl rfl
  have c2 := hO1.cell (o := 2) rfl rfl
  have u0 := hS1.cell (o := 0) rfl rfl
  have u1 := hS1.cell (o := 1) rfl rfl
  simp -dsimp -implicitDefEqProofs (maxSteps := 2000000) (disch := first | assumption | omega | (simp only [AW.next_push, AW.next_put]; omega) | ((repeat refine Fresh.push ?_ _); assumption) | (simp only [same_int, same_bool, same_ptr, same_slice, same_sliceP, same_nil, same_agg2, same_string]; done) | (simp [oneCell, AW.next_push]; done) | fail) only [go_sem, Nat.reduceEqDiff, reduceIte, Nat.reduceAdd, Int.toNat_natCast, Nat.add_zero, Owes_true, Try.results23, Nat.zero_add, c0, c1, c2, u0, u1, hE, ne_eq, not_true]
  apply callV_of (e := rfl)
  · exact span_ok a b 2147483648 w1 g1.2
  rintro _ w2 ⟨rfl, hg2⟩
  have g2 := g1.trans hg2
  cases hsp : spanB a b 2147483648 with
  | false =>
    simp -dsimp -implicitDefEqProofs (maxSteps := 2000000) (disch := first | assumption | omega | (simp only [AW.next_push, AW.next_put]; omega) | ((repeat refine Fresh.push ?_ _); assumption) | (simp only [same_int, same_bool, same_ptr, same_slice, same_sliceP, same_nil, same_agg2, same_string]; done) | (simp [oneCell, AW.next_push]; done) | fail) only [go_sem, Nat.reduceEqDiff, reduceIte, Nat.reduceAdd, Int.toNat_natCast, Nat.add_zero, Owes_true, Try.results23]
    exact ⟨_, _, rfl, g2, .inr (.inl ⟨hT, hsp, rfl, rfl⟩)⟩
  | true =>
  have hO2 := hO1.keep hg2.1
  have hS2 := hS1.keep hg2.1
  have c0 := hO2.cell (o := 0) rfl rfl
  have c1 := hO2.cell (o := 1) rfl rfl
  have c2 := hO2.cell (o := 2) rfl rfl
  have u0 := hS2.cell (o := 0) rfl rfl
  have u1 := hS2.cell (o := 1) rfl rfl
  have hi := terms_in hT
  have hs := span_in hsp
  have hm := mul_in hs.1 (by omega : a ≤ 2147483648) hi.1.1 hi.1.2
  simp -dsimp -implicitDefEqProofs (maxSteps := 2000000) (disch := first | assumption | omega | (simp only [AW.next_push, AW.next_put]; omega) | ((repeat refine Fresh.push ?_ _); assumption) | (simp only [same_int, same_bool, same_ptr, same_slice, same_sliceP, same_nil, same_agg2, same_string]; done) | (simp [oneCell, AW.next_push]; done) | fail) only [go_sem, Nat.reduceEqDiff, reduceIte, Nat.reduceAdd, Int.toNat_natCast, Nat.add_zero, Owes_true, Try.results23, Nat.zero_add, c0, c1, c2, u0, u1]
  apply callV_of (e := rfl)
  · exact Down_ok (a * F) (by omega) (by omega) w2
  rintro _ _ ⟨rfl, rfl⟩
  have hz : mostZ F L C a = min (if a * F / 64 < L then min L a else a * F / 64) C := rfl
  by_cases hl : a * F / 64 < L
  · rw [if_pos hl] at hz
    simp -dsimp -implicitDefEqProofs (maxSteps := 2000000) (disch := first | assumption | omega | (simp only [AW.next_push, AW.next_put]; omega) | ((repeat refine Fresh.push ?_ _); assumption) | (simp only [same_int, same_bool, same_ptr, same_slice, same_sliceP, same_nil, same_agg2, same_string]; done) | (simp [oneCell, AW.next_push]; done) | fail) only [go_sem, Nat.reduceEqDiff, reduceIte, Nat.reduceAdd, Int.toNat_natCast, Nat.add_zero, Owes_true, Try.results23, Nat.zero_add, c0, c1, c2, u0, u1, hl]
    exact ⟨_, _, rfl, g2, .inr (.inr ⟨hT, hsp, rfl, hz.symm⟩)⟩
  · rw [if_neg hl] at hz
    simp -dsimp -implicitDefEqProofs (maxSteps := 2000000) (disch := first | assumption | omega | (simp only [AW.next_push, AW.next_put]; omega) | ((repeat refine Fresh.push ?_ _); assumption) | (simp only [same_int, same_bool, same_ptr, same_slice, same_sliceP, same_nil, same_agg2, same_string]; done) | (simp [oneCell, AW.next_push]; done) | fail) only [go_sem, Nat.reduceEqDiff, reduceIte, Nat.reduceAdd, Int.toNat_natCast, Nat.add_zero, Owes_true, Try.results23, Nat.zero_add, c0, c1, c2, u0, u1, hl]
    exact ⟨_, _, rfl, g2, .inr (.inr ⟨hT, hsp, rfl, hz.symm⟩)⟩
end Go.Proofs

/- Terms: Lend. -/
namespace Go.Proofs
open Go Go.RowKit Go.Sim
set_option maxRecDepth 100000
def LendPost (F L C a b n : Int) (w : AW) : Value → AW → Prop := fun r w' => ∃ E V, r = .tuple #[.int .i64 V, .int .i64 E] ∧ Grown w w' ∧
  ((termsB F L C = false ∧ E = 22 ∧ V = 0) ∨ (termsB F L C = true ∧ (spanB a b 2147483648 && inR 1 n 1073741824) = false ∧ E = 7 ∧ V = 0) ∨
   (termsB F L C = true ∧ (spanB a b 2147483648 && inR 1 n 1073741824) = true ∧ ((mostZ F L C a = 0 ∧ E = 4 ∧ V = 0) ∨ (mostZ F L C a ≠ 0 ∧ E = 0 ∧ V = min n (mostZ F L C a)))))
theorem Lend_ok (F L C a b n : Int) (w : AW) (f : Fresh w) :
    CallT Try.prog Try.T1 (.fn (.func 26) #[]) #[.agg #[.int .i64 F, .int .i64 L, .int .i64 C], .agg #[.int .i64 a, .int .i64 b], .int .i64 n] w (LendPost F L C a b n w) := by
  have g := ((Grown.refl f).push (.cells [.int .i64 F, .int .i64 L, .int .i64 C] 40 w.next 0 0)).push (.cells [.int .i64 a, .int .i64 b] 27 (w.next + 1) 0 0)
  have hO := (Own.new f 40 [.int .i64 F, .int .i64 L, .int .i64 C]).push (.cells [.int .i64 a, .int .i64 b] 27 (w.next + 1) 0 0)
  have hS := Own.new (f.push (.cells [.int .i64 F, .int .i64 L, .int .i64 C] 40 w.next 0 0)) 27 [.int .i64 a, .int .i64 b]
  simp only [AW.next_push] at hS
  have c0 := hO.cell (o := 0) rfl rfl
  have c1 := hO.cell (o := 1) rfl rfl
  have c2 := hO.cell (o := 2) rfl rfl
  refine callT_code rfl Try.func26 rfl Try.s26_eq rfl ?_
  unfold Try.s26
  simp -dsimp -implicitDefEqProofs (maxSteps := 2000000) (disch := first | assumption | omega | (simp only [AW.next_push, AW.next_put]; omega) | ((repeat refine Fresh.push ?_ _); assumption) | (simp only [same_int, same_bool, same_ptr, same_slice, same_sliceP, same_nil, same_agg2, same_string]; done) | (simp [oneCell, AW.next_push]; done) | fail) only [go_sem, Nat.reduceEqDiff, reduceIte, Nat.reduceAdd, Int.toNat_natCast, Nat.add_zero, Owes_true, Try.results26, Nat.zero_add, c0, c1, c2]
  apply callV_of (e := rfl)
  · exact CheckTerms_ok F L C _ g.2
  rintro _ w1 ⟨rfl, hg1⟩
  have g1 := g.trans hg1
  cases hT : termsB F L C with
  | false =>
    have hE : termsE F L C = 22 := termsE_bad hT
    have h220 : ¬ (22 : Int) = 0 := by decide
    simp -dsimp -implicitDefEqProofs (maxSteps := 2000000) (disch := first | assumption | omega | (simp only [AW.next_push, AW.next_put]; omega) | ((repeat refine Fresh.push ?_ _); assumption) | (simp only [same_int, same_bool, same_ptr, same_slice, same_sliceP, same_nil, same_agg2, same_string]; done) | (simp [oneCell, AW.next_push]; done) | fail) only [go_sem, Nat.reduceEqDiff, reduceIte, Nat.reduceAdd, Int.toNat_natCast, Nat.add_zero, Owes_true, Try.results26, hE, h220]
    exact ⟨_, _, rfl, g1, .inl ⟨hT, rfl, rfl⟩⟩
  | true =>
  have hE : termsE F L C = 0 := by rw [termsE, hT]; rfl
  have hO1 := hO.keep hg1.1
  have hS1 := hS.keep hg1.1
  have c0 := hO1.cell (o := 0) rfl rfl
  have c1 := hO1.cell (o := 1) rfl rfl
  have c2 := hO1.cell (o := 2) rfl rfl
  have u0 := hS1.cell (o := 0) rfl rfl
  have u1 := hS1.cell (o := 1) rfl rfl
  simp -dsimp -implicitDefEqProofs (maxSteps := 2000000) (disch := first | assumption | omega | (simp only [AW.next_push, AW.next_put]; omega) | ((repeat refine Fresh.push ?_ _); assumption) | (simp only [same_int, same_bool, same_ptr, same_slice, same_sliceP, same_nil, same_agg2, same_string]; done) | (simp [oneCell, AW.next_push]; done) | fail) only [go_sem, Nat.reduceEqDiff, reduceIte, Nat.reduceAdd, Int.toNat_natCast, Nat.add_zero, Owes_true, Try.results26, Nat.zero_add, c0, c1, c2, u0, u1, hE, ne_eq, not_true]
  apply callV_of (e := rfl)
  · exact isSpan_ok a b 2147483648 w1 g1.2
  rintro _ w2 ⟨rfl, hg2⟩
  have g2 := g1.trans hg2
  cases hsp : spanB a b 2147483648 with
  | false =>
    simp -dsimp -implicitDefEqProofs (maxSteps := 2000000) (disch := first | assumption | omega | (simp only [AW.next_push, AW.next_put]; omega) | ((repeat refine Fresh.push ?_ _); assumption) | (simp only [same_int, same_bool, same_ptr, same_slice, same_sliceP, same_nil, same_agg2, same_string]; done) | (simp [oneCell, AW.next_push]; done) | fail) only [go_sem, Nat.reduceEqDiff, reduceIte, Nat.reduceAdd, Int.toNat_natCast, Nat.add_zero, Owes_true, Try.results26]
    exact ⟨_, _, rfl, g2, .inr (.inl ⟨hT, by rw [hsp]; rfl, rfl, rfl⟩)⟩
  | true =>
  simp -dsimp -implicitDefEqProofs (maxSteps := 2000000) (disch := first | assumption | omega | (simp only [AW.next_push, AW.next_put]; omega) | ((repeat refine Fresh.push ?_ _); assumption) | (simp only [same_int, same_bool, same_ptr, same_slice, same_sliceP, same_nil, same_agg2, same_string]; done) | (simp [oneCell, AW.next_push]; done) | fail) only [go_sem, Nat.reduceEqDiff, reduceIte, Nat.reduceAdd, Int.toNat_natCast, Nat.add_zero, Owes_true, Try.results26]
  apply callV_of (e := rfl)
  · exact within_ok _ _ _ _
  rintro _ _ ⟨rfl, rfl⟩
  cases hw : inR 1 n 1073741824 with
  | false =>
    simp -dsimp -implicitDefEqProofs (maxSteps := 2000000) (disch := first | assumption | omega | (simp only [AW.next_push, AW.next_put]; omega) | ((repeat refine Fresh.push ?_ _); assumption) | (simp only [same_int, same_bool, same_ptr, same_slice, same_sliceP, same_nil, same_agg2, same_string]; done) | (simp [oneCell, AW.next_push]; done) | fail) only [go_sem, Nat.reduceEqDiff, reduceIte, Nat.reduceAdd, Int.toNat_natCast, Nat.add_zero, Owes_true, Try.results26]
    exact ⟨_, _, rfl, g2, .inr (.inl ⟨hT, by rw [hsp, hw]; rfl, rfl, rfl⟩)⟩
  | true =>
  have hO2 := hO1.keep hg2.1
  have hS2 := hS1.keep hg2.1
  have c0 := hO2.cell (o := 0) rfl rfl
  have c1 := hO2.cell (o := 1) rfl rfl
  have c2 := hO2.cell (o := 2) rfl rfl
  have u0 := hS2.cell (o := 0) rfl rfl
  have u1 := hS2.cell (o := 1) rfl rfl
  have hi := terms_in hT
  have hs := span_in hsp
  simp -dsimp -implicitDefEqProofs (maxSteps := 2000000) (disch := first | assumption | omega | (simp only [AW.next_push, AW.next_put]; omega) | ((repeat refine Fresh.push ?_ _); assumption) | (simp only [same_int, same_bool, same_ptr, same_slice, same_sliceP, same_nil, same_agg2, same_string]; done) | (simp [oneCell, AW.next_push]; done) | fail) only [go_sem, Nat.reduceEqDiff, reduceIte, Nat.reduceAdd, Int.toNat_natCast, Nat.add_zero, Owes_true, Try.results26, Nat.zero_add, c0, c1, c2, u0, u1]
  apply callV_of (e := rfl)
  · exact most_ok F L C a b hi.1 (by omega) w2 g2.2
  rintro _ w3 ⟨rfl, hg3⟩
  have g3 := g2.trans hg3
  by_cases hz : mostZ F L C a = 0
  · have hzd : decide (mostZ F L C a = 0) = true := decide_eq_true hz
    simp -dsimp -implicitDefEqProofs (maxSteps := 2000000) (disch := first | assumption | omega | (simp only [AW.next_push, AW.next_put]; omega) | ((repeat refine Fresh.push ?_ _); assumption) | (simp only [same_int, same_bool, same_ptr, same_slice, same_sliceP, same_nil, same_agg2, same_string]; done) | (simp [oneCell, AW.next_push]; done) | fail) only [go_sem, Nat.reduceEqDiff, reduceIte, Nat.reduceAdd, Int.toNat_natCast, Nat.add_zero, Owes_true, Try.results26, hzd]
    exact ⟨_, _, rfl, g3, .inr (.inr ⟨hT, by rw [hsp, hw]; rfl, .inl ⟨hz, rfl, rfl⟩⟩)⟩
  · simp -dsimp -implicitDefEqProofs (maxSteps := 2000000) (disch := first | assumption | omega | (simp only [AW.next_push, AW.next_put]; omega) | ((repeat refine Fresh.push ?_ _); assumption) | (simp only [same_int, same_bool, same_ptr, same_slice, same_sliceP, same_nil, same_agg2, same_string]; done) | (simp [oneCell, AW.next_push]; done) | fail) only [go_sem, Nat.reduceEqDiff, reduceIte, Nat.reduceAdd, Int.toNat_natCast, Nat.add_zero, Owes_true, Try.results26, hz]
    exact ⟨_, _, rfl, g3, .inr (.inr ⟨hT, by rw [hsp, hw]; rfl, .inr ⟨hz, rfl, rfl⟩⟩)⟩
theorem refLend_ok (F L C a b n : Int) (w : AW) (f : Fresh w) :
    CallT Try.prog Try.T1 (.fn (.func 27) #[]) #[.agg #[.int .i64 F, .int .i64 L, .int .i64 C], .agg #[.int .i64 a, .int .i64 b], .int .i64 n] w (LendPost F L C a b n w) := by
  have g := ((Grown.refl f).push (.cells [.int .i64 F, .int .i64 L, .int .i64 C] 40 w.next 0 0)).push (.cells [.int .i64 a, .int .i64 b] 27 (w.next + 1) 0 0)
  have hO := (Own.new f 40 [.int .i64 F, .int .i64 L, .int .i64 C]).push (.cells [.int .i64 a, .int .i64 b] 27 (w.next + 1) 0 0)
  have hS := Own.new (f.push (.cells [.int .i64 F, .int .i64 L, .int .i64 C] 40 w.next 0 0)) 27 [.int .i64 a, .int .i64 b]
  simp only [AW.next_push] at hS
  have c0 := hO.cell (o := 0) rfl rfl
  have c1 := hO.cell (o := 1) rfl rfl
  have c2 := hO.cell (o := 2) rfl rfl
  have u0 := hS.cell (o := 0) rfl rfl
  have u1 := hS.cell (o := 1) rfl rfl
  refine callT_code rfl Try.func27 rfl Try.s27_eq rfl ?_
  unfold Try.s27
  simp -dsimp -implicitDefEqProofs (maxSteps := 2000000) (disch := first | assumption | omega | (simp only [AW.next_push, AW.next_put]; omega) | ((repeat refine Fresh.push ?_ _); assumption) | (simp only [same_int, same_bool, same_ptr, same_slice, same_sliceP, same_nil, same_agg2, same_string]; done) | (simp [oneCell, AW.next_push]; done) | fail) only [go_sem, Nat.reduceEqDiff, reduceIte, Nat.reduceAdd, Int.toNat_natCast, Nat.add_zero, Owes_true, Try.results27, Nat.zero_add, c0, c1, c2, u0, u1]
  apply callV_of (e := rfl)
  · exact refMost_ok F L C a b _ g.2
  rintro _ w1 ⟨E, V, rfl, hg1, h⟩
  have g1 := g.trans hg1
  rcases h with ⟨hT, rfl, rfl⟩ | ⟨hT, hsp, rfl, rfl⟩ | ⟨hT, hsp, rfl, rfl⟩
  · have h220 : ¬ (22 : Int) = 0 := by decide
    simp -dsimp -implicitDefEqProofs (maxSteps := 2000000) (disch := first | assumption | omega | (simp only [AW.next_push, AW.next_put]; omega) | ((repeat refine Fresh.push ?_ _); assumption) | (simp only [same_int, same_bool, same_ptr, same_slice, same_sliceP, same_nil, same_agg2, same_string]; done) | (simp [oneCell, AW.next_push]; done) | fail) only [go_sem, Nat.reduceEqDiff, reduceIte, Nat.reduceAdd, Int.toNat_natCast, Nat.add_zero, Owes_true, Try.results27, h220]
    exact ⟨_, _, rfl, g1, .inl ⟨hT, rfl, rfl⟩⟩
  · have h70 : ¬ (7 : Int) = 0 := by decide
    simp -dsimp -implicitDefEqProofs (maxSteps := 2000000) (disch := first | assumption | omega | (simp only [AW.next_push, AW.next_put]; omega) | ((repeat refine Fresh.push ?_ _); assumption) | (simp only [same_int, same_bool, same_ptr, same_slice, same_sliceP, same_nil, same_agg2, same_string]; done) | (simp [oneCell, AW.next_push]; done) | fail) only [go_sem, Nat.reduceEqDiff, reduceIte, Nat.reduceAdd, Int.toNat_natCast, Nat.add_zero, Owes_true, Try.results27, h70]
    exact ⟨_, _, rfl, g1, .inr (.inl ⟨hT, by rw [hsp]; rfl, rfl, rfl⟩)⟩
  simp -dsimp -implicitDefEqProofs (maxSteps := 2000000) (disch := first | assumption | omega | (simp only [AW.next_push, AW.next_put]; omega) | ((repeat refine Fresh.push ?_ _); assumption) | (simp only [same_int, same_bool, same_ptr, same_slice, same_sliceP, same_nil, same_agg2, same_string]; done) | (simp [oneCell, AW.next_push]; done) | fail) only [go_sem, Nat.reduceEqDiff, reduceIte, Nat.reduceAdd, Int.toNat_natCast, Nat.add_zero, Owes_true, Try.results27, ne_eq, not_true]
  apply callV_of (e := rfl)
  · exact From_ok _ _ _ _
  rintro _ _ ⟨rfl, rfl⟩
  cases hw : inR 1 n 1073741824 with
  | false =>
    simp -dsimp -implicitDefEqProofs (maxSteps := 2000000) (disch := first | assumption | omega | (simp only [AW.next_push, AW.next_put]; omega) | ((repeat refine Fresh.push ?_ _); assumption) | (simp only [same_int, same_bool, same_ptr, same_slice, same_sliceP, same_nil, same_agg2, same_string]; done) | (simp [oneCell, AW.next_push]; done) | fail) only [go_sem, Nat.reduceEqDiff, reduceIte, Nat.reduceAdd, Int.toNat_natCast, Nat.add_zero, Owes_true, Try.results27]
    exact ⟨_, _, rfl, g1, .inr (.inl ⟨hT, by rw [hsp, hw]; rfl, rfl, rfl⟩)⟩
  | true =>
  by_cases hz : mostZ F L C a = 0
  · have hzd : decide (mostZ F L C a = 0) = true := decide_eq_true hz
    simp -dsimp -implicitDefEqProofs (maxSteps := 2000000) (disch := first | assumption | omega | (simp only [AW.next_push, AW.next_put]; omega) | ((repeat refine Fresh.push ?_ _); assumption) | (simp only [same_int, same_bool, same_ptr, same_slice, same_sliceP, same_nil, same_agg2, same_string]; done) | (simp [oneCell, AW.next_push]; done) | fail) only [go_sem, Nat.reduceEqDiff, reduceIte, Nat.reduceAdd, Int.toNat_natCast, Nat.add_zero, Owes_true, Try.results27, hzd]
    exact ⟨_, _, rfl, g1, .inr (.inr ⟨hT, by rw [hsp, hw]; rfl, .inl ⟨hz, rfl, rfl⟩⟩)⟩
  · simp -dsimp -implicitDefEqProofs (maxSteps := 2000000) (disch := first | assumption | omega | (simp only [AW.next_push, AW.next_put]; omega) | ((repeat refine Fresh.push ?_ _); assumption) | (simp only [same_int, same_bool, same_ptr, same_slice, same_sliceP, same_nil, same_agg2, same_string]; done) | (simp [oneCell, AW.next_push]; done) | fail) only [go_sem, Nat.reduceEqDiff, reduceIte, Nat.reduceAdd, Int.toNat_natCast, Nat.add_zero, Owes_true, Try.results27, hz]
    exact ⟨_, _, rfl, g1, .inr (.inr ⟨hT, by rw [hsp, hw]; rfl, .inr ⟨hz, rfl, by omega⟩⟩)⟩
end Go.Proofs

/- Words. -/
namespace Go.Proofs
open Go Go.RowKit Go.Sim
set_option maxRecDepth 100000
def letB (b : Int) : Bool := decide (97 ≤ b) && decide (b ≤ 122)
def digB (b : Int) : Bool := decide (48 ≤ b) && decide (b ≤ 57)
def byteAt (s : ByteArray) (n : Nat) : Int := if h : n < s.size then ((s[n]'h).toNat : Int) else 0
theorem byteAt_eq {s : ByteArray} {n : Nat} (h : n < s.size) : ((s[n]'h).toNat : Int) = byteAt s n := by rw [byteAt, dif_pos h]
def chB (b : Int) : Bool := letB b || digB b || decide (b = 45)
def chTo (s : ByteArray) (n : Nat) : Bool := (List.range n).all fun k => chB (byteAt s k)
theorem chTo_succ (s : ByteArray) (n : Nat) : chTo s (n + 1) = (chTo s n && chB (byteAt s n)) := by simp [chTo, List.range_succ]
theorem chTo_bad {s : ByteArray} {n m : Nat} (hn : n < m) (hb : chB (byteAt s n) = false) : chTo s m = false := by
  rw [chTo, List.all_eq_false]; exact ⟨n, List.mem_range.mpr hn, by rw [hb]; simp⟩
def wordB (s : ByteArray) : Bool := decide (1 ≤ s.size) && decide (s.size ≤ 16) && letB (byteAt s 0) && chTo s s.size
def rwB (s : ByteArray) (k : Nat) : Bool := letB (byteAt s k) || (!decide (k = 0) && (decide (byteAt s k = 45) || digB (byteAt s k)))
def rwTo (s : ByteArray) (n : Nat) : Bool := (List.range n).all (rwB s)
theorem rwTo_succ (s : ByteArray) (n : Nat) : rwTo s (n + 1) = (rwTo s n && rwB s n) := by simp [rwTo, List.range_succ]
theorem rwTo_bad {s : ByteArray} {n m : Nat} (hn : n < m) (hb : rwB s n = false) : rwTo s m = false := by
  rw [rwTo, List.all_eq_false]; exact ⟨n, List.mem_range.mpr hn, by rw [hb]; simp⟩
theorem rwTo_eq (s : ByteArray) : ∀ n, rwTo s (n + 1) = (letB (byteAt s 0) && chTo s (n + 1))
  | 0 => by
    simp [rwTo, chTo, rwB, chB, List.range_succ]
    intro h; exact .inl (.inl h)
  | n + 1 => by
    rw [rwTo_succ, rwTo_eq s n, chTo_succ s (n + 1), rwB, chB]
    rw [decide_eq_false (by omega : ¬ n + 1 = 0)]
    generalize letB (byteAt s (n + 1)) = x
    generalize digB (byteAt s (n + 1)) = y
    generalize decide (byteAt s (n + 1) = 45) = z
    cases x <;> cases y <;> cases z <;> simp
theorem wordB_eq (s : ByteArray) : wordB s = (rwTo s s.size && inR 1 (s.size : Int) 16) := by
  rw [wordB]
  by_cases h1 : 1 ≤ s.size
  · obtain ⟨n, hn⟩ : ∃ n, s.size = n + 1 := ⟨s.size - 1, by omega⟩
    have hr : inR 1 (s.size : Int) 16 = decide (s.size ≤ 16) := by rw [Bool.eq_iff_iff, inR_iff, decide_eq_true_eq]; omega
    rw [hr, decide_eq_true h1]
    rw [hn, rwTo_eq]
    generalize decide (n + 1 ≤ 16) = x
    cases x <;> simp
  · have hr : inR 1 (s.size : Int) 16 = false := by rw [← Bool.not_eq_true, inR_iff]; omega
    rw [hr, decide_eq_false h1, Bool.and_false]; rfl
theorem isLetter_ok (b : Int) (w : AW) : CallT Try.prog Try.T1 (.fn (.func 83) #[]) #[.int .u8 b] w (Ret (.bool (letB b)) fun w' => w = w') := by
  refine callT_code rfl Try.func83 rfl Try.s83_eq rfl ?_
  unfold Try.s83
  by_cases h : 97 ≤ b
  all_goals
    simp -dsimp -implicitDefEqProofs (maxSteps := 2000000) (disch := first | assumption | omega | (simp only [AW.next_push, AW.next_put]; omega) | ((repeat refine Fresh.push ?_ _); assumption) | (simp only [same_int, same_bool, same_ptr, same_slice, same_sliceP, same_nil, same_agg2, same_string]; done) | (simp [oneCell, AW.next_push]; done) | fail) only [go_sem, Nat.reduceEqDiff, reduceIte, Nat.reduceAdd, Int.toNat_natCast, Nat.add_zero, Owes_true, Try.results83, h]
    exact ⟨by simp [letB, h], rfl⟩
theorem isDigit_ok (b : Int) (w : AW) : CallT Try.prog Try.T1 (.fn (.func 84) #[]) #[.int .u8 b] w (Ret (.bool (digB b)) fun w' => w = w') := by
  refine callT_code rfl Try.func84 rfl Try.s84_eq rfl ?_
  unfold Try.s84
  by_cases h : 48 ≤ b
  all_goals
    simp -dsimp -implicitDefEqProofs (maxSteps := 2000000) (disch := first | assumption | omega | (simp only [AW.next_push, AW.next_put]; omega) | ((repeat refine Fresh.push ?_ _); assumption) | (simp only [same_int, same_bool, same_ptr, same_slice, same_sliceP, same_nil, same_agg2, same_string]; done) | (simp [oneCell, AW.next_push]; done) | fail) only [go_sem, Nat.reduceEqDiff, reduceIte, Nat.reduceAdd, Int.toNat_natCast, Nat.add_zero, Owes_true, Try.results84, h]
    exact ⟨by simp [digB, h], rfl⟩
theorem isWord_ok (s : ByteArray) (w : AW) : CallT Try.prog Try.T1 (.fn (.func 71) #[]) #[.string s] w (Ret (.bool (wordB s)) fun w' => w = w') := by
  refine callT_code rfl Try.func71 rfl Try.s71_eq rfl ?_
  unfold Try.s71
  by_cases h0 : (s.size : Int) = 0
  · have h0' : decide ((s.size : Int) = 0) = true := decide_eq_true h0
    simp -dsimp -implicitDefEqProofs (maxSteps := 2000000) (disch := first | assumption | omega | (simp only [AW.next_push, AW.next_put]; omega) | ((repeat refine Fresh.push ?_ _); assumption) | (simp only [same_int, same_bool, same_ptr, same_slice, same_sliceP, same_nil, same_agg2, same_string]; done) | (simp [oneCell, AW.next_push]; done) | fail) only [go_sem, Nat.reduceEqDiff, reduceIte, Nat.reduceAdd, Int.toNat_natCast, Nat.add_zero, Owes_true, Try.results71, h0']
    exact ⟨by rw [wordB, decide_eq_false (by omega)]; rfl, rfl⟩
  by_cases h16 : 16 < (s.size : Int)
  · simp -dsimp -implicitDefEqProofs (maxSteps := 2000000) (disch := first | assumption | omega | (simp only [AW.next_push, AW.next_put]; omega) | ((repeat refine Fresh.push ?_ _); assumption) | (simp only [same_int, same_bool, same_ptr, same_slice, same_sliceP, same_nil, same_agg2, same_string]; done) | (simp [oneCell, AW.next_push]; done) | fail) only [go_sem, Nat.reduceEqDiff, reduceIte, Nat.reduceAdd, Int.toNat_natCast, Nat.add_zero, Owes_true, Try.results71, h0, h16]
    exact ⟨by rw [wordB, decide_eq_false (by omega : ¬ s.size ≤ 16), Bool.and_false]; rfl, rfl⟩
  have hlt0 : 0 < s.size := by omega
  have hi0 : indexSQ (prg Try.prog) 9 (.string s) (.int .i64 0) = some (.int .u8 (byteAt s 0)) := by rw [← byteAt_eq hlt0]; exact Try.iq9 s .i64 0 hlt0
  simp -dsimp -implicitDefEqProofs (maxSteps := 2000000) (disch := first | assumption | omega | (simp only [AW.next_push, AW.next_put]; omega) | ((repeat refine Fresh.push ?_ _); assumption) | (simp only [same_int, same_bool, same_ptr, same_slice, same_sliceP, same_nil, same_agg2, same_string]; done) | (simp [oneCell, AW.next_push]; done) | fail) only [go_sem, Nat.reduceEqDiff, reduceIte, Nat.reduceAdd, Int.toNat_natCast, Nat.add_zero, Owes_true, Try.results71, h0, h16, hi0]
  apply callV_of (e := rfl)
  · exact isLetter_ok _ _
  rintro _ _ ⟨rfl, rfl⟩
  cases hL : letB (byteAt s 0) with
  | false =>
    simp -dsimp -implicitDefEqProofs (maxSteps := 2000000) (disch := first | assumption | omega | (simp only [AW.next_push, AW.next_put]; omega) | ((repeat refine Fresh.push ?_ _); assumption) | (simp only [same_int, same_bool, same_ptr, same_slice, same_sliceP, same_nil, same_agg2, same_string]; done) | (simp [oneCell, AW.next_push]; done) | fail) only [go_sem, Nat.reduceEqDiff, reduceIte, Nat.reduceAdd, Int.toNat_natCast, Nat.add_zero, Owes_true, Try.results71]
    exact ⟨by rw [wordB, hL, Bool.and_false]; rfl, rfl⟩
  | true =>
  simp -dsimp -implicitDefEqProofs (maxSteps := 2000000) (disch := first | assumption | omega | (simp only [AW.next_push, AW.next_put]; omega) | ((repeat refine Fresh.push ?_ _); assumption) | (simp only [same_int, same_bool, same_ptr, same_slice, same_sliceP, same_nil, same_agg2, same_string]; done) | (simp [oneCell, AW.next_push]; done) | fail) only [go_sem, Nat.reduceEqDiff, reduceIte, Nat.reduceAdd, Int.toNat_natCast, Nat.add_zero, Owes_true, Try.results71]
  refine loopR (fun k t ds w1 => ∃ i : Nat, i ≤ s.size ∧ k = s.size - i ∧ ds = [] ∧ ev t (.tmp 0) = .string s ∧ ev t (.tmp 20) = .int .i64 (s.size : Int) ∧ ev t (.tmp 21) = .int .i64 (i : Int) ∧ w = w1 ∧ chTo s i = true) (s.size) ?_ ?_
  · refine ⟨0, by omega, by omega, rfl, ?_, ?_, ?_, rfl, rfl⟩ <;> simp -dsimp -implicitDefEqProofs (maxSteps := 2000000) (disch := first | assumption | omega | (simp only [AW.next_push, AW.next_put]; omega) | ((repeat refine Fresh.push ?_ _); assumption) | (simp only [same_int, same_bool, same_ptr, same_slice, same_sliceP, same_nil, same_agg2, same_string]; done) | (simp [oneCell, AW.next_push]; done) | fail) only [go_sem, Nat.reduceEqDiff, reduceIte, Nat.reduceAdd, Int.toNat_natCast, Nat.add_zero, Owes_true] <;> rfl
  rintro k t ds w1 ⟨i, hii, rfl, rfl, e0, e20, e21, hw, hall⟩
  subst hw
  by_cases hlt : (i : Int) < (s.size : Int)
  case neg =>
    obtain rfl : i = s.size := by omega
    simp -dsimp -implicitDefEqProofs (maxSteps := 2000000) (disch := first | assumption | omega | (simp only [AW.next_push, AW.next_put]; omega) | ((repeat refine Fresh.push ?_ _); assumption) | (simp only [same_int, same_bool, same_ptr, same_slice, same_sliceP, same_nil, same_agg2, same_string]; done) | (simp [oneCell, AW.next_push]; done) | fail) only [go_sem, Nat.reduceEqDiff, reduceIte, Nat.reduceAdd, Int.toNat_natCast, Nat.add_zero, Owes_true, Try.results71, e0, e20, e21, hlt]
    exact ⟨by rw [wordB, hL, hall, decide_eq_true (by omega), decide_eq_true (by omega)]; rfl, rfl⟩
  have hlt' : i < s.size := by omega
  have hix : indexSQ (prg Try.prog) 9 (.string s) (.int .i64 (i : Int)) = some (.int .u8 (byteAt s i)) := by rw [← byteAt_eq hlt']; exact Try.iq9 s .i64 i hlt'
  simp -dsimp -implicitDefEqProofs (maxSteps := 2000000) (disch := first | assumption | omega | (simp only [AW.next_push, AW.next_put]; omega) | ((repeat refine Fresh.push ?_ _); assumption) | (simp only [same_int, same_bool, same_ptr, same_slice, same_sliceP, same_nil, same_agg2, same_string]; done) | (simp [oneCell, AW.next_push]; done) | fail) only [go_sem, Nat.reduceEqDiff, reduceIte, Nat.reduceAdd, Int.toNat_natCast, Nat.add_zero, Owes_true, Try.results71, e0, e20, e21, hlt, hix]
  apply callV_of (e := rfl)
  · exact isLetter_ok _ _
  rintro _ _ ⟨rfl, rfl⟩
  cases hA : letB (byteAt s i) with
  | true =>
    simp -dsimp -implicitDefEqProofs (maxSteps := 2000000) (disch := first | assumption | omega | (simp only [AW.next_push, AW.next_put]; omega) | ((repeat refine Fresh.push ?_ _); assumption) | (simp only [same_int, same_bool, same_ptr, same_slice, same_sliceP, same_nil, same_agg2, same_string]; done) | (simp [oneCell, AW.next_push]; done) | fail) only [go_sem, Nat.reduceEqDiff, reduceIte, Nat.reduceAdd, Int.toNat_natCast, Nat.add_zero, Owes_true, Try.results71, e0, e20, e21]
    refine ⟨_, by omega, i + 1, by omega, rfl, rfl, by (simp -dsimp -implicitDefEqProofs (maxSteps := 2000000) (disch := first | assumption | omega | (simp only [AW.next_push, AW.next_put]; omega) | ((repeat refine Fresh.push ?_ _); assumption) | (simp only [same_int, same_bool, same_ptr, same_slice, same_sliceP, same_nil, same_agg2, same_string]; done) | (simp [oneCell, AW.next_push]; done) | fail) only [go_sem, Nat.reduceEqDiff, reduceIte, Nat.reduceAdd, Int.toNat_natCast, Nat.add_zero, Owes_true, e0]; try rfl), by (simp -dsimp -implicitDefEqProofs (maxSteps := 2000000) (disch := first | assumption | omega | (simp only [AW.next_push, AW.next_put]; omega) | ((repeat refine Fresh.push ?_ _); assumption) | (simp only [same_int, same_bool, same_ptr, same_slice, same_sliceP, same_nil, same_agg2, same_string]; done) | (simp [oneCell, AW.next_push]; done) | fail) only [go_sem, Nat.reduceEqDiff, reduceIte, Nat.reduceAdd, Int.toNat_natCast, Nat.add_zero, Owes_true, e20]; try rfl), by (simp -dsimp -implicitDefEqProofs (maxSteps := 2000000) (disch := first | assumption | omega | (simp only [AW.next_push, AW.next_put]; omega) | ((repeat refine Fresh.push ?_ _); assumption) | (simp only [same_int, same_bool, same_ptr, same_slice, same_sliceP, same_nil, same_agg2, same_string]; done) | (simp [oneCell, AW.next_push]; done) | fail) only [go_sem, Nat.reduceEqDiff, reduceIte, Nat.reduceAdd, Int.toNat_natCast, Nat.add_zero, Owes_true, e21]; try rfl), rfl, by rw [chTo_succ, hall, chB, hA]; rfl⟩
  | false =>
  simp -dsimp -implicitDefEqProofs (maxSteps := 2000000) (disch := first | assumption | omega | (simp only [AW.next_push, AW.next_put]; omega) | ((repeat refine Fresh.push ?_ _); assumption) | (simp only [same_int, same_bool, same_ptr, same_slice, same_sliceP, same_nil, same_agg2, same_string]; done) | (simp [oneCell, AW.next_push]; done) | fail) only [go_sem, Nat.reduceEqDiff, reduceIte, Nat.reduceAdd, Int.toNat_natCast, Nat.add_zero, Owes_true, Try.results71]
  apply callV_of (e := rfl)
  · exact isDigit_ok _ _
  rintro _ _ ⟨rfl, rfl⟩
  cases hB : digB (byteAt s i) with
  | true =>
    simp -dsimp -implicitDefEqProofs (maxSteps := 2000000) (disch := first | assumption | omega | (simp only [AW.next_push, AW.next_put]; omega) | ((repeat refine Fresh.push ?_ _); assumption) | (simp only [same_int, same_bool, same_ptr, same_slice, same_sliceP, same_nil, same_agg2, same_string]; done) | (simp [oneCell, AW.next_push]; done) | fail) only [go_sem, Nat.reduceEqDiff, reduceIte, Nat.reduceAdd, Int.toNat_natCast, Nat.add_zero, Owes_true, Try.results71, e0, e20, e21]
    refine ⟨_, by omega, i + 1, by omega, rfl, rfl, by (simp -dsimp -implicitDefEqProofs (maxSteps := 2000000) (disch := first | assumption | omega | (simp only [AW.next_push, AW.next_put]; omega) | ((repeat refine Fresh.push ?_ _); assumption) | (simp only [same_int, same_bool, same_ptr, same_slice, same_sliceP, same_nil, same_agg2, same_string]; done) | (simp [oneCell, AW.next_push]; done) | fail) only [go_sem, Nat.reduceEqDiff, reduceIte, Nat.reduceAdd, Int.toNat_natCast, Nat.add_zero, Owes_true, e0]; try rfl), by (simp -dsimp -implicitDefEqProofs (maxSteps := 2000000) (disch := first | assumption | omega | (simp only [AW.next_push, AW.next_put]; omega) | ((repeat refine Fresh.push ?_ _); assumption) | (simp only [same_int, same_bool, same_ptr, same_slice, same_sliceP, same_nil, same_agg2, same_string]; done) | (simp [oneCell, AW.next_push]; done) | fail) only [go_sem, Nat.reduceEqDiff, reduceIte, Nat.reduceAdd, Int.toNat_natCast, Nat.add_zero, Owes_true, e20]; try rfl), by (simp -dsimp -implicitDefEqProofs (maxSteps := 2000000) (disch := first | assumption | omega | (simp only [AW.next_push, AW.next_put]; omega) | ((repeat refine Fresh.push ?_ _); assumption) | (simp only [same_int, same_bool, same_ptr, same_slice, same_sliceP, same_nil, same_agg2, same_string]; done) | (simp [oneCell, AW.next_push]; done) | fail) only [go_sem, Nat.reduceEqDiff, reduceIte, Nat.reduceAdd, Int.toNat_natCast, Nat.add_zero, Owes_true, e21]; try rfl), rfl, by rw [chTo_succ, hall, chB, hA, hB]; rfl⟩
  | false =>
  by_cases h45 : byteAt s i = 45
  · have h45' : decide (byteAt s i = 45) = true := decide_eq_true h45
    simp -dsimp -implicitDefEqProofs (maxSteps := 2000000) (disch := first | assumption | omega | (simp only [AW.next_push, AW.next_put]; omega) | ((repeat refine Fresh.push ?_ _); assumption) | (simp only [same_int, same_bool, same_ptr, same_slice, same_sliceP, same_nil, same_agg2, same_string]; done) | (simp [oneCell, AW.next_push]; done) | fail) only [go_sem, Nat.reduceEqDiff, reduceIte, Nat.reduceAdd, Int.toNat_natCast, Nat.add_zero, Owes_true, Try.results71, e0, e20, e21, h45']
    refine ⟨_, by omega, i + 1, by omega, rfl, rfl, by (simp -dsimp -implicitDefEqProofs (maxSteps := 2000000) (disch := first | assumption | omega | (simp only [AW.next_push, AW.next_put]; omega) | ((repeat refine Fresh.push ?_ _); assumption) | (simp only [same_int, same_bool, same_ptr, same_slice, same_sliceP, same_nil, same_agg2, same_string]; done) | (simp [oneCell, AW.next_push]; done) | fail) only [go_sem, Nat.reduceEqDiff, reduceIte, Nat.reduceAdd, Int.toNat_natCast, Nat.add_zero, Owes_true, e0]; try rfl), by (simp -dsimp -implicitDefEqProofs (maxSteps := 2000000) (disch := first | assumption | omega | (simp only [AW.next_push, AW.next_put]; omega) | ((repeat refine Fresh.push ?_ _); assumption) | (simp only [same_int, same_bool, same_ptr, same_slice, same_sliceP, same_nil, same_agg2, same_string]; done) | (simp [oneCell, AW.next_push]; done) | fail) only [go_sem, Nat.reduceEqDiff, reduceIte, Nat.reduceAdd, Int.toNat_natCast, Nat.add_zero, Owes_true, e20]; try rfl), by (simp -dsimp -implicitDefEqProofs (maxSteps := 2000000) (disch := first | assumption | omega | (simp only [AW.next_push, AW.next_put]; omega) | ((repeat refine Fresh.push ?_ _); assumption) | (simp only [same_int, same_bool, same_ptr, same_slice, same_sliceP, same_nil, same_agg2, same_string]; done) | (simp [oneCell, AW.next_push]; done) | fail) only [go_sem, Nat.reduceEqDiff, reduceIte, Nat.reduceAdd, Int.toNat_natCast, Nat.add_zero, Owes_true, e21]; try rfl), rfl, by rw [chTo_succ, hall, chB, hA, hB, h45']; rfl⟩
  · simp -dsimp -implicitDefEqProofs (maxSteps := 2000000) (disch := first | assumption | omega | (simp only [AW.next_push, AW.next_put]; omega) | ((repeat refine Fresh.push ?_ _); assumption) | (simp only [same_int, same_bool, same_ptr, same_slice, same_sliceP, same_nil, same_agg2, same_string]; done) | (simp [oneCell, AW.next_push]; done) | fail) only [go_sem, Nat.reduceEqDiff, reduceIte, Nat.reduceAdd, Int.toNat_natCast, Nat.add_zero, Owes_true, Try.results71, h45]
    exact ⟨by rw [wordB, chTo_bad hlt' (by rw [chB, hA, hB, decide_eq_false h45]; rfl), Bool.and_false], rfl⟩
set_option maxHeartbeats 1000000 in
theorem IsWord_ok (s : ByteArray) (hsz : s.size ≤ 140737488355328) (w : AW) : CallT Try.prog Try.T1 (.fn (.func 57) #[]) #[.string s] w (Ret (.bool (wordB s)) fun w' => w = w') := by
  refine callT_code rfl Try.func57 rfl Try.s57_eq rfl ?_
  unfold Try.s57
  simp -dsimp -implicitDefEqProofs (maxSteps := 2000000) (disch := first | assumption | omega | (simp only [AW.next_push, AW.next_put]; omega) | ((repeat refine Fresh.push ?_ _); assumption) | (simp only [same_int, same_bool, same_ptr, same_slice, same_sliceP, same_nil, same_agg2, same_string]; done) | (simp [oneCell, AW.next_push]; done) | fail) only [go_sem, Nat.reduceEqDiff, reduceIte, Nat.reduceAdd, Int.toNat_natCast, Nat.add_zero, Owes_true, Try.results57]
  refine loopR (fun k t ds w1 => ∃ i : Nat, i ≤ s.size ∧ k = s.size - i ∧ ds = [] ∧ ev t (.tmp 0) = .string s ∧ ev t (.tmp 3) = .int .i64 (i : Int) ∧ w = w1 ∧ rwTo s i = true) (s.size) ?_ ?_
  · refine ⟨0, by omega, by omega, rfl, ?_, ?_, rfl, rfl⟩ <;> simp -dsimp -implicitDefEqProofs (maxSteps := 2000000) (disch := first | assumption | omega | (simp only [AW.next_push, AW.next_put]; omega) | ((repeat refine Fresh.push ?_ _); assumption) | (simp only [same_int, same_bool, same_ptr, same_slice, same_sliceP, same_nil, same_agg2, same_string]; done) | (simp [oneCell, AW.next_push]; done) | fail) only [go_sem, Nat.reduceEqDiff, reduceIte, Nat.reduceAdd, Int.toNat_natCast, Nat.add_zero, Owes_true] <;> rfl
  rintro k t ds w1 ⟨i, hii, rfl, rfl, e0, e3, hw, hall⟩
  subst hw
  by_cases hlt : (i : Int) < (s.size : Int)
  case neg =>
    obtain rfl : i = s.size := by omega
    simp -dsimp -implicitDefEqProofs (maxSteps := 2000000) (disch := first | assumption | omega | (simp only [AW.next_push, AW.next_put]; omega) | ((repeat refine Fresh.push ?_ _); assumption) | (simp only [same_int, same_bool, same_ptr, same_slice, same_sliceP, same_nil, same_agg2, same_string]; done) | (simp [oneCell, AW.next_push]; done) | fail) only [go_sem, Nat.reduceEqDiff, reduceIte, Nat.reduceAdd, Int.toNat_natCast, Nat.add_zero, Owes_true, Try.results57, e0, e3, hlt]
    apply callV_of (e := rfl)
    · exact From_ok _ _ _ _
    rintro _ _ ⟨rfl, rfl⟩
    simp -dsimp -implicitDefEqProofs (maxSteps := 2000000) (disch := first | assumption | omega | (simp only [AW.next_push, AW.next_put]; omega) | ((repeat refine Fresh.push ?_ _); assumption) | (simp only [same_int, same_bool, same_ptr, same_slice, same_sliceP, same_nil, same_agg2, same_string]; done) | (simp [oneCell, AW.next_push]; done) | fail) only [go_sem, Nat.reduceEqDiff, reduceIte, Nat.reduceAdd, Int.toNat_natCast, Nat.add_zero, Owes_true, Try.results57]
    exact ⟨by rw [wordB_eq, hall]; rfl, rfl⟩
  have hlt' : i < s.size := by omega
  have hix : indexSQ (prg Try.prog) 9 (.string s) (.int .i64 (i : Int)) = some (.int .u8 (byteAt s i)) := by rw [← byteAt_eq hlt']; exact Try.iq9 s .i64 i hlt'
  have hnext := rwTo_succ s i
  rw [hall, Bool.true_and, rwB] at hnext
  have hbad : rwB s i = false → wordB s = false := fun q => by rw [wordB_eq, rwTo_bad hlt' q]; rfl
  rw [rwB] at hbad
  generalize byteAt s i = B at *
  by_cases q1 : 97 ≤ B ∧ B ≤ 122
  · have hL : letB B = true := by rw [letB, decide_eq_true q1.1, decide_eq_true q1.2]; rfl
    have d1 := q1.1
    have d2 := q1.2
    simp -dsimp -implicitDefEqProofs (maxSteps := 2000000) (disch := first | assumption | omega | (simp only [AW.next_push, AW.next_put]; omega) | ((repeat refine Fresh.push ?_ _); assumption) | (simp only [same_int, same_bool, same_ptr, same_slice, same_sliceP, same_nil, same_agg2, same_string]; done) | (simp [oneCell, AW.next_push]; done) | fail) only [go_sem, Nat.reduceEqDiff, reduceIte, Nat.reduceAdd, Int.toNat_natCast, Nat.add_zero, Owes_true, Try.results57, e0, e3, hlt, hix, d1, d2]
    refine ⟨_, by omega, i + 1, by omega, rfl, rfl, by (simp -dsimp -implicitDefEqProofs (maxSteps := 2000000) (disch := first | assumption | omega | (simp only [AW.next_push, AW.next_put]; omega) | ((repeat refine Fresh.push ?_ _); assumption) | (simp only [same_int, same_bool, same_ptr, same_slice, same_sliceP, same_nil, same_agg2, same_string]; done) | (simp [oneCell, AW.next_push]; done) | fail) only [go_sem, Nat.reduceEqDiff, reduceIte, Nat.reduceAdd, Int.toNat_natCast, Nat.add_zero, Owes_true, e0]; try rfl), by (simp -dsimp -implicitDefEqProofs (maxSteps := 2000000) (disch := first | assumption | omega | (simp only [AW.next_push, AW.next_put]; omega) | ((repeat refine Fresh.push ?_ _); assumption) | (simp only [same_int, same_bool, same_ptr, same_slice, same_sliceP, same_nil, same_agg2, same_string]; done) | (simp [oneCell, AW.next_push]; done) | fail) only [go_sem, Nat.reduceEqDiff, reduceIte, Nat.reduceAdd, Int.toNat_natCast, Nat.add_zero, Owes_true, e3]; try rfl), rfl, by rw [hnext, hL]; rfl⟩
  have hL : letB B = false := by rw [letB, ← Bool.not_eq_true, Bool.and_eq_true, decide_eq_true_eq, decide_eq_true_eq]; exact q1
  by_cases hi0 : i = 0
  · have hi0' : decide ((i : Int) = 0) = true := decide_eq_true (by omega)
    have hb : wordB s = false := hbad (by rw [hL, decide_eq_true hi0]; rfl)
    by_cases d1 : 97 ≤ B
    · have d2 : ¬ B ≤ 122 := by omega
      simp -dsimp -implicitDefEqProofs (maxSteps := 2000000) (disch := first | assumption | omega | (simp only [AW.next_push, AW.next_put]; omega) | ((repeat refine Fresh.push ?_ _); assumption) | (simp only [same_int, same_bool, same_ptr, same_slice, same_sliceP, same_nil, same_agg2, same_string]; done) | (simp [oneCell, AW.next_push]; done) | fail) only [go_sem, Nat.reduceEqDiff, reduceIte, Nat.reduceAdd, Int.toNat_natCast, Nat.add_zero, Owes_true, Try.results57, e0, e3, hlt, hix, d1, d2, hi0']
      exact ⟨by rw [hb], rfl⟩
    · simp -dsimp -implicitDefEqProofs (maxSteps := 2000000) (disch := first | assumption | omega | (simp only [AW.next_push, AW.next_put]; omega) | ((repeat refine Fresh.push ?_ _); assumption) | (simp only [same_int, same_bool, same_ptr, same_slice, same_sliceP, same_nil, same_agg2, same_string]; done) | (simp [oneCell, AW.next_push]; done) | fail) only [go_sem, Nat.reduceEqDiff, reduceIte, Nat.reduceAdd, Int.toNat_natCast, Nat.add_zero, Owes_true, Try.results57, e0, e3, hlt, hix, d1, hi0']
      exact ⟨by rw [hb], rfl⟩
  have hi0' : ¬ (i : Int) = 0 := by omega
  rw [hL, decide_eq_false hi0] at hnext hbad
  by_cases h45 : B = 45
  · have h45' : decide (B = 45) = true := decide_eq_true h45
    have d1 : ¬ 97 ≤ B := by omega
    simp -dsimp -implicitDefEqProofs (maxSteps := 2000000) (disch := first | assumption | omega | (simp only [AW.next_push, AW.next_put]; omega) | ((repeat refine Fresh.push ?_ _); assumption) | (simp only [same_int, same_bool, same_ptr, same_slice, same_sliceP, same_nil, same_agg2, same_string]; done) | (simp [oneCell, AW.next_push]; done) | fail) only [go_sem, Nat.reduceEqDiff, reduceIte, Nat.reduceAdd, Int.toNat_natCast, Nat.add_zero, Owes_true, Try.results57, e0, e3, hlt, hix, d1, hi0', h45']
    refine ⟨_, by omega, i + 1, by omega, rfl, rfl, by (simp -dsimp -implicitDefEqProofs (maxSteps := 2000000) (disch := first | assumption | omega | (simp only [AW.next_push, AW.next_put]; omega) | ((repeat refine Fresh.push ?_ _); assumption) | (simp only [same_int, same_bool, same_ptr, same_slice, same_sliceP, same_nil, same_agg2, same_string]; done) | (simp [oneCell, AW.next_push]; done) | fail) only [go_sem, Nat.reduceEqDiff, reduceIte, Nat.reduceAdd, Int.toNat_natCast, Nat.add_zero, Owes_true, e0]; try rfl), by (simp -dsimp -implicitDefEqProofs (maxSteps := 2000000) (disch := first | assumption | omega | (simp only [AW.next_push, AW.next_put]; omega) | ((repeat refine Fresh.push ?_ _); assumption) | (simp only [same_int, same_bool, same_ptr, same_slice, same_sliceP, same_nil, same_agg2, same_string]; done) | (simp [oneCell, AW.next_push]; done) | fail) only [go_sem, Nat.reduceEqDiff, reduceIte, Nat.reduceAdd, Int.toNat_natCast, Nat.add_zero, Owes_true, e3]; try rfl), rfl, by rw [hnext, h45']; rfl⟩
  by_cases q2 : 48 ≤ B ∧ B ≤ 57
  · have d1 : ¬ 97 ≤ B := by omega
    have d3 := q2.1
    have d4 := q2.2
    have hD : digB B = true := by rw [digB, decide_eq_true d3, decide_eq_true d4]; rfl
    simp -dsimp -implicitDefEqProofs (maxSteps := 2000000) (disch := first | assumption | omega | (simp only [AW.next_push, AW.next_put]; omega) | ((repeat refine Fresh.push ?_ _); assumption) | (simp only [same_int, same_bool, same_ptr, same_slice, same_sliceP, same_nil, same_agg2, same_string]; done) | (simp [oneCell, AW.next_push]; done) | fail) only [go_sem, Nat.reduceEqDiff, reduceIte, Nat.reduceAdd, Int.toNat_natCast, Nat.add_zero, Owes_true, Try.results57, e0, e3, hlt, hix, d1, hi0', h45, d3, d4]
    refine ⟨_, by omega, i + 1, by omega, rfl, rfl, by (simp -dsimp -implicitDefEqProofs (maxSteps := 2000000) (disch := first | assumption | omega | (simp only [AW.next_push, AW.next_put]; omega) | ((repeat refine Fresh.push ?_ _); assumption) | (simp only [same_int, same_bool, same_ptr, same_slice, same_sliceP, same_nil, same_agg2, same_string]; done) | (simp [oneCell, AW.next_push]; done) | fail) only [go_sem, Nat.reduceEqDiff, reduceIte, Nat.reduceAdd, Int.toNat_natCast, Nat.add_zero, Owes_true, e0]; try rfl), by (simp -dsimp -implicitDefEqProofs (maxSteps := 2000000) (disch := first | assumption | omega | (simp only [AW.next_push, AW.next_put]; omega) | ((repeat refine Fresh.push ?_ _); assumption) | (simp only [same_int, same_bool, same_ptr, same_slice, same_sliceP, same_nil, same_agg2, same_string]; done) | (simp [oneCell, AW.next_push]; done) | fail) only [go_sem, Nat.reduceEqDiff, reduceIte, Nat.reduceAdd, Int.toNat_natCast, Nat.add_zero, Owes_true, e3]; try rfl), rfl, by rw [hnext, hD, decide_eq_false h45]; rfl⟩
  have hD : digB B = false := by rw [digB, ← Bool.not_eq_true, Bool.and_eq_true, decide_eq_true_eq, decide_eq_true_eq]; exact q2
  have hb : wordB s = false := hbad (by rw [hD, decide_eq_false h45]; rfl)
  by_cases d1 : 97 ≤ B
  · have d2 : ¬ B ≤ 122 := by omega
    have d3 : 48 ≤ B := by omega
    have d4 : ¬ B ≤ 57 := by omega
    simp -dsimp -implicitDefEqProofs (maxSteps := 2000000) (disch := first | assumption | omega | (simp only [AW.next_push, AW.next_put]; omega) | ((repeat refine Fresh.push ?_ _); assumption) | (simp only [same_int, same_bool, same_ptr, same_slice, same_sliceP, same_nil, same_agg2, same_string]; done) | (simp [oneCell, AW.next_push]; done) | fail) only [go_sem, Nat.reduceEqDiff, reduceIte, Nat.reduceAdd, Int.toNat_natCast, Nat.add_zero, Owes_true, Try.results57, e0, e3, hlt, hix, d1, d2, hi0', h45, d3, d4]
    exact ⟨by rw [hb], rfl⟩
  · by_cases d3 : 48 ≤ B
    · have d4 : ¬ B ≤ 57 := by omega
      simp -dsimp -implicitDefEqProofs (maxSteps := 2000000) (disch := first | assumption | omega | (simp only [AW.next_push, AW.next_put]; omega) | ((repeat refine Fresh.push ?_ _); assumption) | (simp only [same_int, same_bool, same_ptr, same_slice, same_sliceP, same_nil, same_agg2, same_string]; done) | (simp [oneCell, AW.next_push]; done) | fail) only [go_sem, Nat.reduceEqDiff, reduceIte, Nat.reduceAdd, Int.toNat_natCast, Nat.add_zero, Owes_true, Try.results57, e0, e3, hlt, hix, d1, hi0', h45, d3, d4]
      exact ⟨by rw [hb], rfl⟩
    · simp -dsimp -implicitDefEqProofs (maxSteps := 2000000) (disch := first | assumption | omega | (simp only [AW.next_push, AW.next_put]; omega) | ((repeat refine Fresh.push ?_ _); assumption) | (simp only [same_int, same_bool, same_ptr, same_slice, same_sliceP, same_nil, same_agg2, same_string]; done) | (simp [oneCell, AW.next_push]; done) | fail) only [go_sem, Nat.reduceEqDiff, reduceIte, Nat.reduceAdd, Int.toNat_natCast, Nat.add_zero, Owes_true, Try.results57, e0, e3, hlt, hix, d1, hi0', h45, d3]
      exact ⟨by rw [hb], rfl⟩
end Go.Proofs
