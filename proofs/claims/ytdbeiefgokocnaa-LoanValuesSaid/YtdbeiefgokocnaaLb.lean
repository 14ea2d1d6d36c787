/- Terms: the contract of Lend. -/
import Derived.Test.YtdbeiefgokocnaaLa
set_option linter.unusedVariables false
set_option linter.unusedSimpArgs false
/- Terms: Lend. -/
namespace Go.Proofs
open Go Go.RowKit Go.Sim
set_option maxRecDepth 100000
def LendPost (F L C a b n : Int) (w : AW) : Value → AW → Prop := fun r w' => ∃ E V, r = .tuple #[.int .i64 V, .int .i64 E] ∧ Grown w w' ∧
  ((termsB F L C = false ∧ E = 22 ∧ V = 0) ∨ (termsB F L C = true ∧ (spanB a b 2147483648 && inR 1 n 1073741824) = false ∧ E = 7 ∧ V = 0) ∨
   (termsB F L C = true ∧ (spanB a b 2147483648 && inR 1 n 1073741824) = true ∧ ((mostZ F L C a = 0 ∧ E = 4 ∧ V = 0) ∨ (mostZ F L C a ≠ 0 ∧ E = 0 ∧ V = min n (mostZ F L C a)))))
theorem Lend_ok (F L C a b n : Int) (w : AW) (f : Fresh w) :
    CallT Try.prog Try.T1 (.fn (.func 26) #[]) #[.agg #[.int .i64 F, .int .i64 L, .int .i64 C], .agg #[.int .i64 a, .int .i64 b], .int .i64 n] w (LendPost F L C a b n w) := by
  have g := ((Grown.refl f).push (.cells [.int .i64 F, .int .i64 L, .int .i64 C] 40 w.next 0 0)).push (.cells [.int .i64 a, .int .i64 b] 27 (w.next + 1) 0 0)
  have hO := (Own.new f 40 [.int .i64 F, .int .i64 L, .int .i64 C]).push (.cells [.int .i64 a, .int .i64 b] 27 (w.next + 1) 0 0)
  have hS := Own.new (f.push (.cells [.int .i64 F, .int .i64 L, .int .i64 C] 40 w.next 0 0)) 27 [.int .i64 a, .int .i64 b]
  simp only [AW.next_push] at hS
  have c0 := hO.cell (o := 0) rfl rfl
  have c1 := hO.cell (o := 1) rfl rfl
  have c2 := hO.cell (o := 2) rfl rfl
  refine callT_code rfl Try.func26 rfl Try.s26_eq rfl ?_
  unfold Try.s26
  simp -dsimp -implicitDefEqProofs (maxSteps := 2000000) (disch := first | assumption | omega | (simp only [AW.next_push, AW.next_put]; omega) | ((repeat refine Fresh.push ?_ _); assumption) | (simp only [same_int, same_bool, same_ptr, same_slice, same_sliceP, same_nil, same_agg2, same_string]; done) | (simp [oneCell, AW.next_push]; done) | fail) only [go_sem, Nat.reduceEqDiff, reduceIte, Nat.reduceAdd, Int.toNat_natCast, Nat.add_zero, Owes_true, Try.results26, Nat.zero_add, c0, c1, c2]
  apply callV_of (e := rfl)
  · exact CheckTerms_ok F L C _ g.2
  rintro _ w1 ⟨rfl, hg1⟩
  have g1 := g.trans hg1
  cases hT : termsB F L C with
  | false =>
    have hE : termsE F L C = 22 := termsE_bad hT
    have h220 : ¬ (22 : Int) = 0 := by decide
    simp -dsimp -implicitDefEqProofs (maxSteps := 2000000) (disch := first | assumption | omega | (simp only [AW.next_push, AW.next_put]; omega) | ((repeat refine Fresh.push ?_ _); assumption) | (simp only [same_int, same_bool, same_ptr, same_slice, same_sliceP, same_nil, same_agg2, same_string]; done) | (simp [oneCell, AW.next_push]; done) | fail) only [go_sem, Nat.reduceEqDiff, reduceIte, Nat.reduceAdd, Int.toNat_natCast, Nat.add_zero, Owes_true, Try.results26, hE, h220]
    exact ⟨_, _, rfl, g1, .inl ⟨hT, rfl, rfl⟩⟩
  | true =>
  have hE : termsE F L C = 0 := by rw [termsE, hT]; rfl
  have hO1 := hO.keep hg1.1
  have hS1 := hS.keep hg1.1
  have c0 := hO1.cell (o := 0) rfl rfl
  have c1 := hO1.cell (o := 1) rfl rfl
  have c2 := hO1.cell (o := 2) rfl rfl
  have u0 := hS1.cell (o := 0) rfl rfl
  have u1 := hS1.cell (o := 1) rfl rfl
  simp -dsimp -implicitDefEqProofs (maxSteps := 2000000) (disch := first | assumption | omega | (simp only [AW.next_push, AW.next_put]; omega) | ((repeat refine Fresh.push ?_ _); assumption) | (simp only [same_int, same_bool, same_ptr, same_slice, same_sliceP, same_nil, same_agg2, same_string]; done) | (simp [oneCell, AW.next_push]; done) | fail) only [go_sem, Nat.reduceEqDiff, reduceIte, Nat.reduceAdd, Int.toNat_natCast, Nat.add_zero, Owes_true, Try.results26, Nat.zero_add, c0, c1, c2, u0, u1, hE, ne_eq, not_true]
  apply callV_of (e := rfl)
  · exact isSpan_ok a b 2147483648 w1 g1.2
  rintro _ w2 ⟨rfl, hg2⟩
  have g2 := g1.trans hg2
  cases hsp : spanB a b 2147483648 with
  | false =>
    simp -dsimp -implicitDefEqProofs (maxSteps := 2000000) (disch := first | assumption | omega | (simp only [AW.next_push, AW.next_put]; omega) | ((repeat refine Fresh.push ?_ _); assumption) | (simp only [same_int, same_bool, same_ptr, same_slice, same_sliceP, same_nil, same_agg2, same_string]; done) | (simp [oneCell, AW.next_push]; done) | fail) only [go_sem, Nat.reduceEqDiff, reduceIte, Nat.reduceAdd, Int.toNat_natCast, Nat.add_zero, Owes_true, Try.results26]
    exact ⟨_, _, rfl, g2, .inr (.inl ⟨hT, by rw [hsp]; rfl, rfl, rfl⟩)⟩
  | true =>
  simp -dsimp -implicitDefEqProofs (maxSteps := 2000000) (disch := first | assumption | omega | (simp only [AW.next_push, AW.next_put]; omega) | ((repeat refine Fresh.push ?_ _); assumption) | (simp only [same_int, same_bool, same_ptr, same_slice, same_sliceP, same_nil, same_agg2, same_string]; done) | (simp [oneCell, AW.next_push]; done) | fail) only [go_sem, Nat.reduceEqDiff, reduceIte, Nat.reduceAdd, Int.toNat_natCast, Nat.add_zero, Owes_true, Try.results26]
  apply callV_of (e := rfl)
  · exact within_ok _ _ _ _
  rintro _ _ ⟨rfl, rfl⟩
  cases hw : inR 1 n 1073741824 with
  | false =>
    simp -dsimp -implicitDefEqProofs (maxSteps := 2000000) (disch := first | assumption | omega | (simp only [AW.next_push, AW.next_put]; omega) | ((repeat refine Fresh.push ?_ _); assumption) | (simp only [same_int, same_bool, same_ptr, same_slice, same_sliceP, same_nil, same_agg2, same_string]; done) | (simp [oneCell, AW.next_push]; done) | fail) only [go_sem, Nat.reduceEqDiff, reduceIte, Nat.reduceAdd, Int.toNat_natCast, Nat.add_zero, Owes_true, Try.results26]
    exact ⟨_, _, rfl, g2, .inr (.inl ⟨hT, by rw [hsp, hw]; rfl, rfl, rfl⟩)⟩
  | true =>
  have hO2 := hO1.keep hg2.1
  have hS2 := hS1.keep hg2.1
  have c0 := hO2.cell (o := 0) rfl rfl
  have c1 := hO2.cell (o := 1) rfl rfl
  have c2 := hO2.cell (o := 2) rfl rfl
  have u0 := hS2.cell (o := 0) rfl rfl
  have u1 := hS2.cell (o := 1) rfl rfl
  have hi := terms_in hT
  have hs := span_in hsp
  simp -dsimp -implicitDefEqProofs (maxSteps := 2000000) (disch := first | assumption | omega | (simp only [AW.next_push, AW.next_put]; omega) | ((repeat refine Fresh.push ?_ _); assumption) | (simp only [same_int, same_bool, same_ptr, same_slice, same_sliceP, same_nil, same_agg2, same_string]; done) | (simp [oneCell, AW.next_push]; done) | fail) only [go_sem, Nat.reduceEqDiff, reduceIte, Nat.reduceAdd, Int.toNat_natCast, Nat.add_zero, Owes_true, Try.results26, Nat.zero_add, c0, c1, c2, u0, u1]
  apply callV_of (e := rfl)
  · exact most_ok F L C a b hi.1 (by omega) w2 g2.2
  rintro _ w3 ⟨rfl, hg3⟩
  have g3 := g2.trans hg3
  by_cases hz : mostZ F L C a = 0
  · have hzd : decide (mostZ F L C a = 0) = true := decide_eq_true hz
    simp -dsimp -implicitDefEqProofs (maxSteps := 2000000) (disch := first | assumption | omega | (simp only [AW.next_push, AW.next_put]; omega) | ((repeat refine Fresh.push ?_ _); assumption) | (simp only [same_int, same_bool, same_ptr, same_slice, same_sliceP, same_nil, same_agg2, same_string]; done) | (simp [oneCell, AW.next_push]; done) | fail) only [go_sem, Nat.reduceEqDiff, reduceIte, Nat.reduceAdd, Int.toNat_natCast, Nat.add_zero, Owes_true, Try.results26, hzd]
    exact ⟨_, _, rfl, g3, .inr (.inr ⟨hT, by rw [hsp, hw]; rfl, .inl ⟨hz, rfl, rfl⟩⟩)⟩
  · simp -dsimp -implicitDefEqProofs (maxSteps := 2000000) (disch := first | assumption | omega | (simp only [AW.next_push, AW.next_put]; omega) | ((repeat refine Fresh.push ?_ _); assumption) | (simp only [same_int, same_bool, same_ptr, same_slice, same_sliceP, same_nil, same_agg2, same_string]; done) | (simp [oneCell, AW.next_push]; done) | fail) only [go_sem, Nat.reduceEqDiff, reduceIte, Nat.reduceAdd, Int.toNat_natCast, Nat.add_zero, Owes_true, Try.results26, hz]
    exact ⟨_, _, rfl, g3, .inr (.inr ⟨hT, by rw [hsp, hw]; rfl, .inr ⟨hz, rfl, rfl⟩⟩)⟩
theorem refLend_ok (F L C a b n : Int) (w : AW) (f : Fresh w) :
    CallT Try.prog Try.T1 (.fn (.func 27) #[]) #[.agg #[.int .i64 F, .int .i64 L, .int .i64 C], .agg #[.int .i64 a, .int .i64 b], .int .i64 n] w (LendPost F L C a b n w) := by
  have g := ((Grown.refl f).push (.cells [.int .i64 F, .int .i64 L, .int .i64 C] 40 w.next 0 0)).push (.cells [.int .i64 a, .int .i64 b] 27 (w.next + 1) 0 0)
  have hO := (Own.new f 40 [.int .i64 F, .int .i64 L, .int .i64 C]).push (.cells [.int .i64 a, .int .i64 b] 27 (w.next + 1) 0 0)
  have hS := Own.new (f.push (.cells [.int .i64 F, .int .i64 L, .int .i64 C] 40 w.next 0 0)) 27 [.int .i64 a, .int .i64 b]
  simp only [AW.next_push] at hS
  have c0 := hO.cell (o := 0) rfl rfl
  have c1 := hO.cell (o := 1) rfl rfl
  have c2 := hO.cell (o := 2) rfl rfl
  have u0 := hS.cell (o := 0) rfl rfl
  have u1 := hS.cell (o := 1) rfl rfl
  refine callT_code rfl Try.func27 rfl Try.s27_eq rfl ?_
  unfold Try.s27
  simp -dsimp -implicitDefEqProofs (maxSteps := 2000000) (disch := first | assumption | omega | (simp only [AW.next_push, AW.next_put]; omega) | ((repeat refine Fresh.push ?_ _); assumption) | (simp only [same_int, same_bool, same_ptr, same_slice, same_sliceP, same_nil, same_agg2, same_string]; done) | (simp [oneCell, AW.next_push]; done) | fail) only [go_sem, Nat.reduceEqDiff, reduceIte, Nat.reduceAdd, Int.toNat_natCast, Nat.add_zero, Owes_true, Try.results27, Nat.zero_add, c0, c1, c2, u0, u1]
  apply callV_of (e := rfl)
  · exact refMost_ok F L C a b _ g.2
  rintro _ w1 ⟨E, V, rfl, hg1, h⟩
  have g1 := g.trans hg1
  rcases h with ⟨hT, rfl, rfl⟩ | ⟨hT, hsp, rfl, rfl⟩ | ⟨hT, hsp, rfl, rfl⟩
  · have h220 : ¬ (22 : Int) = 0 := by decide
    simp -dsimp -implicitDefEqProofs (maxSteps := 2000000) (disch := first | assumption | omega | (simp only [AW.next_push, AW.next_put]; omega) | ((repeat refine Fresh.push ?_ _); assumption) | (simp only [same_int, same_bool, same_ptr, same_slice, same_sliceP, same_nil, same_agg2, same_string]; done) | (simp [oneCell, AW.next_push]; done) | fail) only [go_sem, Nat.reduceEqDiff, reduceIte, Nat.reduceAdd, Int.toNat_natCast, Nat.add_zero, Owes_true, Try.results27, h220]
    exact ⟨_, _, rfl, g1, .inl ⟨hT, rfl, rfl⟩⟩
  · have h70 : ¬ (7 : Int) = 0 := by decide
    simp -dsimp -implicitDefEqProofs (maxSteps := 2000000) (disch := first | assumption | omega | (simp only [AW.next_push, AW.next_put]; omega) | ((repeat refine Fresh.push ?_ _); assumption) | (simp only [same_int, same_bool, same_ptr, same_slice, same_sliceP, same_nil, same_agg2, same_string]; done) | (simp [oneCell, AW.next_push]; done) | fail) only [go_sem, Nat.reduceEqDiff, reduceIte, Nat.reduceAdd, Int.toNat_natCast, Nat.add_zero, Owes_true, Try.results27, h70]
    exact ⟨_, _, rfl, g1, .inr (.inl ⟨hT, by rw [hsp]; rfl, rfl, rfl⟩)⟩
  simp -dsimp -implicitDefEqProofs (maxSteps := 2000000) (disch := first | assumption | omega | (simp only [AW.next_push, AW.next_put]; omega) | ((repeat refine Fresh.push ?_ _); assumption) | (simp only [same_int, same_bool, same_ptr, same_slice, same_sliceP, same_nil, same_agg2, same_string]; done) | (simp [oneCell, AW.next_push]; done) | fail) only [go_sem, Nat.reduceEqDiff, reduceIte, Nat.reduceAdd, Int.toNat_natCast, Nat.add_zero, Owes_true, Try.results27, ne_eq, not_true]
  apply callV_of (e := rfl)
  · exact From_ok _ _ _ _
  rintro _ _ ⟨rfl, rfl⟩
  cases hw : inR 1 n 1073741824 with
  | false =>
    simp -dsimp -implicitDefEqProofs (maxSteps := 2000000) (disch := first | assumption | omega | (simp only [AW.next_push, AW.next_put]; omega) | ((repeat refine Fresh.push ?_ _); assumption) | (simp only [same_int, same_bool, same_ptr, same_slice, same_sliceP, same_nil, same_agg2, same_string]; done) | (simp [oneCell, AW.next_push]; done) | fail) only [go_sem, Nat.reduceEqDiff, reduceIte, Nat.reduceAdd, Int.toNat_natCast, Nat.add_zero, Owes_true, Try.results27]
    exact ⟨_, _, rfl, g1, .inr (.inl ⟨hT, by rw [hsp, hw]; rfl, rfl, rfl⟩)⟩
  | true =>
  by_cases hz : mostZ F L C a = 0
  · have hzd : decide (mostZ F L C a = 0) = true := decide_eq_true hz
    simp -dsimp -implicitDefEqProofs (maxSteps := 2000000) (disch := first | assumption | omega | (simp only [AW.next_push, AW.next_put]; omega) | ((repeat refine Fresh.push ?_ _); assumption) | (simp only [same_int, same_bool, same_ptr, same_slice, same_sliceP, same_nil, same_agg2, same_string]; done) | (simp [oneCell, AW.next_push]; done) | fail) only [go_sem, Nat.reduceEqDiff, reduceIte, Nat.reduceAdd, Int.toNat_natCast, Nat.add_zero, Owes_true, Try.results27, hzd]
    exact ⟨_, _, rfl, g1, .inr (.inr ⟨hT, by rw [hsp, hw]; rfl, .inl ⟨hz, rfl, rfl⟩⟩)⟩
  · simp -dsimp -implicitDefEqProofs (maxSteps := 2000000) (disch := first | assumption | omega | (simp only [AW.next_push, AW.next_put]; omega) | ((repeat refine Fresh.push ?_ _); assumption) | (simp only [same_int, same_bool, same_ptr, same_slice, same_sliceP, same_nil, same_agg2, same_string]; done) | (simp [oneCell, AW.next_push]; done) | fail) only [go_sem, Nat.reduceEqDiff, reduceIte, Nat.reduceAdd, Int.toNat_natCast, Nat.add_zero, Owes_true, Try.results27, hz]
    exact ⟨_, _, rfl, g1, .inr (.inr ⟨hT, by rw [hsp, hw]; rfl, .inr ⟨hz, rfl, by omega⟩⟩)⟩
end Go.Proofs
