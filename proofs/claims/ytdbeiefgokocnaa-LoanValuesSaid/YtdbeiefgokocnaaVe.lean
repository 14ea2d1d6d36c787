/- Markets: the chapter's CheckMarket, Crafts and Value. -/
import Derived.Test.YtdbeiefgokocnaaVd
import Derived.Test.YtdbeiefgokocnaaTw
import Derived.Test.YtdbeiefgokocnaaVa
import Derived.Test.YtdbeiefgokocnaaLa
set_option linter.unusedVariables false
set_option linter.unusedSimpArgs false
/- Markets: the chapter's check. -/
namespace Go.Proofs
open Go Go.RowKit Go.Sim
set_option maxRecDepth 100000
set_option maxHeartbeats 4000000 in
theorem refCheckMarket_ok (x : MarkN) (S : List SaleN) (F : List Int) (vs vf : Value) (w : AW) (f : Fresh w) (hS : ArrOf w 5 scel vs S) (hs : ArrOf w 1 icells vf F) :
    CallT Try.prog Try.T1 (.fn (.func 18) #[]) #[.agg #[vs, vf, .int .i64 x.m, .int .i64 x.d, .int .i64 x.f]] w (Ret (.int .i64 (markE x S F)) (Grown w)) := by
  obtain ⟨q, cap2, rfl, hq1, hq2, hat2⟩ := id hs.open
  obtain ⟨p, cap, rfl, hp1, hp2, hat⟩ := id hS.open
  have hvs : oneCell (.slice p S.length cap) = true := rfl
  have hvf : oneCell (.slice q F.length cap2) = true := rfl
  have g := (Grown.refl f).push (.cells [.slice p S.length cap, .slice q F.length cap2, .int .i64 x.m, .int .i64 x.d, .int .i64 x.f] 25 w.next 0 0)
  have hO := Own.new f 25 [.slice p S.length cap, .slice q F.length cap2, .int .i64 x.m, .int .i64 x.d, .int .i64 x.f]
  have c0 := (hO).cell (o := 0) rfl hvs
  have c1 := (hO).cell (o := 1) rfl hvf
  have c2 := (hO).cell (o := 2) rfl rfl
  have c3 := (hO).cell (o := 3) rfl rfl
  have c4 := (hO).cell (o := 4) rfl rfl
  refine callT_code rfl Try.func18 rfl Try.s18b_eq rfl ?_
  unfold Try.s18b
  simp -dsimp -implicitDefEqProofs (maxSteps := 2000000) (disch := first | assumption | omega | (simp only [AW.next_push, AW.next_put]; omega) | ((repeat refine Fresh.push ?_ _); assumption) | (simp only [same_int, same_bool, same_ptr, same_slice, same_sliceP, same_nil, same_agg2, same_string]; done) | (simp [oneCell, AW.next_push]; done) | fail) only [go_sem, Nat.reduceEqDiff, reduceIte, Nat.reduceAdd, Int.toNat_natCast, Nat.add_zero, Owes_true, Try.results18, Nat.zero_add, c0, c1, c2, c3, c4]
  generalize w.push (.cells [.slice p S.length cap, .slice q F.length cap2, .int .i64 x.m, .int .i64 x.d, .int .i64 x.f] 25 w.next 0 0) = W at *
  obtain ⟨P, hP⟩ : ∃ P, (inR 1 (F.length : Int) 8 && inR 0 x.m 100000 && inR 0 x.d 36500 && inR 1 x.f 16 && decide ((S.length : Int) ≤ 64)) = P := ⟨_, rfl⟩
  apply joinC (F := fun t => ev t (.tmp 1) = .pointer (some ⟨w.next, 0, none⟩) ∧ ev t (.tmp 3) = .bool P) (w := W)
  case mainC =>
    intro go
    apply callV_of (e := rfl)
    · exact From_ok _ _ _ _
    rintro _ _ ⟨rfl, rfl⟩
    cases h1 : inR 1 (F.length : Int) 8 with
    | false =>
      have hp : P = false := by rw [← hP]; simp [h1]
      simp -dsimp -implicitDefEqProofs (maxSteps := 2000000) (disch := first | assumption | omega | (simp only [AW.next_push, AW.next_put]; omega) | ((repeat refine Fresh.push ?_ _); assumption) | (simp only [same_int, same_bool, same_ptr, same_slice, same_sliceP, same_nil, same_agg2, same_string]; done) | (simp [oneCell, AW.next_push]; done) | fail) only [go_sem, Nat.reduceEqDiff, reduceIte, Nat.reduceAdd, Int.toNat_natCast, Nat.add_zero, Owes_true, Try.results18]
      exact joinC_use go ⟨by (simp -dsimp -implicitDefEqProofs (maxSteps := 2000000) (disch := first | assumption | omega | (simp only [AW.next_push, AW.next_put]; omega) | ((repeat refine Fresh.push ?_ _); assumption) | (simp only [same_int, same_bool, same_ptr, same_slice, same_sliceP, same_nil, same_agg2, same_string]; done) | (simp [oneCell, AW.next_push]; done) | fail) only [go_sem, Nat.reduceEqDiff, reduceIte, Nat.reduceAdd, Int.toNat_natCast, Nat.add_zero, Owes_true]; try rfl), by (rw [hp]; simp -dsimp -implicitDefEqProofs (maxSteps := 2000000) (disch := first | assumption | omega | (simp only [AW.next_push, AW.next_put]; omega) | ((repeat refine Fresh.push ?_ _); assumption) | (simp only [same_int, same_bool, same_ptr, same_slice, same_sliceP, same_nil, same_agg2, same_string]; done) | (simp [oneCell, AW.next_push]; done) | fail) only [go_sem, Nat.reduceEqDiff, reduceIte, Nat.reduceAdd, Int.toNat_natCast, Nat.add_zero, Owes_true]; try rfl)⟩
    | true =>
    simp -dsimp -implicitDefEqProofs (maxSteps := 2000000) (disch := first | assumption | omega | (simp only [AW.next_push, AW.next_put]; omega) | ((repeat refine Fresh.push ?_ _); assumption) | (simp only [same_int, same_bool, same_ptr, same_slice, same_sliceP, same_nil, same_agg2, same_string]; done) | (simp [oneCell, AW.next_push]; done) | fail) only [go_sem, Nat.reduceEqDiff, reduceIte, Nat.reduceAdd, Int.toNat_natCast, Nat.add_zero, Owes_true, Try.results18, c2, Nat.zero_add]
    apply callV_of (e := rfl)
    · exact From_ok _ _ _ _
    rintro _ _ ⟨rfl, rfl⟩
    cases h2 : inR 0 x.m 100000 with
    | false =>
      have hp : P = false := by rw [← hP]; simp [h2]
      simp -dsimp -implicitDefEqProofs (maxSteps := 2000000) (disch := first | assumption | omega | (simp only [AW.next_push, AW.next_put]; omega) | ((repeat refine Fresh.push ?_ _); assumption) | (simp only [same_int, same_bool, same_ptr, same_slice, same_sliceP, same_nil, same_agg2, same_string]; done) | (simp [oneCell, AW.next_push]; done) | fail) only [go_sem, Nat.reduceEqDiff, reduceIte, Nat.reduceAdd, Int.toNat_natCast, Nat.add_zero, Owes_true, Try.results18]
      exact joinC_use go ⟨by (simp -dsimp -implicitDefEqProofs (maxSteps := 2000000) (disch := first | assumption | omega | (simp only [AW.next_push, AW.next_put]; omega) | ((repeat refine Fresh.push ?_ _); assumption) | (simp only [same_int, same_bool, same_ptr, same_slice, same_sliceP, same_nil, same_agg2, same_string]; done) | (simp [oneCell, AW.next_push]; done) | fail) only [go_sem, Nat.reduceEqDiff, reduceIte, Nat.reduceAdd, Int.toNat_natCast, Nat.add_zero, Owes_true]; try rfl), by (rw [hp]; simp -dsimp -implicitDefEqProofs (maxSteps := 2000000) (disch := first | assumption | omega | (simp only [AW.next_push, AW.next_put]; omega) | ((repeat refine Fresh.push ?_ _); assumption) | (simp only [same_int, same_bool, same_ptr, same_slice, same_sliceP, same_nil, same_agg2, same_string]; done) | (simp [oneCell, AW.next_push]; done) | fail) only [go_sem, Nat.reduceEqDiff, reduceIte, Nat.reduceAdd, Int.toNat_natCast, Nat.add_zero, Owes_true]; try rfl)⟩
    | true =>
    simp -dsimp -implicitDefEqProofs (maxSteps := 2000000) (disch := first | assumption | omega | (simp only [AW.next_push, AW.next_put]; omega) | ((repeat refine Fresh.push ?_ _); assumption) | (simp only [same_int, same_bool, same_ptr, same_slice, same_sliceP, same_nil, same_agg2, same_string]; done) | (simp [oneCell, AW.next_push]; done) | fail) only [go_sem, Nat.reduceEqDiff, reduceIte, Nat.reduceAdd, Int.toNat_natCast, Nat.add_zero, Owes_true, Try.results18, c3, Nat.zero_add]
    apply callV_of (e := rfl)
    · exact From_ok _ _ _ _
    rintro _ _ ⟨rfl, rfl⟩
    cases h3 : inR 0 x.d 36500 with
    | false =>
      have hp : P = false := by rw [← hP]; simp [h3]
      simp -dsimp -implicitDefEqProofs (maxSteps := 2000000) (disch := first | assumption | omega | (simp only [AW.next_push, AW.next_put]; omega) | ((repeat refine Fresh.push ?_ _); assumption) | (simp only [same_int, same_bool, same_ptr, same_slice, same_sliceP, same_nil, same_agg2, same_string]; done) | (simp [oneCell, AW.next_push]; done) | fail) only [go_sem, Nat.reduceEqDiff, reduceIte, Nat.reduceAdd, Int.toNat_natCast, Nat.add_zero, Owes_true, Try.results18]
      exact joinC_use go ⟨by (simp -dsimp -implicitDefEqProofs (maxSteps := 2000000) (disch := first | assumption | omega | (simp only [AW.next_push, AW.next_put]; omega) | ((repeat refine Fresh.push ?_ _); assumption) | (simp only [same_int, same_bool, same_ptr, same_slice, same_sliceP, same_nil, same_agg2, same_string]; done) | (simp [oneCell, AW.next_push]; done) | fail) only [go_sem, Nat.reduceEqDiff, reduceIte, Nat.reduceAdd, Int.toNat_natCast, Nat.add_zero, Owes_true]; try rfl), by (rw [hp]; simp -dsimp -implicitDefEqProofs (maxSteps := 2000000) (disch := first | assumption | omega | (simp only [AW.next_push, AW.next_put]; omega) | ((repeat refine Fresh.push ?_ _); assumption) | (simp only [same_int, same_bool, same_ptr, same_slice, same_sliceP, same_nil, same_agg2, same_string]; done) | (simp [oneCell, AW.next_push]; done) | fail) only [go_sem, Nat.reduceEqDiff, reduceIte, Nat.reduceAdd, Int.toNat_natCast, Nat.add_zero, Owes_true]; try rfl)⟩
    | true =>
    simp -dsimp -implicitDefEqProofs (maxSteps := 2000000) (disch := first | assumption | omega | (simp only [AW.next_push, AW.next_put]; omega) | ((repeat refine Fresh.push ?_ _); assumption) | (simp only [same_int, same_bool, same_ptr, same_slice, same_sliceP, same_nil, same_agg2, same_string]; done) | (simp [oneCell, AW.next_push]; done) | fail) only [go_sem, Nat.reduceEqDiff, reduceIte, Nat.reduceAdd, Int.toNat_natCast, Nat.add_zero, Owes_true, Try.results18, c4, Nat.zero_add]
    apply callV_of (e := rfl)
    · exact From_ok _ _ _ _
    rintro _ _ ⟨rfl, rfl⟩
    cases h4 : inR 1 x.f 16 with
    | false =>
      have hp : P = false := by rw [← hP]; simp [h4]
      simp -dsimp -implicitDefEqProofs (maxSteps := 2000000) (disch := first | assumption | omega | (simp only [AW.next_push, AW.next_put]; omega) | ((repeat refine Fresh.push ?_ _); assumption) | (simp only [same_int, same_bool, same_ptr, same_slice, same_sliceP, same_nil, same_agg2, same_string]; done) | (simp [oneCell, AW.next_push]; done) | fail) only [go_sem, Nat.reduceEqDiff, reduceIte, Nat.reduceAdd, Int.toNat_natCast, Nat.add_zero, Owes_true, Try.results18]
      exact joinC_use go ⟨by (simp -dsimp -implicitDefEqProofs (maxSteps := 2000000) (disch := first | assumption | omega | (simp only [AW.next_push, AW.next_put]; omega) | ((repeat refine Fresh.push ?_ _); assumption) | (simp only [same_int, same_bool, same_ptr, same_slice, same_sliceP, same_nil, same_agg2, same_string]; done) | (simp [oneCell, AW.next_push]; done) | fail) only [go_sem, Nat.reduceEqDiff, reduceIte, Nat.reduceAdd, Int.toNat_natCast, Nat.add_zero, Owes_true]; try rfl), by (rw [hp]; simp -dsimp -implicitDefEqProofs (maxSteps := 2000000) (disch := first | assumption | omega | (simp only [AW.next_push, AW.next_put]; omega) | ((repeat refine Fresh.push ?_ _); assumption) | (simp only [same_int, same_bool, same_ptr, same_slice, same_sliceP, same_nil, same_agg2, same_string]; done) | (simp [oneCell, AW.next_push]; done) | fail) only [go_sem, Nat.reduceEqDiff, reduceIte, Nat.reduceAdd, Int.toNat_natCast, Nat.add_zero, Owes_true]; try rfl)⟩
    | true =>
    have hp : P = decide ((S.length : Int) ≤ 64) := by rw [← hP]; simp [h1, h2, h3, h4]
    simp -dsimp -implicitDefEqProofs (maxSteps := 2000000) (disch := first | assumption | omega | (simp only [AW.next_push, AW.next_put]; omega) | ((repeat refine Fresh.push ?_ _); assumption) | (simp only [same_int, same_bool, same_ptr, same_slice, same_sliceP, same_nil, same_agg2, same_string]; done) | (simp [oneCell, AW.next_push]; done) | fail) only [go_sem, Nat.reduceEqDiff, reduceIte, Nat.reduceAdd, Int.toNat_natCast, Nat.add_zero, Owes_true, Try.results18, c0, Nat.zero_add]
    exact joinC_use go ⟨by (simp -dsimp -implicitDefEqProofs (maxSteps := 2000000) (disch := first | assumption | omega | (simp only [AW.next_push, AW.next_put]; omega) | ((repeat refine Fresh.push ?_ _); assumption) | (simp only [same_int, same_bool, same_ptr, same_slice, same_sliceP, same_nil, same_agg2, same_string]; done) | (simp [oneCell, AW.next_push]; done) | fail) only [go_sem, Nat.reduceEqDiff, reduceIte, Nat.reduceAdd, Int.toNat_natCast, Nat.add_zero, Owes_true]; try rfl), by (rw [hp]; simp -dsimp -implicitDefEqProofs (maxSteps := 2000000) (disch := first | assumption | omega | (simp only [AW.next_push, AW.next_put]; omega) | ((repeat refine Fresh.push ?_ _); assumption) | (simp only [same_int, same_bool, same_ptr, same_slice, same_sliceP, same_nil, same_agg2, same_string]; done) | (simp [oneCell, AW.next_push]; done) | fail) only [go_sem, Nat.reduceEqDiff, reduceIte, Nat.reduceAdd, Int.toNat_natCast, Nat.add_zero, Owes_true]; try rfl)⟩
  case restC =>
  rintro t ⟨e1, e3⟩
  unfold Try.s18_c4
  have hnil : (P && (F.take 0).all fun y => inR 0 y 64) = P := by simp
  simp -dsimp -implicitDefEqProofs (maxSteps := 2000000) (disch := first | assumption | omega | (simp only [AW.next_push, AW.next_put]; omega) | ((repeat refine Fresh.push ?_ _); assumption) | (simp only [same_int, same_bool, same_ptr, same_slice, same_sliceP, same_nil, same_agg2, same_string]; done) | (simp [oneCell, AW.next_push]; done) | fail) only [go_sem, Nat.reduceEqDiff, reduceIte, Nat.reduceAdd, Int.toNat_natCast, Nat.add_zero, Owes_true, Try.results18, e1, e3]
  refine loopR (fun k t ds w2 => ∃ i : Nat, i ≤ F.length ∧ k = F.length - i ∧ ds = [] ∧ ev t (.tmp 1) = .pointer (some ⟨w.next, 0, none⟩) ∧ ev t (.tmp 3) = .bool (P && (F.take i).all fun y => inR 0 y 64) ∧ ev t (.tmp 4) = .int .i64 (i : Int) ∧ W = w2) (F.length) ?_ ?_
  · refine ⟨0, by omega, by omega, rfl, ?_, ?_, ?_, rfl⟩ <;> simp -dsimp -implicitDefEqProofs (maxSteps := 2000000) (disch := first | assumption | omega | (simp only [AW.next_push, AW.next_put]; omega) | ((repeat refine Fresh.push ?_ _); assumption) | (simp only [same_int, same_bool, same_ptr, same_slice, same_sliceP, same_nil, same_agg2, same_string]; done) | (simp [oneCell, AW.next_push]; done) | fail) only [go_sem, Nat.reduceEqDiff, reduceIte, Nat.reduceAdd, Int.toNat_natCast, Nat.add_zero, Owes_true, e1, e3, hnil] <;> rfl
  rintro k t ds w2 ⟨i, hii, rfl, rfl, e1, e3, e4, hw⟩
  subst hw
  by_cases hlt : (i : Int) < (F.length : Int)
  case pos =>
    have hlt' : i < F.length := by omega
    obtain ⟨b1, o1, rfl, hb1, hcell⟩ := hat2 i hlt'
    have a0 := hcell _ g.1 0 _ rfl
    simp only [Nat.add_zero] at a0
    have htake : F.take (i + 1) = F.take i ++ [F[i]] := List.take_succ_eq_append_getElem hlt'
    cases hb : (P && (F.take i).all fun y => inR 0 y 64) with
    | false =>
      have hnx : (P && (F.take (i + 1)).all fun y => inR 0 y 64) = false := by rw [htake, List.all_append, ← Bool.and_assoc, hb]; rfl
      rw [hb] at e3
      simp -dsimp -implicitDefEqProofs (maxSteps := 2000000) (disch := first | assumption | omega | (simp only [AW.next_push, AW.next_put]; omega) | ((repeat refine Fresh.push ?_ _); assumption) | (simp only [same_int, same_bool, same_ptr, same_slice, same_sliceP, same_nil, same_agg2, same_string]; done) | (simp [oneCell, AW.next_push]; done) | fail) only [go_sem, Nat.reduceEqDiff, reduceIte, Nat.reduceAdd, Int.toNat_natCast, Nat.add_zero, Owes_true, Try.results18, e1, e3, e4, c1, hlt, Nat.zero_add]
      refine ⟨_, by omega, i + 1, by omega, rfl, rfl, by (simp -dsimp -implicitDefEqProofs (maxSteps := 2000000) (disch := first | assumption | omega | (simp only [AW.next_push, AW.next_put]; omega) | ((repeat refine Fresh.push ?_ _); assumption) | (simp only [same_int, same_bool, same_ptr, same_slice, same_sliceP, same_nil, same_agg2, same_string]; done) | (simp [oneCell, AW.next_push]; done) | fail) only [go_sem, Nat.reduceEqDiff, reduceIte, Nat.reduceAdd, Int.toNat_natCast, Nat.add_zero, Owes_true, e1, hnx]; try rfl), by (simp -dsimp -implicitDefEqProofs (maxSteps := 2000000) (disch := first | assumption | omega | (simp only [AW.next_push, AW.next_put]; omega) | ((repeat refine Fresh.push ?_ _); assumption) | (simp only [same_int, same_bool, same_ptr, same_slice, same_sliceP, same_nil, same_agg2, same_string]; done) | (simp [oneCell, AW.next_push]; done) | fail) only [go_sem, Nat.reduceEqDiff, reduceIte, Nat.reduceAdd, Int.toNat_natCast, Nat.add_zero, Owes_true, e3, hnx]; try rfl), by (simp -dsimp -implicitDefEqProofs (maxSteps := 2000000) (disch := first | assumption | omega | (simp only [AW.next_push, AW.next_put]; omega) | ((repeat refine Fresh.push ?_ _); assumption) | (simp only [same_int, same_bool, same_ptr, same_slice, same_sliceP, same_nil, same_agg2, same_string]; done) | (simp [oneCell, AW.next_push]; done) | fail) only [go_sem, Nat.reduceEqDiff, reduceIte, Nat.reduceAdd, Int.toNat_natCast, Nat.add_zero, Owes_true, e4, hnx]; try rfl), rfl⟩
    | true =>
    have hnx : (P && (F.take (i + 1)).all fun y => inR 0 y 64) = inR 0 F[i] 64 := by rw [htake, List.all_append, ← Bool.and_assoc, hb]; simp
    rw [hb] at e3
    simp -dsimp -implicitDefEqProofs (maxSteps := 2000000) (disch := first | assumption | omega | (simp only [AW.next_push, AW.next_put]; omega) | ((repeat refine Fresh.push ?_ _); assumption) | (simp only [same_int, same_bool, same_ptr, same_slice, same_sliceP, same_nil, same_agg2, same_string]; done) | (simp [oneCell, AW.next_push]; done) | fail) only [go_sem, Nat.reduceEqDiff, reduceIte, Nat.reduceAdd, Int.toNat_natCast, Nat.add_zero, Owes_true, Try.results18, e1, e3, e4, c1, hlt, indexV_eq, a0, Nat.zero_add]
    apply callV_of (e := rfl)
    · exact From_ok _ _ _ _
    rintro _ _ ⟨rfl, rfl⟩
    simp -dsimp -implicitDefEqProofs (maxSteps := 2000000) (disch := first | assumption | omega | (simp only [AW.next_push, AW.next_put]; omega) | ((repeat refine Fresh.push ?_ _); assumption) | (simp only [same_int, same_bool, same_ptr, same_slice, same_sliceP, same_nil, same_agg2, same_string]; done) | (simp [oneCell, AW.next_push]; done) | fail) only [go_sem, Nat.reduceEqDiff, reduceIte, Nat.reduceAdd, Int.toNat_natCast, Nat.add_zero, Owes_true, Try.results18, e1, e3, e4]
    refine ⟨_, by omega, i + 1, by omega, rfl, rfl, by (simp -dsimp -implicitDefEqProofs (maxSteps := 2000000) (disch := first | assumption | omega | (simp only [AW.next_push, AW.next_put]; omega) | ((repeat refine Fresh.push ?_ _); assumption) | (simp only [same_int, same_bool, same_ptr, same_slice, same_sliceP, same_nil, same_agg2, same_string]; done) | (simp [oneCell, AW.next_push]; done) | fail) only [go_sem, Nat.reduceEqDiff, reduceIte, Nat.reduceAdd, Int.toNat_natCast, Nat.add_zero, Owes_true, e1, hnx]; try rfl), by (simp -dsimp -implicitDefEqProofs (maxSteps := 2000000) (disch := first | assumption | omega | (simp only [AW.next_push, AW.next_put]; omega) | ((repeat refine Fresh.push ?_ _); assumption) | (simp only [same_int, same_bool, same_ptr, same_slice, same_sliceP, same_nil, same_agg2, same_string]; done) | (simp [oneCell, AW.next_push]; done) | fail) only [go_sem, Nat.reduceEqDiff, reduceIte, Nat.reduceAdd, Int.toNat_natCast, Nat.add_zero, Owes_true, e3, hnx]; try rfl), by (simp -dsimp -implicitDefEqProofs (maxSteps := 2000000) (disch := first | assumption | omega | (simp only [AW.next_push, AW.next_put]; omega) | ((repeat refine Fresh.push ?_ _); assumption) | (simp only [same_int, same_bool, same_ptr, same_slice, same_sliceP, same_nil, same_agg2, same_string]; done) | (simp [oneCell, AW.next_push]; done) | fail) only [go_sem, Nat.reduceEqDiff, reduceIte, Nat.reduceAdd, Int.toNat_natCast, Nat.add_zero, Owes_true, e4, hnx]; try rfl), rfl⟩
  obtain rfl : i = F.length := by omega
  rw [List.take_of_length_le (Nat.le_refl _)] at e3
  simp -dsimp -implicitDefEqProofs (maxSteps := 2000000) (disch := first | assumption | omega | (simp only [AW.next_push, AW.next_put]; omega) | ((repeat refine Fresh.push ?_ _); assumption) | (simp only [same_int, same_bool, same_ptr, same_slice, same_sliceP, same_nil, same_agg2, same_string]; done) | (simp [oneCell, AW.next_push]; done) | fail) only [go_sem, Nat.reduceEqDiff, reduceIte, Nat.reduceAdd, Int.toNat_natCast, Nat.add_zero, Owes_true, Try.results18, e1, e3, e4, c1, hlt, Nat.zero_add]
  unfold Try.s18_c5
  simp -dsimp -implicitDefEqProofs (maxSteps := 2000000) (disch := first | assumption | omega | (simp only [AW.next_push, AW.next_put]; omega) | ((repeat refine Fresh.push ?_ _); assumption) | (simp only [same_int, same_bool, same_ptr, same_slice, same_sliceP, same_nil, same_agg2, same_string]; done) | (simp [oneCell, AW.next_push]; done) | fail) only [go_sem, Nat.reduceEqDiff, reduceIte, Nat.reduceAdd, Int.toNat_natCast, Nat.add_zero, Owes_true, Try.results18, e1, e3, e4]
  obtain ⟨P2, hP2⟩ : ∃ P2, (P && F.all fun y => inR 0 y 64) = P2 := ⟨_, rfl⟩
  have hnil2 : (P2 && (S.take 0).all (saleB F.length x.d)) = P2 := by simp
  refine loopR (fun k t ds w2 => ∃ j : Nat, j ≤ S.length ∧ k = S.length - j ∧ ds = [] ∧ ev t (.tmp 1) = .pointer (some ⟨w.next, 0, none⟩) ∧ ev t (.tmp 3) = .bool (P2 && (S.take j).all (saleB F.length x.d)) ∧ ev t (.tmp 5) = .int .i64 (j : Int) ∧ Own w2 w.next 25 [.slice p S.length cap, .slice q F.length cap2, .int .i64 x.m, .int .i64 x.d, .int .i64 x.f] ∧ Grown w w2) (S.length) ?_ ?_
  · refine ⟨0, by omega, by omega, rfl, ?_, ?_, ?_, hO, g⟩ <;> simp -dsimp -implicitDefEqProofs (maxSteps := 2000000) (disch := first | assumption | omega | (simp only [AW.next_push, AW.next_put]; omega) | ((repeat refine Fresh.push ?_ _); assumption) | (simp only [same_int, same_bool, same_ptr, same_slice, same_sliceP, same_nil, same_agg2, same_string]; done) | (simp [oneCell, AW.next_push]; done) | fail) only [go_sem, Nat.reduceEqDiff, reduceIte, Nat.reduceAdd, Int.toNat_natCast, Nat.add_zero, Owes_true, e1, e3, hP2, hnil2] <;> rfl
  rintro k t ds w2 ⟨j, hij, rfl, rfl, e1, e3, e5, hO2, g2⟩
  have c0 := (hO2).cell (o := 0) rfl hvs
  have c1 := (hO2).cell (o := 1) rfl hvf
  have c2 := (hO2).cell (o := 2) rfl rfl
  have c3 := (hO2).cell (o := 3) rfl rfl
  have c4 := (hO2).cell (o := 4) rfl rfl
  by_cases hlt2 : (j : Int) < (S.length : Int)
  case neg =>
    obtain rfl : j = S.length := by omega
    rw [List.take_of_length_le (Nat.le_refl _)] at e3
    have hmk : markB x S F = (P2 && S.all (saleB F.length x.d)) := by
      have q1 : (decide (1 ≤ F.length) && decide (F.length ≤ 8)) = inR 1 (F.length : Int) 8 := by
        rw [Bool.eq_iff_iff]; simp only [inR_iff, Bool.and_eq_true, decide_eq_true_eq]; omega
      have q2 : decide (S.length ≤ 64) = decide ((S.length : Int) ≤ 64) := by rw [decide_eq_decide]; omega
      rw [← hP2, ← hP, markB, fadesB, q1, q2]
      ac_rfl
    cases hb : (P2 && S.all (saleB F.length x.d)) with
    | false =>
      rw [hb] at e3 hmk
      simp -dsimp -implicitDefEqProofs (maxSteps := 2000000) (disch := first | assumption | omega | (simp only [AW.next_push, AW.next_put]; omega) | ((repeat refine Fresh.push ?_ _); assumption) | (simp only [same_int, same_bool, same_ptr, same_slice, same_sliceP, same_nil, same_agg2, same_string]; done) | (simp [oneCell, AW.next_push]; done) | fail) only [go_sem, Nat.reduceEqDiff, reduceIte, Nat.reduceAdd, Int.toNat_natCast, Nat.add_zero, Owes_true, Try.results18, e1, e3, e5, c0, hlt2, Nat.zero_add]
      exact ⟨by rw [markE_bad hmk], g2⟩
    | true =>
      rw [hb] at e3 hmk
      simp -dsimp -implicitDefEqProofs (maxSteps := 2000000) (disch := first | assumption | omega | (simp only [AW.next_push, AW.next_put]; omega) | ((repeat refine Fresh.push ?_ _); assumption) | (simp only [same_int, same_bool, same_ptr, same_slice, same_sliceP, same_nil, same_agg2, same_string]; done) | (simp [oneCell, AW.next_push]; done) | fail) only [go_sem, Nat.reduceEqDiff, reduceIte, Nat.reduceAdd, Int.toNat_natCast, Nat.add_zero, Owes_true, Try.results18, e1, e3, e5, c0, hlt2, Nat.zero_add]
      exact ⟨by rw [markE, hmk]; rfl, g2⟩
  have hlt' : j < S.length := by omega
  obtain ⟨b1, o1, rfl, hb1, hcell⟩ := hat j hlt'
  have a0 := hcell _ g2.1 0 _ rfl
  have a1 := hcell _ g2.1 1 _ rfl
  have a2 := hcell _ g2.1 2 _ rfl
  have a3 := hcell _ g2.1 3 _ rfl
  have a4 := hcell _ g2.1 4 _ rfl
  simp only [Nat.add_zero] at a0
  have htake : S.take (j + 1) = S.take j ++ [S[j]] := List.take_succ_eq_append_getElem hlt'
  generalize S[j] = s at *
  have f2 := g2.2
  have g3 := g2.push (.cells (scel s) 66 w2.next 0 0)
  have hN := Own.new f2 66 (scel s)
  have hO3 := hO2.push (.cells (scel s) 66 w2.next 0 0)
  unfold scel at g3 hN hO3
  have s0 := hN.cell (o := 0) rfl rfl
  have s1 := hN.cell (o := 1) rfl rfl
  have s2 := hN.cell (o := 2) rfl rfl
  have s3 := hN.cell (o := 3) rfl rfl
  have s4 := hN.cell (o := 4) rfl rfl
  have m0 := c0
  have c0 := (hO3).cell (o := 0) rfl hvs
  have c1 := (hO3).cell (o := 1) rfl hvf
  have c2 := (hO3).cell (o := 2) rfl rfl
  have c3 := (hO3).cell (o := 3) rfl rfl
  have c4 := (hO3).cell (o := 4) rfl rfl
  cases hb : (P2 && (S.take j).all (saleB F.length x.d)) with
  | false =>
    have hnx : (P2 && (S.take (j + 1)).all (saleB F.length x.d)) = false := by rw [htake, List.all_append, ← Bool.and_assoc, hb]; rfl
    rw [hb] at e3
    simp -dsimp -implicitDefEqProofs (maxSteps := 2000000) (disch := first | assumption | omega | (simp only [AW.next_push, AW.next_put]; omega) | ((repeat refine Fresh.push ?_ _); assumption) | (simp only [same_int, same_bool, same_ptr, same_slice, same_sliceP, same_nil, same_agg2, same_string]; done) | (simp [oneCell, AW.next_push]; done) | fail) only [go_sem, Nat.reduceEqDiff, reduceIte, Nat.reduceAdd, Int.toNat_natCast, Nat.add_zero, Owes_true, Try.results18, e1, e3, e5, m0, hlt2, indexV_eq, a0, a1, a2, a3, a4, Nat.zero_add]
    refine ⟨_, by omega, j + 1, by omega, rfl, rfl, by (simp -dsimp -implicitDefEqProofs (maxSteps := 2000000) (disch := first | assumption | omega | (simp only [AW.next_push, AW.next_put]; omega) | ((repeat refine Fresh.push ?_ _); assumption) | (simp only [same_int, same_bool, same_ptr, same_slice, same_sliceP, same_nil, same_agg2, same_string]; done) | (simp [oneCell, AW.next_push]; done) | fail) only [go_sem, Nat.reduceEqDiff, reduceIte, Nat.reduceAdd, Int.toNat_natCast, Nat.add_zero, Owes_true, e1, hnx]; try rfl), by (simp -dsimp -implicitDefEqProofs (maxSteps := 2000000) (disch := first | assumption | omega | (simp only [AW.next_push, AW.next_put]; omega) | ((repeat refine Fresh.push ?_ _); assumption) | (simp only [same_int, same_bool, same_ptr, same_slice, same_sliceP, same_nil, same_agg2, same_string]; done) | (simp [oneCell, AW.next_push]; done) | fail) only [go_sem, Nat.reduceEqDiff, reduceIte, Nat.reduceAdd, Int.toNat_natCast, Nat.add_zero, Owes_true, e3, hnx]; try rfl), by (simp -dsimp -implicitDefEqProofs (maxSteps := 2000000) (disch := first | assumption | omega | (simp only [AW.next_push, AW.next_put]; omega) | ((repeat refine Fresh.push ?_ _); assumption) | (simp only [same_int, same_bool, same_ptr, same_slice, same_sliceP, same_nil, same_agg2, same_string]; done) | (simp [oneCell, AW.next_push]; done) | fail) only [go_sem, Nat.reduceEqDiff, reduceIte, Nat.reduceAdd, Int.toNat_natCast, Nat.add_zero, Owes_true, e5, hnx]; try rfl), hO3, g3⟩
  | true =>
  have hnx : (P2 && (S.take (j + 1)).all (saleB F.length x.d)) = saleB F.length x.d s := by rw [htake, List.all_append, ← Bool.and_assoc, hb]; simp
  rw [hb] at e3
  simp -dsimp -implicitDefEqProofs (maxSteps := 2000000) (disch := first | assumption | omega | (simp only [AW.next_push, AW.next_put]; omega) | ((repeat refine Fresh.push ?_ _); assumption) | (simp only [same_int, same_bool, same_ptr, same_slice, same_sliceP, same_nil, same_agg2, same_string]; done) | (simp [oneCell, AW.next_push]; done) | fail) only [go_sem, Nat.reduceEqDiff, reduceIte, Nat.reduceAdd, Int.toNat_natCast, Nat.add_zero, Owes_true, Try.results18, e1, e3, e5, m0, c0, c1, c3, s0, s1, s2, s3, s4, hlt2, indexV_eq, a0, a1, a2, a3, a4, Nat.zero_add]
  apply callV_of (e := rfl)
  · exact From_ok _ _ _ _
  rintro _ _ ⟨rfl, rfl⟩
  cases h0 : inR 0 s.k ((F.length : Int) - 1) with
  | false =>
    have hno : saleB F.length x.d s = false := by simp [saleB, h0]
    simp -dsimp -implicitDefEqProofs (maxSteps := 2000000) (disch := first | assumption | omega | (simp only [AW.next_push, AW.next_put]; omega) | ((repeat refine Fresh.push ?_ _); assumption) | (simp only [same_int, same_bool, same_ptr, same_slice, same_sliceP, same_nil, same_agg2, same_string]; done) | (simp [oneCell, AW.next_push]; done) | fail) only [go_sem, Nat.reduceEqDiff, reduceIte, Nat.reduceAdd, Int.toNat_natCast, Nat.add_zero, Owes_true, Try.results18, e1, e3, e5]
    refine ⟨_, by omega, j + 1, by omega, rfl, rfl, by (simp -dsimp -implicitDefEqProofs (maxSteps := 2000000) (disch := first | assumption | omega | (simp only [AW.next_push, AW.next_put]; omega) | ((repeat refine Fresh.push ?_ _); assumption) | (simp only [same_int, same_bool, same_ptr, same_slice, same_sliceP, same_nil, same_agg2, same_string]; done) | (simp [oneCell, AW.next_push]; done) | fail) only [go_sem, Nat.reduceEqDiff, reduceIte, Nat.reduceAdd, Int.toNat_natCast, Nat.add_zero, Owes_true, e1, hnx, hno]; try rfl), by (simp -dsimp -implicitDefEqProofs (maxSteps := 2000000) (disch := first | assumption | omega | (simp only [AW.next_push, AW.next_put]; omega) | ((repeat refine Fresh.push ?_ _); assumption) | (simp only [same_int, same_bool, same_ptr, same_slice, same_sliceP, same_nil, same_agg2, same_string]; done) | (simp [oneCell, AW.next_push]; done) | fail) only [go_sem, Nat.reduceEqDiff, reduceIte, Nat.reduceAdd, Int.toNat_natCast, Nat.add_zero, Owes_true, e3, hnx, hno]; try rfl), by (simp -dsimp -implicitDefEqProofs (maxSteps := 2000000) (disch := first | assumption | omega | (simp only [AW.next_push, AW.next_put]; omega) | ((repeat refine Fresh.push ?_ _); assumption) | (simp only [same_int, same_bool, same_ptr, same_slice, same_sliceP, same_nil, same_agg2, same_string]; done) | (simp [oneCell, AW.next_push]; done) | fail) only [go_sem, Nat.reduceEqDiff, reduceIte, Nat.reduceAdd, Int.toNat_natCast, Nat.add_zero, Owes_true, e5, hnx, hno]; try rfl), hO3, g3⟩
  | true =>
  simp -dsimp -implicitDefEqProofs (maxSteps := 2000000) (disch := first | assumption | omega | (simp only [AW.next_push, AW.next_put]; omega) | ((repeat refine Fresh.push ?_ _); assumption) | (simp only [same_int, same_bool, same_ptr, same_slice, same_sliceP, same_nil, same_agg2, same_string]; done) | (simp [oneCell, AW.next_push]; done) | fail) only [go_sem, Nat.reduceEqDiff, reduceIte, Nat.reduceAdd, Int.toNat_natCast, Nat.add_zero, Owes_true, Try.results18, e1, e3, e5, s1, c3, Nat.zero_add]
  apply callV_of (e := rfl)
  · exact From_ok _ _ _ _
  rintro _ _ ⟨rfl, rfl⟩
  cases h1 : inR 0 s.d x.d with
  | false =>
    have hno : saleB F.length x.d s = false := by simp [saleB, h1]
    simp -dsimp -implicitDefEqProofs (maxSteps := 2000000) (disch := first | assumption | omega | (simp only [AW.next_push, AW.next_put]; omega) | ((repeat refine Fresh.push ?_ _); assumption) | (simp only [same_int, same_bool, same_ptr, same_slice, same_sliceP, same_nil, same_agg2, same_string]; done) | (simp [oneCell, AW.next_push]; done) | fail) only [go_sem, Nat.reduceEqDiff, reduceIte, Nat.reduceAdd, Int.toNat_natCast, Nat.add_zero, Owes_true, Try.results18, e1, e3, e5]
    refine ⟨_, by omega, j + 1, by omega, rfl, rfl, by (simp -dsimp -implicitDefEqProofs (maxSteps := 2000000) (disch := first | assumption | omega | (simp only [AW.next_push, AW.next_put]; omega) | ((repeat refine Fresh.push ?_ _); assumption) | (simp only [same_int, same_bool, same_ptr, same_slice, same_sliceP, same_nil, same_agg2, same_string]; done) | (simp [oneCell, AW.next_push]; done) | fail) only [go_sem, Nat.reduceEqDiff, reduceIte, Nat.reduceAdd, Int.toNat_natCast, Nat.add_zero, Owes_true, e1, hnx, hno]; try rfl), by (simp -dsimp -implicitDefEqProofs (maxSteps := 2000000) (disch := first | assumption | omega | (simp only [AW.next_push, AW.next_put]; omega) | ((repeat refine Fresh.push ?_ _); assumption) | (simp only [same_int, same_bool, same_ptr, same_slice, same_sliceP, same_nil, same_agg2, same_string]; done) | (simp [oneCell, AW.next_push]; done) | fail) only [go_sem, Nat.reduceEqDiff, reduceIte, Nat.reduceAdd, Int.toNat_natCast, Nat.add_zero, Owes_true, e3, hnx, hno]; try rfl), by (simp -dsimp -implicitDefEqProofs (maxSteps := 2000000) (disch := first | assumption | omega | (simp only [AW.next_push, AW.next_put]; omega) | ((repeat refine Fresh.push ?_ _); assumption) | (simp only [same_int, same_bool, same_ptr, same_slice, same_sliceP, same_nil, same_agg2, same_string]; done) | (simp [oneCell, AW.next_push]; done) | fail) only [go_sem, Nat.reduceEqDiff, reduceIte, Nat.reduceAdd, Int.toNat_natCast, Nat.add_zero, Owes_true, e5, hnx, hno]; try rfl), hO3, g3⟩
  | true =>
  simp -dsimp -implicitDefEqProofs (maxSteps := 2000000) (disch := first | assumption | omega | (simp only [AW.next_push, AW.next_put]; omega) | ((repeat refine Fresh.push ?_ _); assumption) | (simp only [same_int, same_bool, same_ptr, same_slice, same_sliceP, same_nil, same_agg2, same_string]; done) | (simp [oneCell, AW.next_push]; done) | fail) only [go_sem, Nat.reduceEqDiff, reduceIte, Nat.reduceAdd, Int.toNat_natCast, Nat.add_zero, Owes_true, Try.results18, e1, e3, e5, s2, Nat.zero_add]
  apply callV_of (e := rfl)
  · exact From_ok _ _ _ _
  rintro _ _ ⟨rfl, rfl⟩
  cases h2 : inR 0 s.w 1000 with
  | false =>
    have hno : saleB F.length x.d s = false := by simp [saleB, h2]
    simp -dsimp -implicitDefEqProofs (maxSteps := 2000000) (disch := first | assumption | omega | (simp only [AW.next_push, AW.next_put]; omega) | ((repeat refine Fresh.push ?_ _); assumption) | (simp only [same_int, same_bool, same_ptr, same_slice, same_sliceP, same_nil, same_agg2, same_string]; done) | (simp [oneCell, AW.next_push]; done) | fail) only [go_sem, Nat.reduceEqDiff, reduceIte, Nat.reduceAdd, Int.toNat_natCast, Nat.add_zero, Owes_true, Try.results18, e1, e3, e5]
    refine ⟨_, by omega, j + 1, by omega, rfl, rfl, by (simp -dsimp -implicitDefEqProofs (maxSteps := 2000000) (disch := first | assumption | omega | (simp only [AW.next_push, AW.next_put]; omega) | ((repeat refine Fresh.push ?_ _); assumption) | (simp only [same_int, same_bool, same_ptr, same_slice, same_sliceP, same_nil, same_agg2, same_string]; done) | (simp [oneCell, AW.next_push]; done) | fail) only [go_sem, Nat.reduceEqDiff, reduceIte, Nat.reduceAdd, Int.toNat_natCast, Nat.add_zero, Owes_true, e1, hnx, hno]; try rfl), by (simp -dsimp -implicitDefEqProofs (maxSteps := 2000000) (disch := first | assumption | omega | (simp only [AW.next_push, AW.next_put]; omega) | ((repeat refine Fresh.push ?_ _); assumption) | (simp only [same_int, same_bool, same_ptr, same_slice, same_sliceP, same_nil, same_agg2, same_string]; done) | (simp [oneCell, AW.next_push]; done) | fail) only [go_sem, Nat.reduceEqDiff, reduceIte, Nat.reduceAdd, Int.toNat_natCast, Nat.add_zero, Owes_true, e3, hnx, hno]; try rfl), by (simp -dsimp -implicitDefEqProofs (maxSteps := 2000000) (disch := first | assumption | omega | (simp only [AW.next_push, AW.next_put]; omega) | ((repeat refine Fresh.push ?_ _); assumption) | (simp only [same_int, same_bool, same_ptr, same_slice, same_sliceP, same_nil, same_agg2, same_string]; done) | (simp [oneCell, AW.next_push]; done) | fail) only [go_sem, Nat.reduceEqDiff, reduceIte, Nat.reduceAdd, Int.toNat_natCast, Nat.add_zero, Owes_true, e5, hnx, hno]; try rfl), hO3, g3⟩
  | true =>
  simp -dsimp -implicitDefEqProofs (maxSteps := 2000000) (disch := first | assumption | omega | (simp only [AW.next_push, AW.next_put]; omega) | ((repeat refine Fresh.push ?_ _); assumption) | (simp only [same_int, same_bool, same_ptr, same_slice, same_sliceP, same_nil, same_agg2, same_string]; done) | (simp [oneCell, AW.next_push]; done) | fail) only [go_sem, Nat.reduceEqDiff, reduceIte, Nat.reduceAdd, Int.toNat_natCast, Nat.add_zero, Owes_true, Try.results18, e1, e3, e5, s3, Nat.zero_add]
  apply callV_of (e := rfl)
  · exact From_ok _ _ _ _
  rintro _ _ ⟨rfl, rfl⟩
  cases h3 : inR 0 s.m 100000 with
  | false =>
    have hno : saleB F.length x.d s = false := by simp [saleB, h3]
    simp -dsimp -implicitDefEqProofs (maxSteps := 2000000) (disch := first | assumption | omega | (simp only [AW.next_push, AW.next_put]; omega) | ((repeat refine Fresh.push ?_ _); assumption) | (simp only [same_int, same_bool, same_ptr, same_slice, same_sliceP, same_nil, same_agg2, same_string]; done) | (simp [oneCell, AW.next_push]; done) | fail) only [go_sem, Nat.reduceEqDiff, reduceIte, Nat.reduceAdd, Int.toNat_natCast, Nat.add_zero, Owes_true, Try.results18, e1, e3, e5]
    refine ⟨_, by omega, j + 1, by omega, rfl, rfl, by (simp -dsimp -implicitDefEqProofs (maxSteps := 2000000) (disch := first | assumption | omega | (simp only [AW.next_push, AW.next_put]; omega) | ((repeat refine Fresh.push ?_ _); assumption) | (simp only [same_int, same_bool, same_ptr, same_slice, same_sliceP, same_nil, same_agg2, same_string]; done) | (simp [oneCell, AW.next_push]; done) | fail) only [go_sem, Nat.reduceEqDiff, reduceIte, Nat.reduceAdd, Int.toNat_natCast, Nat.add_zero, Owes_true, e1, hnx, hno]; try rfl), by (simp -dsimp -implicitDefEqProofs (maxSteps := 2000000) (disch := first | assumption | omega | (simp only [AW.next_push, AW.next_put]; omega) | ((repeat refine Fresh.push ?_ _); assumption) | (simp only [same_int, same_bool, same_ptr, same_slice, same_sliceP, same_nil, same_agg2, same_string]; done) | (simp [oneCell, AW.next_push]; done) | fail) only [go_sem, Nat.reduceEqDiff, reduceIte, Nat.reduceAdd, Int.toNat_natCast, Nat.add_zero, Owes_true, e3, hnx, hno]; try rfl), by (simp -dsimp -implicitDefEqProofs (maxSteps := 2000000) (disch := first | assumption | omega | (simp only [AW.next_push, AW.next_put]; omega) | ((repeat refine Fresh.push ?_ _); assumption) | (simp only [same_int, same_bool, same_ptr, same_slice, same_sliceP, same_nil, same_agg2, same_string]; done) | (simp [oneCell, AW.next_push]; done) | fail) only [go_sem, Nat.reduceEqDiff, reduceIte, Nat.reduceAdd, Int.toNat_natCast, Nat.add_zero, Owes_true, e5, hnx, hno]; try rfl), hO3, g3⟩
  | true =>
  simp -dsimp -implicitDefEqProofs (maxSteps := 2000000) (disch := first | assumption | omega | (simp only [AW.next_push, AW.next_put]; omega) | ((repeat refine Fresh.push ?_ _); assumption) | (simp only [same_int, same_bool, same_ptr, same_slice, same_sliceP, same_nil, same_agg2, same_string]; done) | (simp [oneCell, AW.next_push]; done) | fail) only [go_sem, Nat.reduceEqDiff, reduceIte, Nat.reduceAdd, Int.toNat_natCast, Nat.add_zero, Owes_true, Try.results18, e1, e3, e5, s4, Nat.zero_add]
  apply callV_of (e := rfl)
  · exact From_ok _ _ _ _
  rintro _ _ ⟨rfl, rfl⟩
  have hno : saleB F.length x.d s = inR 0 s.p 1073741824 := by simp [saleB, h0, h1, h2, h3]
  simp -dsimp -implicitDefEqProofs (maxSteps := 2000000) (disch := first | assumption | omega | (simp only [AW.next_push, AW.next_put]; omega) | ((repeat refine Fresh.push ?_ _); assumption) | (simp only [same_int, same_bool, same_ptr, same_slice, same_sliceP, same_nil, same_agg2, same_string]; done) | (simp [oneCell, AW.next_push]; done) | fail) only [go_sem, Nat.reduceEqDiff, reduceIte, Nat.reduceAdd, Int.toNat_natCast, Nat.add_zero, Owes_true, Try.results18, e1, e3, e5]
  refine ⟨_, by omega, j + 1, by omega, rfl, rfl, by (simp -dsimp -implicitDefEqProofs (maxSteps := 2000000) (disch := first | assumption | omega | (simp only [AW.next_push, AW.next_put]; omega) | ((repeat refine Fresh.push ?_ _); assumption) | (simp only [same_int, same_bool, same_ptr, same_slice, same_sliceP, same_nil, same_agg2, same_string]; done) | (simp [oneCell, AW.next_push]; done) | fail) only [go_sem, Nat.reduceEqDiff, reduceIte, Nat.reduceAdd, Int.toNat_natCast, Nat.add_zero, Owes_true, e1, hnx, hno]; try rfl), by (simp -dsimp -implicitDefEqProofs (maxSteps := 2000000) (disch := first | assumption | omega | (simp only [AW.next_push, AW.next_put]; omega) | ((repeat refine Fresh.push ?_ _); assumption) | (simp only [same_int, same_bool, same_ptr, same_slice, same_sliceP, same_nil, same_agg2, same_string]; done) | (simp [oneCell, AW.next_push]; done) | fail) only [go_sem, Nat.reduceEqDiff, reduceIte, Nat.reduceAdd, Int.toNat_natCast, Nat.add_zero, Owes_true, e3, hnx, hno]; try rfl), by (simp -dsimp -implicitDefEqProofs (maxSteps := 2000000) (disch := first | assumption | omega | (simp only [AW.next_push, AW.next_put]; omega) | ((repeat refine Fresh.push ?_ _); assumption) | (simp only [same_int, same_bool, same_ptr, same_slice, same_sliceP, same_nil, same_agg2, same_string]; done) | (simp [oneCell, AW.next_push]; done) | fail) only [go_sem, Nat.reduceEqDiff, reduceIte, Nat.reduceAdd, Int.toNat_natCast, Nat.add_zero, Owes_true, e5, hnx, hno]; try rfl), hO3, g3⟩
end Go.Proofs

/- Markets: the chapter's Crafts. -/
namespace Go.Proofs
open Go Go.RowKit Go.Sim
set_option maxRecDepth 100000
set_option maxHeartbeats 1000000 in
theorem refCrafts_ok (x : MarkN) (S : List SaleN) (F : List Int) (vs vf : Value) (kd : Int) (w : AW) (f : Fresh w) (hS : ArrOf w 5 scel vs S) (hs : ArrOf w 1 icells vf F) :
    CallT Try.prog Try.T1 (.fn (.func 15) #[]) #[.agg #[vs, vf, .int .i64 x.m, .int .i64 x.d, .int .i64 x.f], .int .i64 kd] w (fun r w' => ∃ s L, r = .tuple #[s, .int .i64 (craftE x S F kd)] ∧ ArrOf w' 1 icells s L ∧ Grown w w' ∧ (craftE x S F kd = 0 → L = craftsL x S F kd ∧ MarkIn x S F ∧ inR 0 kd ((F.length : Int) - 1) = true) ∧ (craftE x S F kd ≠ 0 → L = [])) := by
  obtain ⟨p, cap, rfl, _⟩ := id hS.open
  obtain ⟨q, cap2, rfl, _⟩ := id hs.open
  have hvs : oneCell (.slice p S.length cap) = true := rfl
  have hvf : oneCell (.slice q F.length cap2) = true := rfl
  have g := (Grown.refl f).push (.cells [.slice p S.length cap, .slice q F.length cap2, .int .i64 x.m, .int .i64 x.d, .int .i64 x.f] 25 w.next 0 0)
  have hO := Own.new f 25 [.slice p S.length cap, .slice q F.length cap2, .int .i64 x.m, .int .i64 x.d, .int .i64 x.f]
  have c0 := (hO).cell (o := 0) rfl hvs
  have c1 := (hO).cell (o := 1) rfl hvf
  have c2 := (hO).cell (o := 2) rfl rfl
  have c3 := (hO).cell (o := 3) rfl rfl
  have c4 := (hO).cell (o := 4) rfl rfl
  refine callT_code rfl Try.func15 rfl Try.s15_eq rfl ?_
  unfold Try.s15
  simp -dsimp -implicitDefEqProofs (maxSteps := 2000000) (disch := first | assumption | omega | (simp only [AW.next_push, AW.next_put]; omega) | ((repeat refine Fresh.push ?_ _); assumption) | (simp only [same_int, same_bool, same_ptr, same_slice, same_sliceP, same_nil, same_agg2, same_string]; done) | (simp [oneCell, AW.next_push]; done) | fail) only [go_sem, Nat.reduceEqDiff, reduceIte, Nat.reduceAdd, Int.toNat_natCast, Nat.add_zero, Owes_true, Try.results15, Nat.zero_add, c0, c1, c2, c3, c4]
  apply callV_of (e := rfl)
  · exact refCheckMarket_ok x S F _ _ _ g.2 (hS.grown g) (hs.grown g)
  rintro _ w1 ⟨rfl, hg1⟩
  have g1 := g.trans hg1
  have hO1 := hO.keep hg1.1
  cases hm : markB x S F with
  | false =>
    have hE : markE x S F = 20 := markE_bad hm
    have hE2 : craftE x S F kd = 20 := by rw [craftE, if_pos hm]
    have h200 : ¬ (20 : Int) = 0 := by decide
    simp -dsimp -implicitDefEqProofs (maxSteps := 2000000) (disch := first | assumption | omega | (simp only [AW.next_push, AW.next_put]; omega) | ((repeat refine Fresh.push ?_ _); assumption) | (simp only [same_int, same_bool, same_ptr, same_slice, same_sliceP, same_nil, same_agg2, same_string]; done) | (simp [oneCell, AW.next_push]; done) | fail) only [go_sem, Nat.reduceEqDiff, reduceIte, Nat.reduceAdd, Int.toNat_natCast, Nat.add_zero, Owes_true, Try.results15, hE, h200]
    exact ⟨_, [], by rw [hE2], ArrOf.nil _ _ _, g1, fun z => by rw [hE2] at z; exact absurd z (by decide), fun _ => rfl⟩
  | true =>
  have hE : markE x S F = 0 := by rw [markE, hm]; rfl
  have c0 := (hO1).cell (o := 0) rfl hvs
  have c1 := (hO1).cell (o := 1) rfl hvf
  have c2 := (hO1).cell (o := 2) rfl rfl
  have c3 := (hO1).cell (o := 3) rfl rfl
  have c4 := (hO1).cell (o := 4) rfl rfl
  simp -dsimp -implicitDefEqProofs (maxSteps := 2000000) (disch := first | assumption | omega | (simp only [AW.next_push, AW.next_put]; omega) | ((repeat refine Fresh.push ?_ _); assumption) | (simp only [same_int, same_bool, same_ptr, same_slice, same_sliceP, same_nil, same_agg2, same_string]; done) | (simp [oneCell, AW.next_push]; done) | fail) only [go_sem, Nat.reduceEqDiff, reduceIte, Nat.reduceAdd, Int.toNat_natCast, Nat.add_zero, Owes_true, Try.results15, hE, Nat.zero_add, c0, c1, c2, c3, c4, ne_eq, not_true]
  apply callV_of (e := rfl)
  · exact From_ok _ _ _ _
  rintro _ _ ⟨rfl, rfl⟩
  cases hk : inR 0 kd ((F.length : Int) - 1) with
  | false =>
    have hE2 : craftE x S F kd = 7 := by rw [craftE, if_neg (by rw [hm]; simp), if_pos hk]
    simp -dsimp -implicitDefEqProofs (maxSteps := 2000000) (disch := first | assumption | omega | (simp only [AW.next_push, AW.next_put]; omega) | ((repeat refine Fresh.push ?_ _); assumption) | (simp only [same_int, same_bool, same_ptr, same_slice, same_sliceP, same_nil, same_agg2, same_string]; done) | (simp [oneCell, AW.next_push]; done) | fail) only [go_sem, Nat.reduceEqDiff, reduceIte, Nat.reduceAdd, Int.toNat_natCast, Nat.add_zero, Owes_true, Try.results15]
    exact ⟨_, [], by rw [hE2], ArrOf.nil _ _ _, g1, fun z => by rw [hE2] at z; exact absurd z (by decide), fun _ => rfl⟩
  | true =>
  have hE2 : craftE x S F kd = 0 := by rw [craftE, if_neg (by rw [hm]; simp), if_neg (by rw [hk]; simp)]
  simp -dsimp -implicitDefEqProofs (maxSteps := 2000000) (disch := first | assumption | omega | (simp only [AW.next_push, AW.next_put]; omega) | ((repeat refine Fresh.push ?_ _); assumption) | (simp only [same_int, same_bool, same_ptr, same_slice, same_sliceP, same_nil, same_agg2, same_string]; done) | (simp [oneCell, AW.next_push]; done) | fail) only [go_sem, Nat.reduceEqDiff, reduceIte, Nat.reduceAdd, Int.toNat_natCast, Nat.add_zero, Owes_true, Try.results15, Nat.zero_add, c0, c1, c2, c3, c4]
  apply callV_of (e := rfl)
  · exact refcrafts_ok x S F _ _ kd _ g1.2 (hS.grown g1) (hs.grown g1) (markB_in hm) hk
  rintro r w3 ⟨hr, hg3⟩
  obtain ⟨rp, rc, rfl, _⟩ := id hr.open
  simp -dsimp -implicitDefEqProofs (maxSteps := 2000000) (disch := first | assumption | omega | (simp only [AW.next_push, AW.next_put]; omega) | ((repeat refine Fresh.push ?_ _); assumption) | (simp only [same_int, same_bool, same_ptr, same_slice, same_sliceP, same_nil, same_agg2, same_string]; done) | (simp [oneCell, AW.next_push]; done) | fail) only [go_sem, Nat.reduceEqDiff, reduceIte, Nat.reduceAdd, Int.toNat_natCast, Nat.add_zero, Owes_true, Try.results15]
  exact ⟨_, _, by rw [hE2], hr, g1.trans hg3, fun _ => ⟨rfl, markB_in hm, by first | exact hk | rfl | trivial⟩, fun z => absurd hE2 z⟩
end Go.Proofs

/- Markets: the chapter's Value. -/
namespace Go.Proofs
open Go Go.RowKit Go.Sim
set_option maxRecDepth 100000
theorem Down4_ok (a : Int) (h0 : 0 ≤ a) (h1 : a ≤ 1000000000000) (w : AW) : CallT Try.prog Try.T1 (.fn (.func 34) #[]) #[.int .i64 a, .int .i64 4] w (Ret (.int .i64 (a / 4)) fun w' => w = w') := by
  have hq : a.tdiv 4 = a / 4 := Int.tdiv_eq_ediv_of_nonneg h0
  have hb : 0 ≤ a / 4 ∧ a / 4 ≤ a := by omega
  have hno : ¬ a < a / 4 * 4 := by omega
  have h40 : ¬ (4 : Int) = 0 := by decide
  refine callT_code rfl Try.func34 rfl Try.s34_eq rfl ?_
  unfold Try.s34
  simp -dsimp -implicitDefEqProofs (maxSteps := 2000000) (disch := first | assumption | omega | (simp only [AW.next_push, AW.next_put]; omega) | ((repeat refine Fresh.push ?_ _); assumption) | (simp only [same_int, same_bool, same_ptr, same_slice, same_sliceP, same_nil, same_agg2, same_string]; done) | (simp [oneCell, AW.next_push]; done) | fail) only [go_sem, Nat.reduceEqDiff, reduceIte, Nat.reduceAdd, Int.toNat_natCast, Nat.add_zero, Owes_true, Try.results34, hq, hno, h40]
  exact ⟨rfl, rfl⟩
set_option maxHeartbeats 4000000 in
theorem refValue_ok (x : MarkN) (S : List SaleN) (F : List Int) (vs vf : Value) (kd a b : Int) (w : AW) (f : Fresh w) (hS : ArrOf w 5 scel vs S) (hs : ArrOf w 1 icells vf F) :
    CallT Try.prog Try.T1 (.fn (.func 20) #[]) #[.agg #[vs, vf, .int .i64 x.m, .int .i64 x.d, .int .i64 x.f], .agg #[.int .i64 kd, .int .i64 a, .int .i64 b]] w (Ret (.tuple #[.agg #[.int .i64 (valMn x S F kd a b), .int .i64 (valMx x S F kd a b)], .int .i64 (valE x S F kd a b)]) (Grown w)) := by
  obtain ⟨p, cap, rfl, _⟩ := id hS.open
  obtain ⟨q, cap2, rfl, _⟩ := id hs.open
  have hvs : oneCell (.slice p S.length cap) = true := rfl
  have hvf : oneCell (.slice q F.length cap2) = true := rfl
  have g0 := (Grown.refl f).push (.cells [.slice p S.length cap, .slice q F.length cap2, .int .i64 x.m, .int .i64 x.d, .int .i64 x.f] 25 w.next 0 0)
  have gw := g0.push (.cells [.int .i64 kd, .int .i64 a, .int .i64 b] 29 (w.next + 1) 0 0)
  have g := gw.push (.cells [.int .i64 0, .int .i64 0] 27 (w.next + 1 + 1) 0 0)
  have hO := ((Own.new f 25 [.slice p S.length cap, .slice q F.length cap2, .int .i64 x.m, .int .i64 x.d, .int .i64 x.f]).push (.cells [.int .i64 kd, .int .i64 a, .int .i64 b] 29 (w.next + 1) 0 0)).push (.cells [.int .i64 0, .int .i64 0] 27 (w.next + 1 + 1) 0 0)
  have hW0 := Own.new g0.2 29 [.int .i64 kd, .int .i64 a, .int .i64 b]
  rw [AW.next_push] at hW0
  have hW := hW0.push (.cells [.int .i64 0, .int .i64 0] 27 (w.next + 1 + 1) 0 0)
  have hR := Own.new gw.2 27 [.int .i64 0, .int .i64 0]
  simp only [AW.next_push] at hR
  have c0 := (hO).cell (o := 0) rfl hvs
  have c1 := (hO).cell (o := 1) rfl hvf
  have c2 := (hO).cell (o := 2) rfl rfl
  have c3 := (hO).cell (o := 3) rfl rfl
  have c4 := (hO).cell (o := 4) rfl rfl
  refine callT_code rfl Try.func20 rfl Try.s20_eq rfl ?_
  unfold Try.s20
  simp -dsimp -implicitDefEqProofs (maxSteps := 2000000) (disch := first | assumption | omega | (simp only [AW.next_push, AW.next_put]; omega) | ((repeat refine Fresh.push ?_ _); assumption) | (simp only [same_int, same_bool, same_ptr, same_slice, same_sliceP, same_nil, same_agg2, same_string]; done) | (simp [oneCell, AW.next_push]; done) | fail) only [go_sem, Nat.reduceEqDiff, reduceIte, Nat.reduceAdd, Int.toNat_natCast, Nat.add_zero, Owes_true, Try.results20, Nat.zero_add, c0, c1, c2, c3, c4]
  apply callV_of (e := rfl)
  · exact refCheckMarket_ok x S F _ _ _ g.2 (hS.grown g) (hs.grown g)
  rintro _ w1 ⟨rfl, hg1⟩
  have g1 := g.trans hg1
  have hO1 := hO.keep hg1.1
  have hW1 := hW.keep hg1.1
  have hR1 := hR.keep hg1.1
  have put : ∀ (w' : AW) (h : Own w' (w.next + 1 + 1) 27 [.int .i64 0, .int .i64 0]) (gg : Grown w w') (y z : Int), ∃ w2, storeV w' true 2 (.pointer (some ⟨w.next + 1 + 1, 0, none⟩)) (.agg #[.int .i64 y, .int .i64 z]) = some w2 ∧ Own w2 (w.next + 1 + 1) 27 [.int .i64 y, .int .i64 z] ∧ Grown w w2 := by
    intro w' h gg y z
    have h1 := storeV_own (o := 0) (l := [.int .i64 y, .int .i64 z]) (size := 2) h rfl (by omega) (by simp) (by rfl)
    exact ⟨_, h1, h.put _, ⟨gg.1.put (by omega) _, gg.2.put h.lt _⟩⟩
  cases hm : markB x S F with
  | false =>
    have hE : markE x S F = 20 := markE_bad hm
    have hE2 : valE x S F kd a b = 20 := by rw [valE, if_pos hm]
    have h200 : ¬ (20 : Int) = 0 := by decide
    obtain ⟨w2, k2, hR2, g2⟩ := put w1 hR1 g1 0 0
    have r0 := (hR2).cell (o := 0) rfl rfl
    have r1 := (hR2).cell (o := 1) rfl rfl
    simp -dsimp -implicitDefEqProofs (maxSteps := 2000000) (disch := first | assumption | omega | (simp only [AW.next_push, AW.next_put]; omega) | ((repeat refine Fresh.push ?_ _); assumption) | (simp only [same_int, same_bool, same_ptr, same_slice, same_sliceP, same_nil, same_agg2, same_string]; done) | (simp [oneCell, AW.next_push]; done) | fail) only [go_sem, Nat.reduceEqDiff, reduceIte, Nat.reduceAdd, Int.toNat_natCast, Nat.add_zero, Owes_true, Try.results20, hE, h200, bldQ_zero, k2, r0, r1, Nat.zero_add]
    exact ⟨by rw [valMn, valMx, hE2]; rfl, g2⟩
  | true =>
  have hE : markE x S F = 0 := by rw [markE, hm]; rfl
  have c0 := (hO1).cell (o := 0) rfl hvs
  have c1 := (hO1).cell (o := 1) rfl hvf
  have c2 := (hO1).cell (o := 2) rfl rfl
  have c3 := (hO1).cell (o := 3) rfl rfl
  have c4 := (hO1).cell (o := 4) rfl rfl
  have u0 := hW1.cell (o := 0) rfl rfl
  simp -dsimp -implicitDefEqProofs (maxSteps := 2000000) (disch := first | assumption | omega | (simp only [AW.next_push, AW.next_put]; omega) | ((repeat refine Fresh.push ?_ _); assumption) | (simp only [same_int, same_bool, same_ptr, same_slice, same_sliceP, same_nil, same_agg2, same_string]; done) | (simp [oneCell, AW.next_push]; done) | fail) only [go_sem, Nat.reduceEqDiff, reduceIte, Nat.reduceAdd, Int.toNat_natCast, Nat.add_zero, Owes_true, Try.results20, hE, Nat.zero_add, c0, c1, c2, c3, c4, u0, ne_eq, not_true]
  apply callV_of (e := rfl)
  · exact From_ok _ _ _ _
  rintro _ _ ⟨rfl, rfl⟩
  have g2 := g1
  have hO2 := hO1
  have hW2 := hW1
  have hR2 := hR1
  cases hk : inR 0 kd ((F.length : Int) - 1) with
  | false =>
    have hE2 : valE x S F kd a b = 21 := by rw [valE, if_neg (by rw [hm]; simp), if_pos (by rw [hk]; rfl)]
    obtain ⟨w3, k3, hR3, g3⟩ := put w1 hR2 g2 0 0
    have r0 := (hR3).cell (o := 0) rfl rfl
    have r1 := (hR3).cell (o := 1) rfl rfl
    simp -dsimp -implicitDefEqProofs (maxSteps := 2000000) (disch := first | assumption | omega | (simp only [AW.next_push, AW.next_put]; omega) | ((repeat refine Fresh.push ?_ _); assumption) | (simp only [same_int, same_bool, same_ptr, same_slice, same_sliceP, same_nil, same_agg2, same_string]; done) | (simp [oneCell, AW.next_push]; done) | fail) only [go_sem, Nat.reduceEqDiff, reduceIte, Nat.reduceAdd, Int.toNat_natCast, Nat.add_zero, Owes_true, Try.results20, bldQ_zero, k3, r0, r1, Nat.zero_add]
    exact ⟨by rw [valMn, valMx, hE2]; rfl, g3⟩
  | true =>
  have u1 := hW2.cell (o := 1) rfl rfl
  have u2 := hW2.cell (o := 2) rfl rfl
  simp -dsimp -implicitDefEqProofs (maxSteps := 2000000) (disch := first | assumption | omega | (simp only [AW.next_push, AW.next_put]; omega) | ((repeat refine Fresh.push ?_ _); assumption) | (simp only [same_int, same_bool, same_ptr, same_slice, same_sliceP, same_nil, same_agg2, same_string]; done) | (simp [oneCell, AW.next_push]; done) | fail) only [go_sem, Nat.reduceEqDiff, reduceIte, Nat.reduceAdd, Int.toNat_natCast, Nat.add_zero, Owes_true, Try.results20, Nat.zero_add, u1, u2]
  apply callV_of (e := rfl)
  · exact span_ok a b 1000 _ g2.2
  rintro _ w3 ⟨rfl, hg3⟩
  have g3 := g2.trans hg3
  have hO3 := hO2.keep hg3.1
  have hW3 := hW2.keep hg3.1
  have hR3 := hR2.keep hg3.1
  cases hsp : spanB a b 1000 with
  | false =>
    have hE2 : valE x S F kd a b = 21 := by rw [valE, if_neg (by rw [hm]; simp), if_pos (by rw [hk, hsp]; rfl)]
    obtain ⟨w4, k4, hR4, g4⟩ := put w3 hR3 g3 0 0
    have r0 := (hR4).cell (o := 0) rfl rfl
    have r1 := (hR4).cell (o := 1) rfl rfl
    simp -dsimp -implicitDefEqProofs (maxSteps := 2000000) (disch := first | assumption | omega | (simp only [AW.next_push, AW.next_put]; omega) | ((repeat refine Fresh.push ?_ _); assumption) | (simp only [same_int, same_bool, same_ptr, same_slice, same_sliceP, same_nil, same_agg2, same_string]; done) | (simp [oneCell, AW.next_push]; done) | fail) only [go_sem, Nat.reduceEqDiff, reduceIte, Nat.reduceAdd, Int.toNat_natCast, Nat.add_zero, Owes_true, Try.results20, bldQ_zero, k4, r0, r1, Nat.zero_add]
    exact ⟨by rw [valMn, valMx, hE2]; rfl, g4⟩
  | true =>
  have hE3 : valE x S F kd a b = if ((craftsL x S F kd).length : Int) < x.f then 4 else 0 := by rw [valE, if_neg (by rw [hm]; simp), if_neg (by rw [hk, hsp]; simp)]
  have c0 := (hO3).cell (o := 0) rfl hvs
  have c1 := (hO3).cell (o := 1) rfl hvf
  have c2 := (hO3).cell (o := 2) rfl rfl
  have c3 := (hO3).cell (o := 3) rfl rfl
  have c4 := (hO3).cell (o := 4) rfl rfl
  have u0 := hW3.cell (o := 0) rfl rfl
  simp -dsimp -implicitDefEqProofs (maxSteps := 2000000) (disch := first | assumption | omega | (simp only [AW.next_push, AW.next_put]; omega) | ((repeat refine Fresh.push ?_ _); assumption) | (simp only [same_int, same_bool, same_ptr, same_slice, same_sliceP, same_nil, same_agg2, same_string]; done) | (simp [oneCell, AW.next_push]; done) | fail) only [go_sem, Nat.reduceEqDiff, reduceIte, Nat.reduceAdd, Int.toNat_natCast, Nat.add_zero, Owes_true, Try.results20, Nat.zero_add, c0, c1, c2, c3, c4, u0]
  apply callV_of (e := rfl)
  · exact refcrafts_ok x S F _ _ kd _ g3.2 (hS.grown g3) (hs.grown g3) (markB_in hm) hk
  rintro r w4 ⟨hr, hg4⟩
  have g4 := g3.trans hg4
  have hO4 := hO3.keep hg4.1
  have hW4 := hW3.keep hg4.1
  have hR4 := hR3.keep hg4.1
  obtain ⟨rp, rc, rfl, _, _, hat⟩ := id hr.open
  have c0 := (hO4).cell (o := 0) rfl hvs
  have c1 := (hO4).cell (o := 1) rfl hvf
  have c2 := (hO4).cell (o := 2) rfl rfl
  have c3 := (hO4).cell (o := 3) rfl rfl
  have c4 := (hO4).cell (o := 4) rfl rfl
  by_cases hn : ((craftsL x S F kd).length : Int) < x.f
  · rw [if_pos hn] at hE3
    obtain ⟨w5, k5, hR5, g5⟩ := put w4 hR4 g4 0 0
    have r0 := (hR5).cell (o := 0) rfl rfl
    have r1 := (hR5).cell (o := 1) rfl rfl
    simp -dsimp -implicitDefEqProofs (maxSteps := 2000000) (disch := first | assumption | omega | (simp only [AW.next_push, AW.next_put]; omega) | ((repeat refine Fresh.push ?_ _); assumption) | (simp only [same_int, same_bool, same_ptr, same_slice, same_sliceP, same_nil, same_agg2, same_string]; done) | (simp [oneCell, AW.next_push]; done) | fail) only [go_sem, Nat.reduceEqDiff, reduceIte, Nat.reduceAdd, Int.toNat_natCast, Nat.add_zero, Owes_true, Try.results20, Nat.zero_add, c4, hn, bldQ_zero, k5, r0, r1]
    exact ⟨by rw [valMn, valMx, hE3]; rfl, g5⟩
  rw [if_neg hn] at hE3
  have hmi := markB_in hm
  have hf1 := hmi.f
  have hin := craftsL_in hmi hk
  have hll := craftsL_len x S F kd
  have hml := hmi.len
  generalize hL : craftsL x S F kd = L at *
  have hl4 : ((L.length : Int) - 1) / 4 = (((L.length - 1) / 4 : Nat) : Int) := by omega
  have hq1 : (L.length - 1) / 4 < L.length := by omega
  have hq2 : L.length - 1 - (L.length - 1) / 4 < L.length := by omega
  obtain ⟨b1, o1, rfl, hb1, hcell⟩ := hat _ hq1
  obtain ⟨b2, o2, hp2, hb2, hcell2⟩ := hat _ hq2
  injection hp2 with hp2
  injection hp2 with hp3 hp4 hp5
  subst hp3 hp4
  have a0 := hcell _ (.refl _ _) 0 _ rfl
  have d0 := hcell2 _ (.refl _ _) 0 _ rfl
  rw [Nat.add_zero] at a0 d0
  have i1 := hin _ (List.getElem_mem hq1)
  have i2 := hin _ (List.getElem_mem hq2)
  have l1 : (((L.length - 1) / 4 : Nat) : Int) < (L.length : Int) := by omega
  have l2 : ((L.length - 1 - (L.length - 1) / 4 : Nat) : Int) < (L.length : Int) := by omega
  have e2 : (L.length : Int) - 1 - (((L.length - 1) / 4 : Nat) : Int) = ((L.length - 1 - (L.length - 1) / 4 : Nat) : Int) := by omega
  have gd1 : L.getD ((L.length - 1) / 4) 0 = L[(L.length - 1) / 4] := getD_at hq1
  have gd2 : L.getD (L.length - 1 - (L.length - 1) / 4) 0 = L[L.length - 1 - (L.length - 1) / 4] := getD_at hq2
  simp only [spanB, Bool.and_eq_true, decide_eq_true_eq] at hsp
  have hmm := hmi.m
  have m1 : x.m * a ≤ 100000 * 1000 := Int.mul_le_mul hmm.2 (by omega) (by omega) (by omega)
  have m2 : 0 ≤ x.m * a := Int.mul_nonneg hmm.1 (by omega)
  have m3 : x.m * b ≤ 100000 * 1000 := Int.mul_le_mul hmm.2 (by omega) (by omega) (by omega)
  have m4 : 0 ≤ x.m * b := Int.mul_nonneg hmm.1 (by omega)
  have u1 := hW4.cell (o := 1) rfl rfl
  have u2 := hW4.cell (o := 2) rfl rfl
  obtain ⟨w5, k5, hR5, g5⟩ := put w4 hR4 g4 (L[(L.length - 1) / 4] + x.m * a) (L[L.length - 1 - (L.length - 1) / 4] + x.m * b)
  have r0 := (hR5).cell (o := 0) rfl rfl
  have r1 := (hR5).cell (o := 1) rfl rfl
  have hvn : valMn x S F kd a b = L[(L.length - 1) / 4] + x.m * a := by rw [valMn, if_pos hE3, hL, gd1]
  have hvx : valMx x S F kd a b = L[L.length - 1 - (L.length - 1) / 4] + x.m * b := by rw [valMx, if_pos hE3, hL, gd2]
  generalize L[(L.length - 1) / 4] = y1 at *
  generalize L[L.length - 1 - (L.length - 1) / 4] = y2 at *
  generalize hQ : (L.length - 1) / 4 = Q at *
  generalize hQ2 : L.length - 1 - Q = Q2 at *
  have hle := WLe.refl w4
  simp -dsimp -implicitDefEqProofs (maxSteps := 2000000) (disch := first | assumption | omega | (simp only [AW.next_push, AW.next_put]; omega) | ((repeat refine Fresh.push ?_ _); assumption) | (simp only [same_int, same_bool, same_ptr, same_slice, same_sliceP, same_nil, same_agg2, same_string]; done) | (simp [oneCell, AW.next_push]; done) | fail) only [go_sem, Nat.reduceEqDiff, reduceIte, Nat.reduceAdd, Int.toNat_natCast, Nat.add_zero, Owes_true, Try.results20, Nat.zero_add, c4, hn]
  apply callV_of (e := rfl)
  · exact Down4_ok ((L.length : Int) - 1) (by omega) (by omega) w4
  rintro _ _ ⟨rfl, rfl⟩
  rw [hl4]
  simp -dsimp -implicitDefEqProofs (maxSteps := 2000000) (disch := first | assumption | omega | (simp only [AW.next_push, AW.next_put]; omega) | ((repeat refine Fresh.push ?_ _); assumption) | (simp only [same_int, same_bool, same_ptr, same_slice, same_sliceP, same_nil, same_agg2, same_string]; done) | (simp [oneCell, AW.next_push]; done) | fail) only [go_sem, Nat.reduceEqDiff, reduceIte, Nat.reduceAdd, Int.toNat_natCast, Nat.add_zero, Owes_true, Try.results20, Nat.zero_add, c2, hn, indexV_eq, l1, l2, e2, a0, d0, u1, u2, k5, r0, r1]
  exact ⟨by rw [hvn, hvx, hE3], g5⟩
end Go.Proofs
