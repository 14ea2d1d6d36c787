/- Deals: contracts of Check; two lists compared. -/
import Derived.Test.YtdbeiefgokocnaaKa
set_option linter.unusedVariables false
set_option linter.unusedSimpArgs false
/- Deals: Check, in the program and in the chapter; the last day of an age. -/
namespace Go.Proofs
open Go Go.RowKit Go.Sim
set_option maxRecDepth 100000
def fiveB (d : DealN) : Bool := tarB d.a d.fr d.fe d.tm d.gr
def lawB (d : DealN) : Bool := inR 0 d.r 10000 && inR 0 d.c 64
def dealB (d : DealN) (cl : List Int) : Bool := lawB d && fiveB d && closedB cl && inR 0 d.st 36500 && inR 1 d.sm 1073741824
def dealE (d : DealN) (cl : List Int) : Int := if dealB d cl = true then 0 else 23
theorem dealE_bad {d : DealN} {cl : List Int} (h : dealB d cl = false) : dealE d cl = 23 := by rw [dealE, h]; rfl
set_option maxHeartbeats 1000000 in
theorem Check_ok (d : DealN) (cl : List Int) (v : Value) (w : AW) (f : Fresh w) (hs : ArrOf w 1 icells v cl) : CallT Try.prog Try.T1 (.fn (.func 41) #[]) #[.agg #[.int .i64 d.r, .int .i64 d.c, .int .i64 d.a, .int .i64 d.fr, .int .i64 d.fe, .int .i64 d.tm, .int .i64 d.gr, v, .int .i64 d.st, .int .i64 d.sm]] w (Ret (.int .i64 (dealE d cl)) (Grown w)) := by
  obtain ⟨p, cap, rfl, _⟩ := id hs.open
  have g := (Grown.refl f).push (.cells [.int .i64 d.r, .int .i64 d.c, .int .i64 d.a, .int .i64 d.fr, .int .i64 d.fe, .int .i64 d.tm, .int .i64 d.gr, (.slice p cl.length cap), .int .i64 d.st, .int .i64 d.sm] 56 w.next 0 0)
  have hO := Own.new f 56 [.int .i64 d.r, .int .i64 d.c, .int .i64 d.a, .int .i64 d.fr, .int .i64 d.fe, .int .i64 d.tm, .int .i64 d.gr, (.slice p cl.length cap), .int .i64 d.st, .int .i64 d.sm]
  refine callT_code rfl Try.func41 rfl Try.s41_eq rfl ?_
  unfold Try.s41
  simp -dsimp -implicitDefEqProofs (maxSteps := 2000000) (disch := first | assumption | omega | (simp only [AW.next_push, AW.next_put]; omega) | ((repeat refine Fresh.push ?_ _); assumption) | (simp only [same_int, same_bool, same_ptr, same_slice, same_sliceP, same_nil, same_agg2, same_string]; done) | (simp [oneCell, AW.next_push]; done) | fail) only [go_sem, Nat.reduceEqDiff, reduceIte, Nat.reduceAdd, Int.toNat_natCast, Nat.add_zero, Owes_true, Try.results41, Nat.zero_add]
  apply callV_of (e := rfl)
  · exact isLaw_ok d.r d.c _ g.2
  rintro _ w1 ⟨rfl, hg1⟩
  have g1 := g.trans hg1
  have hO1 := hO.keep hg1.1
  cases h1 : lawB d with
  | false =>
    have h1' : (inR 0 d.r 10000 && inR 0 d.c 64) = false := h1
    rw [h1']
    simp -dsimp -implicitDefEqProofs (maxSteps := 2000000) (disch := first | assumption | omega | (simp only [AW.next_push, AW.next_put]; omega) | ((repeat refine Fresh.push ?_ _); assumption) | (simp only [same_int, same_bool, same_ptr, same_slice, same_sliceP, same_nil, same_agg2, same_string]; done) | (simp [oneCell, AW.next_push]; done) | fail) only [go_sem, Nat.reduceEqDiff, reduceIte, Nat.reduceAdd, Int.toNat_natCast, Nat.add_zero, Owes_true, Try.results41]
    exact ⟨by rw [dealE_bad (by rw [dealB, h1]; rfl)], g1⟩
  | true =>
  have h1' : (inR 0 d.r 10000 && inR 0 d.c 64) = true := h1
  rw [h1']
  have c0 := (hO1).cell (o := 0) rfl rfl
  have c1 := (hO1).cell (o := 1) rfl rfl
  have c2 := (hO1).cell (o := 2) rfl rfl
  have c3 := (hO1).cell (o := 3) rfl rfl
  have c4 := (hO1).cell (o := 4) rfl rfl
  have c5 := (hO1).cell (o := 5) rfl rfl
  have c6 := (hO1).cell (o := 6) rfl rfl
  have c7 := (hO1).cell (o := 7) rfl rfl
  have c8 := (hO1).cell (o := 8) rfl rfl
  have c9 := (hO1).cell (o := 9) rfl rfl
  simp -dsimp -implicitDefEqProofs (maxSteps := 2000000) (disch := first | assumption | omega | (simp only [AW.next_push, AW.next_put]; omega) | ((repeat refine Fresh.push ?_ _); assumption) | (simp only [same_int, same_bool, same_ptr, same_slice, same_sliceP, same_nil, same_agg2, same_string]; done) | (simp [oneCell, AW.next_push]; done) | fail) only [go_sem, Nat.reduceEqDiff, reduceIte, Nat.reduceAdd, Int.toNat_natCast, Nat.add_zero, Owes_true, Try.results41, Nat.zero_add, c0, c1, c2, c3, c4, c5, c6, c7, c8, c9]
  apply callV_of (e := rfl)
  · exact isTariff_ok d.a d.fr d.fe d.tm d.gr w1 g1.2
  rintro _ w2 ⟨rfl, hg2⟩
  have g2 := g1.trans hg2
  have hO2 := hO1.keep hg2.1
  cases h2 : tarB d.a d.fr d.fe d.tm d.gr with
  | false =>
    simp -dsimp -implicitDefEqProofs (maxSteps := 2000000) (disch := first | assumption | omega | (simp only [AW.next_push, AW.next_put]; omega) | ((repeat refine Fresh.push ?_ _); assumption) | (simp only [same_int, same_bool, same_ptr, same_slice, same_sliceP, same_nil, same_agg2, same_string]; done) | (simp [oneCell, AW.next_push]; done) | fail) only [go_sem, Nat.reduceEqDiff, reduceIte, Nat.reduceAdd, Int.toNat_natCast, Nat.add_zero, Owes_true, Try.results41]
    exact ⟨by rw [dealE_bad (by rw [dealB, fiveB, h2, Bool.and_false]; rfl)], g2⟩
  | true =>
  have c0 := (hO2).cell (o := 0) rfl rfl
  have c1 := (hO2).cell (o := 1) rfl rfl
  have c2 := (hO2).cell (o := 2) rfl rfl
  have c3 := (hO2).cell (o := 3) rfl rfl
  have c4 := (hO2).cell (o := 4) rfl rfl
  have c5 := (hO2).cell (o := 5) rfl rfl
  have c6 := (hO2).cell (o := 6) rfl rfl
  have c7 := (hO2).cell (o := 7) rfl rfl
  have c8 := (hO2).cell (o := 8) rfl rfl
  have c9 := (hO2).cell (o := 9) rfl rfl
  simp -dsimp -implicitDefEqProofs (maxSteps := 2000000) (disch := first | assumption | omega | (simp only [AW.next_push, AW.next_put]; omega) | ((repeat refine Fresh.push ?_ _); assumption) | (simp only [same_int, same_bool, same_ptr, same_slice, same_sliceP, same_nil, same_agg2, same_string]; done) | (simp [oneCell, AW.next_push]; done) | fail) only [go_sem, Nat.reduceEqDiff, reduceIte, Nat.reduceAdd, Int.toNat_natCast, Nat.add_zero, Owes_true, Try.results41, Nat.zero_add, c0, c1, c2, c3, c4, c5, c6, c7, c8, c9]
  apply callV_of (e := rfl)
  · exact areClosed_ok cl _ w2 (hs.grown g2)
  rintro _ _ ⟨rfl, rfl⟩
  cases h3 : closedB cl with
  | false =>
    simp -dsimp -implicitDefEqProofs (maxSteps := 2000000) (disch := first | assumption | omega | (simp only [AW.next_push, AW.next_put]; omega) | ((repeat refine Fresh.push ?_ _); assumption) | (simp only [same_int, same_bool, same_ptr, same_slice, same_sliceP, same_nil, same_agg2, same_string]; done) | (simp [oneCell, AW.next_push]; done) | fail) only [go_sem, Nat.reduceEqDiff, reduceIte, Nat.reduceAdd, Int.toNat_natCast, Nat.add_zero, Owes_true, Try.results41]
    exact ⟨by rw [dealE_bad (by rw [dealB, h3, Bool.and_false]; rfl)], g2⟩
  | true =>
  simp -dsimp -implicitDefEqProofs (maxSteps := 2000000) (disch := first | assumption | omega | (simp only [AW.next_push, AW.next_put]; omega) | ((repeat refine Fresh.push ?_ _); assumption) | (simp only [same_int, same_bool, same_ptr, same_slice, same_sliceP, same_nil, same_agg2, same_string]; done) | (simp [oneCell, AW.next_push]; done) | fail) only [go_sem, Nat.reduceEqDiff, reduceIte, Nat.reduceAdd, Int.toNat_natCast, Nat.add_zero, Owes_true, Try.results41, Nat.zero_add, c0, c1, c2, c3, c4, c5, c6, c7, c8, c9]
  apply callV_of (e := rfl)
  · exact isDay_ok d.st w2
  rintro _ _ ⟨rfl, rfl⟩
  cases h4 : inR 0 d.st 36500 with
  | false =>
    simp -dsimp -implicitDefEqProofs (maxSteps := 2000000) (disch := first | assumption | omega | (simp only [AW.next_push, AW.next_put]; omega) | ((repeat refine Fresh.push ?_ _); assumption) | (simp only [same_int, same_bool, same_ptr, same_slice, same_sliceP, same_nil, same_agg2, same_string]; done) | (simp [oneCell, AW.next_push]; done) | fail) only [go_sem, Nat.reduceEqDiff, reduceIte, Nat.reduceAdd, Int.toNat_natCast, Nat.add_zero, Owes_true, Try.results41]
    exact ⟨by rw [dealE_bad (by rw [dealB, h4, Bool.and_false]; rfl)], g2⟩
  | true =>
  simp -dsimp -implicitDefEqProofs (maxSteps := 2000000) (disch := first | assumption | omega | (simp only [AW.next_push, AW.next_put]; omega) | ((repeat refine Fresh.push ?_ _); assumption) | (simp only [same_int, same_bool, same_ptr, same_slice, same_sliceP, same_nil, same_agg2, same_string]; done) | (simp [oneCell, AW.next_push]; done) | fail) only [go_sem, Nat.reduceEqDiff, reduceIte, Nat.reduceAdd, Int.toNat_natCast, Nat.add_zero, Owes_true, Try.results41, Nat.zero_add, c0, c1, c2, c3, c4, c5, c6, c7, c8, c9]
  apply callV_of (e := rfl)
  · exact within_ok _ _ _ _
  rintro _ _ ⟨rfl, rfl⟩
  cases h5 : inR 1 d.sm 1073741824 with
  | false =>
    simp -dsimp -implicitDefEqProofs (maxSteps := 2000000) (disch := first | assumption | omega | (simp only [AW.next_push, AW.next_put]; omega) | ((repeat refine Fresh.push ?_ _); assumption) | (simp only [same_int, same_bool, same_ptr, same_slice, same_sliceP, same_nil, same_agg2, same_string]; done) | (simp [oneCell, AW.next_push]; done) | fail) only [go_sem, Nat.reduceEqDiff, reduceIte, Nat.reduceAdd, Int.toNat_natCast, Nat.add_zero, Owes_true, Try.results41]
    exact ⟨by rw [dealE_bad (by rw [dealB, h5, Bool.and_false])], g2⟩
  | true =>
  simp -dsimp -implicitDefEqProofs (maxSteps := 2000000) (disch := first | assumption | omega | (simp only [AW.next_push, AW.next_put]; omega) | ((repeat refine Fresh.push ?_ _); assumption) | (simp only [same_int, same_bool, same_ptr, same_slice, same_sliceP, same_nil, same_agg2, same_string]; done) | (simp [oneCell, AW.next_push]; done) | fail) only [go_sem, Nat.reduceEqDiff, reduceIte, Nat.reduceAdd, Int.toNat_natCast, Nat.add_zero, Owes_true, Try.results41]
  exact ⟨by rw [dealE, dealB, h1, fiveB, h2, h3, h4, h5]; rfl, g2⟩

/- The last day on which an age is not too great. -/
def lastTo (c : Nat → Int) (A from_ : Int) : Nat → Int
  | 0 => from_ + A
  | i + 1 => if from_ < c i ∧ c i ≤ lastTo c A from_ i + 1 then lastTo c A from_ i + 1 else lastTo c A from_ i
theorem lastTo_in (c : Nat → Int) (A a : Int) : ∀ i, a + A ≤ lastTo c A a i ∧ lastTo c A a i ≤ a + A + i
  | 0 => ⟨Int.le_refl _, by rw [lastTo]; omega⟩
  | i + 1 => by
    have := lastTo_in c A a i
    rw [lastTo]
    split <;> omega
def cAt (cl : List Int) (k : Nat) : Int := cl.getD k 0
def lastZ (d : DealN) (cl : List Int) (a : Int) : Int := lastTo (cAt cl) (d.tm + d.gr) a cl.length
set_option maxHeartbeats 1000000 in
theorem lastDay_ok (d : DealN) (cl : List Int) (a : Int) (v : Value) (w : AW) (f : Fresh w) (hs : ArrOf w 1 icells v cl) (hd : dealB d cl = true) (h0 : 0 ≤ a) (h1 : a ≤ 100000) :
    CallT Try.prog Try.T1 (.fn (.func 58) #[]) #[.agg #[.int .i64 d.r, .int .i64 d.c, .int .i64 d.a, .int .i64 d.fr, .int .i64 d.fe, .int .i64 d.tm, .int .i64 d.gr, v, .int .i64 d.st, .int .i64 d.sm], .int .i64 a] w (Ret (.int .i64 (lastZ d cl a)) (Grown w)) := by
  obtain ⟨p, cap, rfl, hcap, hmax, hat⟩ := id hs.open
  have g := (Grown.refl f).push (.cells [.int .i64 d.r, .int .i64 d.c, .int .i64 d.a, .int .i64 d.fr, .int .i64 d.fe, .int .i64 d.tm, .int .i64 d.gr, (.slice p cl.length cap), .int .i64 d.st, .int .i64 d.sm] 56 w.next 0 0)
  have hO := Own.new f 56 [.int .i64 d.r, .int .i64 d.c, .int .i64 d.a, .int .i64 d.fr, .int .i64 d.fe, .int .i64 d.tm, .int .i64 d.gr, (.slice p cl.length cap), .int .i64 d.st, .int .i64 d.sm]
  simp only [dealB, fiveB, Bool.and_eq_true] at hd
  have ht := hd.1.1.1.2
  have hcl := hd.1.1.2
  have hlen : cl.length ≤ 64 := by rw [closedB, Bool.and_eq_true] at hcl; exact of_decide_eq_true hcl.1
  have hA : 1 ≤ d.tm + d.gr ∧ d.tm + d.gr ≤ 426 := by
    simp only [tarB, Bool.and_eq_true, inR_iff] at ht; omega
  refine callT_code rfl Try.func58 rfl Try.s58_eq rfl ?_
  unfold Try.s58
  simp -dsimp -implicitDefEqProofs (maxSteps := 2000000) (disch := first | assumption | omega | (simp only [AW.next_push, AW.next_put]; omega) | ((repeat refine Fresh.push ?_ _); assumption) | (simp only [same_int, same_bool, same_ptr, same_slice, same_sliceP, same_nil, same_agg2, same_string]; done) | (simp [oneCell, AW.next_push]; done) | fail) only [go_sem, Nat.reduceEqDiff, reduceIte, Nat.reduceAdd, Int.toNat_natCast, Nat.add_zero, Owes_true, Try.results58, Nat.zero_add]
  apply callV_of (e := rfl)
  · exact oldest_ok d.a d.fr d.fe d.tm d.gr ht _ g.2
  rintro _ w1 ⟨rfl, hg1⟩
  have g1 := g.trans hg1
  have hO1 := hO.keep hg1.1
  have c0 := (hO1).cell (o := 0) rfl rfl
  have c1 := (hO1).cell (o := 1) rfl rfl
  have c2 := (hO1).cell (o := 2) rfl rfl
  have c3 := (hO1).cell (o := 3) rfl rfl
  have c4 := (hO1).cell (o := 4) rfl rfl
  have c5 := (hO1).cell (o := 5) rfl rfl
  have c6 := (hO1).cell (o := 6) rfl rfl
  have c7 := (hO1).cell (o := 7) rfl rfl
  have c8 := (hO1).cell (o := 8) rfl rfl
  have c9 := (hO1).cell (o := 9) rfl rfl
  simp -dsimp -implicitDefEqProofs (maxSteps := 2000000) (disch := first | assumption | omega | (simp only [AW.next_push, AW.next_put]; omega) | ((repeat refine Fresh.push ?_ _); assumption) | (simp only [same_int, same_bool, same_ptr, same_slice, same_sliceP, same_nil, same_agg2, same_string]; done) | (simp [oneCell, AW.next_push]; done) | fail) only [go_sem, Nat.reduceEqDiff, reduceIte, Nat.reduceAdd, Int.toNat_natCast, Nat.add_zero, Owes_true, Try.results58, Nat.zero_add, c0, c1, c2, c3, c4, c5, c6, c7, c8, c9]
  refine loopR (fun k t ds w2 => ∃ i : Nat, i ≤ cl.length ∧ k = cl.length - i ∧ ds = [] ∧ ev t (.tmp 1) = .int .i64 a ∧ ev t (.tmp 5) = .int .i64 (lastTo (cAt cl) (d.tm + d.gr) a i) ∧ ev t (.tmp 14) = .slice p cl.length cap ∧ ev t (.tmp 15) = .int .i64 (cl.length : Int) ∧ ev t (.tmp 16) = .int .i64 (i : Int) ∧ w1 = w2) (cl.length) ?_ ?_
  · refine ⟨0, by omega, by omega, rfl, ?_, ?_, ?_, ?_, ?_, rfl⟩ <;> simp -dsimp -implicitDefEqProofs (maxSteps := 2000000) (disch := first | assumption | omega | (simp only [AW.next_push, AW.next_put]; omega) | ((repeat refine Fresh.push ?_ _); assumption) | (simp only [same_int, same_bool, same_ptr, same_slice, same_sliceP, same_nil, same_agg2, same_string]; done) | (simp [oneCell, AW.next_push]; done) | fail) only [go_sem, Nat.reduceEqDiff, reduceIte, Nat.reduceAdd, Int.toNat_natCast, Nat.add_zero, Owes_true] <;> rfl
  rintro k t ds w2 ⟨i, hii, rfl, rfl, e1, e5, e14, e15, e16, hw⟩
  subst hw
  by_cases hlt : (i : Int) < (cl.length : Int)
  case neg =>
    obtain rfl : i = cl.length := by omega
    simp -dsimp -implicitDefEqProofs (maxSteps := 2000000) (disch := first | assumption | omega | (simp only [AW.next_push, AW.next_put]; omega) | ((repeat refine Fresh.push ?_ _); assumption) | (simp only [same_int, same_bool, same_ptr, same_slice, same_sliceP, same_nil, same_agg2, same_string]; done) | (simp [oneCell, AW.next_push]; done) | fail) only [go_sem, Nat.reduceEqDiff, reduceIte, Nat.reduceAdd, Int.toNat_natCast, Nat.add_zero, Owes_true, Try.results58, e1, e5, e14, e15, e16, hlt]
    exact ⟨rfl, g1⟩
  have hlt' : i < cl.length := by omega
  obtain ⟨b1, o1, rfl, hb1, hcell⟩ := hat i hlt'
  have hc0 := hcell w1 g1.1 0 _ rfl
  rw [Nat.add_zero] at hc0
  have hgd : cAt cl i = cl[i] := getD_at hlt'
  have hin := lastTo_in (cAt cl) (d.tm + d.gr) a i
  have hnext : lastTo (cAt cl) (d.tm + d.gr) a (i + 1) = if a < cl[i] ∧ cl[i] ≤ lastTo (cAt cl) (d.tm + d.gr) a i + 1 then lastTo (cAt cl) (d.tm + d.gr) a i + 1 else lastTo (cAt cl) (d.tm + d.gr) a i := by rw [← hgd]; rfl
  generalize lastTo (cAt cl) (d.tm + d.gr) a i = L at *
  by_cases q1 : a < cl[i]
  · by_cases q2 : cl[i] ≤ L + 1
    · rw [if_pos ⟨q1, q2⟩] at hnext
      simp -dsimp -implicitDefEqProofs (maxSteps := 2000000) (disch := first | assumption | omega | (simp only [AW.next_push, AW.next_put]; omega) | ((repeat refine Fresh.push ?_ _); assumption) | (simp only [same_int, same_bool, same_ptr, same_slice, same_sliceP, same_nil, same_agg2, same_string]; done) | (simp [oneCell, AW.next_push]; done) | fail) only [go_sem, Nat.reduceEqDiff, reduceIte, Nat.reduceAdd, Int.toNat_natCast, Nat.add_zero, Owes_true, Try.results58, e1, e5, e14, e15, e16, hlt, indexV_eq, hc0, q1, q2]
      refine ⟨_, by omega, i + 1, by omega, rfl, rfl, by (simp -dsimp -implicitDefEqProofs (maxSteps := 2000000) (disch := first | assumption | omega | (simp only [AW.next_push, AW.next_put]; omega) | ((repeat refine Fresh.push ?_ _); assumption) | (simp only [same_int, same_bool, same_ptr, same_slice, same_sliceP, same_nil, same_agg2, same_string]; done) | (simp [oneCell, AW.next_push]; done) | fail) only [go_sem, Nat.reduceEqDiff, reduceIte, Nat.reduceAdd, Int.toNat_natCast, Nat.add_zero, Owes_true, e1, hnext]; try rfl), by (simp -dsimp -implicitDefEqProofs (maxSteps := 2000000) (disch := first | assumption | omega | (simp only [AW.next_push, AW.next_put]; omega) | ((repeat refine Fresh.push ?_ _); assumption) | (simp only [same_int, same_bool, same_ptr, same_slice, same_sliceP, same_nil, same_agg2, same_string]; done) | (simp [oneCell, AW.next_push]; done) | fail) only [go_sem, Nat.reduceEqDiff, reduceIte, Nat.reduceAdd, Int.toNat_natCast, Nat.add_zero, Owes_true, e5, hnext]; try rfl), by (simp -dsimp -implicitDefEqProofs (maxSteps := 2000000) (disch := first | assumption | omega | (simp only [AW.next_push, AW.next_put]; omega) | ((repeat refine Fresh.push ?_ _); assumption) | (simp only [same_int, same_bool, same_ptr, same_slice, same_sliceP, same_nil, same_agg2, same_string]; done) | (simp [oneCell, AW.next_push]; done) | fail) only [go_sem, Nat.reduceEqDiff, reduceIte, Nat.reduceAdd, Int.toNat_natCast, Nat.add_zero, Owes_true, e14, hnext]; try rfl), by (simp -dsimp -implicitDefEqProofs (maxSteps := 2000000) (disch := first | assumption | omega | (simp only [AW.next_push, AW.next_put]; omega) | ((repeat refine Fresh.push ?_ _); assumption) | (simp only [same_int, same_bool, same_ptr, same_slice, same_sliceP, same_nil, same_agg2, same_string]; done) | (simp [oneCell, AW.next_push]; done) | fail) only [go_sem, Nat.reduceEqDiff, reduceIte, Nat.reduceAdd, Int.toNat_natCast, Nat.add_zero, Owes_true, e15, hnext]; try rfl), by (simp -dsimp -implicitDefEqProofs (maxSteps := 2000000) (disch := first | assumption | omega | (simp only [AW.next_push, AW.next_put]; omega) | ((repeat refine Fresh.push ?_ _); assumption) | (simp only [same_int, same_bool, same_ptr, same_slice, same_sliceP, same_nil, same_agg2, same_string]; done) | (simp [oneCell, AW.next_push]; done) | fail) only [go_sem, Nat.reduceEqDiff, reduceIte, Nat.reduceAdd, Int.toNat_natCast, Nat.add_zero, Owes_true, e16, hnext]; try rfl), rfl⟩
    · rw [if_neg (fun h => q2 h.2)] at hnext
      simp -dsimp -implicitDefEqProofs (maxSteps := 2000000) (disch := first | assumption | omega | (simp only [AW.next_push, AW.next_put]; omega) | ((repeat refine Fresh.push ?_ _); assumption) | (simp only [same_int, same_bool, same_ptr, same_slice, same_sliceP, same_nil, same_agg2, same_string]; done) | (simp [oneCell, AW.next_push]; done) | fail) only [go_sem, Nat.reduceEqDiff, reduceIte, Nat.reduceAdd, Int.toNat_natCast, Nat.add_zero, Owes_true, Try.results58, e1, e5, e14, e15, e16, hlt, indexV_eq, hc0, q1, q2]
      refine ⟨_, by omega, i + 1, by omega, rfl, rfl, by (simp -dsimp -implicitDefEqProofs (maxSteps := 2000000) (disch := first | assumption | omega | (simp only [AW.next_push, AW.next_put]; omega) | ((repeat refine Fresh.push ?_ _); assumption) | (simp only [same_int, same_bool, same_ptr, same_slice, same_sliceP, same_nil, same_agg2, same_string]; done) | (simp [oneCell, AW.next_push]; done) | fail) only [go_sem, Nat.reduceEqDiff, reduceIte, Nat.reduceAdd, Int.toNat_natCast, Nat.add_zero, Owes_true, e1, hnext]; try rfl), by (simp -dsimp -implicitDefEqProofs (maxSteps := 2000000) (disch := first | assumption | omega | (simp only [AW.next_push, AW.next_put]; omega) | ((repeat refine Fresh.push ?_ _); assumption) | (simp only [same_int, same_bool, same_ptr, same_slice, same_sliceP, same_nil, same_agg2, same_string]; done) | (simp [oneCell, AW.next_push]; done) | fail) only [go_sem, Nat.reduceEqDiff, reduceIte, Nat.reduceAdd, Int.toNat_natCast, Nat.add_zero, Owes_true, e5, hnext]; try rfl), by (simp -dsimp -implicitDefEqProofs (maxSteps := 2000000) (disch := first | assumption | omega | (simp only [AW.next_push, AW.next_put]; omega) | ((repeat refine Fresh.push ?_ _); assumption) | (simp only [same_int, same_bool, same_ptr, same_slice, same_sliceP, same_nil, same_agg2, same_string]; done) | (simp [oneCell, AW.next_push]; done) | fail) only [go_sem, Nat.reduceEqDiff, reduceIte, Nat.reduceAdd, Int.toNat_natCast, Nat.add_zero, Owes_true, e14, hnext]; try rfl), by (simp -dsimp -implicitDefEqProofs (maxSteps := 2000000) (disch := first | assumption | omega | (simp only [AW.next_push, AW.next_put]; omega) | ((repeat refine Fresh.push ?_ _); assumption) | (simp only [same_int, same_bool, same_ptr, same_slice, same_sliceP, same_nil, same_agg2, same_string]; done) | (simp [oneCell, AW.next_push]; done) | fail) only [go_sem, Nat.reduceEqDiff, reduceIte, Nat.reduceAdd, Int.toNat_natCast, Nat.add_zero, Owes_true, e15, hnext]; try rfl), by (simp -dsimp -implicitDefEqProofs (maxSteps := 2000000) (disch := first | assumption | omega | (simp only [AW.next_push, AW.next_put]; omega) | ((repeat refine Fresh.push ?_ _); assumption) | (simp only [same_int, same_bool, same_ptr, same_slice, same_sliceP, same_nil, same_agg2, same_string]; done) | (simp [oneCell, AW.next_push]; done) | fail) only [go_sem, Nat.reduceEqDiff, reduceIte, Nat.reduceAdd, Int.toNat_natCast, Nat.add_zero, Owes_true, e16, hnext]; try rfl), rfl⟩
  · rw [if_neg (fun h => q1 h.1)] at hnext
    simp -dsimp -implicitDefEqProofs (maxSteps := 2000000) (disch := first | assumption | omega | (simp only [AW.next_push, AW.next_put]; omega) | ((repeat refine Fresh.push ?_ _); assumption) | (simp only [same_int, same_bool, same_ptr, same_slice, same_sliceP, same_nil, same_agg2, same_string]; done) | (simp [oneCell, AW.next_push]; done) | fail) only [go_sem, Nat.reduceEqDiff, reduceIte, Nat.reduceAdd, Int.toNat_natCast, Nat.add_zero, Owes_true, Try.results58, e1, e5, e14, e15, e16, hlt, indexV_eq, hc0, q1]
    refine ⟨_, by omega, i + 1, by omega, rfl, rfl, by (simp -dsimp -implicitDefEqProofs (maxSteps := 2000000) (disch := first | assumption | omega | (simp only [AW.next_push, AW.next_put]; omega) | ((repeat refine Fresh.push ?_ _); assumption) | (simp only [same_int, same_bool, same_ptr, same_slice, same_sliceP, same_nil, same_agg2, same_string]; done) | (simp [oneCell, AW.next_push]; done) | fail) only [go_sem, Nat.reduceEqDiff, reduceIte, Nat.reduceAdd, Int.toNat_natCast, Nat.add_zero, Owes_true, e1, hnext]; try rfl), by (simp -dsimp -implicitDefEqProofs (maxSteps := 2000000) (disch := first | assumption | omega | (simp only [AW.next_push, AW.next_put]; omega) | ((repeat refine Fresh.push ?_ _); assumption) | (simp only [same_int, same_bool, same_ptr, same_slice, same_sliceP, same_nil, same_agg2, same_string]; done) | (simp [oneCell, AW.next_push]; done) | fail) only [go_sem, Nat.reduceEqDiff, reduceIte, Nat.reduceAdd, Int.toNat_natCast, Nat.add_zero, Owes_true, e5, hnext]; try rfl), by (simp -dsimp -implicitDefEqProofs (maxSteps := 2000000) (disch := first | assumption | omega | (simp only [AW.next_push, AW.next_put]; omega) | ((repeat refine Fresh.push ?_ _); assumption) | (simp only [same_int, same_bool, same_ptr, same_slice, same_sliceP, same_nil, same_agg2, same_string]; done) | (simp [oneCell, AW.next_push]; done) | fail) only [go_sem, Nat.reduceEqDiff, reduceIte, Nat.reduceAdd, Int.toNat_natCast, Nat.add_zero, Owes_true, e14, hnext]; try rfl), by (simp -dsimp -implicitDefEqProofs (maxSteps := 2000000) (disch := first | assumption | omega | (simp only [AW.next_push, AW.next_put]; omega) | ((repeat refine Fresh.push ?_ _); assumption) | (simp only [same_int, same_bool, same_ptr, same_slice, same_sliceP, same_nil, same_agg2, same_string]; done) | (simp [oneCell, AW.next_push]; done) | fail) only [go_sem, Nat.reduceEqDiff, reduceIte, Nat.reduceAdd, Int.toNat_natCast, Nat.add_zero, Owes_true, e15, hnext]; try rfl), by (simp -dsimp -implicitDefEqProofs (maxSteps := 2000000) (disch := first | assumption | omega | (simp only [AW.next_push, AW.next_put]; omega) | ((repeat refine Fresh.push ?_ _); assumption) | (simp only [same_int, same_bool, same_ptr, same_slice, same_sliceP, same_nil, same_agg2, same_string]; done) | (simp [oneCell, AW.next_push]; done) | fail) only [go_sem, Nat.reduceEqDiff, reduceIte, Nat.reduceAdd, Int.toNat_natCast, Nat.add_zero, Owes_true, e16, hnext]; try rfl), rfl⟩
end Go.Proofs

/- Days that are counted: the last day of an age, and what is counted day by day. -/
namespace Go.Proofs
open Go Go.RowKit Go.Sim
set_option maxRecDepth 100000
/-- Strictly increasing, as far as n. -/
def Inc (c : Nat → Int) (n : Nat) : Prop := ∀ j k, j < k → k < n → c j < c k
/-- How many of the first n lie behind a, up to b. -/
def clC (c : Nat → Int) (a b : Int) : Nat → Int
  | 0 => 0
  | i + 1 => clC c a b i + (if a < c i ∧ c i ≤ b then 1 else 0)
def Mem (c : Nat → Int) (n : Nat) (x : Int) : Prop := ∃ k, k < n ∧ c k = x
theorem clC_in (c : Nat → Int) (a b : Int) : ∀ n, 0 ≤ clC c a b n ∧ clC c a b n ≤ n
  | 0 => by simp [clC]
  | n + 1 => by have := clC_in c a b n; rw [clC]; split <;> omega
theorem clC_none {c : Nat → Int} {a b b' : Int} : ∀ {n : Nat}, (∀ k, k < n → c k ≤ b ∧ c k ≤ b') → clC c a b n = clC c a b' n
  | 0, _ => rfl
  | n + 1, h => by
    rw [clC, clC, clC_none (n := n) fun k hk => h k (by omega)]
    have := h n (by omega)
    congr 1
    by_cases q : a < c n
    · rw [if_pos ⟨q, this.1⟩, if_pos ⟨q, this.2⟩]
    · rw [if_neg (fun x => q x.1), if_neg (fun x => q x.1)]
theorem clC_step {c : Nat → Int} {a b : Int} (hab : a ≤ b) : ∀ {n : Nat}, Inc c n → (Mem c n (b + 1) → clC c a (b + 1) n = clC c a b n + 1) ∧ (¬ Mem c n (b + 1) → clC c a (b + 1) n = clC c a b n)
  | 0, _ => ⟨fun ⟨k, hk, _⟩ => by omega, fun _ => rfl⟩
  | n + 1, h => by
    obtain ⟨ih1, ih2⟩ := clC_step hab (n := n) fun j k hj hk => h j k hj (by omega)
    rw [clC, clC]
    by_cases q : c n = b + 1
    · have hno : ¬ Mem c n (b + 1) := fun ⟨k, hk, e⟩ => by have := h k n hk (by omega); omega
      rw [ih2 hno, if_pos (by omega), if_neg (by omega)]
      exact ⟨fun _ => by omega, fun hm => absurd ⟨n, by omega, q⟩ hm⟩
    · have e : (if a < c n ∧ c n ≤ b + 1 then (1 : Int) else 0) = if a < c n ∧ c n ≤ b then 1 else 0 := by
        split <;> split <;> first | rfl | omega
      rw [e]
      refine ⟨fun ⟨k, hk, hc⟩ => ?_, fun hm => ?_⟩
      · have hkn : k < n := by
          rcases Nat.lt_or_ge k n with x | x
          · exact x
          · have : k = n := by omega
            subst this; exact absurd hc q
        rw [ih1 ⟨k, hkn, hc⟩]; omega
      · rw [ih2 fun ⟨k, hk, hc⟩ => hm ⟨k, by omega, hc⟩]
theorem last_facts {c : Nat → Int} {A a : Int} (hA : 0 ≤ A) : ∀ {n : Nat}, Inc c n → lastTo c A a n = a + A + clC c a (lastTo c A a n) n ∧ ¬ Mem c n (lastTo c A a n + 1)
  | 0, _ => ⟨by simp [lastTo, clC], fun ⟨k, hk, _⟩ => by omega⟩
  | n + 1, h => by
    obtain ⟨ih1, ih2⟩ := last_facts hA (n := n) fun j k hj hk => h j k hj (by omega)
    have hin := lastTo_in c A a n
    rw [lastTo]
    generalize lastTo c A a n = L at *
    by_cases q : a < c n ∧ c n ≤ L + 1
    · rw [if_pos q, clC, if_pos q]
      have hlo : ∀ k, k < n → c k ≤ L := fun k hk => by have := h k n hk (by omega); omega
      rw [← clC_none (b := L) fun k hk => ⟨hlo k hk, by have := hlo k hk; omega⟩]
      refine ⟨by omega, fun ⟨k, hk, e⟩ => ?_⟩
      by_cases hkn : k = n
      · subst hkn; omega
      · have := hlo k (by omega); omega
    · rw [if_neg q, clC, if_neg (by omega)]
      refine ⟨by omega, fun ⟨k, hk, e⟩ => ?_⟩
      by_cases hkn : k = n
      · subst hkn; exact q (by omega)
      · exact ih2 ⟨k, by omega, e⟩
/-- How many days behind a are open, of the next m. -/
def opn (c : Nat → Int) (n : Nat) (a : Int) (m : Nat) : Int := m - clC c a (a + m) n
theorem opn_zero {c : Nat → Int} {n : Nat} {a : Int} : opn c n a 0 = 0 := by
  have : ∀ n, clC c a (a + (0 : Nat)) n = 0 := by
    intro n
    induction n with
    | zero => rfl
    | succ n ih => rw [clC, ih, if_neg (by omega)]; rfl
  rw [opn, this]; rfl
theorem opn_succ {c : Nat → Int} {n : Nat} (h : Inc c n) (a : Int) (m : Nat) : (Mem c n (a + m + 1) → opn c n a (m + 1) = opn c n a m) ∧ (¬ Mem c n (a + m + 1) → opn c n a (m + 1) = opn c n a m + 1) := by
  have := clC_step (c := c) (a := a) (b := a + m) (by omega) h
  have e : a + ((m + 1 : Nat) : Int) = a + m + 1 := by omega
  rw [opn, opn, e]
  refine ⟨fun q => ?_, fun q => ?_⟩
  · rw [this.1 q]; omega
  · rw [this.2 q]; omega
theorem opn_mono {c : Nat → Int} {n : Nat} (h : Inc c n) (a : Int) (m : Nat) : ∀ j, opn c n a m ≤ opn c n a (m + j)
  | 0 => Int.le_refl _
  | j + 1 => by
    have ih := opn_mono h a m j
    have := opn_succ h a (m + j)
    rw [← Nat.add_assoc]
    by_cases q : Mem c n (a + ((m + j : Nat) : Int) + 1)
    · rw [this.1 q]; exact ih
    · rw [this.2 q]; omega
theorem opn_last {c : Nat → Int} {n : Nat} (h : Inc c n) {A a : Int} (hA : 0 ≤ A) {m : Nat} (hm : a + m = lastTo c A a n) : opn c n a m = A := by
  have := (last_facts hA h (a := a)).1
  rw [opn, hm]; omega
end Go.Proofs

/- Deals: lists that are the same; Keep. -/
namespace Go.Proofs
open Go Go.RowKit Go.Sim
set_option maxRecDepth 100000
theorem same_ok (xs ys : List Int) (v u : Value) (w : AW) (f : Fresh w) (hx : ArrOf w 1 icells v xs) (hy : ArrOf w 1 icells u ys) :
    CallT Try.prog Try.T1 (.fn (.func 16) #[]) #[v, u] w (Ret (.bool (decide (xs = ys))) (Grown w)) := by
  obtain ⟨p, cap, rfl, hcap, hmax, hat⟩ := hx.open
  obtain ⟨q, cap2, rfl, hcap2, hmax2, hat2⟩ := hy.open
  refine callT_code rfl Try.func16 rfl Try.s16_eq rfl ?_
  unfold Try.s16
  simp -dsimp -implicitDefEqProofs (maxSteps := 2000000) (disch := first | assumption | omega | (simp only [AW.next_push, AW.next_put]; omega) | ((repeat refine Fresh.push ?_ _); assumption) | (simp only [same_int, same_bool, same_ptr, same_slice, same_sliceP, same_nil, same_agg2, same_string]; done) | (simp [oneCell, AW.next_push]; done) | fail) only [go_sem, Nat.reduceEqDiff, reduceIte, Nat.reduceAdd, Int.toNat_natCast, Nat.add_zero, Owes_true, Try.results16]
  refine loopR (fun k t ds w1 => ∃ i : Nat, i ≤ xs.length ∧ k = xs.length - i ∧ ds = [] ∧ ev t (.tmp 0) = .slice p xs.length cap ∧ ev t (.tmp 1) = .slice q ys.length cap2 ∧ ev t (.tmp 5) = .bool (decide ((xs.length : Int) = (ys.length : Int)) && decide (xs.take i = ys.take i)) ∧ ev t (.tmp 6) = .int .i64 (i : Int) ∧ w = w1) (xs.length) ?_ ?_
  · refine ⟨0, by omega, by omega, rfl, ?_, ?_, ?_, ?_, rfl⟩ <;> simp -dsimp -implicitDefEqProofs (maxSteps := 2000000) (disch := first | assumption | omega | (simp only [AW.next_push, AW.next_put]; omega) | ((repeat refine Fresh.push ?_ _); assumption) | (simp only [same_int, same_bool, same_ptr, same_slice, same_sliceP, same_nil, same_agg2, same_string]; done) | (simp [oneCell, AW.next_push]; done) | fail) only [go_sem, Nat.reduceEqDiff, reduceIte, Nat.reduceAdd, Int.toNat_natCast, Nat.add_zero, Owes_true, List.take_zero, decide_true] <;> rfl
  rintro k t ds w1 ⟨i, hii, rfl, rfl, e0, e1, e5, e6, hw⟩
  subst hw
  by_cases hl : (xs.length : Int) = (ys.length : Int)
  case neg =>
    have hne : ¬ xs = ys := fun e => hl (by rw [e])
    simp -dsimp -implicitDefEqProofs (maxSteps := 2000000) (disch := first | assumption | omega | (simp only [AW.next_push, AW.next_put]; omega) | ((repeat refine Fresh.push ?_ _); assumption) | (simp only [same_int, same_bool, same_ptr, same_slice, same_sliceP, same_nil, same_agg2, same_string]; done) | (simp [oneCell, AW.next_push]; done) | fail) only [go_sem, Nat.reduceEqDiff, reduceIte, Nat.reduceAdd, Int.toNat_natCast, Nat.add_zero, Owes_true, Try.results16, e0, e1, e5, e6, hl, hne]
    exact ⟨rfl, .refl f⟩
  have hl' : xs.length = ys.length := by omega
  by_cases ht : xs.take i = ys.take i
  case neg =>
    have hne : ¬ xs = ys := fun e => ht (by rw [e])
    simp -dsimp -implicitDefEqProofs (maxSteps := 2000000) (disch := first | assumption | omega | (simp only [AW.next_push, AW.next_put]; omega) | ((repeat refine Fresh.push ?_ _); assumption) | (simp only [same_int, same_bool, same_ptr, same_slice, same_sliceP, same_nil, same_agg2, same_string]; done) | (simp [oneCell, AW.next_push]; done) | fail) only [go_sem, Nat.reduceEqDiff, reduceIte, Nat.reduceAdd, Int.toNat_natCast, Nat.add_zero, Owes_true, Try.results16, e0, e1, e5, e6, hl, ht, hne]
    exact ⟨rfl, .refl f⟩
  by_cases hlt : (i : Int) < (xs.length : Int)
  case neg =>
    have heq : xs = ys := by
      rw [List.take_of_length_le (by omega), List.take_of_length_le (by omega)] at ht; exact ht
    subst heq
    simp -dsimp -implicitDefEqProofs (maxSteps := 2000000) (disch := first | assumption | omega | (simp only [AW.next_push, AW.next_put]; omega) | ((repeat refine Fresh.push ?_ _); assumption) | (simp only [same_int, same_bool, same_ptr, same_slice, same_sliceP, same_nil, same_agg2, same_string]; done) | (simp [oneCell, AW.next_push]; done) | fail) only [go_sem, Nat.reduceEqDiff, reduceIte, Nat.reduceAdd, Int.toNat_natCast, Nat.add_zero, Owes_true, Try.results16, e0, e1, e5, e6, hlt]
    exact ⟨rfl, .refl f⟩
  have hlt1 : i < xs.length := by omega
  have hlt2 : i < ys.length := by omega
  have hlt2' : (i : Int) < (ys.length : Int) := by omega
  obtain ⟨b1, o1, rfl, hb1, hcell⟩ := hat i hlt1
  obtain ⟨b2, o2, rfl, hb2, hcell2⟩ := hat2 i hlt2
  have hc0 := hcell w (.refl _ _) 0 _ rfl
  have hd0 := hcell2 w (.refl _ _) 0 _ rfl
  rw [Nat.add_zero] at hc0 hd0
  have hnext : decide (xs.take (i + 1) = ys.take (i + 1)) = decide (xs[i] = ys[i]) := by
    rw [List.take_succ_eq_append_getElem hlt1, List.take_succ_eq_append_getElem hlt2, ht]
    exact decide_eq_decide.2 ⟨fun h => (List.cons.inj (List.append_cancel_left h)).1, fun h => by rw [h]⟩
  have hlt3 : ¬ (i : Int) < (ys.length : Int) → False := fun h => h hlt2'
  have hdl : decide ((xs.length : Int) = (ys.length : Int)) = true := decide_eq_true hl
  have hdt : decide (xs.take i = ys.take i) = true := decide_eq_true ht
  simp -dsimp -implicitDefEqProofs (maxSteps := 2000000) (disch := first | assumption | omega | (simp only [AW.next_push, AW.next_put]; omega) | ((repeat refine Fresh.push ?_ _); assumption) | (simp only [same_int, same_bool, same_ptr, same_slice, same_sliceP, same_nil, same_agg2, same_string]; done) | (simp [oneCell, AW.next_push]; done) | fail) only [go_sem, Nat.reduceEqDiff, reduceIte, Nat.reduceAdd, Int.toNat_natCast, Nat.add_zero, Owes_true, Try.results16, e0, e1, e5, e6, hdl, hdt, hlt, hlt2', indexV_eq, hc0, hd0]
  refine ⟨_, by omega, i + 1, by omega, rfl, rfl, by simp -dsimp -implicitDefEqProofs (maxSteps := 2000000) (disch := first | assumption | omega | (simp only [AW.next_push, AW.next_put]; omega) | ((repeat refine Fresh.push ?_ _); assumption) | (simp only [same_int, same_bool, same_ptr, same_slice, same_sliceP, same_nil, same_agg2, same_string]; done) | (simp [oneCell, AW.next_push]; done) | fail) only [go_sem, Nat.reduceEqDiff, reduceIte, Nat.reduceAdd, Int.toNat_natCast, Nat.add_zero, Owes_true, e0], by simp -dsimp -implicitDefEqProofs (maxSteps := 2000000) (disch := first | assumption | omega | (simp only [AW.next_push, AW.next_put]; omega) | ((repeat refine Fresh.push ?_ _); assumption) | (simp only [same_int, same_bool, same_ptr, same_slice, same_sliceP, same_nil, same_agg2, same_string]; done) | (simp [oneCell, AW.next_push]; done) | fail) only [go_sem, Nat.reduceEqDiff, reduceIte, Nat.reduceAdd, Int.toNat_natCast, Nat.add_zero, Owes_true, e1], ?_, by (simp -dsimp -implicitDefEqProofs (maxSteps := 2000000) (disch := first | assumption | omega | (simp only [AW.next_push, AW.next_put]; omega) | ((repeat refine Fresh.push ?_ _); assumption) | (simp only [same_int, same_bool, same_ptr, same_slice, same_sliceP, same_nil, same_agg2, same_string]; done) | (simp [oneCell, AW.next_push]; done) | fail) only [go_sem, Nat.reduceEqDiff, reduceIte, Nat.reduceAdd, Int.toNat_natCast, Nat.add_zero, Owes_true, e6]; try rfl), rfl⟩
  simp -dsimp -implicitDefEqProofs (maxSteps := 2000000) (disch := first | assumption | omega | (simp only [AW.next_push, AW.next_put]; omega) | ((repeat refine Fresh.push ?_ _); assumption) | (simp only [same_int, same_bool, same_ptr, same_slice, same_sliceP, same_nil, same_agg2, same_string]; done) | (simp [oneCell, AW.next_push]; done) | fail) only [go_sem, Nat.reduceEqDiff, reduceIte, Nat.reduceAdd, Int.toNat_natCast, Nat.add_zero, Owes_true, hnext, hdl]
theorem seek_ok (xs : List Int) (x : Int) (u : Value) (w : AW) (hx : ArrOf w 1 icells u xs) :
    CallT Try.prog Try.T1 (.fn (.func 37) #[]) #[u, .int .i64 x] w (fun v w' => ∃ n : Int, v = .int .i64 n ∧ decide (0 ≤ n) = decide (x ∈ xs) ∧ w = w') := by
  obtain ⟨p, cap, rfl, hcap, hmax, hat⟩ := hx.open
  refine callT_code rfl Try.func37 rfl Try.s37_eq rfl ?_
  unfold Try.s37
  simp -dsimp -implicitDefEqProofs (maxSteps := 2000000) (disch := first | assumption | omega | (simp only [AW.next_push, AW.next_put]; omega) | ((repeat refine Fresh.push ?_ _); assumption) | (simp only [same_int, same_bool, same_ptr, same_slice, same_sliceP, same_nil, same_agg2, same_string]; done) | (simp [oneCell, AW.next_push]; done) | fail) only [go_sem, Nat.reduceEqDiff, reduceIte, Nat.reduceAdd, Int.toNat_natCast, Nat.add_zero, Owes_true, Try.results37]
  refine loopR (fun k t ds w1 => ∃ i : Nat, i ≤ xs.length ∧ k = xs.length - i ∧ ds = [] ∧ ev t (.tmp 0) = .slice p xs.length cap ∧ ev t (.tmp 1) = .int .i64 x ∧ ev t (.tmp 5) = .int .i64 (i : Int) ∧ w = w1 ∧ ¬ x ∈ xs.take i) (xs.length) ?_ ?_
  · refine ⟨0, by omega, by omega, rfl, ?_, ?_, ?_, rfl, by simp⟩ <;> simp -dsimp -implicitDefEqProofs (maxSteps := 2000000) (disch := first | assumption | omega | (simp only [AW.next_push, AW.next_put]; omega) | ((repeat refine Fresh.push ?_ _); assumption) | (simp only [same_int, same_bool, same_ptr, same_slice, same_sliceP, same_nil, same_agg2, same_string]; done) | (simp [oneCell, AW.next_push]; done) | fail) only [go_sem, Nat.reduceEqDiff, reduceIte, Nat.reduceAdd, Int.toNat_natCast, Nat.add_zero, Owes_true] <;> rfl
  rintro k t ds w1 ⟨i, hii, rfl, rfl, e0, e1, e5, hw, hall⟩
  subst hw
  by_cases hlt : (i : Int) < (xs.length : Int)
  case neg =>
    have h2 : xs.take i = xs := List.take_of_length_le (by omega)
    rw [h2] at hall
    simp -dsimp -implicitDefEqProofs (maxSteps := 2000000) (disch := first | assumption | omega | (simp only [AW.next_push, AW.next_put]; omega) | ((repeat refine Fresh.push ?_ _); assumption) | (simp only [same_int, same_bool, same_ptr, same_slice, same_sliceP, same_nil, same_agg2, same_string]; done) | (simp [oneCell, AW.next_push]; done) | fail) only [go_sem, Nat.reduceEqDiff, reduceIte, Nat.reduceAdd, Int.toNat_natCast, Nat.add_zero, Owes_true, Try.results37, e0, e1, e5, hlt]
    exact ⟨-1, rfl, by rw [decide_eq_false hall]; rfl, trivial⟩
  have hlt' : i < xs.length := by omega
  obtain ⟨b1, o1, rfl, hb1, hcell⟩ := hat i hlt'
  have hc0 := hcell w (.refl _ _) 0 _ rfl
  rw [Nat.add_zero] at hc0
  by_cases hq : xs[i] = x
  · simp -dsimp -implicitDefEqProofs (maxSteps := 2000000) (disch := first | assumption | omega | (simp only [AW.next_push, AW.next_put]; omega) | ((repeat refine Fresh.push ?_ _); assumption) | (simp only [same_int, same_bool, same_ptr, same_slice, same_sliceP, same_nil, same_agg2, same_string]; done) | (simp [oneCell, AW.next_push]; done) | fail) only [go_sem, Nat.reduceEqDiff, reduceIte, Nat.reduceAdd, Int.toNat_natCast, Nat.add_zero, Owes_true, Try.results37, e0, e1, e5, hlt, indexV_eq, hc0, hq]
    exact ⟨(i : Int), rfl, by rw [decide_eq_true (show x ∈ xs from hq ▸ List.getElem_mem hlt')]; exact decide_eq_true (Int.natCast_nonneg i), trivial⟩
  · simp -dsimp -implicitDefEqProofs (maxSteps := 2000000) (disch := first | assumption | omega | (simp only [AW.next_push, AW.next_put]; omega) | ((repeat refine Fresh.push ?_ _); assumption) | (simp only [same_int, same_bool, same_ptr, same_slice, same_sliceP, same_nil, same_agg2, same_string]; done) | (simp [oneCell, AW.next_push]; done) | fail) only [go_sem, Nat.reduceEqDiff, reduceIte, Nat.reduceAdd, Int.toNat_natCast, Nat.add_zero, Owes_true, Try.results37, e0, e1, e5, hlt, indexV_eq, hc0, hq]
    refine ⟨_, by omega, i + 1, by omega, rfl, rfl, by (simp -dsimp -implicitDefEqProofs (maxSteps := 2000000) (disch := first | assumption | omega | (simp only [AW.next_push, AW.next_put]; omega) | ((repeat refine Fresh.push ?_ _); assumption) | (simp only [same_int, same_bool, same_ptr, same_slice, same_sliceP, same_nil, same_agg2, same_string]; done) | (simp [oneCell, AW.next_push]; done) | fail) only [go_sem, Nat.reduceEqDiff, reduceIte, Nat.reduceAdd, Int.toNat_natCast, Nat.add_zero, Owes_true, e0]; try rfl), by (simp -dsimp -implicitDefEqProofs (maxSteps := 2000000) (disch := first | assumption | omega | (simp only [AW.next_push, AW.next_put]; omega) | ((repeat refine Fresh.push ?_ _); assumption) | (simp only [same_int, same_bool, same_ptr, same_slice, same_sliceP, same_nil, same_agg2, same_string]; done) | (simp [oneCell, AW.next_push]; done) | fail) only [go_sem, Nat.reduceEqDiff, reduceIte, Nat.reduceAdd, Int.toNat_natCast, Nat.add_zero, Owes_true, e1]; try rfl), by (simp -dsimp -implicitDefEqProofs (maxSteps := 2000000) (disch := first | assumption | omega | (simp only [AW.next_push, AW.next_put]; omega) | ((repeat refine Fresh.push ?_ _); assumption) | (simp only [same_int, same_bool, same_ptr, same_slice, same_sliceP, same_nil, same_agg2, same_string]; done) | (simp [oneCell, AW.next_push]; done) | fail) only [go_sem, Nat.reduceEqDiff, reduceIte, Nat.reduceAdd, Int.toNat_natCast, Nat.add_zero, Owes_true, e5]; try rfl), rfl, by rw [List.take_succ_eq_append_getElem hlt']; simp only [List.mem_append, List.mem_singleton]; rintro (h | h); exact hall h; exact hq h.symm⟩

/- The days on which a loan is renewed. -/
def itZ (d : DealN) (cl : List Int) : Nat → Int
  | 0 => d.st
  | n + 1 => lastZ d cl (itZ d cl n)
def its (d : DealN) (cl : List Int) (m : Nat) : List Int := (List.range m).map fun j => itZ d cl (j + 1)
theorem its_len (d : DealN) (cl : List Int) (m : Nat) : (its d cl m).length = m := by simp [its]
theorem its_succ (d : DealN) (cl : List Int) (m : Nat) : its d cl (m + 1) = its d cl m ++ [itZ d cl (m + 1)] := by simp [its, List.range_succ]
structure Valid (d : DealN) (cl : List Int) : Prop where
  age : 1 ≤ d.tm + d.gr ∧ d.tm + d.gr ≤ 426
  tm : 1 ≤ d.tm ∧ d.tm ≤ 366
  gr : 0 ≤ d.gr ∧ d.gr ≤ 60
  st : 0 ≤ d.st ∧ d.st ≤ 36500
  len : cl.length ≤ 64
  inc : Inc (cAt cl) cl.length
theorem valid_of {d : DealN} {cl : List Int} (h : dealB d cl = true) : Valid d cl := by
  simp only [dealB, fiveB, Bool.and_eq_true] at h
  have ht := h.1.1.1.2
  have hc := h.1.1.2
  have hst := (inR_iff _ _ _).1 h.1.2
  simp only [tarB, Bool.and_eq_true, inR_iff] at ht
  rw [closedB, Bool.and_eq_true] at hc
  refine ⟨by omega, by omega, by omega, by omega, of_decide_eq_true hc.1, ?_⟩
  have step : ∀ k, k + 1 < cl.length → cAt cl k < cAt cl (k + 1) := fun k hk => clTo_inc hc.2 hk
  intro j k hj hk
  induction k with
  | zero => omega
  | succ k ih =>
    have h1 := step k hk
    by_cases q : j = k
    · rw [q]; exact h1
    · exact Int.lt_trans (ih (by omega) (by omega)) h1
theorem lastZ_in {d : DealN} {cl : List Int} (h : Valid d cl) (a : Int) : a + 1 ≤ lastZ d cl a ∧ lastZ d cl a ≤ a + 490 := by
  have := lastTo_in (cAt cl) (d.tm + d.gr) a cl.length
  have h1 := h.age
  have h2 := h.len
  rw [lastZ]; omega
theorem itZ_ge {d : DealN} {cl : List Int} (h : Valid d cl) : ∀ m, d.st + m ≤ itZ d cl m
  | 0 => by rw [itZ]; omega
  | m + 1 => by have := itZ_ge h m; have := lastZ_in h (itZ d cl m); rw [itZ]; omega
theorem itZ_lt {d : DealN} {cl : List Int} (h : Valid d cl) (j : Nat) : ∀ k, j ≤ k → itZ d cl j ≤ itZ d cl k
  | 0, hk => by obtain rfl : j = 0 := by omega
                exact Int.le_refl _
  | k + 1, hk => by
    by_cases q : j = k + 1
    · rw [q]; exact Int.le_refl _
    · have := itZ_lt h j k (by omega)
      have := lastZ_in h (itZ d cl k)
      rw [itZ]; omega
def KC (d : DealN) (cl : List Int) (un E : Int) (L : List Int) : Prop :=
  (dealB d cl = false ∧ E = 23 ∧ L = []) ∨ (dealB d cl = true ∧ inR d.st un 36500 = false ∧ E = 7 ∧ L = []) ∨
  (dealB d cl = true ∧ inR d.st un 36500 = true ∧ E = 3 ∧ itZ d cl 33 < un ∧ L = []) ∨
  (dealB d cl = true ∧ inR d.st un 36500 = true ∧ E = 0 ∧ ∃ m, m ≤ 32 ∧ (∀ j, j < m → itZ d cl (j + 1) < un) ∧ un ≤ itZ d cl (m + 1) ∧ L = its d cl m)
theorem KC.one {d : DealN} {cl : List Int} {un E F : Int} {L M : List Int} (h : KC d cl un E L) (k : KC d cl un F M) : E = F ∧ L = M := by
  rcases h with ⟨a1, a2, a3⟩ | ⟨a1, a2, a3, a4⟩ | ⟨a1, a2, a3, a4, a5⟩ | ⟨a1, a2, a3, m, a4, a5, a6, a7⟩ <;>
    rcases k with ⟨b1, b2, b3⟩ | ⟨b1, b2, b3, b4⟩ | ⟨b1, b2, b3, b4, b5⟩ | ⟨b1, b2, b3, n, b4, b5, b6, b7⟩ <;> try (simp_all; done)
  · have := itZ_lt (valid_of a1) (n + 1) 33 (by omega); omega
  · have := itZ_lt (valid_of a1) (m + 1) 33 (by omega); omega
  · have hmn : m = n := by
      have hv := valid_of a1
      rcases Nat.lt_trichotomy m n with q | q | q
      · have := b5 m q; omega
      · exact q
      · have := a5 n q; omega
    exact ⟨by omega, by rw [a7, b7, hmn]⟩
def KeepPost (d : DealN) (cl : List Int) (un : Int) (w : AW) : Value → AW → Prop := fun r w' => ∃ s E L, r = .tuple #[s, .int .i64 E] ∧ KC d cl un E L ∧ ArrOf w' 1 icells s L ∧ Grown w w'
end Go.Proofs
