/- This program: its code, contracts, numbers, part 6. -/
import Derived.Test.YthnpnooiidnbeaaGreatPae
import Derived.Test.YthnpnooiidnbeaaGreatPad
import Derived.Test.YthnpnooiidnbeaaGreatPaa
import Derived.Test.YthnpnooiidnbeaaGreatNa
import Derived.Test.YthnpnooiidnbeaaGreatCz
import Derived.Test.YthnpnooiidnbeaaGreatNc
import Derived.Test.YthnpnooiidnbeaaGreatPac
set_option linter.unusedVariables false
set_option linter.unusedSimpArgs false
namespace Go.Proofs
open Go Go.RowKit Go.Sim
set_option maxRecDepth 100000
set_option maxHeartbeats 16000000 in
theorem reportR_ok (l : List DealN) (L : List (Int × Int)) (W : WatchN) (v0 v1 : Value) (w : AW) (f : Fresh w) (hs : ArrOf w 3 dcells v0 l) (hL : ArrOf w 2 lcells v1 L) :
    CallT Tryz.prog Tryz.T1 (.fn (.func 76) #[]) #[v0, v1, .agg #[.int .i64 W.days, .int .i64 W.sum, .int .i64 W.small, .int .i64 W.more]] w (Ret (.bool (reportB l L W)) (Grown w)) := by
  obtain ⟨p0, cp0, rfl, _, _, hat⟩ := id hs.open
  obtain ⟨p1, cp1, rfl, _⟩ := id hL.open
  have g1 := (Grown.refl f).push (.cells [.int .i64 W.days, .int .i64 W.sum, .int .i64 W.small, .int .i64 W.more] 46 w.next 0 0)
  have o1 := Own.new f 46 [.int .i64 W.days, .int .i64 W.sum, .int .i64 W.small, .int .i64 W.more]
  have y0 := o1.cell (o := 0) rfl rfl
  have y1 := o1.cell (o := 1) rfl rfl
  have y2 := o1.cell (o := 2) rfl rfl
  have y3 := o1.cell (o := 3) rfl rfl
  refine callT_code rfl Tryz.func76 rfl Tryz.s76_eq rfl ?_
  unfold Tryz.s76
  simp -dsimp -implicitDefEqProofs (maxSteps := 2000000) (disch := first | assumption | omega | (simp only [nx]; omega) | ((repeat refine Fresh.push ?_ _); assumption) | (simp only [smA]; done) | (simp [oneCell, AW.next_push]; done) | fail) only [go_sem, Nat.reduceEqDiff, reduceIte, Nat.reduceAdd, Int.toNat_natCast, Nat.add_zero, Owes_true, Tryz.results76]
  generalize hwb : w.push (.cells [.int .i64 W.days, .int .i64 W.sum, .int .i64 W.small, .int .i64 W.more] 46 w.next 0 0) = wb at *
  refine loopR (fun k t ds w1 => ∃ i : Nat, i ≤ l.length ∧ k = l.length - i ∧ ds = [] ∧ ev t (.tmp 0) = .slice p0 l.length cp0 ∧ ev t (.tmp 1) = .slice p1 L.length cp1 ∧ ev t (.tmp 5) = .pointer (some ⟨w.next, 0, none⟩) ∧ ev t (.tmp 7) = .int .i64 (prevD l i) ∧ ev t (.tmp 8) = .int .i64 (i : Int) ∧ (∀ j, j < i → chkD l j = true) ∧ w1 = wb) (l.length) ?_ ?_
  · refine ⟨0, by omega, by omega, rfl, ?_, ?_, ?_, ?_, ?_, (fun j h => absurd h (Nat.not_lt_zero j)), rfl⟩ <;> simp -dsimp -implicitDefEqProofs (maxSteps := 2000000) (disch := first | assumption | omega | (simp only [nx]; omega) | ((repeat refine Fresh.push ?_ _); assumption) | (simp only [smA]; done) | (simp [oneCell, AW.next_push]; done) | fail) only [go_sem, Nat.reduceEqDiff, reduceIte, Nat.reduceAdd, Int.toNat_natCast, Nat.add_zero, Owes_true] <;> rfl
  rintro k t ds w1 ⟨i, hii, rfl, rfl, e0, e1, e5, e7, e8, ha, hw⟩
  subst hw
  by_cases hlt : (i : Int) < (l.length : Int)
  case neg =>
    obtain rfl : i = l.length := by omega
    have hall := chk_all ha
    have hB : reportB l L W = (decide ((l.length : Int) ≤ 64) && linksB L && watchB W) := by
      unfold reportB dealsB
      rw [Bool.and_assoc (decide (l.length ≤ 64)), hall, Bool.and_true]
      by_cases q : l.length ≤ 64
      · rw [decide_eq_true q, decide_eq_true (by omega)]
      · rw [decide_eq_false q, decide_eq_false (by omega)]
    rw [hB]
    by_cases h64 : (l.length : Int) ≤ 64
    case neg =>
      have hd : decide ((l.length : Int) ≤ 64) = false := decide_eq_false h64
      simp -dsimp -implicitDefEqProofs (maxSteps := 2000000) (disch := first | assumption | omega | (simp only [nx]; omega) | ((repeat refine Fresh.push ?_ _); assumption) | (simp only [smA]; done) | (simp [oneCell, AW.next_push]; done) | fail) only [go_sem, Nat.reduceEqDiff, reduceIte, Nat.reduceAdd, Int.toNat_natCast, Nat.add_zero, Owes_true, Tryz.results76, e0, e1, e5, e7, e8, hlt, hd]
      exact ⟨rfl, g1⟩
    have hd : decide ((l.length : Int) ≤ 64) = true := decide_eq_true h64
    rw [hd, Bool.true_and]
    simp -dsimp -implicitDefEqProofs (maxSteps := 2000000) (disch := first | assumption | omega | (simp only [nx]; omega) | ((repeat refine Fresh.push ?_ _); assumption) | (simp only [smA]; done) | (simp [oneCell, AW.next_push]; done) | fail) only [go_sem, Nat.reduceEqDiff, reduceIte, Nat.reduceAdd, Int.toNat_natCast, Nat.add_zero, Owes_true, Tryz.results76, e0, e1, e5, e7, e8, hlt, hd]
    apply callV_of (e := rfl)
    · exact linking_ok L _ w1 g1.2 (hL.grown g1)
    rintro _ _ ⟨rfl, rfl⟩
    cases h1 : linksB L with
    | false =>
      simp -dsimp -implicitDefEqProofs (maxSteps := 2000000) (disch := first | assumption | omega | (simp only [nx]; omega) | ((repeat refine Fresh.push ?_ _); assumption) | (simp only [smA]; done) | (simp [oneCell, AW.next_push]; done) | fail) only [go_sem, Nat.reduceEqDiff, reduceIte, Nat.reduceAdd, Int.toNat_natCast, Nat.add_zero, Owes_true, Tryz.results76, h1]
      exact ⟨rfl, g1⟩
    | true =>
    unfold watchB
    simp -dsimp -implicitDefEqProofs (maxSteps := 2000000) (disch := first | assumption | omega | (simp only [nx]; omega) | ((repeat refine Fresh.push ?_ _); assumption) | (simp only [smA]; done) | (simp [oneCell, AW.next_push]; done) | fail) only [go_sem, Nat.reduceEqDiff, reduceIte, Nat.reduceAdd, Int.toNat_natCast, Nat.add_zero, Owes_true, Tryz.results76, h1, e5, Nat.zero_add, y0]
    apply callV_of (e := rfl)
    · exact FromV_ok _ _ _ _
    rintro _ _ ⟨rfl, rfl⟩
    cases h2 : inR 1 W.days 366 with
    | false =>
      simp -dsimp -implicitDefEqProofs (maxSteps := 2000000) (disch := first | assumption | omega | (simp only [nx]; omega) | ((repeat refine Fresh.push ?_ _); assumption) | (simp only [smA]; done) | (simp [oneCell, AW.next_push]; done) | fail) only [go_sem, Nat.reduceEqDiff, reduceIte, Nat.reduceAdd, Int.toNat_natCast, Nat.add_zero, Owes_true, Tryz.results76, h2]
      exact ⟨rfl, g1⟩
    | true =>
    simp -dsimp -implicitDefEqProofs (maxSteps := 2000000) (disch := first | assumption | omega | (simp only [nx]; omega) | ((repeat refine Fresh.push ?_ _); assumption) | (simp only [smA]; done) | (simp [oneCell, AW.next_push]; done) | fail) only [go_sem, Nat.reduceEqDiff, reduceIte, Nat.reduceAdd, Int.toNat_natCast, Nat.add_zero, Owes_true, Tryz.results76, h2, e5, Nat.zero_add, y1]
    apply callV_of (e := rfl)
    · exact FromV_ok _ _ _ _
    rintro _ _ ⟨rfl, rfl⟩
    cases h3 : inR 1 W.sum 1073741824 with
    | false =>
      simp -dsimp -implicitDefEqProofs (maxSteps := 2000000) (disch := first | assumption | omega | (simp only [nx]; omega) | ((repeat refine Fresh.push ?_ _); assumption) | (simp only [smA]; done) | (simp [oneCell, AW.next_push]; done) | fail) only [go_sem, Nat.reduceEqDiff, reduceIte, Nat.reduceAdd, Int.toNat_natCast, Nat.add_zero, Owes_true, Tryz.results76, h3]
      exact ⟨rfl, g1⟩
    | true =>
    simp -dsimp -implicitDefEqProofs (maxSteps := 2000000) (disch := first | assumption | omega | (simp only [nx]; omega) | ((repeat refine Fresh.push ?_ _); assumption) | (simp only [smA]; done) | (simp [oneCell, AW.next_push]; done) | fail) only [go_sem, Nat.reduceEqDiff, reduceIte, Nat.reduceAdd, Int.toNat_natCast, Nat.add_zero, Owes_true, Tryz.results76, h3, e5, Nat.zero_add, y1, y2]
    apply callV_of (e := rfl)
    · exact FromV_ok _ _ _ _
    rintro _ _ ⟨rfl, rfl⟩
    cases h4 : inR 1 W.small W.sum with
    | false =>
      simp -dsimp -implicitDefEqProofs (maxSteps := 2000000) (disch := first | assumption | omega | (simp only [nx]; omega) | ((repeat refine Fresh.push ?_ _); assumption) | (simp only [smA]; done) | (simp [oneCell, AW.next_push]; done) | fail) only [go_sem, Nat.reduceEqDiff, reduceIte, Nat.reduceAdd, Int.toNat_natCast, Nat.add_zero, Owes_true, Tryz.results76, h4]
      exact ⟨rfl, g1⟩
    | true =>
    simp -dsimp -implicitDefEqProofs (maxSteps := 2000000) (disch := first | assumption | omega | (simp only [nx]; omega) | ((repeat refine Fresh.push ?_ _); assumption) | (simp only [smA]; done) | (simp [oneCell, AW.next_push]; done) | fail) only [go_sem, Nat.reduceEqDiff, reduceIte, Nat.reduceAdd, Int.toNat_natCast, Nat.add_zero, Owes_true, Tryz.results76, h4, e5, Nat.zero_add, y3]
    apply callV_of (e := rfl)
    · exact FromV_ok _ _ _ _
    rintro _ _ ⟨rfl, rfl⟩
    simp -dsimp -implicitDefEqProofs (maxSteps := 2000000) (disch := first | assumption | omega | (simp only [nx]; omega) | ((repeat refine Fresh.push ?_ _); assumption) | (simp only [smA]; done) | (simp [oneCell, AW.next_push]; done) | fail) only [go_sem, Nat.reduceEqDiff, reduceIte, Nat.reduceAdd, Int.toNat_natCast, Nat.add_zero, Owes_true, Tryz.results76]
    exact ⟨rfl, g1⟩
  have hlt' : i < l.length := by omega
  obtain ⟨b1, o2, rfl, hb1, hcell⟩ := hat i hlt'
  have a0 := hcell w1 g1.1 0 _ rfl
  have a1 := hcell w1 g1.1 1 _ rfl
  have a2 := hcell w1 g1.1 2 _ rfl
  rw [Nat.add_zero] at a0
  have bad : chkD l i = false → reportB l L W = false := fun h => by
    unfold reportB dealsB
    rw [Bool.and_assoc (decide (l.length ≤ 64)), chk_bad hlt' h, Bool.and_false, Bool.false_and, Bool.false_and]
  have hnx : prevD l (i + 1) = l[i].day := by unfold prevD; rw [if_neg (Nat.succ_ne_zero i), Nat.add_sub_cancel, dayAt_eq hlt']
  rw [chkD_eq hlt'] at bad
  have hck := chkD_eq hlt'
  generalize prevD l i = pd at *
  generalize l[i].day = dd at *
  generalize l[i].who = dw at *
  generalize l[i].sum = ds at *
  simp -dsimp -implicitDefEqProofs (maxSteps := 2000000) (disch := first | assumption | omega | (simp only [nx]; omega) | ((repeat refine Fresh.push ?_ _); assumption) | (simp only [smA]; done) | (simp [oneCell, AW.next_push]; done) | fail) only [go_sem, Nat.reduceEqDiff, reduceIte, Nat.reduceAdd, Int.toNat_natCast, Nat.add_zero, Owes_true, Tryz.results76, e0, e1, e5, e7, e8, hlt, indexV_eq, a0]
  apply callV_of (e := rfl)
  · exact FromV_ok _ _ _ _
  rintro _ _ ⟨rfl, rfl⟩
  cases h1 : inR pd dd 36500 with
  | false =>
    simp -dsimp -implicitDefEqProofs (maxSteps := 2000000) (disch := first | assumption | omega | (simp only [nx]; omega) | ((repeat refine Fresh.push ?_ _); assumption) | (simp only [smA]; done) | (simp [oneCell, AW.next_push]; done) | fail) only [go_sem, Nat.reduceEqDiff, reduceIte, Nat.reduceAdd, Int.toNat_natCast, Nat.add_zero, Owes_true, Tryz.results76, h1]
    exact ⟨by rw [bad (by rw [h1]; rfl)], g1⟩
  | true =>
  simp -dsimp -implicitDefEqProofs (maxSteps := 2000000) (disch := first | assumption | omega | (simp only [nx]; omega) | ((repeat refine Fresh.push ?_ _); assumption) | (simp only [smA]; done) | (simp [oneCell, AW.next_push]; done) | fail) only [go_sem, Nat.reduceEqDiff, reduceIte, Nat.reduceAdd, Int.toNat_natCast, Nat.add_zero, Owes_true, Tryz.results76, e0, e8, h1, hlt, indexV_eq, a1]
  apply callV_of (e := rfl)
  · exact FromV_ok _ _ _ _
  rintro _ _ ⟨rfl, rfl⟩
  cases h2 : inR 0 dw 23 with
  | false =>
    simp -dsimp -implicitDefEqProofs (maxSteps := 2000000) (disch := first | assumption | omega | (simp only [nx]; omega) | ((repeat refine Fresh.push ?_ _); assumption) | (simp only [smA]; done) | (simp [oneCell, AW.next_push]; done) | fail) only [go_sem, Nat.reduceEqDiff, reduceIte, Nat.reduceAdd, Int.toNat_natCast, Nat.add_zero, Owes_true, Tryz.results76, h2]
    exact ⟨by rw [bad (by rw [h1, h2]; rfl)], g1⟩
  | true =>
  simp -dsimp -implicitDefEqProofs (maxSteps := 2000000) (disch := first | assumption | omega | (simp only [nx]; omega) | ((repeat refine Fresh.push ?_ _); assumption) | (simp only [smA]; done) | (simp [oneCell, AW.next_push]; done) | fail) only [go_sem, Nat.reduceEqDiff, reduceIte, Nat.reduceAdd, Int.toNat_natCast, Nat.add_zero, Owes_true, Tryz.results76, e0, e8, h2, hlt, indexV_eq, a2]
  apply callV_of (e := rfl)
  · exact FromV_ok _ _ _ _
  rintro _ _ ⟨rfl, rfl⟩
  cases h3 : inR 1 ds 1073741824 with
  | false =>
    simp -dsimp -implicitDefEqProofs (maxSteps := 2000000) (disch := first | assumption | omega | (simp only [nx]; omega) | ((repeat refine Fresh.push ?_ _); assumption) | (simp only [smA]; done) | (simp [oneCell, AW.next_push]; done) | fail) only [go_sem, Nat.reduceEqDiff, reduceIte, Nat.reduceAdd, Int.toNat_natCast, Nat.add_zero, Owes_true, Tryz.results76, h3]
    exact ⟨by rw [bad (by rw [h1, h2, h3]; rfl)], g1⟩
  | true =>
  simp -dsimp -implicitDefEqProofs (maxSteps := 2000000) (disch := first | assumption | omega | (simp only [nx]; omega) | ((repeat refine Fresh.push ?_ _); assumption) | (simp only [smA]; done) | (simp [oneCell, AW.next_push]; done) | fail) only [go_sem, Nat.reduceEqDiff, reduceIte, Nat.reduceAdd, Int.toNat_natCast, Nat.add_zero, Owes_true, Tryz.results76, e0, e1, e5, e7, e8, h3, hlt, indexV_eq, a0]
  rw [h1, h2, h3] at hck
  refine ⟨_, by omega, i + 1, by omega, rfl, rfl, by (simp -dsimp -implicitDefEqProofs (maxSteps := 2000000) (disch := first | assumption | omega | (simp only [nx]; omega) | ((repeat refine Fresh.push ?_ _); assumption) | (simp only [smA]; done) | (simp [oneCell, AW.next_push]; done) | fail) only [go_sem, Nat.reduceEqDiff, reduceIte, Nat.reduceAdd, Int.toNat_natCast, Nat.add_zero, Owes_true, e0, hnx]; try rfl), by (simp -dsimp -implicitDefEqProofs (maxSteps := 2000000) (disch := first | assumption | omega | (simp only [nx]; omega) | ((repeat refine Fresh.push ?_ _); assumption) | (simp only [smA]; done) | (simp [oneCell, AW.next_push]; done) | fail) only [go_sem, Nat.reduceEqDiff, reduceIte, Nat.reduceAdd, Int.toNat_natCast, Nat.add_zero, Owes_true, e1, hnx]; try rfl), by (simp -dsimp -implicitDefEqProofs (maxSteps := 2000000) (disch := first | assumption | omega | (simp only [nx]; omega) | ((repeat refine Fresh.push ?_ _); assumption) | (simp only [smA]; done) | (simp [oneCell, AW.next_push]; done) | fail) only [go_sem, Nat.reduceEqDiff, reduceIte, Nat.reduceAdd, Int.toNat_natCast, Nat.add_zero, Owes_true, e5, hnx]; try rfl), by (simp -dsimp -implicitDefEqProofs (maxSteps := 2000000) (disch := first | assumption | omega | (simp only [nx]; omega) | ((repeat refine Fresh.push ?_ _); assumption) | (simp only [smA]; done) | (simp [oneCell, AW.next_push]; done) | fail) only [go_sem, Nat.reduceEqDiff, reduceIte, Nat.reduceAdd, Int.toNat_natCast, Nat.add_zero, Owes_true, e7, hnx]; try rfl), by (simp -dsimp -implicitDefEqProofs (maxSteps := 2000000) (disch := first | assumption | omega | (simp only [nx]; omega) | ((repeat refine Fresh.push ?_ _); assumption) | (simp only [smA]; done) | (simp [oneCell, AW.next_push]; done) | fail) only [go_sem, Nat.reduceEqDiff, reduceIte, Nat.reduceAdd, Int.toNat_natCast, Nat.add_zero, Owes_true, e8, hnx]; try rfl), (fun j hj => by by_cases q : j = i; { rw [q]; exact hck }; { exact ha j (by omega) }), rfl⟩
set_option maxHeartbeats 8000000 in
theorem totalR_ok (l : List DealN) (L : List Nat) (hN : ∀ n ∈ L, n < l.length) (hlen : L.length ≤ 64) (hl : l.length ≤ 64) (v0 v : Value) (w : AW) (f : Fresh w) (hs : ArrOf w 3 dcells v0 l) (hv : ArrOf w 1 icells v (toI L)) (hd : ∀ d ∈ l, dealB d = true) :
    CallT Tryz.prog Tryz.T1 (.fn (.func 79) #[]) #[v0, v] w (Ret (.int .i64 (sumW l L)) fun w' => w = w') := by
  unfold sumW
  obtain ⟨p0, c0, rfl, _, _, hat0⟩ := id hs.open
  obtain ⟨p, cp, rfl, _, _, hat⟩ := openN hv
  refine callT_code rfl Tryz.func79 rfl Tryz.s79_eq rfl ?_
  unfold Tryz.s79
  simp -dsimp -implicitDefEqProofs (maxSteps := 2000000) (disch := first | assumption | omega | (simp only [nx]; omega) | ((repeat refine Fresh.push ?_ _); assumption) | (simp only [smA]; done) | (simp [oneCell, AW.next_push]; done) | fail) only [go_sem, Nat.reduceEqDiff, reduceIte, Nat.reduceAdd, Int.toNat_natCast, Nat.add_zero, Owes_true, Tryz.results79]
  refine loopR (fun k t ds w1 => ∃ i : Nat, i ≤ L.length ∧ k = L.length - i ∧ ds = [] ∧ ev t (.tmp 0) = .slice p0 l.length c0 ∧ ev t (.tmp 1) = .slice p L.length cp ∧ ev t (.tmp 5) = .int .i64 ((L.take i).map (sumAt l)).sum ∧ ev t (.tmp 6) = .int .i64 (i : Int) ∧ w1 = w) (L.length) ?_ ?_
  · refine ⟨0, by omega, by omega, rfl, ?_, ?_, ?_, ?_, rfl⟩ <;> simp -dsimp -implicitDefEqProofs (maxSteps := 2000000) (disch := first | assumption | omega | (simp only [nx]; omega) | ((repeat refine Fresh.push ?_ _); assumption) | (simp only [smA]; done) | (simp [oneCell, AW.next_push]; done) | fail) only [go_sem, Nat.reduceEqDiff, reduceIte, Nat.reduceAdd, Int.toNat_natCast, Nat.add_zero, Owes_true] <;> rfl
  rintro k t ds w1 ⟨i, hii, rfl, rfl, e0, e1, e5, e6, hw⟩
  subst hw
  by_cases hlt : (i : Int) < (L.length : Int)
  case neg =>
    obtain rfl : i = L.length := by omega
    rw [List.take_of_length_le (Nat.le_refl _)] at e5
    simp -dsimp -implicitDefEqProofs (maxSteps := 2000000) (disch := first | assumption | omega | (simp only [nx]; omega) | ((repeat refine Fresh.push ?_ _); assumption) | (simp only [smA]; done) | (simp [oneCell, AW.next_push]; done) | fail) only [go_sem, Nat.reduceEqDiff, reduceIte, Nat.reduceAdd, Int.toNat_natCast, Nat.add_zero, Owes_true, Tryz.results79, e0, e1, e5, e6, hlt]
    exact ⟨rfl, rfl⟩
  have hlt' : i < L.length := by omega
  obtain ⟨b1, o1, rfl, hb1, hcell⟩ := hat i (by omega)
  have a0 := hcell w1 (.refl _ _)
  have hn := hN _ (List.getElem_mem hlt')
  have hgi := sumAt_in hd hn
  have hst := sums_in hd hN i (by omega)
  have hsn : ((L.take (i + 1)).map (sumAt l)).sum = ((L.take i).map (sumAt l)).sum + sumAt l L[i] := by
    rw [List.take_succ_eq_append_getElem hlt', List.map_append, List.sum_append]; simp
  have hse := sumAt_eq hn
  obtain ⟨b2, o2, rfl, hb2, hcell2⟩ := hat0 L[i] hn
  have x2 := hcell2 w1 (.refl _ _) 2 _ rfl
  rw [← hse] at x2
  generalize ((L.take i).map (sumAt l)).sum = S at *
  generalize hgg : sumAt l L[i] = gi at *
  generalize L[i] = n at *
  have hnl : (n : Int) < (l.length : Int) := by omega
  simp -dsimp -implicitDefEqProofs (maxSteps := 2000000) (disch := first | assumption | omega | (simp only [nx]; omega) | ((repeat refine Fresh.push ?_ _); assumption) | (simp only [smA]; done) | (simp [oneCell, AW.next_push]; done) | fail) only [go_sem, Nat.reduceEqDiff, reduceIte, Nat.reduceAdd, Int.toNat_natCast, Nat.add_zero, Owes_true, Tryz.results79, e0, e1, e5, e6, hlt, hnl, indexV_eq, a0, x2]
  refine ⟨_, by omega, i + 1, by omega, rfl, rfl, by (simp -dsimp -implicitDefEqProofs (maxSteps := 2000000) (disch := first | assumption | omega | (simp only [nx]; omega) | ((repeat refine Fresh.push ?_ _); assumption) | (simp only [smA]; done) | (simp [oneCell, AW.next_push]; done) | fail) only [go_sem, Nat.reduceEqDiff, reduceIte, Nat.reduceAdd, Int.toNat_natCast, Nat.add_zero, Owes_true, e0, hsn]; try rfl), by (simp -dsimp -implicitDefEqProofs (maxSteps := 2000000) (disch := first | assumption | omega | (simp only [nx]; omega) | ((repeat refine Fresh.push ?_ _); assumption) | (simp only [smA]; done) | (simp [oneCell, AW.next_push]; done) | fail) only [go_sem, Nat.reduceEqDiff, reduceIte, Nat.reduceAdd, Int.toNat_natCast, Nat.add_zero, Owes_true, e1, hsn]; try rfl), by (simp -dsimp -implicitDefEqProofs (maxSteps := 2000000) (disch := first | assumption | omega | (simp only [nx]; omega) | ((repeat refine Fresh.push ?_ _); assumption) | (simp only [smA]; done) | (simp [oneCell, AW.next_push]; done) | fail) only [go_sem, Nat.reduceEqDiff, reduceIte, Nat.reduceAdd, Int.toNat_natCast, Nat.add_zero, Owes_true, e5, hsn]; try rfl), by (simp -dsimp -implicitDefEqProofs (maxSteps := 2000000) (disch := first | assumption | omega | (simp only [nx]; omega) | ((repeat refine Fresh.push ?_ _); assumption) | (simp only [smA]; done) | (simp [oneCell, AW.next_push]; done) | fail) only [go_sem, Nat.reduceEqDiff, reduceIte, Nat.reduceAdd, Int.toNat_natCast, Nat.add_zero, Owes_true, e6, hsn]; try rfl), rfl⟩
end Go.Proofs

namespace Go.Proofs
open Go Go.RowKit Go.Sim
set_option maxRecDepth 100000
theorem lab_cells {b : Nat} {w : AW} {A : List Int} (h : ArrOf w 1 icells (.slice (some ⟨b, 0, none⟩) 24 24) A) (hA : A.length = 24) {w' : AW} (hk : Keep w.next w w') {u : Nat} (hu : u < A.length) : w'.cell? ⟨b, u, none⟩ = some (.int .i64 (lb A u)) := by
  obtain ⟨p, cap, e, _, _, hat⟩ := h.open
  injection e with e1 e2 e3
  subst e1
  obtain ⟨b', o', e', hb, hc⟩ := hat u hu
  injection e' with e'
  injection e' with q1 q2
  subst q1 q2
  have := hc w' hk 0 _ rfl
  rw [lb_at hu]
  simpa using this
set_option maxHeartbeats 16000000 in
theorem windowR_ok (l : List DealN) (W : WatchN) (A : List Int) (hA : A.length = 24) (kd : Nat) (hk : kd < l.length) (hl : l.length ≤ 64) (b : Nat) (v0 : Value) (w : AW) (f : Fresh w) (hs : ArrOf w 3 dcells v0 l) (hd : ∀ d ∈ l, dealB d = true) (hW : watchB W = true) (hR : ArrOf w 1 icells (.slice (some ⟨b, 0, none⟩) 24 24) A) :
    CallT Tryz.prog Tryz.T1 (.fn (.func 77) #[]) #[v0, .slice (some ⟨b, 0, none⟩) 24 24, .agg #[.int .i64 W.days, .int .i64 W.sum, .int .i64 W.small, .int .i64 W.more], .int .i64 (kd : Int)] w (fun r w' => (∃ p n c, r = .slice p n c ∧ RowN w' r (winOf W A l kd)) ∧ Grown w w') := by
  obtain ⟨p0, cp0, rfl, _, _, hat⟩ := id hs.open
  simp only [watchB, Bool.and_eq_true, inR_iff] at hW
  have gw := (Grown.refl f).push (.cells [.int .i64 W.days, .int .i64 W.sum, .int .i64 W.small, .int .i64 W.more] 46 w.next 0 0)
  have o1 := Own.new f 46 [.int .i64 W.days, .int .i64 W.sum, .int .i64 W.small, .int .i64 W.more]
  refine callT_code rfl Tryz.func77 rfl Tryz.s77_eq rfl ?_
  unfold Tryz.s77
  simp -dsimp -implicitDefEqProofs (maxSteps := 2000000) (disch := first | assumption | omega | (simp only [nx]; omega) | ((repeat refine Fresh.push ?_ _); assumption) | (simp only [smA]; done) | (simp [oneCell, AW.next_push]; done) | fail) only [go_sem, Nat.reduceEqDiff, reduceIte, Nat.reduceAdd, Int.toNat_natCast, Nat.add_zero, Owes_true, Tryz.results77]
  generalize hwb : w.push (.cells [.int .i64 W.days, .int .i64 W.sum, .int .i64 W.small, .int .i64 W.more] 46 w.next 0 0) = wb at *
  have hnb := gw.1.next
  have hkd1 := (dealB_iff _).1 (hd _ (List.getElem_mem hk))
  obtain ⟨bk, ok, ek, hbk, hcellk⟩ := hat kd hk
  refine loopR (fun k t ds w1 => ∃ i : Nat, i ≤ kd + 1 ∧ k = kd + 1 - i ∧ ds = [] ∧ ev t (.tmp 0) = .slice p0 l.length cp0 ∧ ev t (.tmp 1) = .slice (some ⟨b, 0, none⟩) 24 24 ∧ ev t (.tmp 3) = .int .i64 (kd : Int) ∧ ev t (.tmp 6) = .pointer (some ⟨w.next, 0, none⟩) ∧ ev t (.tmp 10) = .int .i64 (i : Int) ∧ ∃ (p3 : Option Addr) (n3 c3 : Nat), ev t (.tmp 9) = .slice p3 n3 c3 ∧ AOwn wb.next w1 3 1 (.slice p3 n3 c3) (toI (winTo W A l kd i)).length ((toI (winTo W A l kd i)).flatMap icells) ∧ Grown wb w1) (kd + 1) ?_ ?_
  · refine ⟨0, by omega, by omega, rfl, ?_, ?_, ?_, ?_, ?_, none, 0, 0, (by simp -dsimp -implicitDefEqProofs (maxSteps := 2000000) (disch := first | assumption | omega | (simp only [nx]; omega) | ((repeat refine Fresh.push ?_ _); assumption) | (simp only [smA]; done) | (simp [oneCell, AW.next_push]; done) | fail) only [go_sem, Nat.reduceEqDiff, reduceIte, Nat.reduceAdd, Int.toNat_natCast, Nat.add_zero, Owes_true]; try rfl), .inl ⟨rfl, rfl, rfl⟩, Grown.refl gw.2⟩ <;> simp -dsimp -implicitDefEqProofs (maxSteps := 2000000) (disch := first | assumption | omega | (simp only [nx]; omega) | ((repeat refine Fresh.push ?_ _); assumption) | (simp only [smA]; done) | (simp [oneCell, AW.next_push]; done) | fail) only [go_sem, Nat.reduceEqDiff, reduceIte, Nat.reduceAdd, Int.toNat_natCast, Nat.add_zero, Owes_true] <;> rfl
  rintro k t ds w1 ⟨i, hii, rfl, rfl, e0, e1, e3, e6, e10, p3, n3, c3, e9, hR9, g1⟩
  have gg := gw.trans g1
  by_cases hlt : (i : Int) ≤ (kd : Int)
  case neg =>
    obtain rfl : i = kd + 1 := by omega
    simp -dsimp -implicitDefEqProofs (maxSteps := 2000000) (disch := first | assumption | omega | (simp only [nx]; omega) | ((repeat refine Fresh.push ?_ _); assumption) | (simp only [smA]; done) | (simp [oneCell, AW.next_push]; done) | fail) only [go_sem, Nat.reduceEqDiff, reduceIte, Nat.reduceAdd, Int.toNat_natCast, Nat.add_zero, Owes_true, Tryz.results77, e0, e1, e3, e6, e9, e10, hlt]
    exact ⟨⟨p3, n3, c3, rfl, aown_low hR9⟩, gg⟩
  have hi : i < l.length := by omega
  have hil : (i : Int) < (l.length : Int) := by omega
  have hkl : (kd : Int) < (l.length : Int) := by omega
  obtain ⟨bi, oi, ei, hbi, hcelli⟩ := hat i hi
  rw [ek] at ei
  injection ei with ei
  injection ei with ei1 ei2
  subst ei1 ei2 ek
  have hdi := (dealB_iff _).1 (hd _ (List.getElem_mem hi))
  have a0 := hcelli w1 gg.1 0 _ rfl
  have a1 := hcelli w1 gg.1 1 _ rfl
  have k0 := hcellk w1 gg.1 0 _ rfl
  have k1 := hcellk w1 gg.1 1 _ rfl
  rw [Nat.add_zero] at a0 k0
  have y0 := (o1.keep g1.1).cell (o := 0) rfl rfl
  have li := leadAt_eq (A := A) hi
  have lk := leadAt_eq (A := A) hk
  obtain ⟨ui, hui⟩ : ∃ u : Nat, l[i].who = (u : Int) := ⟨l[i].who.toNat, by omega⟩
  obtain ⟨uk, huk⟩ : ∃ u : Nat, l[kd].who = (u : Int) := ⟨l[kd].who.toNat, by omega⟩
  rw [hui] at a1 hdi li
  rw [huk] at k1 hkd1 lk
  rw [Int.toNat_natCast] at li lk
  have hui' : ui < A.length := by omega
  have huk' : uk < A.length := by omega
  have ci := lab_cells hR hA gg.1 hui'
  have ck := lab_cells hR hA gg.1 huk'
  rw [← li] at ci
  rw [← lk] at ck
  have ii := idx24s b ui (by omega)
  have ik := idx24s b uk (by omega)
  have hsu := winTo_succ W A l kd i
  have hin : inWin W A l kd i = (decide (l[i].day > l[kd].day - W.days) && decide (leadAt A l i = leadAt A l kd)) := by
    unfold inWin; rw [dayAt_eq hi, dayAt_eq hk]
  have hlen := winTo_len W A l kd i
  generalize leadAt A l i = vi at *
  generalize leadAt A l kd = vk at *
  generalize l[i].day = di at *
  generalize l[kd].day = dk at *
  by_cases heq : vi = vk
  case neg =>
    have hq : decide (vi = vk) = false := decide_eq_false heq
    rw [hin, hq, Bool.and_false, if_neg (by decide)] at hsu
    simp -dsimp -implicitDefEqProofs (maxSteps := 2000000) (disch := first | assumption | omega | (simp only [nx]; omega) | ((repeat refine Fresh.push ?_ _); assumption) | (simp only [smA]; done) | (simp [oneCell, AW.next_push]; done) | fail) only [go_sem, Nat.reduceEqDiff, reduceIte, Nat.reduceAdd, Int.toNat_natCast, Nat.add_zero, Owes_true, Tryz.results77, e0, e1, e3, e6, e9, e10, hlt, hil, hkl, indexV_eq, a1, k1, ii, ik, ci, ck, hq]
    refine ⟨_, by omega, i + 1, by omega, rfl, rfl, by (simp -dsimp -implicitDefEqProofs (maxSteps := 2000000) (disch := first | assumption | omega | (simp only [nx]; omega) | ((repeat refine Fresh.push ?_ _); assumption) | (simp only [smA]; done) | (simp [oneCell, AW.next_push]; done) | fail) only [go_sem, Nat.reduceEqDiff, reduceIte, Nat.reduceAdd, Int.toNat_natCast, Nat.add_zero, Owes_true, e0]; try rfl), by (simp -dsimp -implicitDefEqProofs (maxSteps := 2000000) (disch := first | assumption | omega | (simp only [nx]; omega) | ((repeat refine Fresh.push ?_ _); assumption) | (simp only [smA]; done) | (simp [oneCell, AW.next_push]; done) | fail) only [go_sem, Nat.reduceEqDiff, reduceIte, Nat.reduceAdd, Int.toNat_natCast, Nat.add_zero, Owes_true, e1]; try rfl), by (simp -dsimp -implicitDefEqProofs (maxSteps := 2000000) (disch := first | assumption | omega | (simp only [nx]; omega) | ((repeat refine Fresh.push ?_ _); assumption) | (simp only [smA]; done) | (simp [oneCell, AW.next_push]; done) | fail) only [go_sem, Nat.reduceEqDiff, reduceIte, Nat.reduceAdd, Int.toNat_natCast, Nat.add_zero, Owes_true, e3]; try rfl), by (simp -dsimp -implicitDefEqProofs (maxSteps := 2000000) (disch := first | assumption | omega | (simp only [nx]; omega) | ((repeat refine Fresh.push ?_ _); assumption) | (simp only [smA]; done) | (simp [oneCell, AW.next_push]; done) | fail) only [go_sem, Nat.reduceEqDiff, reduceIte, Nat.reduceAdd, Int.toNat_natCast, Nat.add_zero, Owes_true, e6]; try rfl), by (simp -dsimp -implicitDefEqProofs (maxSteps := 2000000) (disch := first | assumption | omega | (simp only [nx]; omega) | ((repeat refine Fresh.push ?_ _); assumption) | (simp only [smA]; done) | (simp [oneCell, AW.next_push]; done) | fail) only [go_sem, Nat.reduceEqDiff, reduceIte, Nat.reduceAdd, Int.toNat_natCast, Nat.add_zero, Owes_true, e10]; try rfl), p3, n3, c3, (by simp -dsimp -implicitDefEqProofs (maxSteps := 2000000) (disch := first | assumption | omega | (simp only [nx]; omega) | ((repeat refine Fresh.push ?_ _); assumption) | (simp only [smA]; done) | (simp [oneCell, AW.next_push]; done) | fail) only [go_sem, Nat.reduceEqDiff, reduceIte, Nat.reduceAdd, Int.toNat_natCast, Nat.add_zero, Owes_true, e9]; try rfl), (by rw [hsu]; exact hR9), g1⟩
  have hq : decide (vi = vk) = true := decide_eq_true heq
  by_cases hday : di > dk - W.days
  case neg =>
    have hy : decide (di > dk - W.days) = false := decide_eq_false hday
    rw [hin, hq, hy, Bool.false_and, if_neg (by decide)] at hsu
    simp -dsimp -implicitDefEqProofs (maxSteps := 2000000) (disch := first | assumption | omega | (simp only [nx]; omega) | ((repeat refine Fresh.push ?_ _); assumption) | (simp only [smA]; done) | (simp [oneCell, AW.next_push]; done) | fail) only [go_sem, Nat.reduceEqDiff, reduceIte, Nat.reduceAdd, Int.toNat_natCast, Nat.add_zero, Owes_true, Tryz.results77, e0, e1, e3, e6, e9, e10, hlt, hil, hkl, indexV_eq, a0, k0, a1, k1, ii, ik, ci, ck, hq, Nat.zero_add, y0, hy]
    refine ⟨_, by omega, i + 1, by omega, rfl, rfl, by (simp -dsimp -implicitDefEqProofs (maxSteps := 2000000) (disch := first | assumption | omega | (simp only [nx]; omega) | ((repeat refine Fresh.push ?_ _); assumption) | (simp only [smA]; done) | (simp [oneCell, AW.next_push]; done) | fail) only [go_sem, Nat.reduceEqDiff, reduceIte, Nat.reduceAdd, Int.toNat_natCast, Nat.add_zero, Owes_true, e0]; try rfl), by (simp -dsimp -implicitDefEqProofs (maxSteps := 2000000) (disch := first | assumption | omega | (simp only [nx]; omega) | ((repeat refine Fresh.push ?_ _); assumption) | (simp only [smA]; done) | (simp [oneCell, AW.next_push]; done) | fail) only [go_sem, Nat.reduceEqDiff, reduceIte, Nat.reduceAdd, Int.toNat_natCast, Nat.add_zero, Owes_true, e1]; try rfl), by (simp -dsimp -implicitDefEqProofs (maxSteps := 2000000) (disch := first | assumption | omega | (simp only [nx]; omega) | ((repeat refine Fresh.push ?_ _); assumption) | (simp only [smA]; done) | (simp [oneCell, AW.next_push]; done) | fail) only [go_sem, Nat.reduceEqDiff, reduceIte, Nat.reduceAdd, Int.toNat_natCast, Nat.add_zero, Owes_true, e3]; try rfl), by (simp -dsimp -implicitDefEqProofs (maxSteps := 2000000) (disch := first | assumption | omega | (simp only [nx]; omega) | ((repeat refine Fresh.push ?_ _); assumption) | (simp only [smA]; done) | (simp [oneCell, AW.next_push]; done) | fail) only [go_sem, Nat.reduceEqDiff, reduceIte, Nat.reduceAdd, Int.toNat_natCast, Nat.add_zero, Owes_true, e6]; try rfl), by (simp -dsimp -implicitDefEqProofs (maxSteps := 2000000) (disch := first | assumption | omega | (simp only [nx]; omega) | ((repeat refine Fresh.push ?_ _); assumption) | (simp only [smA]; done) | (simp [oneCell, AW.next_push]; done) | fail) only [go_sem, Nat.reduceEqDiff, reduceIte, Nat.reduceAdd, Int.toNat_natCast, Nat.add_zero, Owes_true, e10]; try rfl), p3, n3, c3, (by simp -dsimp -implicitDefEqProofs (maxSteps := 2000000) (disch := first | assumption | omega | (simp only [nx]; omega) | ((repeat refine Fresh.push ?_ _); assumption) | (simp only [smA]; done) | (simp [oneCell, AW.next_push]; done) | fail) only [go_sem, Nat.reduceEqDiff, reduceIte, Nat.reduceAdd, Int.toNat_natCast, Nat.add_zero, Owes_true, e9]; try rfl), (by rw [hsu]; exact hR9), g1⟩
  have hy : decide (di > dk - W.days) = true := decide_eq_true hday
  rw [hin, hq, hy, Bool.true_and, if_pos rfl] at hsu
  have hn1 := g1.1.next
  obtain ⟨u9, w9, happ, hR10, hk9, hf9, hn9, _⟩ := append_one (e' := 3) Tryz.ty22 Tryz.ty3 rfl (by omega) (by omega) hR9 g1.2 hn1 (icells_len (i : Int)) (icells_one _) (by rw [toI_len]; omega)
  simp only [icells] at happ
  obtain ⟨p9, n9, c9, rfl⟩ : ∃ x y z, u9 = .slice x y z := by rcases hR10 with ⟨rfl, _⟩ | ⟨_, _, rfl, _⟩ <;> exact ⟨_, _, _, rfl⟩
  have hf1 := g1.2
  simp -dsimp -implicitDefEqProofs (maxSteps := 2000000) (disch := first | assumption | omega | (simp only [nx]; omega) | ((repeat refine Fresh.push ?_ _); assumption) | (simp only [smA]; done) | (simp [oneCell, AW.next_push]; done) | fail) only [go_sem, Nat.reduceEqDiff, reduceIte, Nat.reduceAdd, Int.toNat_natCast, Nat.add_zero, Owes_true, Tryz.results77, e0, e1, e3, e6, e9, e10, hlt, hil, hkl, indexV_eq, a0, k0, a1, k1, ii, ik, ci, ck, hq, Nat.zero_add, y0, hy, happ]
  refine ⟨_, by omega, i + 1, by omega, rfl, rfl, by (simp -dsimp -implicitDefEqProofs (maxSteps := 2000000) (disch := first | assumption | omega | (simp only [nx]; omega) | ((repeat refine Fresh.push ?_ _); assumption) | (simp only [smA]; done) | (simp [oneCell, AW.next_push]; done) | fail) only [go_sem, Nat.reduceEqDiff, reduceIte, Nat.reduceAdd, Int.toNat_natCast, Nat.add_zero, Owes_true, e0]; try rfl), by (simp -dsimp -implicitDefEqProofs (maxSteps := 2000000) (disch := first | assumption | omega | (simp only [nx]; omega) | ((repeat refine Fresh.push ?_ _); assumption) | (simp only [smA]; done) | (simp [oneCell, AW.next_push]; done) | fail) only [go_sem, Nat.reduceEqDiff, reduceIte, Nat.reduceAdd, Int.toNat_natCast, Nat.add_zero, Owes_true, e1]; try rfl), by (simp -dsimp -implicitDefEqProofs (maxSteps := 2000000) (disch := first | assumption | omega | (simp only [nx]; omega) | ((repeat refine Fresh.push ?_ _); assumption) | (simp only [smA]; done) | (simp [oneCell, AW.next_push]; done) | fail) only [go_sem, Nat.reduceEqDiff, reduceIte, Nat.reduceAdd, Int.toNat_natCast, Nat.add_zero, Owes_true, e3]; try rfl), by (simp -dsimp -implicitDefEqProofs (maxSteps := 2000000) (disch := first | assumption | omega | (simp only [nx]; omega) | ((repeat refine Fresh.push ?_ _); assumption) | (simp only [smA]; done) | (simp [oneCell, AW.next_push]; done) | fail) only [go_sem, Nat.reduceEqDiff, reduceIte, Nat.reduceAdd, Int.toNat_natCast, Nat.add_zero, Owes_true, e6]; try rfl), by (simp -dsimp -implicitDefEqProofs (maxSteps := 2000000) (disch := first | assumption | omega | (simp only [nx]; omega) | ((repeat refine Fresh.push ?_ _); assumption) | (simp only [smA]; done) | (simp [oneCell, AW.next_push]; done) | fail) only [go_sem, Nat.reduceEqDiff, reduceIte, Nat.reduceAdd, Int.toNat_natCast, Nat.add_zero, Owes_true, e10]; try rfl), p9, n9, c9, (by simp -dsimp -implicitDefEqProofs (maxSteps := 2000000) (disch := first | assumption | omega | (simp only [nx]; omega) | ((repeat refine Fresh.push ?_ _); assumption) | (simp only [smA]; done) | (simp [oneCell, AW.next_push]; done) | fail) only [go_sem, Nat.reduceEqDiff, reduceIte, Nat.reduceAdd, Int.toNat_natCast, Nat.add_zero, Owes_true]; try rfl), (by rw [hsu, toI_add, List.length_append, List.flatMap_append]; exact hR10), ⟨g1.1.trans hk9, hf9⟩⟩
end Go.Proofs

namespace Go.Proofs
open Go Go.RowKit Go.Sim
set_option maxRecDepth 100000
theorem smalls_succ (W : WatchN) (l : List DealN) (L : List Nat) {i : Nat} (h : i < L.length) : smalls W l (L.take (i + 1)) = if smallB W l L[i] = true then smalls W l (L.take i) ++ [L[i]] else smalls W l (L.take i) := by
  rw [List.take_succ_eq_append_getElem h]
  unfold smalls
  rw [List.filter_append]
  cases q : smallB W l L[i] <;> simp [q]
set_option maxHeartbeats 16000000 in
theorem smallR_ok (l : List DealN) (W : WatchN) (L : List Nat) (hN : ∀ n ∈ L, n < l.length) (hlen : L.length ≤ 64) (hl : l.length ≤ 64) (v0 v : Value) (w : AW) (f : Fresh w) (hs : ArrOf w 3 dcells v0 l) (hv : ArrOf w 1 icells v (toI L)) (hW : watchB W = true) :
    CallT Tryz.prog Tryz.T1 (.fn (.func 83) #[]) #[v0, .agg #[.int .i64 W.days, .int .i64 W.sum, .int .i64 W.small, .int .i64 W.more], v] w (fun r w' => (∃ p n c, r = .slice p n c ∧ RowN w' r (smalls W l L)) ∧ Grown w w') := by
  obtain ⟨p0, cp0, rfl, _, _, hat0⟩ := id hs.open
  obtain ⟨p, cp, rfl, _, _, hat⟩ := openN hv
  simp only [watchB, Bool.and_eq_true, inR_iff] at hW
  have gw := (Grown.refl f).push (.cells [.int .i64 W.days, .int .i64 W.sum, .int .i64 W.small, .int .i64 W.more] 46 w.next 0 0)
  have o1 := Own.new f 46 [.int .i64 W.days, .int .i64 W.sum, .int .i64 W.small, .int .i64 W.more]
  refine callT_code rfl Tryz.func83 rfl Tryz.s83_eq rfl ?_
  unfold Tryz.s83
  simp -dsimp -implicitDefEqProofs (maxSteps := 2000000) (disch := first | assumption | omega | (simp only [nx]; omega) | ((repeat refine Fresh.push ?_ _); assumption) | (simp only [smA]; done) | (simp [oneCell, AW.next_push]; done) | fail) only [go_sem, Nat.reduceEqDiff, reduceIte, Nat.reduceAdd, Int.toNat_natCast, Nat.add_zero, Owes_true, Tryz.results83]
  generalize hwb : w.push (.cells [.int .i64 W.days, .int .i64 W.sum, .int .i64 W.small, .int .i64 W.more] 46 w.next 0 0) = wb at *
  have hnb := gw.1.next
  refine loopR (fun k t ds w1 => ∃ i : Nat, i ≤ L.length ∧ k = L.length - i ∧ ds = [] ∧ ev t (.tmp 0) = .slice p0 l.length cp0 ∧ ev t (.tmp 2) = .slice p L.length cp ∧ ev t (.tmp 4) = .pointer (some ⟨w.next, 0, none⟩) ∧ ev t (.tmp 8) = .int .i64 (i : Int) ∧ ∃ (p3 : Option Addr) (n3 c3 : Nat), ev t (.tmp 7) = .slice p3 n3 c3 ∧ AOwn wb.next w1 3 1 (.slice p3 n3 c3) (toI (smalls W l (L.take i))).length ((toI (smalls W l (L.take i))).flatMap icells) ∧ Grown wb w1) (L.length) ?_ ?_
  · refine ⟨0, by omega, by omega, rfl, ?_, ?_, ?_, ?_, none, 0, 0, (by simp -dsimp -implicitDefEqProofs (maxSteps := 2000000) (disch := first | assumption | omega | (simp only [nx]; omega) | ((repeat refine Fresh.push ?_ _); assumption) | (simp only [smA]; done) | (simp [oneCell, AW.next_push]; done) | fail) only [go_sem, Nat.reduceEqDiff, reduceIte, Nat.reduceAdd, Int.toNat_natCast, Nat.add_zero, Owes_true]; try rfl), .inl ⟨rfl, rfl, rfl⟩, Grown.refl gw.2⟩ <;> simp -dsimp -implicitDefEqProofs (maxSteps := 2000000) (disch := first | assumption | omega | (simp only [nx]; omega) | ((repeat refine Fresh.push ?_ _); assumption) | (simp only [smA]; done) | (simp [oneCell, AW.next_push]; done) | fail) only [go_sem, Nat.reduceEqDiff, reduceIte, Nat.reduceAdd, Int.toNat_natCast, Nat.add_zero, Owes_true] <;> rfl
  rintro k t ds w1 ⟨i, hii, rfl, rfl, e0, e2, e4, e8, p3, n3, c3, e7, hR7, g1⟩
  have gg := gw.trans g1
  by_cases hlt : (i : Int) < (L.length : Int)
  case neg =>
    obtain rfl : i = L.length := by omega
    rw [List.take_of_length_le (Nat.le_refl _)] at hR7
    simp -dsimp -implicitDefEqProofs (maxSteps := 2000000) (disch := first | assumption | omega | (simp only [nx]; omega) | ((repeat refine Fresh.push ?_ _); assumption) | (simp only [smA]; done) | (simp [oneCell, AW.next_push]; done) | fail) only [go_sem, Nat.reduceEqDiff, reduceIte, Nat.reduceAdd, Int.toNat_natCast, Nat.add_zero, Owes_true, Tryz.results83, e0, e2, e4, e7, e8, hlt]
    exact ⟨⟨p3, n3, c3, rfl, aown_low hR7⟩, gg⟩
  have hlt' : i < L.length := by omega
  obtain ⟨b1, o3, rfl, hb1, hcell⟩ := hat i hlt'
  have a0 := hcell w1 gg.1
  have hn := hN _ (List.getElem_mem hlt')
  have hse := sumAt_eq hn
  obtain ⟨b2, o2, rfl, hb2, hcell2⟩ := hat0 L[i] hn
  have x2 := hcell2 w1 gg.1 2 _ rfl
  rw [← hse] at x2
  have y1 := (o1.keep g1.1).cell (o := 1) rfl rfl
  have y2 := (o1.keep g1.1).cell (o := 2) rfl rfl
  have hsu := smalls_succ W l L hlt'
  have hsB : smallB W l L[i] = inR W.small (sumAt l L[i]) (W.sum - 1) := rfl
  have hlen2 := smalls_len W l (L.take i)
  rw [List.length_take] at hlen2
  generalize sumAt l L[i] = gi at *
  generalize L[i] = n at *
  have hnl : (n : Int) < (l.length : Int) := by omega
  simp -dsimp -implicitDefEqProofs (maxSteps := 2000000) (disch := first | assumption | omega | (simp only [nx]; omega) | ((repeat refine Fresh.push ?_ _); assumption) | (simp only [smA]; done) | (simp [oneCell, AW.next_push]; done) | fail) only [go_sem, Nat.reduceEqDiff, reduceIte, Nat.reduceAdd, Int.toNat_natCast, Nat.add_zero, Owes_true, Tryz.results83, e0, e2, e4, e7, e8, hlt, hnl, indexV_eq, a0, x2, Nat.zero_add, y1, y2]
  apply callV_of (e := rfl)
  · exact FromV_ok _ _ _ _
  rintro _ _ ⟨rfl, rfl⟩
  rw [hsB] at hsu
  cases hq : inR W.small gi (W.sum - 1) with
  | false =>
    rw [hq, if_neg (by decide)] at hsu
    simp -dsimp -implicitDefEqProofs (maxSteps := 2000000) (disch := first | assumption | omega | (simp only [nx]; omega) | ((repeat refine Fresh.push ?_ _); assumption) | (simp only [smA]; done) | (simp [oneCell, AW.next_push]; done) | fail) only [go_sem, Nat.reduceEqDiff, reduceIte, Nat.reduceAdd, Int.toNat_natCast, Nat.add_zero, Owes_true, Tryz.results83, hq, e0, e2, e4, e7, e8]
    refine ⟨_, by omega, i + 1, by omega, rfl, rfl, by (simp -dsimp -implicitDefEqProofs (maxSteps := 2000000) (disch := first | assumption | omega | (simp only [nx]; omega) | ((repeat refine Fresh.push ?_ _); assumption) | (simp only [smA]; done) | (simp [oneCell, AW.next_push]; done) | fail) only [go_sem, Nat.reduceEqDiff, reduceIte, Nat.reduceAdd, Int.toNat_natCast, Nat.add_zero, Owes_true, e0]; try rfl), by (simp -dsimp -implicitDefEqProofs (maxSteps := 2000000) (disch := first | assumption | omega | (simp only [nx]; omega) | ((repeat refine Fresh.push ?_ _); assumption) | (simp only [smA]; done) | (simp [oneCell, AW.next_push]; done) | fail) only [go_sem, Nat.reduceEqDiff, reduceIte, Nat.reduceAdd, Int.toNat_natCast, Nat.add_zero, Owes_true, e2]; try rfl), by (simp -dsimp -implicitDefEqProofs (maxSteps := 2000000) (disch := first | assumption | omega | (simp only [nx]; omega) | ((repeat refine Fresh.push ?_ _); assumption) | (simp only [smA]; done) | (simp [oneCell, AW.next_push]; done) | fail) only [go_sem, Nat.reduceEqDiff, reduceIte, Nat.reduceAdd, Int.toNat_natCast, Nat.add_zero, Owes_true, e4]; try rfl), by (simp -dsimp -implicitDefEqProofs (maxSteps := 2000000) (disch := first | assumption | omega | (simp only [nx]; omega) | ((repeat refine Fresh.push ?_ _); assumption) | (simp only [smA]; done) | (simp [oneCell, AW.next_push]; done) | fail) only [go_sem, Nat.reduceEqDiff, reduceIte, Nat.reduceAdd, Int.toNat_natCast, Nat.add_zero, Owes_true, e8]; try rfl), p3, n3, c3, (by simp -dsimp -implicitDefEqProofs (maxSteps := 2000000) (disch := first | assumption | omega | (simp only [nx]; omega) | ((repeat refine Fresh.push ?_ _); assumption) | (simp only [smA]; done) | (simp [oneCell, AW.next_push]; done) | fail) only [go_sem, Nat.reduceEqDiff, reduceIte, Nat.reduceAdd, Int.toNat_natCast, Nat.add_zero, Owes_true, e7]; try rfl), (by rw [hsu]; exact hR7), g1⟩
  | true =>
  rw [hq, if_pos rfl] at hsu
  have hn1 := g1.1.next
  obtain ⟨u9, w9, happ, hR9, hk9, hf9, hn9, _⟩ := append_one (e' := 3) Tryz.ty22 Tryz.ty3 rfl (by omega) (by omega) hR7 g1.2 hn1 (icells_len (n : Int)) (icells_one _) (by rw [toI_len]; omega)
  simp only [icells] at happ
  obtain ⟨p9, n9, c9, rfl⟩ : ∃ x y z, u9 = .slice x y z := by rcases hR9 with ⟨rfl, _⟩ | ⟨_, _, rfl, _⟩ <;> exact ⟨_, _, _, rfl⟩
  have hf1 := g1.2
  simp -dsimp -implicitDefEqProofs (maxSteps := 2000000) (disch := first | assumption | omega | (simp only [nx]; omega) | ((repeat refine Fresh.push ?_ _); assumption) | (simp only [smA]; done) | (simp [oneCell, AW.next_push]; done) | fail) only [go_sem, Nat.reduceEqDiff, reduceIte, Nat.reduceAdd, Int.toNat_natCast, Nat.add_zero, Owes_true, Tryz.results83, hq, e0, e2, e4, e7, e8, hlt, indexV_eq, a0, happ]
  refine ⟨_, by omega, i + 1, by omega, rfl, rfl, by (simp -dsimp -implicitDefEqProofs (maxSteps := 2000000) (disch := first | assumption | omega | (simp only [nx]; omega) | ((repeat refine Fresh.push ?_ _); assumption) | (simp only [smA]; done) | (simp [oneCell, AW.next_push]; done) | fail) only [go_sem, Nat.reduceEqDiff, reduceIte, Nat.reduceAdd, Int.toNat_natCast, Nat.add_zero, Owes_true, e0]; try rfl), by (simp -dsimp -implicitDefEqProofs (maxSteps := 2000000) (disch := first | assumption | omega | (simp only [nx]; omega) | ((repeat refine Fresh.push ?_ _); assumption) | (simp only [smA]; done) | (simp [oneCell, AW.next_push]; done) | fail) only [go_sem, Nat.reduceEqDiff, reduceIte, Nat.reduceAdd, Int.toNat_natCast, Nat.add_zero, Owes_true, e2]; try rfl), by (simp -dsimp -implicitDefEqProofs (maxSteps := 2000000) (disch := first | assumption | omega | (simp only [nx]; omega) | ((repeat refine Fresh.push ?_ _); assumption) | (simp only [smA]; done) | (simp [oneCell, AW.next_push]; done) | fail) only [go_sem, Nat.reduceEqDiff, reduceIte, Nat.reduceAdd, Int.toNat_natCast, Nat.add_zero, Owes_true, e4]; try rfl), by (simp -dsimp -implicitDefEqProofs (maxSteps := 2000000) (disch := first | assumption | omega | (simp only [nx]; omega) | ((repeat refine Fresh.push ?_ _); assumption) | (simp only [smA]; done) | (simp [oneCell, AW.next_push]; done) | fail) only [go_sem, Nat.reduceEqDiff, reduceIte, Nat.reduceAdd, Int.toNat_natCast, Nat.add_zero, Owes_true, e8]; try rfl), p9, n9, c9, (by simp -dsimp -implicitDefEqProofs (maxSteps := 2000000) (disch := first | assumption | omega | (simp only [nx]; omega) | ((repeat refine Fresh.push ?_ _); assumption) | (simp only [smA]; done) | (simp [oneCell, AW.next_push]; done) | fail) only [go_sem, Nat.reduceEqDiff, reduceIte, Nat.reduceAdd, Int.toNat_natCast, Nat.add_zero, Owes_true]; try rfl), (by rw [hsu, toI_add, List.length_append, List.flatMap_append]; exact hR9), ⟨g1.1.trans hk9, hf9⟩⟩
set_option maxHeartbeats 16000000 in
theorem reportedR_ok (l : List DealN) (W : WatchN) (L : List Nat) (hN : ∀ n ∈ L, n < l.length) (hlen : L.length ≤ 64) (hl : l.length ≤ 64) (v0 v : Value) (w : AW) (f : Fresh w) (hs : ArrOf w 3 dcells v0 l) (hv : ArrOf w 1 icells v (toI L)) (hd : ∀ d ∈ l, dealB d = true) (hW : watchB W = true) :
    CallT Tryz.prog Tryz.T1 (.fn (.func 78) #[]) #[v0, .agg #[.int .i64 W.days, .int .i64 W.sum, .int .i64 W.small, .int .i64 W.more], v] w (Ret (.bool (decide (sumW l L ≥ W.sum) || decide (((smalls W l L).length : Int) ≥ W.more))) (Grown w)) := by
  obtain ⟨p0, cp0, rfl, _⟩ := id hs.open
  obtain ⟨p, cp, rfl, _⟩ := openN hv
  have gw := (Grown.refl f).push (.cells [.int .i64 W.days, .int .i64 W.sum, .int .i64 W.small, .int .i64 W.more] 46 w.next 0 0)
  have o1 := Own.new f 46 [.int .i64 W.days, .int .i64 W.sum, .int .i64 W.small, .int .i64 W.more]
  refine callT_code rfl Tryz.func78 rfl Tryz.s78_eq rfl ?_
  unfold Tryz.s78
  have y1 := o1.cell (o := 1) rfl rfl
  have y3 := o1.cell (o := 3) rfl rfl
  have hlo : loadV (w.push (.cells [.int .i64 W.days, .int .i64 W.sum, .int .i64 W.small, .int .i64 W.more] 46 w.next 0 0)) true 4 (.pointer (some ⟨w.next, 0, none⟩)) = some (.agg #[.int .i64 W.days, .int .i64 W.sum, .int .i64 W.small, .int .i64 W.more]) := loadAll o1 rfl (by intro v hv; simp at hv; rcases hv with rfl | rfl | rfl | rfl <;> rfl)
  have hs4 := same_agg4 W.days W.sum W.small W.more
  simp -dsimp -implicitDefEqProofs (maxSteps := 2000000) (disch := first | assumption | omega | (simp only [nx]; omega) | ((repeat refine Fresh.push ?_ _); assumption) | (simp only [smA]; done) | (simp [oneCell, AW.next_push]; done) | fail) only [go_sem, Nat.reduceEqDiff, reduceIte, Nat.reduceAdd, Int.toNat_natCast, Nat.add_zero, Owes_true, Tryz.results78, Nat.zero_add, y1]
  generalize hwb : w.push (.cells [.int .i64 W.days, .int .i64 W.sum, .int .i64 W.small, .int .i64 W.more] 46 w.next 0 0) = wb at *
  apply callV_of (e := rfl)
  · exact totalR_ok l L hN hlen hl _ _ wb gw.2 (hs.grown gw) (hv.grown gw) hd
  rintro _ _ ⟨rfl, rfl⟩
  have hle := WLe.refl wb
  by_cases hq : sumW l L ≥ W.sum
  · have hqd : decide (sumW l L ≥ W.sum) = true := decide_eq_true hq
    simp -dsimp -implicitDefEqProofs (maxSteps := 2000000) (disch := first | assumption | omega | (simp only [nx]; omega) | ((repeat refine Fresh.push ?_ _); assumption) | (simp only [smA]; done) | (simp [oneCell, AW.next_push]; done) | fail) only [go_sem, Nat.reduceEqDiff, reduceIte, Nat.reduceAdd, Int.toNat_natCast, Nat.add_zero, Owes_true, Tryz.results78, hqd, hle]
    exact ⟨rfl, gw⟩
  have hqd : decide (sumW l L ≥ W.sum) = false := decide_eq_false hq
  simp -dsimp -implicitDefEqProofs (maxSteps := 2000000) (disch := first | assumption | omega | (simp only [nx]; omega) | ((repeat refine Fresh.push ?_ _); assumption) | (simp only [smA]; done) | (simp [oneCell, AW.next_push]; done) | fail) only [go_sem, Nat.reduceEqDiff, reduceIte, Nat.reduceAdd, Int.toNat_natCast, Nat.add_zero, Owes_true, Tryz.results78, hle, hqd, hlo, hs4, Nat.zero_add, y3]
  apply callV_of (e := rfl)
  · exact smallR_ok l W L hN hlen hl _ _ wb gw.2 (hs.grown gw) (hv.grown gw) hW
  rintro _ w2 ⟨⟨p2, n2, c2, rfl, hR2⟩, g2⟩
  have hle2 := g2.1.wle gw.2
  have hnr : n2 = (smalls W l L).length := by obtain ⟨q, c, e, _⟩ := (hR2.arr (by have := smalls_len W l L; omega)).open; injection e with _ e2 _; rw [e2, toI_len]
  subst hnr
  simp -dsimp -implicitDefEqProofs (maxSteps := 2000000) (disch := first | assumption | omega | (simp only [nx]; omega) | ((repeat refine Fresh.push ?_ _); assumption) | (simp only [smA]; done) | (simp [oneCell, AW.next_push]; done) | fail) only [go_sem, Nat.reduceEqDiff, reduceIte, Nat.reduceAdd, Int.toNat_natCast, Nat.add_zero, Owes_true, Tryz.results78, hle2]
  exact ⟨by rw [hqd]; rfl, gw.trans g2⟩
end Go.Proofs

namespace Go.Proofs
open Go Go.RowKit Go.Sim
set_option maxRecDepth 100000
structure AlN where
  who : Int
  deal : Int
  sum : Int
def alcells (a : AlN) : List Value := [.int .i64 a.who, .int .i64 a.deal, .int .i64 a.sum]
theorem alcells_len (a : AlN) : (alcells a).length = 3 := rfl
theorem alcells_one (a : AlN) : ∀ v ∈ alcells a, oneCell v = true := by intro v hv; simp [alcells] at hv; rcases hv with rfl | rfl | rfl <;> rfl
theorem Tryz.bs50 (t : Tmps) (l : List (Nat × Operand)) : makes (prg Tryz.prog) t (.buildSlice 50 1 ⟨l⟩) = bsQ 54 1 3 [.int .i64 0, .int .i64 0, .int .i64 0] (l.map fun p => (p.1, ev t p.2)) := makes_bs Tryz.ty50 Tryz.ty54 rfl (by kernel_rfl)
theorem bsQ_13v {e : TypeId} (a b c : Int) : bsQ e 1 3 [.int .i64 0, .int .i64 0, .int .i64 0] [(0, .agg #[.int .i64 a, .int .i64 b, .int .i64 c])] = some ([.int .i64 a, .int .i64 b, .int .i64 c], e, fun n => .slice (some ⟨n, 0, none⟩) 1 1) := by kernel_rfl
theorem bld54 (a b c : Int) : bldQ [(0, 1), (1, 1), (2, 1)] [.int .i64 0, .int .i64 0, .int .i64 0] [(0, .int .i64 a), (1, .int .i64 b), (2, .int .i64 c)] = some (.agg #[.int .i64 a, .int .i64 b, .int .i64 c]) := by kernel_rfl
attribute [go_sem] Tryz.bs50 bsQ_13v bld54
def repB (l : List DealN) (W : WatchN) (A : List Int) (k : Nat) : Bool := decide (sumW l (winOf W A l k) ≥ W.sum) || decide (((smalls W l (winOf W A l k)).length : Int) ≥ W.more)
def hitB (l : List DealN) (W : WatchN) (A : List Int) (p : Int) (k : Nat) : Bool := decide (leadAt A l k = p) && repB l W A k
def firstAl (l : List DealN) (W : WatchN) (A : List Int) (p : Int) : Option Nat := (List.range l.length).find? (hitB l W A p)
def alarmOf (l : List DealN) (W : WatchN) (A : List Int) (p : Nat) : Option AlN := (firstAl l W A (p : Int)).map fun (k : Nat) => ⟨(p : Int), (k : Int), sumW l (winOf W A l k)⟩
def alarmsTo (l : List DealN) (W : WatchN) (A : List Int) (n : Nat) : List AlN := (List.range n).filterMap (alarmOf l W A)
theorem alarmsTo_len (l : List DealN) (W : WatchN) (A : List Int) (n : Nat) : (alarmsTo l W A n).length ≤ n := by
  have := List.length_filterMap_le (alarmOf l W A) (List.range n)
  rw [List.length_range] at this; exact this
theorem alarmsTo_none {l : List DealN} {W : WatchN} {A : List Int} {n : Nat} (h : ∀ k, k < l.length → hitB l W A (n : Int) k = false) : alarmsTo l W A (n + 1) = alarmsTo l W A n := by
  have hf : firstAl l W A (n : Int) = none := by
    unfold firstAl; rw [List.find?_eq_none]
    intro k hk; rw [List.mem_range] at hk; rw [h k hk]; simp
  unfold alarmsTo
  rw [List.range_succ, List.filterMap_append]
  simp [alarmOf, hf]
theorem find_first {p : Nat → Bool} : ∀ (n k : Nat), k < n → p k = true → (∀ j, j < k → p j = false) → (List.range n).find? p = some k := by
  intro n k hk hp hno
  rw [List.find?_range_eq_some]
  exact ⟨hp, by simpa using hk, fun j hj => by rw [hno j hj]; rfl⟩
theorem alarmsTo_some {l : List DealN} {W : WatchN} {A : List Int} {n k : Nat} (hk : k < l.length) (hp : hitB l W A (n : Int) k = true) (h : ∀ j, j < k → hitB l W A (n : Int) j = false) : alarmsTo l W A (n + 1) = alarmsTo l W A n ++ [⟨(n : Int), (k : Int), sumW l (winOf W A l k)⟩] := by
  have hf : firstAl l W A (n : Int) = some k := find_first _ _ hk hp h
  unfold alarmsTo
  rw [List.range_succ, List.filterMap_append]
  simp [alarmOf, hf]
def AlarmsIs (l : List DealN) (L : List (Int × Int)) (W : WatchN) (r : Value) (w : AW) : Prop :=
  (reportB l L W = false ∧ r = .tuple #[.slice none 0 0, .int .i64 83]) ∨
  (reportB l L W = true ∧ ∃ (A : List Int) (p : Option Addr) (n c : Nat), Labs L A ∧ r = .tuple #[.slice p n c, .int .i64 0] ∧ ArrOf w 3 alcells (.slice p n c) (alarmsTo l W A 24))
set_option maxHeartbeats 16000000 in
theorem Alarms_ok (l : List DealN) (L : List (Int × Int)) (W : WatchN) (v0 v1 : Value) (w : AW) (f : Fresh w) (hs : ArrOf w 3 dcells v0 l) (hL : ArrOf w 2 lcells v1 L) :
    CallT Tryz.prog Tryz.T1 (.fn (.func 30) #[]) #[v0, v1, .agg #[.int .i64 W.days, .int .i64 W.sum, .int .i64 W.small, .int .i64 W.more]] w (fun r w' => AlarmsIs l L W r w' ∧ Grown w w') := by
  obtain ⟨p0, c0, rfl, _⟩ := id hs.open
  obtain ⟨p1, c1, rfl, _⟩ := id hL.open
  have g1 := (Grown.refl f).push (.cells [.int .i64 W.days, .int .i64 W.sum, .int .i64 W.small, .int .i64 W.more] 46 w.next 0 0)
  have o1 := Own.new f 46 [.int .i64 W.days, .int .i64 W.sum, .int .i64 W.small, .int .i64 W.more]
  have q0 := o1.cell (o := 0) rfl rfl
  have q1 := o1.cell (o := 1) rfl rfl
  have q2 := o1.cell (o := 2) rfl rfl
  have q3 := o1.cell (o := 3) rfl rfl
  refine callT_code rfl Tryz.func30 rfl Tryz.s30_eq rfl ?_
  unfold Tryz.s30
  simp -dsimp -implicitDefEqProofs (maxSteps := 2000000) (disch := first | assumption | omega | (simp only [nx]; omega) | ((repeat refine Fresh.push ?_ _); assumption) | (simp only [smA]; done) | (simp [oneCell, AW.next_push]; done) | fail) only [go_sem, Nat.reduceEqDiff, reduceIte, Nat.reduceAdd, Int.toNat_natCast, Nat.add_zero, Owes_true, Tryz.results30, Nat.zero_add, q0, q1, q2, q3]
  apply callV_of (e := rfl)
  · exact deskOf_ok l L W _ _ _ g1.2 (hs.grown g1) (hL.grown g1)
  rintro _ w1 ⟨hcase, g2⟩
  have gw1 := g1.trans g2
  have hf1 := g2.2
  rcases hcase with ⟨hb, rfl⟩ | ⟨hb, A, hA, rfl⟩
  · obtain ⟨w2, s1, _, s3, _⟩ := put_desk w1 g2.2 ⟨0, 0, 0, 0⟩ none 0 0 (List.replicate 24 0) rfl
    have h83 : ¬ (83 : Int) = 0 := by decide
    simp -dsimp -implicitDefEqProofs (maxSteps := 2000000) (disch := first | assumption | omega | (simp only [nx]; omega) | ((repeat refine Fresh.push ?_ _); assumption) | (simp only [smA]; done) | (simp [oneCell, AW.next_push]; done) | fail) only [go_sem, Nat.reduceEqDiff, reduceIte, Nat.reduceAdd, Int.toNat_natCast, Nat.add_zero, Owes_true, Tryz.results30, s1, h83]
    exact ⟨Or.inl ⟨hb, rfl⟩, gw1.trans s3⟩
  obtain ⟨w2, s1, o2, s3, hn2⟩ := put_desk w1 g2.2 W p0 l.length c0 A hA.len
  have gw2 := gw1.trans s3
  have hb' := hb
  simp only [reportB, Bool.and_eq_true] at hb'
  obtain ⟨⟨hd, hlk⟩, hW⟩ := hb'
  simp only [dealsB, Bool.and_eq_true, decide_eq_true_eq] at hd
  obtain ⟨⟨hl64, hdall⟩, hord⟩ := hd
  have hdd : ∀ d ∈ l, dealB d = true := fun d hd => List.all_eq_true.mp hdall d hd
  simp -dsimp -implicitDefEqProofs (maxSteps := 2000000) (disch := first | assumption | omega | (simp only [nx]; omega) | ((repeat refine Fresh.push ?_ _); assumption) | (simp only [smA]; done) | (simp [oneCell, AW.next_push]; done) | fail) only [go_sem, Nat.reduceEqDiff, reduceIte, Nat.reduceAdd, Int.toNat_natCast, Nat.add_zero, Owes_true, Tryz.results30, s1]
  refine loopR (fun k t ds w3 => ∃ i : Nat, i ≤ 24 ∧ k = 24 - i ∧ ds = [] ∧ ev t (.tmp 0) = .slice p0 l.length c0 ∧ ev t (.tmp 8) = .pointer (some ⟨w1.next, 0, none⟩) ∧ ev t (.tmp 24) = .int .i64 (i : Int) ∧ ∃ (p3 : Option Addr) (n3 c3 : Nat), ev t (.tmp 10) = .slice p3 n3 c3 ∧ AOwn w2.next w3 54 3 (.slice p3 n3 c3) (alarmsTo l W A i).length ((alarmsTo l W A i).flatMap alcells) ∧ Keep w2.next w2 w3 ∧ Fresh w3 ∧ w2.next ≤ w3.next ∧ Own w3 w1.next 119 (deskL W (.slice p0 l.length c0) A)) (24) ?_ ?_
  · refine ⟨0, by omega, by omega, rfl, ?_, ?_, ?_, none, 0, 0, (by simp -dsimp -implicitDefEqProofs (maxSteps := 2000000) (disch := first | assumption | omega | (simp only [nx]; omega) | ((repeat refine Fresh.push ?_ _); assumption) | (simp only [smA]; done) | (simp [oneCell, AW.next_push]; done) | fail) only [go_sem, Nat.reduceEqDiff, reduceIte, Nat.reduceAdd, Int.toNat_natCast, Nat.add_zero, Owes_true]; try rfl), .inl ⟨rfl, rfl, rfl⟩, .refl _ _, s3.2, Nat.le_refl _, o2⟩ <;> simp -dsimp -implicitDefEqProofs (maxSteps := 2000000) (disch := first | assumption | omega | (simp only [nx]; omega) | ((repeat refine Fresh.push ?_ _); assumption) | (simp only [smA]; done) | (simp [oneCell, AW.next_push]; done) | fail) only [go_sem, Nat.reduceEqDiff, reduceIte, Nat.reduceAdd, Int.toNat_natCast, Nat.add_zero, Owes_true] <;> rfl
  rintro k t ds w3 ⟨i, hii, rfl, rfl, e0, e8, e24, p3, n3, c3, e10, hR, hK, hF, hn3, o3⟩
  by_cases hlt : (i : Int) < 24
  case neg =>
    obtain rfl : i = 24 := by omega
    simp -dsimp -implicitDefEqProofs (maxSteps := 2000000) (disch := first | assumption | omega | (simp only [nx]; omega) | ((repeat refine Fresh.push ?_ _); assumption) | (simp only [smA]; done) | (simp [oneCell, AW.next_push]; done) | fail) only [go_sem, Nat.reduceEqDiff, reduceIte, Nat.reduceAdd, Int.toNat_natCast, Nat.add_zero, Owes_true, Tryz.results30, e0, e8, e10, e24, hlt]
    exact ⟨Or.inr ⟨hb, A, p3, n3, c3, hA, rfl, hR.arr alcells_len (by have := alarmsTo_len l W A 24; omega)⟩, ⟨gw2.1.trans (hK.mono gw2.1.next), hF⟩⟩
  simp -dsimp -implicitDefEqProofs (maxSteps := 2000000) (disch := first | assumption | omega | (simp only [nx]; omega) | ((repeat refine Fresh.push ?_ _); assumption) | (simp only [smA]; done) | (simp [oneCell, AW.next_push]; done) | fail) only [go_sem, Nat.reduceEqDiff, reduceIte, Nat.reduceAdd, Int.toNat_natCast, Nat.add_zero, Owes_true, Tryz.results30, e0, e8, e10, e24, hlt]
  refine loopR (fun k t ds w4 => ∃ j : Nat, j ≤ l.length ∧ k = l.length - j ∧ ds = [] ∧ ev t (.tmp 0) = .slice p0 l.length c0 ∧ ev t (.tmp 8) = .pointer (some ⟨w1.next, 0, none⟩) ∧ ev t (.tmp 11) = .int .i64 (i : Int) ∧ ev t (.tmp 24) = .int .i64 (i : Int) ∧ ev t (.tmp 28) = .int .i64 (l.length : Int) ∧ ev t (.tmp 29) = .int .i64 (j : Int) ∧ ev t (.tmp 10) = .slice p3 n3 c3 ∧ (∀ q, q < j → hitB l W A (i : Int) q = false) ∧ AOwn w2.next w4 54 3 (.slice p3 n3 c3) (alarmsTo l W A i).length ((alarmsTo l W A i).flatMap alcells) ∧ Keep w2.next w2 w4 ∧ Fresh w4 ∧ w2.next ≤ w4.next ∧ Own w4 w1.next 119 (deskL W (.slice p0 l.length c0) A)) (l.length) ?_ ?_
  · refine ⟨0, by omega, by omega, rfl, ?_, ?_, ?_, ?_, ?_, ?_, (by simp -dsimp -implicitDefEqProofs (maxSteps := 2000000) (disch := first | assumption | omega | (simp only [nx]; omega) | ((repeat refine Fresh.push ?_ _); assumption) | (simp only [smA]; done) | (simp [oneCell, AW.next_push]; done) | fail) only [go_sem, Nat.reduceEqDiff, reduceIte, Nat.reduceAdd, Int.toNat_natCast, Nat.add_zero, Owes_true, e10]; try rfl), (fun q h => absurd h (by omega)), hR, hK, hF, hn3, o3⟩ <;> simp -dsimp -implicitDefEqProofs (maxSteps := 2000000) (disch := first | assumption | omega | (simp only [nx]; omega) | ((repeat refine Fresh.push ?_ _); assumption) | (simp only [smA]; done) | (simp [oneCell, AW.next_push]; done) | fail) only [go_sem, Nat.reduceEqDiff, reduceIte, Nat.reduceAdd, Int.toNat_natCast, Nat.add_zero, Owes_true, e0, e8, e10, e24] <;> rfl
  rintro k t ds w4 ⟨j, hij, rfl, rfl, e0, e8, e11, e24, e28, e29, e10b, hno, hR4, hK4, hF4, hn4, o4⟩
  by_cases hlj : (j : Int) < (l.length : Int)
  case neg =>
    obtain rfl : j = l.length := by omega
    have hal := alarmsTo_none hno
    simp -dsimp -implicitDefEqProofs (maxSteps := 2000000) (disch := first | assumption | omega | (simp only [nx]; omega) | ((repeat refine Fresh.push ?_ _); assumption) | (simp only [smA]; done) | (simp [oneCell, AW.next_push]; done) | fail) only [go_sem, Nat.reduceEqDiff, reduceIte, Nat.reduceAdd, Int.toNat_natCast, Nat.add_zero, Owes_true, Tryz.results30, e0, e8, e10b, e11, e24, e28, e29, hlj]
    refine ⟨_, by omega, i + 1, by omega, rfl, rfl, by (simp -dsimp -implicitDefEqProofs (maxSteps := 2000000) (disch := first | assumption | omega | (simp only [nx]; omega) | ((repeat refine Fresh.push ?_ _); assumption) | (simp only [smA]; done) | (simp [oneCell, AW.next_push]; done) | fail) only [go_sem, Nat.reduceEqDiff, reduceIte, Nat.reduceAdd, Int.toNat_natCast, Nat.add_zero, Owes_true, e0]; try rfl), by (simp -dsimp -implicitDefEqProofs (maxSteps := 2000000) (disch := first | assumption | omega | (simp only [nx]; omega) | ((repeat refine Fresh.push ?_ _); assumption) | (simp only [smA]; done) | (simp [oneCell, AW.next_push]; done) | fail) only [go_sem, Nat.reduceEqDiff, reduceIte, Nat.reduceAdd, Int.toNat_natCast, Nat.add_zero, Owes_true, e8]; try rfl), by (simp -dsimp -implicitDefEqProofs (maxSteps := 2000000) (disch := first | assumption | omega | (simp only [nx]; omega) | ((repeat refine Fresh.push ?_ _); assumption) | (simp only [smA]; done) | (simp [oneCell, AW.next_push]; done) | fail) only [go_sem, Nat.reduceEqDiff, reduceIte, Nat.reduceAdd, Int.toNat_natCast, Nat.add_zero, Owes_true, e24]; try rfl), p3, n3, c3, (by simp -dsimp -implicitDefEqProofs (maxSteps := 2000000) (disch := first | assumption | omega | (simp only [nx]; omega) | ((repeat refine Fresh.push ?_ _); assumption) | (simp only [smA]; done) | (simp [oneCell, AW.next_push]; done) | fail) only [go_sem, Nat.reduceEqDiff, reduceIte, Nat.reduceAdd, Int.toNat_natCast, Nat.add_zero, Owes_true, e10b]; try rfl), (by rw [hal]; exact hR4), hK4, hF4, hn4, o4⟩
  have hjl : j < l.length := by omega
  have gw4 : Grown w w4 := ⟨gw2.1.trans (hK4.mono gw2.1.next), hF4⟩
  have hld := desk_load o4 hA.len
  simp -dsimp -implicitDefEqProofs (maxSteps := 2000000) (disch := first | assumption | omega | (simp only [nx]; omega) | ((repeat refine Fresh.push ?_ _); assumption) | (simp only [smA]; done) | (simp [oneCell, AW.next_push]; done) | fail) only [go_sem, Nat.reduceEqDiff, reduceIte, Nat.reduceAdd, Int.toNat_natCast, Nat.add_zero, Owes_true, Tryz.results30, e0, e8, e10b, e11, e24, e28, e29, hlj, hld]
  apply callV_of (e := rfl)
  · exact leader_ok W _ l A j hjl w4 hF4 (hs.grown gw4) hdd hA.len
  rintro _ w5 ⟨rfl, g5⟩
  have hR5 := AOwn.keep hR4 g5.1 (Nat.le_refl _)
  have hK5 : Keep w2.next w2 w5 := hK4.trans (g5.1.mono hn4)
  have o5 := o4.keep g5.1
  have hn5 := g5.1.next
  have gw5 := gw4.trans g5
  by_cases hle : leadAt A l j = (i : Int)
  case neg =>
    have hno2 : ∀ q, q < j + 1 → hitB l W A (i : Int) q = false := fun q hq => by
      rcases Nat.lt_or_ge q j with z | z
      · exact hno q z
      · obtain rfl : q = j := by omega
        unfold hitB; rw [decide_eq_false hle]; rfl
    simp -dsimp -implicitDefEqProofs (maxSteps := 2000000) (disch := first | assumption | omega | (simp only [nx]; omega) | ((repeat refine Fresh.push ?_ _); assumption) | (simp only [smA]; done) | (simp [oneCell, AW.next_push]; done) | fail) only [go_sem, Nat.reduceEqDiff, reduceIte, Nat.reduceAdd, Int.toNat_natCast, Nat.add_zero, Owes_true, Tryz.results30, e0, e8, e10b, e11, e24, e28, e29, hle]
    refine ⟨_, by omega, j + 1, by omega, rfl, rfl, by (simp -dsimp -implicitDefEqProofs (maxSteps := 2000000) (disch := first | assumption | omega | (simp only [nx]; omega) | ((repeat refine Fresh.push ?_ _); assumption) | (simp only [smA]; done) | (simp [oneCell, AW.next_push]; done) | fail) only [go_sem, Nat.reduceEqDiff, reduceIte, Nat.reduceAdd, Int.toNat_natCast, Nat.add_zero, Owes_true, e0]; try rfl), by (simp -dsimp -implicitDefEqProofs (maxSteps := 2000000) (disch := first | assumption | omega | (simp only [nx]; omega) | ((repeat refine Fresh.push ?_ _); assumption) | (simp only [smA]; done) | (simp [oneCell, AW.next_push]; done) | fail) only [go_sem, Nat.reduceEqDiff, reduceIte, Nat.reduceAdd, Int.toNat_natCast, Nat.add_zero, Owes_true, e8]; try rfl), by (simp -dsimp -implicitDefEqProofs (maxSteps := 2000000) (disch := first | assumption | omega | (simp only [nx]; omega) | ((repeat refine Fresh.push ?_ _); assumption) | (simp only [smA]; done) | (simp [oneCell, AW.next_push]; done) | fail) only [go_sem, Nat.reduceEqDiff, reduceIte, Nat.reduceAdd, Int.toNat_natCast, Nat.add_zero, Owes_true, e11]; try rfl), by (simp -dsimp -implicitDefEqProofs (maxSteps := 2000000) (disch := first | assumption | omega | (simp only [nx]; omega) | ((repeat refine Fresh.push ?_ _); assumption) | (simp only [smA]; done) | (simp [oneCell, AW.next_push]; done) | fail) only [go_sem, Nat.reduceEqDiff, reduceIte, Nat.reduceAdd, Int.toNat_natCast, Nat.add_zero, Owes_true, e24]; try rfl), by (simp -dsimp -implicitDefEqProofs (maxSteps := 2000000) (disch := first | assumption | omega | (simp only [nx]; omega) | ((repeat refine Fresh.push ?_ _); assumption) | (simp only [smA]; done) | (simp [oneCell, AW.next_push]; done) | fail) only [go_sem, Nat.reduceEqDiff, reduceIte, Nat.reduceAdd, Int.toNat_natCast, Nat.add_zero, Owes_true, e28]; try rfl), by (simp -dsimp -implicitDefEqProofs (maxSteps := 2000000) (disch := first | assumption | omega | (simp only [nx]; omega) | ((repeat refine Fresh.push ?_ _); assumption) | (simp only [smA]; done) | (simp [oneCell, AW.next_push]; done) | fail) only [go_sem, Nat.reduceEqDiff, reduceIte, Nat.reduceAdd, Int.toNat_natCast, Nat.add_zero, Owes_true, e29]; try rfl), (by simp -dsimp -implicitDefEqProofs (maxSteps := 2000000) (disch := first | assumption | omega | (simp only [nx]; omega) | ((repeat refine Fresh.push ?_ _); assumption) | (simp only [smA]; done) | (simp [oneCell, AW.next_push]; done) | fail) only [go_sem, Nat.reduceEqDiff, reduceIte, Nat.reduceAdd, Int.toNat_natCast, Nat.add_zero, Owes_true, e10b]; try rfl), hno2, hR5, hK5, g5.2, (by omega), o5⟩
  have hle' : decide (leadAt A l j = (i : Int)) = true := decide_eq_true hle
  have hld5 := desk_load o5 hA.len
  simp -dsimp -implicitDefEqProofs (maxSteps := 2000000) (disch := first | assumption | omega | (simp only [nx]; omega) | ((repeat refine Fresh.push ?_ _); assumption) | (simp only [smA]; done) | (simp [oneCell, AW.next_push]; done) | fail) only [go_sem, Nat.reduceEqDiff, reduceIte, Nat.reduceAdd, Int.toNat_natCast, Nat.add_zero, Owes_true, Tryz.results30, e0, e8, e10b, e11, e24, e28, e29, hle', hld5]
  apply callV_of (e := rfl)
  · exact view_ok W _ l A j hjl hl64 w5 g5.2 (hs.grown gw5) hdd hA.len hW
  rintro _ w6 ⟨p, r, m, nn, e, g, rfl, hR1, hR2, g6⟩
  obtain rfl := hR1.len
  obtain rfl := hR2.len
  have hf6 := g6.2
  obtain ⟨w7, t1, o7, t3, hn7⟩ := put_view w6 g6.2 p r (winOf W A l j).length e (smalls W l (winOf W A l j)).length g (sumW l (winOf W A l j))
  have g57 := g6.trans t3
  have o57 := o5.keep g57.1
  have hld7 := desk_load o57 hA.len
  have hlv : loadV w7 true 3 (.pointer (some ⟨w6.next, 0, none⟩)) = some (.agg #[.slice p (winOf W A l j).length e, .slice r (smalls W l (winOf W A l j)).length g, .int .i64 (sumW l (winOf W A l j))]) := loadAll o7 rfl (by intro v hv; simp at hv; rcases hv with rfl | rfl | rfl <;> rfl)
  simp -dsimp -implicitDefEqProofs (maxSteps := 2000000) (disch := first | assumption | omega | (simp only [nx]; omega) | ((repeat refine Fresh.push ?_ _); assumption) | (simp only [smA]; done) | (simp [oneCell, AW.next_push]; done) | fail) only [go_sem, Nat.reduceEqDiff, reduceIte, Nat.reduceAdd, Int.toNat_natCast, Nat.add_zero, Owes_true, Tryz.results30, e0, e8, e10b, e11, e24, e28, e29, t1, hld7, hlv]
  apply callV_of (e := rfl)
  · exact isReported_ok W _ A p r _ e _ g _ w7 t3.2
  rintro _ w8 ⟨rfl, g8⟩
  have g58 := g57.trans g8
  have hR8 := AOwn.keep hR5 g58.1 (Nat.le_refl _)
  have hK8 : Keep w2.next w2 w8 := hK5.trans (g58.1.mono (by omega))
  have o8 := o5.keep g58.1
  have hn8 := g58.1.next
  have v8 := (o7.keep g8.1).cell (o := 2) rfl rfl
  have hrep : (decide (sumW l (winOf W A l j) ≥ W.sum) || decide (((smalls W l (winOf W A l j)).length : Int) ≥ W.more)) = repB l W A j := rfl
  rw [hrep]
  cases hrb : repB l W A j with
  | false =>
    have hno2 : ∀ q, q < j + 1 → hitB l W A (i : Int) q = false := fun q hq => by
      rcases Nat.lt_or_ge q j with z | z
      · exact hno q z
      · obtain rfl : q = j := by omega
        unfold hitB; rw [hrb, Bool.and_false]
    simp -dsimp -implicitDefEqProofs (maxSteps := 2000000) (disch := first | assumption | omega | (simp only [nx]; omega) | ((repeat refine Fresh.push ?_ _); assumption) | (simp only [smA]; done) | (simp [oneCell, AW.next_push]; done) | fail) only [go_sem, Nat.reduceEqDiff, reduceIte, Nat.reduceAdd, Int.toNat_natCast, Nat.add_zero, Owes_true, Tryz.results30, e0, e8, e10b, e11, e24, e28, e29]
    refine ⟨_, by omega, j + 1, by omega, rfl, rfl, by (simp -dsimp -implicitDefEqProofs (maxSteps := 2000000) (disch := first | assumption | omega | (simp only [nx]; omega) | ((repeat refine Fresh.push ?_ _); assumption) | (simp only [smA]; done) | (simp [oneCell, AW.next_push]; done) | fail) only [go_sem, Nat.reduceEqDiff, reduceIte, Nat.reduceAdd, Int.toNat_natCast, Nat.add_zero, Owes_true, e0]; try rfl), by (simp -dsimp -implicitDefEqProofs (maxSteps := 2000000) (disch := first | assumption | omega | (simp only [nx]; omega) | ((repeat refine Fresh.push ?_ _); assumption) | (simp only [smA]; done) | (simp [oneCell, AW.next_push]; done) | fail) only [go_sem, Nat.reduceEqDiff, reduceIte, Nat.reduceAdd, Int.toNat_natCast, Nat.add_zero, Owes_true, e8]; try rfl), by (simp -dsimp -implicitDefEqProofs (maxSteps := 2000000) (disch := first | assumption | omega | (simp only [nx]; omega) | ((repeat refine Fresh.push ?_ _); assumption) | (simp only [smA]; done) | (simp [oneCell, AW.next_push]; done) | fail) only [go_sem, Nat.reduceEqDiff, reduceIte, Nat.reduceAdd, Int.toNat_natCast, Nat.add_zero, Owes_true, e11]; try rfl), by (simp -dsimp -implicitDefEqProofs (maxSteps := 2000000) (disch := first | assumption | omega | (simp only [nx]; omega) | ((repeat refine Fresh.push ?_ _); assumption) | (simp only [smA]; done) | (simp [oneCell, AW.next_push]; done) | fail) only [go_sem, Nat.reduceEqDiff, reduceIte, Nat.reduceAdd, Int.toNat_natCast, Nat.add_zero, Owes_true, e24]; try rfl), by (simp -dsimp -implicitDefEqProofs (maxSteps := 2000000) (disch := first | assumption | omega | (simp only [nx]; omega) | ((repeat refine Fresh.push ?_ _); assumption) | (simp only [smA]; done) | (simp [oneCell, AW.next_push]; done) | fail) only [go_sem, Nat.reduceEqDiff, reduceIte, Nat.reduceAdd, Int.toNat_natCast, Nat.add_zero, Owes_true, e28]; try rfl), by (simp -dsimp -implicitDefEqProofs (maxSteps := 2000000) (disch := first | assumption | omega | (simp only [nx]; omega) | ((repeat refine Fresh.push ?_ _); assumption) | (simp only [smA]; done) | (simp [oneCell, AW.next_push]; done) | fail) only [go_sem, Nat.reduceEqDiff, reduceIte, Nat.reduceAdd, Int.toNat_natCast, Nat.add_zero, Owes_true, e29]; try rfl), (by simp -dsimp -implicitDefEqProofs (maxSteps := 2000000) (disch := first | assumption | omega | (simp only [nx]; omega) | ((repeat refine Fresh.push ?_ _); assumption) | (simp only [smA]; done) | (simp [oneCell, AW.next_push]; done) | fail) only [go_sem, Nat.reduceEqDiff, reduceIte, Nat.reduceAdd, Int.toNat_natCast, Nat.add_zero, Owes_true, e10b]; try rfl), hno2, hR8, hK8, g8.2, (by omega), o8⟩
  | true =>
    have hal := alarmsTo_some (n := i) hjl (by unfold hitB; rw [hrb, hle']; rfl) hno
    have hlen := alarmsTo_len l W A i
    obtain ⟨u9, w9, happ, hR9, hk9, hf9, hn9, _⟩ := append_one (e' := 54) Tryz.ty50 Tryz.ty54 rfl (by omega) (by omega) hR8 g8.2 (by omega) (alcells_len ⟨(i : Int), (j : Int), sumW l (winOf W A l j)⟩) (alcells_one _) (by omega)
    simp only [alcells] at happ
    obtain ⟨p9, n9, c9, rfl⟩ : ∃ x y z, u9 = .slice x y z := by rcases hR9 with ⟨rfl, _⟩ | ⟨_, _, rfl, _⟩ <;> exact ⟨_, _, _, rfl⟩
    have hf8 := g8.2
    have o9 := o8.keepC hk9 (by omega)
    simp -dsimp -implicitDefEqProofs (maxSteps := 2000000) (disch := first | assumption | omega | (simp only [nx]; omega) | ((repeat refine Fresh.push ?_ _); assumption) | (simp only [smA]; done) | (simp [oneCell, AW.next_push]; done) | fail) only [go_sem, Nat.reduceEqDiff, reduceIte, Nat.reduceAdd, Int.toNat_natCast, Nat.add_zero, Owes_true, Tryz.results30, e0, e8, e10b, e11, e24, e28, e29, Nat.zero_add, v8, happ]
    refine ⟨_, by omega, i + 1, by omega, rfl, rfl, by (simp -dsimp -implicitDefEqProofs (maxSteps := 2000000) (disch := first | assumption | omega | (simp only [nx]; omega) | ((repeat refine Fresh.push ?_ _); assumption) | (simp only [smA]; done) | (simp [oneCell, AW.next_push]; done) | fail) only [go_sem, Nat.reduceEqDiff, reduceIte, Nat.reduceAdd, Int.toNat_natCast, Nat.add_zero, Owes_true, e0]; try rfl), by (simp -dsimp -implicitDefEqProofs (maxSteps := 2000000) (disch := first | assumption | omega | (simp only [nx]; omega) | ((repeat refine Fresh.push ?_ _); assumption) | (simp only [smA]; done) | (simp [oneCell, AW.next_push]; done) | fail) only [go_sem, Nat.reduceEqDiff, reduceIte, Nat.reduceAdd, Int.toNat_natCast, Nat.add_zero, Owes_true, e8]; try rfl), by (simp -dsimp -implicitDefEqProofs (maxSteps := 2000000) (disch := first | assumption | omega | (simp only [nx]; omega) | ((repeat refine Fresh.push ?_ _); assumption) | (simp only [smA]; done) | (simp [oneCell, AW.next_push]; done) | fail) only [go_sem, Nat.reduceEqDiff, reduceIte, Nat.reduceAdd, Int.toNat_natCast, Nat.add_zero, Owes_true, e24]; try rfl), p9, n9, c9, (by simp -dsimp -implicitDefEqProofs (maxSteps := 2000000) (disch := first | assumption | omega | (simp only [nx]; omega) | ((repeat refine Fresh.push ?_ _); assumption) | (simp only [smA]; done) | (simp [oneCell, AW.next_push]; done) | fail) only [go_sem, Nat.reduceEqDiff, reduceIte, Nat.reduceAdd, Int.toNat_natCast, Nat.add_zero, Owes_true]; try rfl), (by rw [hal, List.length_append, List.flatMap_append, List.flatMap_singleton]; exact hR9), hK8.trans hk9, hf9, (by omega), o9⟩
end Go.Proofs

namespace Go.Proofs
open Go Go.RowKit Go.Sim
set_option maxRecDepth 100000
theorem watch_load {w : AW} {b : Nat} {W : WatchN} (h : Own w b 46 [.int .i64 W.days, .int .i64 W.sum, .int .i64 W.small, .int .i64 W.more]) : loadV w true 4 (.pointer (some ⟨b, 0, none⟩)) = some (.agg #[.int .i64 W.days, .int .i64 W.sum, .int .i64 W.small, .int .i64 W.more]) :=
  loadAll h rfl (by intro v hv; simp at hv; rcases hv with rfl | rfl | rfl | rfl <;> rfl)
set_option maxHeartbeats 16000000 in
theorem AlarmsR_ok (l : List DealN) (L : List (Int × Int)) (W : WatchN) (v0 v1 : Value) (w : AW) (f : Fresh w) (hs : ArrOf w 3 dcells v0 l) (hL : ArrOf w 2 lcells v1 L) :
    CallT Tryz.prog Tryz.T1 (.fn (.func 31) #[]) #[v0, v1, .agg #[.int .i64 W.days, .int .i64 W.sum, .int .i64 W.small, .int .i64 W.more]] w (fun r w' => AlarmsIs l L W r w' ∧ Grown w w') := by
  obtain ⟨p0, c0, rfl, _, _, hat⟩ := id hs.open
  obtain ⟨p1, c1, rfl, _⟩ := id hL.open
  have gw := (Grown.refl f).push (.cells [.int .i64 W.days, .int .i64 W.sum, .int .i64 W.small, .int .i64 W.more] 46 w.next 0 0)
  have o1 := Own.new f 46 [.int .i64 W.days, .int .i64 W.sum, .int .i64 W.small, .int .i64 W.more]
  have hlo := watch_load o1
  have hs4 := same_agg4 W.days W.sum W.small W.more
  refine callT_code rfl Tryz.func31 rfl Tryz.s31_eq rfl ?_
  unfold Tryz.s31
  simp -dsimp -implicitDefEqProofs (maxSteps := 2000000) (disch := first | assumption | omega | (simp only [nx]; omega) | ((repeat refine Fresh.push ?_ _); assumption) | (simp only [smA]; done) | (simp [oneCell, AW.next_push]; done) | fail) only [go_sem, Nat.reduceEqDiff, reduceIte, Nat.reduceAdd, Int.toNat_natCast, Nat.add_zero, Owes_true, Tryz.results31, hlo, hs4]
  clear hlo
  generalize hwb : w.push (.cells [.int .i64 W.days, .int .i64 W.sum, .int .i64 W.small, .int .i64 W.more] 46 w.next 0 0) = wb at *
  apply callV_of (e := rfl)
  · exact reportR_ok l L W _ _ wb gw.2 (hs.grown gw) (hL.grown gw)
  rintro _ wc ⟨rfl, gc⟩
  have gwc := gw.trans gc
  cases hb : reportB l L W with
  | false =>
    simp -dsimp -implicitDefEqProofs (maxSteps := 2000000) (disch := first | assumption | omega | (simp only [nx]; omega) | ((repeat refine Fresh.push ?_ _); assumption) | (simp only [smA]; done) | (simp [oneCell, AW.next_push]; done) | fail) only [go_sem, Nat.reduceEqDiff, reduceIte, Nat.reduceAdd, Int.toNat_natCast, Nat.add_zero, Owes_true, Tryz.results31, hb]
    exact ⟨Or.inl ⟨hb, rfl⟩, gwc⟩
  | true =>
  have hb' := hb
  simp only [reportB, Bool.and_eq_true] at hb'
  obtain ⟨⟨hd, hlk⟩, hW⟩ := hb'
  simp only [dealsB, Bool.and_eq_true, decide_eq_true_eq] at hd
  obtain ⟨⟨hl64, hdall⟩, hord⟩ := hd
  have hdd : ∀ d ∈ l, dealB d = true := fun d hd => List.all_eq_true.mp hdall d hd
  simp -dsimp -implicitDefEqProofs (maxSteps := 2000000) (disch := first | assumption | omega | (simp only [nx]; omega) | ((repeat refine Fresh.push ?_ _); assumption) | (simp only [smA]; done) | (simp [oneCell, AW.next_push]; done) | fail) only [go_sem, Nat.reduceEqDiff, reduceIte, Nat.reduceAdd, Int.toNat_natCast, Nat.add_zero, Owes_true, Tryz.results31, hb]
  apply callV_of (e := rfl)
  · exact linkedR_ok L _ wc gwc.2 (hL.grown gwc) (links_all hlk)
  rintro _ w1 ⟨⟨A, b, hA, rfl, hR⟩, g1⟩
  have gw1 := gwc.trans g1
  have ow1 := (o1.keep gc.1).keep g1.1
  have hAl := hA.len
  simp -dsimp -implicitDefEqProofs (maxSteps := 2000000) (disch := first | assumption | omega | (simp only [nx]; omega) | ((repeat refine Fresh.push ?_ _); assumption) | (simp only [smA]; done) | (simp [oneCell, AW.next_push]; done) | fail) only [go_sem, Nat.reduceEqDiff, reduceIte, Nat.reduceAdd, Int.toNat_natCast, Nat.add_zero, Owes_true, Tryz.results31]
  refine loopR (fun k t ds w3 => ∃ i : Nat, i ≤ 24 ∧ k = 24 - i ∧ ds = [] ∧ ev t (.tmp 0) = .slice p0 l.length c0 ∧ ev t (.tmp 5) = .pointer (some ⟨w.next, 0, none⟩) ∧ ev t (.tmp 8) = .slice (some ⟨b, 0, none⟩) 24 24 ∧ ev t (.tmp 10) = .int .i64 (i : Int) ∧ ∃ (p3 : Option Addr) (n3 c3 : Nat), ev t (.tmp 9) = .slice p3 n3 c3 ∧ AOwn w1.next w3 54 3 (.slice p3 n3 c3) (alarmsTo l W A i).length ((alarmsTo l W A i).flatMap alcells) ∧ Grown w1 w3) (24) ?_ ?_
  · refine ⟨0, by omega, by omega, rfl, ?_, ?_, ?_, ?_, none, 0, 0, (by simp -dsimp -implicitDefEqProofs (maxSteps := 2000000) (disch := first | assumption | omega | (simp only [nx]; omega) | ((repeat refine Fresh.push ?_ _); assumption) | (simp only [smA]; done) | (simp [oneCell, AW.next_push]; done) | fail) only [go_sem, Nat.reduceEqDiff, reduceIte, Nat.reduceAdd, Int.toNat_natCast, Nat.add_zero, Owes_true]; try rfl), .inl ⟨rfl, rfl, rfl⟩, Grown.refl gw1.2⟩ <;> simp -dsimp -implicitDefEqProofs (maxSteps := 2000000) (disch := first | assumption | omega | (simp only [nx]; omega) | ((repeat refine Fresh.push ?_ _); assumption) | (simp only [smA]; done) | (simp [oneCell, AW.next_push]; done) | fail) only [go_sem, Nat.reduceEqDiff, reduceIte, Nat.reduceAdd, Int.toNat_natCast, Nat.add_zero, Owes_true] <;> rfl
  rintro k t ds w3 ⟨i, hii, rfl, rfl, e0, e5, e8, e10, p3, n3, c3, e9, hR3, g3⟩
  by_cases hlt : (i : Int) < 24
  case neg =>
    obtain rfl : i = 24 := by omega
    simp -dsimp -implicitDefEqProofs (maxSteps := 2000000) (disch := first | assumption | omega | (simp only [nx]; omega) | ((repeat refine Fresh.push ?_ _); assumption) | (simp only [smA]; done) | (simp [oneCell, AW.next_push]; done) | fail) only [go_sem, Nat.reduceEqDiff, reduceIte, Nat.reduceAdd, Int.toNat_natCast, Nat.add_zero, Owes_true, Tryz.results31, e0, e5, e8, e9, e10, hlt]
    exact ⟨Or.inr ⟨hb, A, p3, n3, c3, hA, rfl, hR3.arr alcells_len (by have := alarmsTo_len l W A 24; omega)⟩, gw1.trans g3⟩
  simp -dsimp -implicitDefEqProofs (maxSteps := 2000000) (disch := first | assumption | omega | (simp only [nx]; omega) | ((repeat refine Fresh.push ?_ _); assumption) | (simp only [smA]; done) | (simp [oneCell, AW.next_push]; done) | fail) only [go_sem, Nat.reduceEqDiff, reduceIte, Nat.reduceAdd, Int.toNat_natCast, Nat.add_zero, Owes_true, Tryz.results31, e0, e5, e8, e9, e10, hlt]
  refine loopR (fun k t ds w4 => ∃ j : Nat, j ≤ l.length ∧ k = l.length - j ∧ ds = [] ∧ ev t (.tmp 0) = .slice p0 l.length c0 ∧ ev t (.tmp 5) = .pointer (some ⟨w.next, 0, none⟩) ∧ ev t (.tmp 8) = .slice (some ⟨b, 0, none⟩) 24 24 ∧ ev t (.tmp 10) = .int .i64 (i : Int) ∧ ev t (.tmp 11) = .int .i64 (j : Int) ∧ ev t (.tmp 9) = .slice p3 n3 c3 ∧ (∀ q, q < j → hitB l W A (i : Int) q = false) ∧ AOwn w1.next w4 54 3 (.slice p3 n3 c3) (alarmsTo l W A i).length ((alarmsTo l W A i).flatMap alcells) ∧ Grown w1 w4) (l.length) ?_ ?_
  · refine ⟨0, by omega, by omega, rfl, ?_, ?_, ?_, ?_, ?_, (by simp -dsimp -implicitDefEqProofs (maxSteps := 2000000) (disch := first | assumption | omega | (simp only [nx]; omega) | ((repeat refine Fresh.push ?_ _); assumption) | (simp only [smA]; done) | (simp [oneCell, AW.next_push]; done) | fail) only [go_sem, Nat.reduceEqDiff, reduceIte, Nat.reduceAdd, Int.toNat_natCast, Nat.add_zero, Owes_true, e9]; try rfl), (fun q h => absurd h (by omega)), hR3, g3⟩ <;> simp -dsimp -implicitDefEqProofs (maxSteps := 2000000) (disch := first | assumption | omega | (simp only [nx]; omega) | ((repeat refine Fresh.push ?_ _); assumption) | (simp only [smA]; done) | (simp [oneCell, AW.next_push]; done) | fail) only [go_sem, Nat.reduceEqDiff, reduceIte, Nat.reduceAdd, Int.toNat_natCast, Nat.add_zero, Owes_true, e0, e5, e8, e9, e10] <;> rfl
  rintro k t ds w4 ⟨j, hij, rfl, rfl, e0, e5, e8, e10, e11, e9b, hno, hR4, g4⟩
  by_cases hlj : (j : Int) < (l.length : Int)
  case neg =>
    obtain rfl : j = l.length := by omega
    have hal := alarmsTo_none hno
    simp -dsimp -implicitDefEqProofs (maxSteps := 2000000) (disch := first | assumption | omega | (simp only [nx]; omega) | ((repeat refine Fresh.push ?_ _); assumption) | (simp only [smA]; done) | (simp [oneCell, AW.next_push]; done) | fail) only [go_sem, Nat.reduceEqDiff, reduceIte, Nat.reduceAdd, Int.toNat_natCast, Nat.add_zero, Owes_true, Tryz.results31, e0, e5, e8, e9b, e10, e11, hlj]
    refine ⟨_, by omega, i + 1, by omega, rfl, rfl, by (simp -dsimp -implicitDefEqProofs (maxSteps := 2000000) (disch := first | assumption | omega | (simp only [nx]; omega) | ((repeat refine Fresh.push ?_ _); assumption) | (simp only [smA]; done) | (simp [oneCell, AW.next_push]; done) | fail) only [go_sem, Nat.reduceEqDiff, reduceIte, Nat.reduceAdd, Int.toNat_natCast, Nat.add_zero, Owes_true, e0]; try rfl), by (simp -dsimp -implicitDefEqProofs (maxSteps := 2000000) (disch := first | assumption | omega | (simp only [nx]; omega) | ((repeat refine Fresh.push ?_ _); assumption) | (simp only [smA]; done) | (simp [oneCell, AW.next_push]; done) | fail) only [go_sem, Nat.reduceEqDiff, reduceIte, Nat.reduceAdd, Int.toNat_natCast, Nat.add_zero, Owes_true, e5]; try rfl), by (simp -dsimp -implicitDefEqProofs (maxSteps := 2000000) (disch := first | assumption | omega | (simp only [nx]; omega) | ((repeat refine Fresh.push ?_ _); assumption) | (simp only [smA]; done) | (simp [oneCell, AW.next_push]; done) | fail) only [go_sem, Nat.reduceEqDiff, reduceIte, Nat.reduceAdd, Int.toNat_natCast, Nat.add_zero, Owes_true, e8]; try rfl), by (simp -dsimp -implicitDefEqProofs (maxSteps := 2000000) (disch := first | assumption | omega | (simp only [nx]; omega) | ((repeat refine Fresh.push ?_ _); assumption) | (simp only [smA]; done) | (simp [oneCell, AW.next_push]; done) | fail) only [go_sem, Nat.reduceEqDiff, reduceIte, Nat.reduceAdd, Int.toNat_natCast, Nat.add_zero, Owes_true, e10]; try rfl), p3, n3, c3, (by simp -dsimp -implicitDefEqProofs (maxSteps := 2000000) (disch := first | assumption | omega | (simp only [nx]; omega) | ((repeat refine Fresh.push ?_ _); assumption) | (simp only [smA]; done) | (simp [oneCell, AW.next_push]; done) | fail) only [go_sem, Nat.reduceEqDiff, reduceIte, Nat.reduceAdd, Int.toNat_natCast, Nat.add_zero, Owes_true, e9b]; try rfl), (by rw [hal]; exact hR4), g4⟩
  have hjl : j < l.length := by omega
  have gw4 := gw1.trans g4
  have ow4 := ow1.keep g4.1
  obtain ⟨bj, oj, rfl, hbj, hcellj⟩ := hat j hjl
  have a1 := hcellj w4 gw4.1 1 _ rfl
  have hdj := (dealB_iff _).1 (hdd _ (List.getElem_mem hjl))
  have lj := leadAt_eq (A := A) hjl
  obtain ⟨uj, huj⟩ : ∃ u : Nat, l[j].who = (u : Int) := ⟨l[j].who.toNat, by omega⟩
  rw [huj] at a1 hdj lj
  rw [Int.toNat_natCast] at lj
  have cj := lab_cells hR hAl g4.1 (show uj < A.length by omega)
  rw [← lj] at cj
  have ij := idx24s b uj (by omega)
  by_cases hle : leadAt A l j = (i : Int)
  case neg =>
    have hno2 : ∀ q, q < j + 1 → hitB l W A (i : Int) q = false := fun q hq => by
      rcases Nat.lt_or_ge q j with z | z
      · exact hno q z
      · obtain rfl : q = j := by omega
        unfold hitB; rw [decide_eq_false hle]; rfl
    simp -dsimp -implicitDefEqProofs (maxSteps := 2000000) (disch := first | assumption | omega | (simp only [nx]; omega) | ((repeat refine Fresh.push ?_ _); assumption) | (simp only [smA]; done) | (simp [oneCell, AW.next_push]; done) | fail) only [go_sem, Nat.reduceEqDiff, reduceIte, Nat.reduceAdd, Int.toNat_natCast, Nat.add_zero, Owes_true, Tryz.results31, e0, e5, e8, e9b, e10, e11, hlj, indexV_eq, a1, ij, cj, hle]
    refine ⟨_, by omega, j + 1, by omega, rfl, rfl, by (simp -dsimp -implicitDefEqProofs (maxSteps := 2000000) (disch := first | assumption | omega | (simp only [nx]; omega) | ((repeat refine Fresh.push ?_ _); assumption) | (simp only [smA]; done) | (simp [oneCell, AW.next_push]; done) | fail) only [go_sem, Nat.reduceEqDiff, reduceIte, Nat.reduceAdd, Int.toNat_natCast, Nat.add_zero, Owes_true, e0]; try rfl), by (simp -dsimp -implicitDefEqProofs (maxSteps := 2000000) (disch := first | assumption | omega | (simp only [nx]; omega) | ((repeat refine Fresh.push ?_ _); assumption) | (simp only [smA]; done) | (simp [oneCell, AW.next_push]; done) | fail) only [go_sem, Nat.reduceEqDiff, reduceIte, Nat.reduceAdd, Int.toNat_natCast, Nat.add_zero, Owes_true, e5]; try rfl), by (simp -dsimp -implicitDefEqProofs (maxSteps := 2000000) (disch := first | assumption | omega | (simp only [nx]; omega) | ((repeat refine Fresh.push ?_ _); assumption) | (simp only [smA]; done) | (simp [oneCell, AW.next_push]; done) | fail) only [go_sem, Nat.reduceEqDiff, reduceIte, Nat.reduceAdd, Int.toNat_natCast, Nat.add_zero, Owes_true, e8]; try rfl), by (simp -dsimp -implicitDefEqProofs (maxSteps := 2000000) (disch := first | assumption | omega | (simp only [nx]; omega) | ((repeat refine Fresh.push ?_ _); assumption) | (simp only [smA]; done) | (simp [oneCell, AW.next_push]; done) | fail) only [go_sem, Nat.reduceEqDiff, reduceIte, Nat.reduceAdd, Int.toNat_natCast, Nat.add_zero, Owes_true, e10]; try rfl), by (simp -dsimp -implicitDefEqProofs (maxSteps := 2000000) (disch := first | assumption | omega | (simp only [nx]; omega) | ((repeat refine Fresh.push ?_ _); assumption) | (simp only [smA]; done) | (simp [oneCell, AW.next_push]; done) | fail) only [go_sem, Nat.reduceEqDiff, reduceIte, Nat.reduceAdd, Int.toNat_natCast, Nat.add_zero, Owes_true, e11]; try rfl), (by simp -dsimp -implicitDefEqProofs (maxSteps := 2000000) (disch := first | assumption | omega | (simp only [nx]; omega) | ((repeat refine Fresh.push ?_ _); assumption) | (simp only [smA]; done) | (simp [oneCell, AW.next_push]; done) | fail) only [go_sem, Nat.reduceEqDiff, reduceIte, Nat.reduceAdd, Int.toNat_natCast, Nat.add_zero, Owes_true, e9b]; try rfl), hno2, hR4, g4⟩
  have hle' : decide (leadAt A l j = (i : Int)) = true := decide_eq_true hle
  have hl4 := watch_load ow4
  simp -dsimp -implicitDefEqProofs (maxSteps := 2000000) (disch := first | assumption | omega | (simp only [nx]; omega) | ((repeat refine Fresh.push ?_ _); assumption) | (simp only [smA]; done) | (simp [oneCell, AW.next_push]; done) | fail) only [go_sem, Nat.reduceEqDiff, reduceIte, Nat.reduceAdd, Int.toNat_natCast, Nat.add_zero, Owes_true, Tryz.results31, e0, e5, e8, e9b, e10, e11, hlj, indexV_eq, a1, ij, cj, hle', hl4, hs4]
  apply callV_of (e := rfl)
  · exact windowR_ok l W A hAl j hjl hl64 b _ w4 gw4.2 (hs.grown gw4) hdd hW (hR.grown g4)
  rintro _ w5 ⟨⟨p5, n5, c5, rfl, hR5⟩, g5⟩
  have gw5 := gw4.trans g5
  have hl5 := watch_load (ow4.keep g5.1)
  have hwlen : (winOf W A l j).length ≤ 64 := by have := winTo_len W A l j (j + 1); unfold winOf; omega
  have hwlt : ∀ n ∈ winOf W A l j, n < l.length := fun n hn => by have := winOf_lt n hn; omega
  simp -dsimp -implicitDefEqProofs (maxSteps := 2000000) (disch := first | assumption | omega | (simp only [nx]; omega) | ((repeat refine Fresh.push ?_ _); assumption) | (simp only [smA]; done) | (simp [oneCell, AW.next_push]; done) | fail) only [go_sem, Nat.reduceEqDiff, reduceIte, Nat.reduceAdd, Int.toNat_natCast, Nat.add_zero, Owes_true, Tryz.results31, e0, e5, e8, e9b, e10, e11, hl5, hs4]
  apply callV_of (e := rfl)
  · exact reportedR_ok l W (winOf W A l j) hwlt hwlen hl64 _ _ w5 gw5.2 (hs.grown gw5) (hR5.arr hwlen) hdd hW
  rintro _ w6 ⟨rfl, g6⟩
  have g56 := g5.trans g6
  have gw6 := gw5.trans g6
  have hR6 := AOwn.keep hR4 g56.1 (Nat.le_refl _)
  have g46 := g4.trans g56
  have hrep : (decide (sumW l (winOf W A l j) ≥ W.sum) || decide (((smalls W l (winOf W A l j)).length : Int) ≥ W.more)) = repB l W A j := rfl
  rw [hrep]
  cases hrb : repB l W A j with
  | false =>
    have hno2 : ∀ q, q < j + 1 → hitB l W A (i : Int) q = false := fun q hq => by
      rcases Nat.lt_or_ge q j with z | z
      · exact hno q z
      · obtain rfl : q = j := by omega
        unfold hitB; rw [hrb, Bool.and_false]
    simp -dsimp -implicitDefEqProofs (maxSteps := 2000000) (disch := first | assumption | omega | (simp only [nx]; omega) | ((repeat refine Fresh.push ?_ _); assumption) | (simp only [smA]; done) | (simp [oneCell, AW.next_push]; done) | fail) only [go_sem, Nat.reduceEqDiff, reduceIte, Nat.reduceAdd, Int.toNat_natCast, Nat.add_zero, Owes_true, Tryz.results31, e0, e5, e8, e9b, e10, e11]
    refine ⟨_, by omega, j + 1, by omega, rfl, rfl, by (simp -dsimp -implicitDefEqProofs (maxSteps := 2000000) (disch := first | assumption | omega | (simp only [nx]; omega) | ((repeat refine Fresh.push ?_ _); assumption) | (simp only [smA]; done) | (simp [oneCell, AW.next_push]; done) | fail) only [go_sem, Nat.reduceEqDiff, reduceIte, Nat.reduceAdd, Int.toNat_natCast, Nat.add_zero, Owes_true, e0]; try rfl), by (simp -dsimp -implicitDefEqProofs (maxSteps := 2000000) (disch := first | assumption | omega | (simp only [nx]; omega) | ((repeat refine Fresh.push ?_ _); assumption) | (simp only [smA]; done) | (simp [oneCell, AW.next_push]; done) | fail) only [go_sem, Nat.reduceEqDiff, reduceIte, Nat.reduceAdd, Int.toNat_natCast, Nat.add_zero, Owes_true, e5]; try rfl), by (simp -dsimp -implicitDefEqProofs (maxSteps := 2000000) (disch := first | assumption | omega | (simp only [nx]; omega) | ((repeat refine Fresh.push ?_ _); assumption) | (simp only [smA]; done) | (simp [oneCell, AW.next_push]; done) | fail) only [go_sem, Nat.reduceEqDiff, reduceIte, Nat.reduceAdd, Int.toNat_natCast, Nat.add_zero, Owes_true, e8]; try rfl), by (simp -dsimp -implicitDefEqProofs (maxSteps := 2000000) (disch := first | assumption | omega | (simp only [nx]; omega) | ((repeat refine Fresh.push ?_ _); assumption) | (simp only [smA]; done) | (simp [oneCell, AW.next_push]; done) | fail) only [go_sem, Nat.reduceEqDiff, reduceIte, Nat.reduceAdd, Int.toNat_natCast, Nat.add_zero, Owes_true, e10]; try rfl), by (simp -dsimp -implicitDefEqProofs (maxSteps := 2000000) (disch := first | assumption | omega | (simp only [nx]; omega) | ((repeat refine Fresh.push ?_ _); assumption) | (simp only [smA]; done) | (simp [oneCell, AW.next_push]; done) | fail) only [go_sem, Nat.reduceEqDiff, reduceIte, Nat.reduceAdd, Int.toNat_natCast, Nat.add_zero, Owes_true, e11]; try rfl), (by simp -dsimp -implicitDefEqProofs (maxSteps := 2000000) (disch := first | assumption | omega | (simp only [nx]; omega) | ((repeat refine Fresh.push ?_ _); assumption) | (simp only [smA]; done) | (simp [oneCell, AW.next_push]; done) | fail) only [go_sem, Nat.reduceEqDiff, reduceIte, Nat.reduceAdd, Int.toNat_natCast, Nat.add_zero, Owes_true, e9b]; try rfl), hno2, hR6, g46⟩
  | true =>
    have hal := alarmsTo_some (n := i) hjl (by unfold hitB; rw [hrb, hle']; rfl) hno
    have hlen := alarmsTo_len l W A i
    simp -dsimp -implicitDefEqProofs (maxSteps := 2000000) (disch := first | assumption | omega | (simp only [nx]; omega) | ((repeat refine Fresh.push ?_ _); assumption) | (simp only [smA]; done) | (simp [oneCell, AW.next_push]; done) | fail) only [go_sem, Nat.reduceEqDiff, reduceIte, Nat.reduceAdd, Int.toNat_natCast, Nat.add_zero, Owes_true, Tryz.results31, e0, e5, e8, e9b, e10, e11]
    apply callV_of (e := rfl)
    · exact totalR_ok l (winOf W A l j) hwlt hwlen hl64 _ _ w6 gw6.2 (hs.grown gw6) ((hR5.arr hwlen).grown g6) hdd
    rintro _ _ ⟨rfl, rfl⟩
    obtain ⟨u9, w9, happ, hR9, hk9, hf9, hn9, _⟩ := append_one (e' := 54) Tryz.ty50 Tryz.ty54 rfl (by omega) (by omega) hR6 g46.2 g46.1.next (alcells_len ⟨(i : Int), (j : Int), sumW l (winOf W A l j)⟩) (alcells_one _) (by omega)
    simp only [alcells] at happ
    obtain ⟨p9, n9, c9, rfl⟩ : ∃ x y z, u9 = .slice x y z := by rcases hR9 with ⟨rfl, _⟩ | ⟨_, _, rfl, _⟩ <;> exact ⟨_, _, _, rfl⟩
    have hf6 := g46.2
    simp -dsimp -implicitDefEqProofs (maxSteps := 2000000) (disch := first | assumption | omega | (simp only [nx]; omega) | ((repeat refine Fresh.push ?_ _); assumption) | (simp only [smA]; done) | (simp [oneCell, AW.next_push]; done) | fail) only [go_sem, Nat.reduceEqDiff, reduceIte, Nat.reduceAdd, Int.toNat_natCast, Nat.add_zero, Owes_true, Tryz.results31, e0, e5, e8, e9b, e10, e11, happ]
    refine ⟨_, by omega, i + 1, by omega, rfl, rfl, by (simp -dsimp -implicitDefEqProofs (maxSteps := 2000000) (disch := first | assumption | omega | (simp only [nx]; omega) | ((repeat refine Fresh.push ?_ _); assumption) | (simp only [smA]; done) | (simp [oneCell, AW.next_push]; done) | fail) only [go_sem, Nat.reduceEqDiff, reduceIte, Nat.reduceAdd, Int.toNat_natCast, Nat.add_zero, Owes_true, e0]; try rfl), by (simp -dsimp -implicitDefEqProofs (maxSteps := 2000000) (disch := first | assumption | omega | (simp only [nx]; omega) | ((repeat refine Fresh.push ?_ _); assumption) | (simp only [smA]; done) | (simp [oneCell, AW.next_push]; done) | fail) only [go_sem, Nat.reduceEqDiff, reduceIte, Nat.reduceAdd, Int.toNat_natCast, Nat.add_zero, Owes_true, e5]; try rfl), by (simp -dsimp -implicitDefEqProofs (maxSteps := 2000000) (disch := first | assumption | omega | (simp only [nx]; omega) | ((repeat refine Fresh.push ?_ _); assumption) | (simp only [smA]; done) | (simp [oneCell, AW.next_push]; done) | fail) only [go_sem, Nat.reduceEqDiff, reduceIte, Nat.reduceAdd, Int.toNat_natCast, Nat.add_zero, Owes_true, e8]; try rfl), by (simp -dsimp -implicitDefEqProofs (maxSteps := 2000000) (disch := first | assumption | omega | (simp only [nx]; omega) | ((repeat refine Fresh.push ?_ _); assumption) | (simp only [smA]; done) | (simp [oneCell, AW.next_push]; done) | fail) only [go_sem, Nat.reduceEqDiff, reduceIte, Nat.reduceAdd, Int.toNat_natCast, Nat.add_zero, Owes_true, e10]; try rfl), p9, n9, c9, (by simp -dsimp -implicitDefEqProofs (maxSteps := 2000000) (disch := first | assumption | omega | (simp only [nx]; omega) | ((repeat refine Fresh.push ?_ _); assumption) | (simp only [smA]; done) | (simp [oneCell, AW.next_push]; done) | fail) only [go_sem, Nat.reduceEqDiff, reduceIte, Nat.reduceAdd, Int.toNat_natCast, Nat.add_zero, Owes_true]; try rfl), (by rw [hal, List.length_append, List.flatMap_append, List.flatMap_singleton]; exact hR9), ⟨g46.1.trans hk9, hf9⟩⟩
end Go.Proofs

namespace Go.Proofs
open Go Go.RowKit Go.Sim
theorem sortedD_pw (S : List Int) : (sortedD S).Pairwise fun x y => y ≤ x := by
  have h := List.pairwise_mergeSort (le := fun x y : Int => decide (y ≤ x)) (fun a b c h1 h2 => by simp at *; omega) (fun a b => by simp; omega) S
  exact h.imp fun h => by simpa using h
end Go.Proofs

namespace Go.Proofs
open Go Go.RowKit Go.Sim
set_option maxRecDepth 100000
theorem fall_eq : ∀ (A B : List Int), A.Pairwise (fun x y => y ≤ x) → B.Pairwise (fun x y => y ≤ x) → A.Perm B → A = B
  | [], B, _, _, h => h.nil_eq
  | a :: A, [], _, _, h => by have := h.length_eq; simp at this
  | a :: A, b :: B, hA, hB, h => by
    have ha : a ∈ b :: B := h.mem_iff.mp (by simp)
    have hb : b ∈ a :: A := h.mem_iff.mpr (by simp)
    have e : a = b := by
      rw [List.mem_cons] at ha hb
      rcases ha with q | q
      · exact q
      · rcases hb with z | z
        · exact z.symm
        · have h1 := (List.pairwise_cons.mp hB).1 a q
          have h2 := (List.pairwise_cons.mp hA).1 b z
          omega
    subst e
    rw [fall_eq A B (List.pairwise_cons.mp hA).2 (List.pairwise_cons.mp hB).2 h.cons_inv]
theorem greatN_max {S T : List Int} {x : Int} (hp : S.Perm (x :: T)) (hx : ∀ y ∈ S, y ≤ x) (m : Nat) : greatN S (m + 1) = x + greatN T m := by
  have e : sortedD S = x :: sortedD T := by
    refine fall_eq _ _ (sortedD_pw S) ?_ ((sortedD_perm S).trans (hp.trans ((sortedD_perm T).symm.cons x)))
    refine List.pairwise_cons.mpr ⟨fun y hy => hx y ?_, sortedD_pw T⟩
    exact hp.mem_iff.mpr (List.mem_cons_of_mem _ ((sortedD_perm T).mem_iff.mp hy))
  unfold greatN
  rw [e, List.take_succ_cons, List.sum_cons]
theorem greatN_zero (S : List Int) : greatN S 0 = 0 := by simp [greatN]
theorem greatN_nil (m : Nat) : greatN [] m = 0 := by simp [greatN, sortedD]
def without (L : List Nat) (b : Nat) : List Nat := L.take b ++ L.drop (b + 1)
theorem without_perm {L : List Nat} {b : Nat} (h : b < L.length) : L.Perm (L[b] :: without L b) := by
  have e : L = L.take b ++ L[b] :: L.drop (b + 1) := by rw [← List.drop_eq_getElem_cons h, List.take_append_drop]
  unfold without
  exact (List.Perm.of_eq e).trans List.perm_middle
theorem without_len {L : List Nat} {b : Nat} (h : b < L.length) : (without L b).length = L.length - 1 := by
  unfold without; rw [List.length_append, List.length_take, List.length_drop]; omega
theorem without_mem {L : List Nat} {b : Nat} (h : b < L.length) : ∀ n ∈ without L b, n ∈ L := fun n hn => (without_perm h).mem_iff.mpr (List.mem_cons_of_mem _ hn)
theorem greatN_at {s : Nat → Int} {L : List Nat} {b : Nat} (h : b < L.length) (hx : ∀ n ∈ L, s n ≤ s L[b]) (m : Nat) : greatN (L.map s) (m + 1) = s L[b] + greatN ((without L b).map s) m := by
  refine greatN_max (T := (without L b).map s) (x := s L[b]) ?_ (fun y hy => ?_) m
  · exact (without_perm h).map s
  · obtain ⟨n, hn, rfl⟩ := List.mem_map.mp hy
    exact hx n hn
def PartN (w : AW) (v : Value) (L : List Nat) : Prop := ArrOf w 1 icells v (toI L) ∧ (L.length = 0 ∨ ∃ b o c cells r, v = .slice (some ⟨b, o, none⟩) L.length c ∧ L.length ≤ c ∧ b < w.next ∧ w.blk b = some (.cells cells 3 r 0 1))
theorem PartN.grown {w w' : AW} {v : Value} {L : List Nat} (h : PartN w v L) (g : Grown w w') : PartN w' v L := by
  refine ⟨h.1.grown g, ?_⟩
  rcases h.2 with q | ⟨b, o, c, cells, r, e, hc, hb, hk⟩
  · exact .inl q
  · have := g.1.next
    exact .inr ⟨b, o, c, cells, r, e, hc, by omega, by rw [g.1.blk b hb]; exact hk⟩
theorem PartN.row {w : AW} {v : Value} {L : List Nat} (h : RowN w v L) (hl : L.length ≤ 64) : PartN w v L := by
  refine ⟨h.arr hl, ?_⟩
  rcases h with ⟨_, h0, _⟩ | ⟨b, r, rfl, _, hb, _, _, hk, _⟩
  · left; rw [toI_len] at h0; exact h0
  · rw [toI_len]
    exact .inr ⟨b, 0, _, _, r, rfl, Nat.le_refl _, hb, hk⟩
theorem PartN.cut {w : AW} {v : Value} {L : List Nat} (h : PartN w v L) (h1 : 1 ≤ L.length) {a : Nat} (ha : a ≤ L.length) :
    (∃ p c, sliceV w 1 v none (some (.int .i64 (a : Int))) = some (.slice p a c) ∧ PartN w (.slice p a c) (L.take a)) ∧
    (∃ p c, sliceV w 1 v (some (.int .i64 (a : Int))) none = some (.slice p (L.length - a) c) ∧ PartN w (.slice p (L.length - a) c) (L.drop a)) := by
  obtain ⟨hA, hB⟩ := h
  rcases hB with q | ⟨b, o, c, cells, r, rfl, hc, hb, hk⟩
  · omega
  obtain ⟨p', n, cap, e, hn, hc', hm, hat⟩ := hA
  injection e with e1 e2 e3
  subst e1 e2 e3
  obtain ⟨b', o', e, hb', hcell⟩ := hat (by omega)
  injection e with e
  injection e with e1 e2
  subst e1 e2
  have b2 : Nat.ble L.length c = true := Nat.ble_eq_true_of_le hc
  have b3 : Nat.beq 1 1 = true := rfl
  refine ⟨⟨some ⟨b, o, none⟩, c, ?_, ⟨_, _, _, rfl, by rw [List.length_map, toI_len, List.length_take]; omega, by omega, hm, fun _ => ⟨b, o, rfl, hb, fun i j r x hi hx => ?_⟩⟩, ?_⟩, ⟨some ⟨b, o + a * 1, none⟩, c - a, ?_, ⟨_, _, _, rfl, by rw [List.length_map, toI_len, List.length_drop], by omega, by omega, fun _ => ⟨b, o + a * 1, rfl, hb, fun i j r x hi hx => ?_⟩⟩, ?_⟩⟩
  · show sliceV w 1 (.slice (some ⟨b, o, none⟩) L.length c) none (some (.int .i64 (Int.ofNat a))) = _
    have b1 : Nat.ble a c = true := Nat.ble_eq_true_of_le (by omega)
    have b0 : Nat.ble 0 a = true := Nat.ble_eq_true_of_le (Nat.zero_le _)
    simp only [sliceV, natOr, b0, b1, hk, Bool.and_self, b3, Bool.true_or, Nat.zero_mul, Nat.add_zero, Nat.sub_zero]
  · refine hcell i j r x ?_ hx
    rw [List.getElem?_map] at hi ⊢
    unfold toI at hi ⊢
    rw [List.map_take, List.getElem?_take] at hi
    split at hi
    · exact hi
    · cases hi
  · rcases Nat.eq_zero_or_pos a with q | q
    · left; rw [List.length_take]; omega
    · have hlt : (L.take a).length = a := by rw [List.length_take]; omega
      rw [hlt]
      exact .inr ⟨b, o, c, cells, r, rfl, by omega, hb, hk⟩
  · show sliceV w 1 (.slice (some ⟨b, o, none⟩) L.length c) (some (.int .i64 (Int.ofNat a))) none = _
    have b1 : Nat.ble a L.length = true := Nat.ble_eq_true_of_le ha
    simp only [sliceV, natOr, b1, b2, hk, Bool.and_self, b3, Bool.true_or]
  · have hi' : (List.map icells (toI L))[a + i]? = some r := by
      rw [← hi, List.getElem?_map, List.getElem?_map]
      congr 1
      unfold toI
      rw [List.map_drop, List.getElem?_drop]
    have := hcell (a + i) j r x hi' hx
    rw [show o + (a + i) * 1 + j = o + a * 1 + i * 1 + j by omega] at this
    exact this
  · rw [List.length_drop]
    exact .inr ⟨b, o + a * 1, c - a, cells, r, rfl, by omega, hb, hk⟩
end Go.Proofs

namespace Go.Proofs
open Go Go.RowKit Go.Sim
set_option maxRecDepth 100000
def Tryz.s93 : SC := (.seq (.ops false [⟨⟨(some 2),.assign (.const (.slice none 0 0)),22,"",⟨[]⟩,none⟩,none,false⟩]) (.seq (.ops false [⟨⟨(some 3),.buildSlice 22 0 ⟨[]⟩,22,"",⟨[]⟩,none⟩,none,false⟩,⟨⟨(some 4),.move (.tmp 0),22,"",⟨[]⟩,none⟩,none,false⟩,⟨⟨(some 5),.call ⟨.builtin .append,⟨[(.tmp 3),(.tmp 4)]⟩,⟨[22,22]⟩⟩,22,"",⟨[]⟩,none⟩,none,false⟩,⟨⟨(some 2),.assign (.tmp 5),22,"",⟨[]⟩,none⟩,none,false⟩]) .ret))
def Tryz.s16 : SC := (.seq (.ops false [⟨⟨(some 4),.assign (.const (.bool false)),4,"",⟨[]⟩,none⟩,none,false⟩]) (.seq (.ops false [⟨⟨(some 7),.move (.tmp 0),22,"",⟨[]⟩,none⟩,none,false⟩,⟨⟨(some 8),.call ⟨.builtin .len,⟨[(.tmp 7)]⟩,⟨[22]⟩⟩,3,"",⟨[]⟩,none⟩,none,false⟩,⟨⟨(some 9),.move (.tmp 1),22,"",⟨[]⟩,none⟩,none,false⟩,⟨⟨(some 10),.call ⟨.builtin .len,⟨[(.tmp 9)]⟩,⟨[22]⟩⟩,3,"",⟨[]⟩,none⟩,none,false⟩,⟨⟨(some 11),.binOp .eql 3 (.tmp 8) (.tmp 10) 3,4,"",⟨[]⟩,none⟩,none,false⟩,⟨⟨(some 5),.assign (.tmp 11),4,"",⟨[]⟩,none⟩,none,false⟩]) (.seq (.seq (.ops false [⟨⟨(some 6),.assign (.const (.int .i64 0)),3,"",⟨[]⟩,none⟩,none,false⟩]) (.block 0 (.loop (.seq (.seq (.ops false [⟨⟨(some 12),.move (.tmp 5),4,"",⟨[]⟩,none⟩,none,false⟩,⟨⟨(some 13),.move (.tmp 12),4,"",⟨[]⟩,none⟩,none,false⟩,⟨⟨(some 14),.move (.tmp 6),3,"",⟨[]⟩,none⟩,some ((some 13),true),false⟩,⟨⟨(some 15),.move (.tmp 0),22,"",⟨[]⟩,none⟩,some ((some 13),true),false⟩,⟨⟨(some 16),.call ⟨.builtin .len,⟨[(.tmp 15)]⟩,⟨[22]⟩⟩,3,"",⟨[]⟩,none⟩,some ((some 13),true),false⟩,⟨⟨(some 17),.binOp .lss 3 (.tmp 14) (.tmp 16) 3,4,"",⟨[]⟩,none⟩,some ((some 13),true),false⟩,⟨⟨(some 18),.pick (.tmp 13) (.tmp 17) (.const (.bool false)),4,"",⟨[]⟩,none⟩,none,false⟩]) (.cond (.tmp 18) .skip (.exit 0))) (.seq (.block 1 (.ops true [⟨⟨(some 21),.move (.tmp 0),22,"",⟨[]⟩,none⟩,none,true⟩,⟨⟨(some 22),.move (.tmp 6),3,"",⟨[]⟩,none⟩,none,true⟩,⟨⟨(some 23),.indexAddr 22 (.tmp 21) (.tmp 22),0,"",⟨[]⟩,none⟩,none,true⟩,⟨⟨(some 24),.load 3 (.tmp 23),3,"",⟨[]⟩,none⟩,none,true⟩,⟨⟨(some 25),.move (.tmp 1),22,"",⟨[]⟩,none⟩,none,true⟩,⟨⟨(some 26),.move (.tmp 6),3,"",⟨[]⟩,none⟩,none,true⟩,⟨⟨(some 27),.indexAddr 22 (.tmp 25) (.tmp 26),0,"",⟨[]⟩,none⟩,none,true⟩,⟨⟨(some 28),.load 3 (.tmp 27),3,"",⟨[]⟩,none⟩,none,true⟩,⟨⟨(some 29),.binOp .eql 3 (.tmp 24) (.tmp 28) 3,4,"",⟨[]⟩,none⟩,none,true⟩,⟨⟨(some 5),.assign (.tmp 29),4,"",⟨[]⟩,none⟩,none,true⟩])) (.ops false [⟨⟨(some 19),.move (.tmp 6),3,"",⟨[]⟩,none⟩,none,false⟩,⟨⟨(some 20),.binOp .add 3 (.tmp 19) (.const (.int .i64 1)) 3,3,"",⟨[]⟩,none⟩,none,false⟩,⟨⟨(some 6),.assign (.tmp 20),3,"",⟨[]⟩,none⟩,none,false⟩])))))) (.seq (.ops false [⟨⟨(some 30),.move (.tmp 5),4,"",⟨[]⟩,none⟩,none,false⟩,⟨⟨(some 4),.assign (.tmp 30),4,"",⟨[]⟩,none⟩,none,false⟩]) .ret))))
theorem Tryz.s93_eq : Tryz.f93.body.map sOf = some Tryz.s93 := by kernel_rfl
theorem Tryz.s16_eq : Tryz.f16.body.map sOf = some Tryz.s16 := by kernel_rfl
end Go.Proofs

namespace Go.Proofs
open Go Go.RowKit Go.Sim
set_option maxRecDepth 100000
end Go.Proofs

namespace Go.Sim
open Go Go.RowKit
theorem aNew_first {w : AW} {size m : Nat} {x : Value} {new : List Value} (h : aNew w size m x = some new) (hm : 1 ≤ m) : aFirst w size m x = some new := by
  unfold aNew at h
  cases q : aFirst w size m x with
  | some l => rw [q] at h; exact h
  | none =>
    rw [q] at h
    cases m with
    | zero => omega
    | succ m => cases h
theorem append_own0R {g : Prg} {w : AW} {B : Nat} {ty e : TypeId} {a1 a2 : Bool} {n1 b1 size b2 : Nat} {d2 : TypeDesc} {z1 z2 : Value} (h : g.ty ty = some ⟨a1, .slice e, n1, b1, z1⟩) (h2 : g.ty e = some ⟨a2, d2, size, b2, z2⟩) (hz : z2.cells.size = size) (hs : 1 ≤ size)
    {v : Value} {n : Nat} {cells : List Value} (hv : AOwn B w e size v n cells) (f : Fresh w) (hB : B ≤ w.next) {x : Value} {m cap : Nat} {p : Option Addr} {new : List Value} (hx : x = .slice p m cap) (hnew : aNew w size m x = some new) (hlen : new.length = m * size) (h1 : ∀ y ∈ new, oneCell y = true) (hr1 : n + m ≤ 140737488355328) (hr2 : (n + m) * b2 ≤ 140737488355328) :
    ∃ v' w', append g w ty ty v x = some (v', w') ∧ AOwn B w' e size v' (n + m) (cells ++ new) ∧ Keep B w w' ∧ Fresh w' ∧ WLe w w' := by
  by_cases hm : 1 ≤ m
  · obtain ⟨v', w', a, b, c, d, _, ap⟩ := append_own2R h h2 hz hs hv f hB hx (aNew_first hnew hm) hlen h1 hm hr1 hr2
    exact ⟨v', w', a, b, c, d, fun j y hj => by
      by_cases q : j < w.next
      · rw [ap.1 j q]; exact hj
      · rw [f.1 j (by omega)] at hj; cases hj⟩
  obtain rfl : m = 0 := by omega
  obtain rfl : new = [] := List.length_eq_zero_iff.mp (by rw [hlen]; omega)
  subst hx
  have cond : (Nat.beq z2.cells.size size && Nat.ble (n + 0) room && Nat.ble ((n + 0) * b2) room && Nat.ble 1 size && Nat.beq ty ty) = true := by
    have : room = 140737488355328 := rfl
    simp only [Bool.and_eq_true]
    refine ⟨⟨⟨⟨by rw [hz]; exact Nat.beq_refl _, Nat.ble_eq.mpr (by omega)⟩, Nat.ble_eq.mpr (by omega)⟩, Nat.ble_eq.mpr hs⟩, Nat.beq_refl _⟩
  refine ⟨v, w, ?_, by rw [List.append_nil]; exact hv, .refl _ _, f, WLe.refl w⟩
  rcases hv with ⟨rfl, rfl, rfl⟩ | ⟨b, r, rfl, _⟩
  · unfold append
    simp only [h, h2, cond, hnew]
  · have hle : Nat.ble (n + 0) n = true := Nat.ble_eq.mpr (by omega)
    unfold append
    simp only [h, h2, cond, hnew, hle, aStores]
    rfl
theorem AOwn.weak {B C : Nat} {w : AW} {e : TypeId} {size n : Nat} {v : Value} {cells : List Value} (h : AOwn B w e size v n cells) (k : C ≤ B) : AOwn C w e size v n cells := by
  rcases h with h | ⟨b, r, a1, a2, a3, a4, a5, a6, a7, a9, a8⟩
  · exact .inl h
  · exact .inr ⟨b, r, a1, by omega, a3, by omega, a5, a6, a7, a9, fun j hj => let ⟨x, y⟩ := a8 j hj; ⟨by omega, y⟩⟩
theorem AOwn.cut {B : Nat} {w : AW} {e : TypeId} {size n : Nat} {v : Value} {cells : List Value} (h : AOwn B w e size v n cells) {a : Nat} (ha : a ≤ n) :
    ∃ p q c, ∀ w', Keep w.next w w' → sliceV w' size v none (some (.int .i64 (a : Int))) = some (.slice p a n) ∧ aNew w' size a (.slice p a n) = some (cells.take (a * size)) ∧
      sliceV w' size v (some (.int .i64 (a : Int))) none = some (.slice q (n - a) c) ∧ aNew w' size (n - a) (.slice q (n - a) c) = some (cells.drop (a * size)) := by
  rcases h with ⟨rfl, rfl, rfl⟩ | ⟨b, r, rfl, h1, h2, h3, h4, h5, h6, h7, _⟩
  · obtain rfl : a = 0 := by omega
    exact ⟨none, none, 0, fun w' _ => ⟨rfl, by simp [aNew, aFirst], rfl, by simp [aNew, aFirst]⟩⟩
  · have hle : a * size ≤ n * size := Nat.mul_le_mul_right _ ha
    have b1 : Nat.ble 0 a = true := rfl
    have b2 : Nat.ble a n = true := Nat.ble_eq_true_of_le ha
    have b3 : Nat.ble n n = true := Nat.ble_eq_true_of_le (Nat.le_refl _)
    have b4 : Nat.beq size size = true := Nat.beq_refl _
    refine ⟨some ⟨b, 0 + 0 * size, none⟩, some ⟨b, 0 + a * size, none⟩, n - a, fun w' k => ?_⟩
    have h5 : w'.blk b = some (.cells cells e r 0 size) := by rw [k.blk b h2]; exact h5
    have hc : ∀ (i : Nat) v, cells[i]? = some v → w'.cell? ⟨b, i, none⟩ = some v := fun i v hv => by
      simp only [AW.cell?, h5, getL_eq, hv, h7 v (List.mem_of_getElem? hv)]
    refine ⟨?_, ?_, ?_, ?_⟩
    · show sliceV w' size (.slice (some ⟨b, 0, none⟩) n n) none (some (.int .i64 (Int.ofNat a))) = _
      simp only [sliceV, natOr, b1, b2, h5, b4, Bool.true_or, Bool.and_self, Nat.sub_zero]
    · have ht : (cells.take (a * size)).length = a * size := by rw [List.length_take, h6]; omega
      have := aCells_of (w := w') (b := b) (cells.take (a * size)) (0 + 0 * size) fun i v hv => by
        rw [List.getElem?_take] at hv
        split at hv
        · rw [show 0 + 0 * size + i = i by omega]; exact hc i v hv
        · cases hv
      rw [ht] at this
      simp only [aNew, aFirst, this]
    · show sliceV w' size (.slice (some ⟨b, 0, none⟩) n n) (some (.int .i64 (Int.ofNat a))) none = _
      simp only [sliceV, natOr, b3, b2, h5, b4, Bool.true_or, Bool.and_self]
    · have ht : (cells.drop (a * size)).length = (n - a) * size := by rw [List.length_drop, h6, Nat.sub_mul]
      have := aCells_of (w := w') (b := b) (cells.drop (a * size)) (0 + a * size) fun i v hv => by
        rw [List.getElem?_drop] at hv
        rw [show 0 + a * size + i = a * size + i by omega]; exact hc _ v hv
      rw [ht] at this
      simp only [aNew, aFirst, this]
end Go.Sim

namespace Go.Proofs
open Go Go.RowKit Go.Sim
set_option maxRecDepth 100000
end Go.Proofs

namespace Go.Proofs
open Go Go.RowKit Go.Sim
set_option maxRecDepth 100000
theorem icells_flatN (L : List Nat) : ((toI L).flatMap icells).length = L.length := by
  rw [flat_icells, List.length_map, toI_len]
theorem icells_oneN (L : List Nat) : ∀ y ∈ (toI L).flatMap icells, oneCell y = true := fun y hy => by
  obtain ⟨x, _, hx⟩ := List.mem_flatMap.mp hy
  exact icells_one x y hx
theorem OwnN_ok (L : List Nat) (v : Value) (w : AW) (f : Fresh w) (hs : ArrOf w 1 icells v (toI L)) (hl : L.length ≤ 64) :
    CallT Tryz.prog Tryz.T1 (.fn (.func 93) #[]) #[v] w (fun r w' => Making w.next w' 3 1 r L.length ((toI L).flatMap icells) ∧ Grown w w') := by
  obtain ⟨p, cap, rfl, _⟩ := openN hs
  have g := (Grown.refl f).push (.cells [] 3 w.next 0 0)
  have hn := arr_new (hs.grown g) icells_len (Nat.le_refl _)
  obtain ⟨v', w', happ, hk, hf, hor⟩ := append_empty (b := w.next) (e' := 3) Tryz.ty22 Tryz.ty3 rfl (by omega) (blk_push_top _ _) g.2 rfl hn (by rw [icells_flatN, Nat.mul_one]) (icells_oneN L) (by omega) (by omega)
  refine callT_code rfl Tryz.func93 rfl Tryz.s93_eq rfl ?_
  unfold Tryz.s93
  simp -dsimp -implicitDefEqProofs (maxSteps := 2000000) (disch := first | assumption | omega | (simp only [nx]; omega) | ((repeat refine Fresh.push ?_ _); assumption) | (simp only [smA]; done) | (simp [oneCell, AW.next_push]; done) | fail) only [go_sem, Nat.reduceEqDiff, reduceIte, Nat.reduceAdd, Int.toNat_natCast, Nat.add_zero, Owes_true, Tryz.results93, happ]
  rcases hor with ⟨q, rfl, rfl⟩ | hA
  · have : L = [] := List.length_eq_zero_iff.mp q
    subst this
    exact ⟨.inl ⟨rfl, rfl, w.next, 3, rfl, by rw [AW.next_push]; omega, blk_push_top _ _⟩, g⟩
  · exact ⟨.inr (hA.weak (by rw [AW.next_push]; omega)), g.trans ⟨hk, hf⟩⟩
theorem making_row {B n : Nat} {v : Value} {w : AW} {cells : List Value} (h : Making B w 3 1 v n cells) (f : Fresh w) (hB : B ≤ w.next) {x : Value} {M : List Nat} (hx : ArrOf w 1 icells x (toI M)) (hr : n + M.length ≤ 64) :
    ∃ v' w', append (prg Tryz.prog) w 22 22 v x = some (v', w') ∧ Making B w' 3 1 v' (n + M.length) (cells ++ (toI M).flatMap icells) ∧ Keep B w w' ∧ Fresh w' := by
  obtain ⟨p, cap, rfl, _⟩ := openN hx
  have hn := arr_new hx icells_len (Nat.le_refl _)
  rcases h with ⟨rfl, rfl, b, e', rfl, hb, hk⟩ | h
  · obtain ⟨v', w', happ, hkp, hf, hor⟩ := append_empty (b := b) (e' := e') Tryz.ty22 Tryz.ty3 rfl (by omega) hk f rfl hn (by rw [icells_flatN, Nat.mul_one]) (icells_oneN M) (by omega) (by omega)
    refine ⟨v', w', happ, ?_, hkp.mono hB, hf⟩
    rw [Nat.zero_add, List.nil_append]
    rcases hor with ⟨q, rfl, rfl⟩ | hA
    · have : M = [] := List.length_eq_zero_iff.mp q
      subst this
      exact .inl ⟨rfl, rfl, b, e', rfl, hb, hk⟩
    · exact .inr (hA.weak hB)
  · obtain ⟨v', w', happ, hA, hkp, hf, _⟩ := append_own0R Tryz.ty22 Tryz.ty3 rfl (by omega) h f hB rfl hn (by rw [icells_flatN, Nat.mul_one]) (icells_oneN M) (by omega) (by omega)
    exact ⟨v', w', happ, .inr hA, hkp, hf⟩
theorem making_part {B n : Nat} {v : Value} {w : AW} {K : List Nat} (h : Making B w 3 1 v n ((toI K).flatMap icells)) (hn : K.length = n) (hl : n ≤ 64) : PartN w v K := by
  subst hn
  rcases h with ⟨h0, _, b, e', rfl, hb, hk⟩ | h
  · have : K = [] := List.length_eq_zero_iff.mp h0
    subst this
    exact ⟨⟨_, 0, 0, rfl, rfl, Nat.le_refl _, by omega, fun h => by omega⟩, .inl rfl⟩
  · refine PartN.row ?_ hl
    unfold RowN
    rw [toI_len]
    exact aown_low h
theorem making_slice {B n : Nat} {v : Value} {w : AW} {cells : List Value} (h : Making B w 3 1 v n cells) : ∃ p a c, v = .slice p a c := by
  rcases h with ⟨_, _, _, _, rfl, _⟩ | ⟨rfl, _⟩ | ⟨_, _, rfl, _⟩ <;> exact ⟨_, _, _, rfl⟩
set_option maxHeartbeats 16000000 in
theorem mostR_ok (l : List DealN) (v0 : Value) (hl : l.length ≤ 64) (hd : ∀ d ∈ l, dealB d = true) : ∀ (m : Nat) (hm : m ≤ 64) (L : List Nat) (hN : ∀ n ∈ L, n < l.length) (hlen : L.length ≤ 64) (v : Value) (w : AW) (f : Fresh w) (hs : ArrOf w 3 dcells v0 l) (hv : PartN w v L),
    CallT Tryz.prog Tryz.T1 (.fn (.func 119) #[]) #[v0, v, .int .i64 (m : Int)] w (Ret (.int .i64 (greatN (L.map (sumAt l)) m)) (Grown w)) := by
  intro m
  induction m with
  | zero =>
    intro hm L hN hlen v w f hs hv
    obtain ⟨p0, c0, rfl, _⟩ := id hs.open
    obtain ⟨p, cp, rfl, _⟩ := openN hv.1
    have h00 : decide (((0 : Nat) : Int) = 0) = true := rfl
    refine callT_code rfl Tryz.func119 rfl Tryz.s119_eq rfl ?_
    unfold Tryz.s119
    simp -dsimp -implicitDefEqProofs (maxSteps := 2000000) (disch := first | assumption | omega | (simp only [nx]; omega) | ((repeat refine Fresh.push ?_ _); assumption) | (simp only [smA]; done) | (simp [oneCell, AW.next_push]; done) | fail) only [go_sem, Nat.reduceEqDiff, reduceIte, Nat.reduceAdd, Int.toNat_natCast, Nat.add_zero, Owes_true, Tryz.results119, h00]
    exact ⟨by rw [greatN_zero], Grown.refl f⟩
  | succ m ih =>
    intro hm L hN hlen v w f hs hv
    obtain ⟨p0, c0, rfl, _, _, hat0⟩ := id hs.open
    obtain ⟨p, cp, rfl, _, _, hat⟩ := openN hv.1
    have hmi : ((m + 1 : Nat) : Int) = (m : Int) + 1 := by omega
    rw [hmi]
    have hne : decide ((m : Int) + 1 = 0) = false := decide_eq_false (by omega)
    have hm1 : (m : Int) + 1 - 1 = (m : Int) := by omega
    refine callT_code rfl Tryz.func119 rfl Tryz.s119_eq rfl ?_
    unfold Tryz.s119
    by_cases hz : (L.length : Int) = 0
    · have hzd : decide ((L.length : Int) = 0) = true := decide_eq_true hz
      have : L = [] := List.length_eq_zero_iff.mp (by omega)
      simp -dsimp -implicitDefEqProofs (maxSteps := 2000000) (disch := first | assumption | omega | (simp only [nx]; omega) | ((repeat refine Fresh.push ?_ _); assumption) | (simp only [smA]; done) | (simp [oneCell, AW.next_push]; done) | fail) only [go_sem, Nat.reduceEqDiff, reduceIte, Nat.reduceAdd, Int.toNat_natCast, Nat.add_zero, Owes_true, Tryz.results119, hne, hzd]
      exact ⟨by rw [this, List.map_nil, greatN_nil], Grown.refl f⟩
    have hzd : decide ((L.length : Int) = 0) = false := decide_eq_false hz
    have hL1 : 1 ≤ L.length := by omega
    simp -dsimp -implicitDefEqProofs (maxSteps := 2000000) (disch := first | assumption | omega | (simp only [nx]; omega) | ((repeat refine Fresh.push ?_ _); assumption) | (simp only [smA]; done) | (simp [oneCell, AW.next_push]; done) | fail) only [go_sem, Nat.reduceEqDiff, reduceIte, Nat.reduceAdd, Int.toNat_natCast, Nat.add_zero, Owes_true, Tryz.results119, hne, hzd]
    refine loopR (fun k t ds w1 => ∃ i : Nat, i ≤ L.length ∧ k = L.length - i ∧ ds = [] ∧ ev t (.tmp 0) = .slice p0 l.length c0 ∧ ev t (.tmp 1) = .slice p L.length cp ∧ ev t (.tmp 2) = .int .i64 ((m : Int) + 1) ∧ ev t (.tmp 8) = .int .i64 (i : Int) ∧ ∃ (best : Nat) (hb : best < L.length), ev t (.tmp 7) = .int .i64 (best : Int) ∧ (∀ j (hj : j < L.length), j < i → sumAt l L[j] ≤ sumAt l L[best]) ∧ w1 = w) (L.length) ?_ ?_
    · refine ⟨0, by omega, by omega, rfl, ?_, ?_, ?_, ?_, 0, hL1, (by simp -dsimp -implicitDefEqProofs (maxSteps := 2000000) (disch := first | assumption | omega | (simp only [nx]; omega) | ((repeat refine Fresh.push ?_ _); assumption) | (simp only [smA]; done) | (simp [oneCell, AW.next_push]; done) | fail) only [go_sem, Nat.reduceEqDiff, reduceIte, Nat.reduceAdd, Int.toNat_natCast, Nat.add_zero, Owes_true]; try rfl), (fun j hj h => absurd h (Nat.not_lt_zero j)), rfl⟩ <;> simp -dsimp -implicitDefEqProofs (maxSteps := 2000000) (disch := first | assumption | omega | (simp only [nx]; omega) | ((repeat refine Fresh.push ?_ _); assumption) | (simp only [smA]; done) | (simp [oneCell, AW.next_push]; done) | fail) only [go_sem, Nat.reduceEqDiff, reduceIte, Nat.reduceAdd, Int.toNat_natCast, Nat.add_zero, Owes_true] <;> rfl
    rintro k t ds w1 ⟨i, hii, rfl, rfl, e0, e1, e2, e8, best, hb, e7, hmx, hw⟩
    subst hw
    obtain ⟨bb, ob, rfl, hbb, hcb⟩ := hat best hb
    have x0 := hcb w1 (.refl _ _)
    have hnb := hN _ (List.getElem_mem hb)
    have hsb := sumAt_eq hnb
    obtain ⟨b2, o2, ez, hb2, hcell2⟩ := hat0 L[best] hnb
    have x2 := hcell2 w1 (.refl _ _) 2 _ rfl
    rw [← hsb] at x2
    have hnl : (L[best] : Int) < (l.length : Int) := by omega
    have hbl : (best : Int) < (L.length : Int) := by omega
    by_cases hlt : (i : Int) < (L.length : Int)
    case neg =>
      subst ez
      obtain rfl : i = L.length := by omega
      have hall : ∀ n ∈ L, sumAt l n ≤ sumAt l L[best] := fun n hn => by
        obtain ⟨j, hj, rfl⟩ := List.getElem_of_mem hn
        exact hmx j hj hj
      have hgr := greatN_at (s := sumAt l) hb hall m
      obtain ⟨⟨pa, ca, hsa, hPa⟩, _⟩ := hv.cut hL1 (a := best) (by omega)
      obtain ⟨_, ⟨pz, cz, hsz, hPz⟩⟩ := hv.cut hL1 (a := best + 1) (by omega)
      rw [show ((best + 1 : Nat) : Int) = (best : Int) + 1 from by omega] at hsz
      simp -dsimp -implicitDefEqProofs (maxSteps := 2000000) (disch := first | assumption | omega | (simp only [nx]; omega) | ((repeat refine Fresh.push ?_ _); assumption) | (simp only [smA]; done) | (simp [oneCell, AW.next_push]; done) | fail) only [go_sem, Nat.reduceEqDiff, reduceIte, Nat.reduceAdd, Int.toNat_natCast, Nat.add_zero, Owes_true, Tryz.results119, e0, e1, e2, e7, e8, hlt, hsa, hsz]
      unfold Owes
      refine ⟨fun _ => ?_, ?_⟩
      · simp -dsimp -implicitDefEqProofs (maxSteps := 2000000) (disch := first | assumption | omega | (simp only [nx]; omega) | ((repeat refine Fresh.push ?_ _); assumption) | (simp only [smA]; done) | (simp [oneCell, AW.next_push]; done) | fail) only [go_sem, Nat.reduceEqDiff, reduceIte, Nat.reduceAdd, Int.toNat_natCast, Nat.add_zero, Owes_true, e1]
      simp -dsimp -implicitDefEqProofs (maxSteps := 2000000) (disch := first | assumption | omega | (simp only [nx]; omega) | ((repeat refine Fresh.push ?_ _); assumption) | (simp only [smA]; done) | (simp [oneCell, AW.next_push]; done) | fail) only [go_sem, Nat.reduceEqDiff, reduceIte, Nat.reduceAdd, Int.toNat_natCast, Nat.add_zero, Owes_true, Tryz.results119, e0, e1, e2, e7, e8, hsa, hsz]
      apply callV_of (e := rfl)
      · exact OwnN_ok (L.take best) _ w1 f hPa.1 (by rw [List.length_take]; omega)
      rintro v2 w2 ⟨hM2, g2⟩
      obtain ⟨p2, n2, c2, rfl⟩ := making_slice hM2
      have hlt2 : (L.take best).length = best := by rw [List.length_take]; omega
      rw [hlt2] at hM2
      obtain ⟨v3, w3, happ, hM3, hk3, hf3⟩ := making_row hM2 g2.2 g2.1.next (hPz.grown g2).1 (by rw [List.length_drop]; omega)
      have hP3 : PartN w3 v3 (without L best) := by
        refine making_part (B := w1.next) (n := best + (L.drop (best + 1)).length) ?_ (by rw [without_len hb, List.length_drop]; omega) (by rw [List.length_drop]; omega)
        have e : (toI (without L best)).flatMap icells = (toI (L.take best)).flatMap icells ++ (toI (L.drop (best + 1))).flatMap icells := by
          unfold without toI; rw [List.map_append, List.flatMap_append]
        rw [e]; exact hM3
      obtain ⟨p3, n3, c3, rfl⟩ := making_slice hM3
      have g3 : Grown w1 w3 := ⟨g2.1.trans hk3, hf3⟩
      have x03 := hcb w3 g3.1
      have x23 := hcell2 w3 g3.1 2 _ rfl
      rw [← hsb] at x23
      have hgi := sumAt_in hd hnb
      have hrb := greatN_in (S := (without L best).map (sumAt l)) (fun x hx => by
        obtain ⟨n, hn, rfl⟩ := List.mem_map.mp hx
        have := sumAt_in hd (hN n (without_mem hb n hn))
        omega) (by rw [List.length_map, without_len hb]; omega) m
      rw [hgr]
      have hih := ih (by omega) (without L best) (fun n hn => hN n (without_mem hb n hn)) (by rw [without_len hb]; omega) _ w3 hf3 (hs.grown g3) hP3
      generalize greatN ((without L best).map (sumAt l)) m = G at *
      generalize sumAt l L[best] = sb at *
      generalize L[best] = nb at *
      have hle2 := g2.1.wle f
      simp -dsimp -implicitDefEqProofs (maxSteps := 2000000) (disch := first | assumption | omega | (simp only [nx]; omega) | ((repeat refine Fresh.push ?_ _); assumption) | (simp only [smA]; done) | (simp [oneCell, AW.next_push]; done) | fail) only [go_sem, Nat.reduceEqDiff, reduceIte, Nat.reduceAdd, Int.toNat_natCast, Nat.add_zero, Owes_true, Tryz.results119, hle2, happ, hm1, hbl, hnl, indexV_eq, x03, x23]
      unfold Owes
      refine ⟨fun _ => ?_, ?_⟩
      · simp -dsimp -implicitDefEqProofs (maxSteps := 2000000) (disch := first | assumption | omega | (simp only [nx]; omega) | ((repeat refine Fresh.push ?_ _); assumption) | (simp only [smA]; done) | (simp [oneCell, AW.next_push]; done) | fail) only [go_sem, Nat.reduceEqDiff, reduceIte, Nat.reduceAdd, Int.toNat_natCast, Nat.add_zero, Owes_true, e0]
      simp -dsimp -implicitDefEqProofs (maxSteps := 2000000) (disch := first | assumption | omega | (simp only [nx]; omega) | ((repeat refine Fresh.push ?_ _); assumption) | (simp only [smA]; done) | (simp [oneCell, AW.next_push]; done) | fail) only [go_sem, Nat.reduceEqDiff, reduceIte, Nat.reduceAdd, Int.toNat_natCast, Nat.add_zero, Owes_true, Tryz.results119, e0, e1, e2, e7, hm1, hbl, hnl, indexV_eq, x03, x23]
      apply callV_of (e := rfl)
      · exact hih
      rintro _ w4 ⟨rfl, g4⟩
      have hle := g4.1.wle hf3
      simp -dsimp -implicitDefEqProofs (maxSteps := 2000000) (disch := first | assumption | omega | (simp only [nx]; omega) | ((repeat refine Fresh.push ?_ _); assumption) | (simp only [smA]; done) | (simp [oneCell, AW.next_push]; done) | fail) only [go_sem, Nat.reduceEqDiff, reduceIte, Nat.reduceAdd, Int.toNat_natCast, Nat.add_zero, Owes_true, Tryz.results119, hle]
      exact ⟨rfl, g3.trans g4⟩
    have hlt' : i < L.length := by omega
    obtain ⟨bi, oi, ei, hbi, hci⟩ := hat i hlt'
    injection ei with ei
    injection ei with q1 q2
    subst q1 q2
    have a0 := hci w1 (.refl _ _)
    have hni := hN _ (List.getElem_mem hlt')
    have hsi := sumAt_eq hni
    obtain ⟨b3, o3, ey, hb3, hcell3⟩ := hat0 L[i] hni
    rw [ez] at ey
    injection ey with ey
    injection ey with q1 q2
    subst q1 q2 ez
    have a2 := hcell3 w1 (.refl _ _) 2 _ rfl
    rw [← hsi] at a2
    have hil : (L[i] : Int) < (l.length : Int) := by omega
    by_cases hgt : sumAt l L[i] > sumAt l L[best]
    · have hgd : decide (sumAt l L[i] > sumAt l L[best]) = true := decide_eq_true hgt
      have hnx : ∀ j (hj : j < L.length), j < i + 1 → sumAt l L[j] ≤ sumAt l L[i] := fun j hj h => by
        by_cases q : j = i
        · subst q; exact Int.le_refl _
        · have := hmx j hj (by omega); omega
      obtain ⟨sb, ub⟩ : ∃ s, s = sumAt l L[best] := ⟨_, rfl⟩
      obtain ⟨si, ui⟩ : ∃ s, s = sumAt l L[i] := ⟨_, rfl⟩
      obtain ⟨nb, vb⟩ : ∃ s, s = L[best] := ⟨_, rfl⟩
      obtain ⟨ni, vi⟩ : ∃ s, s = L[i] := ⟨_, rfl⟩
      rw [← ub] at x2 hgd
      rw [← ui] at a2 hgd
      rw [← vb] at x0 x2 hnl
      rw [← vi] at a0 a2 hil
      simp -dsimp -implicitDefEqProofs (maxSteps := 2000000) (disch := first | assumption | omega | (simp only [nx]; omega) | ((repeat refine Fresh.push ?_ _); assumption) | (simp only [smA]; done) | (simp [oneCell, AW.next_push]; done) | fail) only [go_sem, Nat.reduceEqDiff, reduceIte, Nat.reduceAdd, Int.toNat_natCast, Nat.add_zero, Owes_true, Tryz.results119, e0, e1, e7, e8, hlt, hbl, hil, hnl, indexV_eq, a0, a2, x0, x2, hgd]
      refine ⟨_, by omega, i + 1, by omega, rfl, rfl, by (simp -dsimp -implicitDefEqProofs (maxSteps := 2000000) (disch := first | assumption | omega | (simp only [nx]; omega) | ((repeat refine Fresh.push ?_ _); assumption) | (simp only [smA]; done) | (simp [oneCell, AW.next_push]; done) | fail) only [go_sem, Nat.reduceEqDiff, reduceIte, Nat.reduceAdd, Int.toNat_natCast, Nat.add_zero, Owes_true, e0]; try rfl), by (simp -dsimp -implicitDefEqProofs (maxSteps := 2000000) (disch := first | assumption | omega | (simp only [nx]; omega) | ((repeat refine Fresh.push ?_ _); assumption) | (simp only [smA]; done) | (simp [oneCell, AW.next_push]; done) | fail) only [go_sem, Nat.reduceEqDiff, reduceIte, Nat.reduceAdd, Int.toNat_natCast, Nat.add_zero, Owes_true, e1]; try rfl), by (simp -dsimp -implicitDefEqProofs (maxSteps := 2000000) (disch := first | assumption | omega | (simp only [nx]; omega) | ((repeat refine Fresh.push ?_ _); assumption) | (simp only [smA]; done) | (simp [oneCell, AW.next_push]; done) | fail) only [go_sem, Nat.reduceEqDiff, reduceIte, Nat.reduceAdd, Int.toNat_natCast, Nat.add_zero, Owes_true, e2]; try rfl), by (simp -dsimp -implicitDefEqProofs (maxSteps := 2000000) (disch := first | assumption | omega | (simp only [nx]; omega) | ((repeat refine Fresh.push ?_ _); assumption) | (simp only [smA]; done) | (simp [oneCell, AW.next_push]; done) | fail) only [go_sem, Nat.reduceEqDiff, reduceIte, Nat.reduceAdd, Int.toNat_natCast, Nat.add_zero, Owes_true, e8]; try rfl), i, hlt', (by simp -dsimp -implicitDefEqProofs (maxSteps := 2000000) (disch := first | assumption | omega | (simp only [nx]; omega) | ((repeat refine Fresh.push ?_ _); assumption) | (simp only [smA]; done) | (simp [oneCell, AW.next_push]; done) | fail) only [go_sem, Nat.reduceEqDiff, reduceIte, Nat.reduceAdd, Int.toNat_natCast, Nat.add_zero, Owes_true]; try rfl), hnx, rfl⟩
    · have hgd : decide (sumAt l L[i] > sumAt l L[best]) = false := decide_eq_false hgt
      have hnx : ∀ j (hj : j < L.length), j < i + 1 → sumAt l L[j] ≤ sumAt l L[best] := fun j hj h => by
        by_cases q : j = i
        · subst q; omega
        · exact hmx j hj (by omega)
      obtain ⟨sb, ub⟩ : ∃ s, s = sumAt l L[best] := ⟨_, rfl⟩
      obtain ⟨si, ui⟩ : ∃ s, s = sumAt l L[i] := ⟨_, rfl⟩
      obtain ⟨nb, vb⟩ : ∃ s, s = L[best] := ⟨_, rfl⟩
      obtain ⟨ni, vi⟩ : ∃ s, s = L[i] := ⟨_, rfl⟩
      rw [← ub] at x2 hgd
      rw [← ui] at a2 hgd
      rw [← vb] at x0 x2 hnl
      rw [← vi] at a0 a2 hil
      simp -dsimp -implicitDefEqProofs (maxSteps := 2000000) (disch := first | assumption | omega | (simp only [nx]; omega) | ((repeat refine Fresh.push ?_ _); assumption) | (simp only [smA]; done) | (simp [oneCell, AW.next_push]; done) | fail) only [go_sem, Nat.reduceEqDiff, reduceIte, Nat.reduceAdd, Int.toNat_natCast, Nat.add_zero, Owes_true, Tryz.results119, e0, e1, e7, e8, hlt, hbl, hil, hnl, indexV_eq, a0, a2, x0, x2, hgd]
      refine ⟨_, by omega, i + 1, by omega, rfl, rfl, by (simp -dsimp -implicitDefEqProofs (maxSteps := 2000000) (disch := first | assumption | omega | (simp only [nx]; omega) | ((repeat refine Fresh.push ?_ _); assumption) | (simp only [smA]; done) | (simp [oneCell, AW.next_push]; done) | fail) only [go_sem, Nat.reduceEqDiff, reduceIte, Nat.reduceAdd, Int.toNat_natCast, Nat.add_zero, Owes_true, e0]; try rfl), by (simp -dsimp -implicitDefEqProofs (maxSteps := 2000000) (disch := first | assumption | omega | (simp only [nx]; omega) | ((repeat refine Fresh.push ?_ _); assumption) | (simp only [smA]; done) | (simp [oneCell, AW.next_push]; done) | fail) only [go_sem, Nat.reduceEqDiff, reduceIte, Nat.reduceAdd, Int.toNat_natCast, Nat.add_zero, Owes_true, e1]; try rfl), by (simp -dsimp -implicitDefEqProofs (maxSteps := 2000000) (disch := first | assumption | omega | (simp only [nx]; omega) | ((repeat refine Fresh.push ?_ _); assumption) | (simp only [smA]; done) | (simp [oneCell, AW.next_push]; done) | fail) only [go_sem, Nat.reduceEqDiff, reduceIte, Nat.reduceAdd, Int.toNat_natCast, Nat.add_zero, Owes_true, e2]; try rfl), by (simp -dsimp -implicitDefEqProofs (maxSteps := 2000000) (disch := first | assumption | omega | (simp only [nx]; omega) | ((repeat refine Fresh.push ?_ _); assumption) | (simp only [smA]; done) | (simp [oneCell, AW.next_push]; done) | fail) only [go_sem, Nat.reduceEqDiff, reduceIte, Nat.reduceAdd, Int.toNat_natCast, Nat.add_zero, Owes_true, e8]; try rfl), best, hb, (by simp -dsimp -implicitDefEqProofs (maxSteps := 2000000) (disch := first | assumption | omega | (simp only [nx]; omega) | ((repeat refine Fresh.push ?_ _); assumption) | (simp only [smA]; done) | (simp [oneCell, AW.next_push]; done) | fail) only [go_sem, Nat.reduceEqDiff, reduceIte, Nat.reduceAdd, Int.toNat_natCast, Nat.add_zero, Owes_true, e7]; try rfl), hnx, rfl⟩
end Go.Proofs

namespace Go.Proofs
open Go Go.RowKit Go.Sim
set_option maxRecDepth 100000
theorem sumW_in {l : List DealN} (hd : ∀ d ∈ l, dealB d = true) {L : List Nat} (hN : ∀ n ∈ L, n < l.length) : 0 ≤ sumW l L ∧ sumW l L ≤ (L.length : Int) * 1073741824 := by
  have := sums_in hd hN L.length (Nat.le_refl _)
  rw [List.take_length] at this
  exact this
theorem chooseR_stop {l : List DealN} {sum : Int} {m : Nat} {ch : List Nat} (h : m ≤ ch.length) : ∀ L, chooseR l sum m ch L = ch
  | [] => rfl
  | x :: L => by unfold chooseR; rw [if_pos h]
set_option maxHeartbeats 16000000 in
theorem leastR_ok (l : List DealN) (v0 : Value) (hl : l.length ≤ 64) (hd : ∀ d ∈ l, dealB d = true) (L : List Nat) (hN : ∀ n ∈ L, n < l.length) (hlen : L.length ≤ 64) (v : Value) (w : AW) (f : Fresh w) (hs : ArrOf w 3 dcells v0 l) (hv : PartN w v L) (sum : Int) (h1 : 1 ≤ sum) (h2 : sum ≤ 1073741824) (hsum : sum ≤ sumW l L) :
    CallT Tryz.prog Tryz.T1 (.fn (.func 82) #[]) #[v0, v, .int .i64 sum] w (fun r w' => ∃ (m : Nat) (p : Option Addr) (n c : Nat), FewM (L.map (sumAt l)) sum m ∧ r = .slice p n c ∧ RowN w' (.slice p n c) (chooseR l sum m [] L) ∧ Grown w w') := by
  obtain ⟨p0, c0, rfl, _, _, hat0⟩ := id hs.open
  obtain ⟨p, cp, rfl, _, _, hat⟩ := openN hv.1
  refine callT_code rfl Tryz.func82 rfl Tryz.s82_eq rfl ?_
  unfold Tryz.s82
  simp -dsimp -implicitDefEqProofs (maxSteps := 2000000) (disch := first | assumption | omega | (simp only [nx]; omega) | ((repeat refine Fresh.push ?_ _); assumption) | (simp only [smA]; done) | (simp [oneCell, AW.next_push]; done) | fail) only [go_sem, Nat.reduceEqDiff, reduceIte, Nat.reduceAdd, Int.toNat_natCast, Nat.add_zero, Owes_true, Tryz.results82]
  refine loopR (fun k t ds w1 => ∃ q : Nat, q ≤ L.length ∧ k = L.length - q ∧ ds = [] ∧ ev t (.tmp 0) = .slice p0 l.length c0 ∧ ev t (.tmp 1) = .slice p L.length cp ∧ ev t (.tmp 2) = .int .i64 sum ∧ ev t (.tmp 7) = .int .i64 (q : Int) ∧ (∀ j, j < q → greatN (L.map (sumAt l)) j < sum) ∧ Grown w w1) (L.length) ?_ ?_
  · refine ⟨0, by omega, by omega, rfl, ?_, ?_, ?_, ?_, (fun j h => absurd h (Nat.not_lt_zero j)), Grown.refl f⟩ <;> simp -dsimp -implicitDefEqProofs (maxSteps := 2000000) (disch := first | assumption | omega | (simp only [nx]; omega) | ((repeat refine Fresh.push ?_ _); assumption) | (simp only [smA]; done) | (simp [oneCell, AW.next_push]; done) | fail) only [go_sem, Nat.reduceEqDiff, reduceIte, Nat.reduceAdd, Int.toNat_natCast, Nat.add_zero, Owes_true] <;> rfl
  rintro k t ds w1 ⟨q, hiq, rfl, rfl, e0, e1, e2, e7, hno, g1⟩
  simp -dsimp -implicitDefEqProofs (maxSteps := 2000000) (disch := first | assumption | omega | (simp only [nx]; omega) | ((repeat refine Fresh.push ?_ _); assumption) | (simp only [smA]; done) | (simp [oneCell, AW.next_push]; done) | fail) only [go_sem, Nat.reduceEqDiff, reduceIte, Nat.reduceAdd, Int.toNat_natCast, Nat.add_zero, Owes_true, e0, e1, e2, e7]
  apply callV_of (e := rfl)
  · exact mostR_ok l _ hl hd q (by omega) L hN hlen _ w1 g1.2 (hs.grown g1) (hv.grown g1)
  rintro _ w2 ⟨rfl, g2⟩
  have g12 := g1.trans g2
  by_cases hq : greatN (L.map (sumAt l)) q < sum
  · have hql : q < L.length := by
      rcases Nat.lt_or_ge q L.length with z | z
      · exact z
      · have e : q = (L.map (sumAt l)).length := by rw [List.length_map]; omega
        rw [e, greatN_all] at hq
        unfold sumW at hsum; omega
    have hqd : decide (greatN (L.map (sumAt l)) q < sum) = true := decide_eq_true hq
    simp -dsimp -implicitDefEqProofs (maxSteps := 2000000) (disch := first | assumption | omega | (simp only [nx]; omega) | ((repeat refine Fresh.push ?_ _); assumption) | (simp only [smA]; done) | (simp [oneCell, AW.next_push]; done) | fail) only [go_sem, Nat.reduceEqDiff, reduceIte, Nat.reduceAdd, Int.toNat_natCast, Nat.add_zero, Owes_true, Tryz.results82, e0, e1, e2, e7, hqd]
    refine ⟨_, by omega, q + 1, by omega, rfl, rfl, by (simp -dsimp -implicitDefEqProofs (maxSteps := 2000000) (disch := first | assumption | omega | (simp only [nx]; omega) | ((repeat refine Fresh.push ?_ _); assumption) | (simp only [smA]; done) | (simp [oneCell, AW.next_push]; done) | fail) only [go_sem, Nat.reduceEqDiff, reduceIte, Nat.reduceAdd, Int.toNat_natCast, Nat.add_zero, Owes_true, e0]; try rfl), by (simp -dsimp -implicitDefEqProofs (maxSteps := 2000000) (disch := first | assumption | omega | (simp only [nx]; omega) | ((repeat refine Fresh.push ?_ _); assumption) | (simp only [smA]; done) | (simp [oneCell, AW.next_push]; done) | fail) only [go_sem, Nat.reduceEqDiff, reduceIte, Nat.reduceAdd, Int.toNat_natCast, Nat.add_zero, Owes_true, e1]; try rfl), by (simp -dsimp -implicitDefEqProofs (maxSteps := 2000000) (disch := first | assumption | omega | (simp only [nx]; omega) | ((repeat refine Fresh.push ?_ _); assumption) | (simp only [smA]; done) | (simp [oneCell, AW.next_push]; done) | fail) only [go_sem, Nat.reduceEqDiff, reduceIte, Nat.reduceAdd, Int.toNat_natCast, Nat.add_zero, Owes_true, e2]; try rfl), by (simp -dsimp -implicitDefEqProofs (maxSteps := 2000000) (disch := first | assumption | omega | (simp only [nx]; omega) | ((repeat refine Fresh.push ?_ _); assumption) | (simp only [smA]; done) | (simp [oneCell, AW.next_push]; done) | fail) only [go_sem, Nat.reduceEqDiff, reduceIte, Nat.reduceAdd, Int.toNat_natCast, Nat.add_zero, Owes_true, e7]; try rfl), (fun j hj => by by_cases z : j = q; { rw [z]; exact hq }; { exact hno j (by omega) }), g12⟩
  have hqd : decide (greatN (L.map (sumAt l)) q < sum) = false := decide_eq_false hq
  have hF : FewM (L.map (sumAt l)) sum q := by
    refine ⟨?_, by rw [List.length_map]; omega, by omega, fun j h1 h2 => hno j h2⟩
    rcases Nat.eq_zero_or_pos q with z | z
    · rw [z, greatN_zero] at hq; omega
    · exact z
  simp -dsimp -implicitDefEqProofs (maxSteps := 2000000) (disch := first | assumption | omega | (simp only [nx]; omega) | ((repeat refine Fresh.push ?_ _); assumption) | (simp only [smA]; done) | (simp [oneCell, AW.next_push]; done) | fail) only [go_sem, Nat.reduceEqDiff, reduceIte, Nat.reduceAdd, Int.toNat_natCast, Nat.add_zero, Owes_true, Tryz.results82, e0, e1, e2, e7, hqd]
  refine loopR (fun k t ds w3 => ∃ i : Nat, i ≤ L.length ∧ k = L.length - i ∧ ds = [] ∧ ev t (.tmp 0) = .slice p0 l.length c0 ∧ ev t (.tmp 1) = .slice p L.length cp ∧ ev t (.tmp 9) = .int .i64 (i : Int) ∧ ∃ (p3 : Option Addr) (n3 c3 : Nat) (ch : List Nat) (M : Nat), ev t (.tmp 2) = .int .i64 (sum - sumW l ch) ∧ ev t (.tmp 7) = .int .i64 (M : Int) ∧ ev t (.tmp 8) = .slice p3 n3 c3 ∧ M + ch.length = q ∧ (∀ n ∈ ch, n < l.length) ∧ chooseR l sum q [] L = chooseR l sum q ch (L.drop i) ∧ AOwn w2.next w3 3 1 (.slice p3 n3 c3) (toI ch).length ((toI ch).flatMap icells) ∧ Grown w2 w3) (L.length) ?_ ?_
  · refine ⟨0, by omega, by omega, rfl, ?_, ?_, ?_, none, 0, 0, [], q, (by simp -dsimp -implicitDefEqProofs (maxSteps := 2000000) (disch := first | assumption | omega | (simp only [nx]; omega) | ((repeat refine Fresh.push ?_ _); assumption) | (simp only [smA]; done) | (simp [oneCell, AW.next_push]; done) | fail) only [go_sem, Nat.reduceEqDiff, reduceIte, Nat.reduceAdd, Int.toNat_natCast, Nat.add_zero, Owes_true, e2]; simp [sumW]), (by simp -dsimp -implicitDefEqProofs (maxSteps := 2000000) (disch := first | assumption | omega | (simp only [nx]; omega) | ((repeat refine Fresh.push ?_ _); assumption) | (simp only [smA]; done) | (simp [oneCell, AW.next_push]; done) | fail) only [go_sem, Nat.reduceEqDiff, reduceIte, Nat.reduceAdd, Int.toNat_natCast, Nat.add_zero, Owes_true, e7]; try rfl), (by simp -dsimp -implicitDefEqProofs (maxSteps := 2000000) (disch := first | assumption | omega | (simp only [nx]; omega) | ((repeat refine Fresh.push ?_ _); assumption) | (simp only [smA]; done) | (simp [oneCell, AW.next_push]; done) | fail) only [go_sem, Nat.reduceEqDiff, reduceIte, Nat.reduceAdd, Int.toNat_natCast, Nat.add_zero, Owes_true]; try rfl), (by simp), (fun n h => absurd h (by simp)), rfl, .inl ⟨rfl, rfl, rfl⟩, Grown.refl g12.2⟩ <;> simp -dsimp -implicitDefEqProofs (maxSteps := 2000000) (disch := first | assumption | omega | (simp only [nx]; omega) | ((repeat refine Fresh.push ?_ _); assumption) | (simp only [smA]; done) | (simp [oneCell, AW.next_push]; done) | fail) only [go_sem, Nat.reduceEqDiff, reduceIte, Nat.reduceAdd, Int.toNat_natCast, Nat.add_zero, Owes_true, e0, e1] <;> rfl
  rintro k t ds w3 ⟨i, hii, rfl, rfl, e0, e1, e9, p3, n3, c3, ch, M, e2, e7, e8, hM, hch, hco, hR3, g3⟩
  have gg := g12.trans g3
  by_cases hlt : (i : Int) < (L.length : Int)
  case neg =>
    obtain rfl : i = L.length := by omega
    rw [List.drop_length] at hco
    simp -dsimp -implicitDefEqProofs (maxSteps := 2000000) (disch := first | assumption | omega | (simp only [nx]; omega) | ((repeat refine Fresh.push ?_ _); assumption) | (simp only [smA]; done) | (simp [oneCell, AW.next_push]; done) | fail) only [go_sem, Nat.reduceEqDiff, reduceIte, Nat.reduceAdd, Int.toNat_natCast, Nat.add_zero, Owes_true, Tryz.results82, e0, e1, e2, e7, e8, e9, hlt]
    exact ⟨q, p3, n3, c3, hF, rfl, by rw [hco]; exact aown_low hR3, gg⟩
  by_cases hM0 : (M : Int) > 0
  case neg =>
    have hM0d : decide ((M : Int) > 0) = false := decide_eq_false hM0
    have hst := chooseR_stop (l := l) (sum := sum) (m := q) (ch := ch) (by omega) (L.drop i)
    simp -dsimp -implicitDefEqProofs (maxSteps := 2000000) (disch := first | assumption | omega | (simp only [nx]; omega) | ((repeat refine Fresh.push ?_ _); assumption) | (simp only [smA]; done) | (simp [oneCell, AW.next_push]; done) | fail) only [go_sem, Nat.reduceEqDiff, reduceIte, Nat.reduceAdd, Int.toNat_natCast, Nat.add_zero, Owes_true, Tryz.results82, e0, e1, e2, e7, e8, e9, hlt, hM0d]
    exact ⟨q, p3, n3, c3, hF, rfl, by rw [hco, hst]; exact aown_low hR3, gg⟩
  have hM0d : decide ((M : Int) > 0) = true := decide_eq_true hM0
  have hlt' : i < L.length := by omega
  obtain ⟨M', rfl⟩ : ∃ M', M = M' + 1 := ⟨M - 1, by omega⟩
  have hMi : ((M' + 1 : Nat) : Int) - 1 = (M' : Int) := by omega
  obtain ⟨bi, oi, rfl, hbi, hci⟩ := hat i hlt'
  have a0 := hci w3 gg.1
  have hni := hN _ (List.getElem_mem hlt')
  have hsi := sumAt_eq hni
  obtain ⟨b2, o2, rfl, hb2, hcell2⟩ := hat0 L[i] hni
  have a2 := hcell2 w3 gg.1 2 _ rfl
  rw [← hsi] at a2
  have hil : (L[i] : Int) < (l.length : Int) := by omega
  have hgi := sumAt_in hd hni
  have hcw := sumW_in hd hch
  obtain ⟨_, ⟨pz, cz, hsz, hPz⟩⟩ := (hv.grown gg).cut (by omega) (a := i + 1) (by omega)
  rw [show ((i + 1 : Nat) : Int) = (i : Int) + 1 from by omega] at hsz
  have hdr : L.drop i = L[i] :: L.drop (i + 1) := List.drop_eq_getElem_cons hlt'
  have hstep : chooseR l sum q ch (L.drop i) = if sum ≤ sumW l ch + sumAt l L[i] + greatN ((L.drop (i + 1)).map (sumAt l)) M' then chooseR l sum q (ch ++ [L[i]]) (L.drop (i + 1)) else chooseR l sum q ch (L.drop (i + 1)) := by
    rw [hdr]
    conv => lhs; unfold chooseR
    rw [if_neg (by omega : ¬ q ≤ ch.length), show q - ch.length - 1 = M' from by omega]
    rfl
  have hrb := greatN_in (S := (L.drop (i + 1)).map (sumAt l)) (fun x hx => by
    obtain ⟨n, hn, rfl⟩ := List.mem_map.mp hx
    have := sumAt_in hd (hN n (List.mem_of_mem_drop hn))
    omega) (by rw [List.length_map, List.length_drop]; omega) M'
  have hmost := mostR_ok l _ hl hd M' (by omega) (L.drop (i + 1)) (fun n hn => hN n (List.mem_of_mem_drop hn)) (by rw [List.length_drop]; omega) _ w3 g3.2 (hs.grown gg) hPz
  have hsw : sumW l (ch ++ [L[i]]) = sumW l ch + sumAt l L[i] := by unfold sumW; rw [List.map_append, List.sum_append]; simp
  have hcn : ∀ n ∈ ch ++ [L[i]], n < l.length := fun n hn => by
    rw [List.mem_append, List.mem_singleton] at hn
    rcases hn with z | rfl
    · exact hch n z
    · exact hni
  rw [hco] at *
  generalize greatN ((L.drop (i + 1)).map (sumAt l)) M' = G at *
  obtain ⟨si, ui⟩ : ∃ s, s = sumAt l L[i] := ⟨_, rfl⟩
  obtain ⟨ni, vi⟩ : ∃ s, s = L[i] := ⟨_, rfl⟩
  rw [← ui] at a2 hgi hsw hstep
  rw [← vi] at a0 a2 hil hsw hstep hcn
  have hcl64 : (ch.length : Int) ≤ 64 := by omega
  generalize hcs : sumW l ch = cs at *
  simp -dsimp -implicitDefEqProofs (maxSteps := 2000000) (disch := first | assumption | omega | (simp only [nx]; omega) | ((repeat refine Fresh.push ?_ _); assumption) | (simp only [smA]; done) | (simp [oneCell, AW.next_push]; done) | fail) only [go_sem, Nat.reduceEqDiff, reduceIte, Nat.reduceAdd, Int.toNat_natCast, Nat.add_zero, Owes_true, Tryz.results82, e0, e1, e2, e7, e8, e9, hlt, hM0d, hil, indexV_eq, a0, a2, hsz, hMi]
  apply callV_of (e := rfl)
  · exact hmost
  rintro _ w4 ⟨rfl, g4⟩
  have hle4 := g4.1.wle g3.2
  have gg4 := gg.trans g4
  have hR4 := AOwn.keep hR3 g4.1 (Nat.le_refl _)
  have g34 := g3.trans g4
  have b0 := hci w4 gg4.1
  have b2' := hcell2 w4 gg4.1 2 _ rfl
  rw [← vi] at b0
  rw [← hsi, ← ui, ← vi] at b2'
  by_cases hge : si + G ≥ sum - cs
  · have hged : decide (si + G ≥ sum - cs) = true := decide_eq_true hge
    rw [if_pos (by omega)] at hstep
    obtain ⟨u9, w9, happ, hR9, hk9, hf9, hn9, _⟩ := append_one (e' := 3) Tryz.ty22 Tryz.ty3 rfl (by omega) (by omega) hR4 g4.2 g34.1.next (icells_len (ni : Int)) (icells_one _) (by rw [toI_len]; omega)
    simp only [icells] at happ
    obtain ⟨p9, n9, c9, rfl⟩ : ∃ x y z, u9 = .slice x y z := by rcases hR9 with ⟨rfl, _⟩ | ⟨_, _, rfl, _⟩ <;> exact ⟨_, _, _, rfl⟩
    have hf4 := g4.2
    have x0 := hci w9 (gg4.1.trans (hk9.mono (by have := g12.1.next; omega)))
    have x2 := hcell2 w9 (gg4.1.trans (hk9.mono (by have := g12.1.next; omega))) 2 _ rfl
    rw [← vi] at x0
    rw [← hsi, ← ui, ← vi] at x2
    simp -dsimp -implicitDefEqProofs (maxSteps := 2000000) (disch := first | assumption | omega | (simp only [nx]; omega) | ((repeat refine Fresh.push ?_ _); assumption) | (simp only [smA]; done) | (simp [oneCell, AW.next_push]; done) | fail) only [go_sem, Nat.reduceEqDiff, reduceIte, Nat.reduceAdd, Int.toNat_natCast, Nat.add_zero, Owes_true, Tryz.results82, hle4, hged, e0, e1, e2, e7, e8, e9, hlt, hil, indexV_eq, b0, b2', happ, x0, x2, hMi]
    refine ⟨_, by omega, i + 1, by omega, rfl, rfl, by (simp -dsimp -implicitDefEqProofs (maxSteps := 2000000) (disch := first | assumption | omega | (simp only [nx]; omega) | ((repeat refine Fresh.push ?_ _); assumption) | (simp only [smA]; done) | (simp [oneCell, AW.next_push]; done) | fail) only [go_sem, Nat.reduceEqDiff, reduceIte, Nat.reduceAdd, Int.toNat_natCast, Nat.add_zero, Owes_true, e0]; try rfl), by (simp -dsimp -implicitDefEqProofs (maxSteps := 2000000) (disch := first | assumption | omega | (simp only [nx]; omega) | ((repeat refine Fresh.push ?_ _); assumption) | (simp only [smA]; done) | (simp [oneCell, AW.next_push]; done) | fail) only [go_sem, Nat.reduceEqDiff, reduceIte, Nat.reduceAdd, Int.toNat_natCast, Nat.add_zero, Owes_true, e1]; try rfl), by (simp -dsimp -implicitDefEqProofs (maxSteps := 2000000) (disch := first | assumption | omega | (simp only [nx]; omega) | ((repeat refine Fresh.push ?_ _); assumption) | (simp only [smA]; done) | (simp [oneCell, AW.next_push]; done) | fail) only [go_sem, Nat.reduceEqDiff, reduceIte, Nat.reduceAdd, Int.toNat_natCast, Nat.add_zero, Owes_true, e9]; try rfl), p9, n9, c9, ch ++ [ni], M', (by simp -dsimp -implicitDefEqProofs (maxSteps := 2000000) (disch := first | assumption | omega | (simp only [nx]; omega) | ((repeat refine Fresh.push ?_ _); assumption) | (simp only [smA]; done) | (simp [oneCell, AW.next_push]; done) | fail) only [go_sem, Nat.reduceEqDiff, reduceIte, Nat.reduceAdd, Int.toNat_natCast, Nat.add_zero, Owes_true, hsw]; try (congr 1; omega)), (by simp -dsimp -implicitDefEqProofs (maxSteps := 2000000) (disch := first | assumption | omega | (simp only [nx]; omega) | ((repeat refine Fresh.push ?_ _); assumption) | (simp only [smA]; done) | (simp [oneCell, AW.next_push]; done) | fail) only [go_sem, Nat.reduceEqDiff, reduceIte, Nat.reduceAdd, Int.toNat_natCast, Nat.add_zero, Owes_true]; try rfl), (by simp -dsimp -implicitDefEqProofs (maxSteps := 2000000) (disch := first | assumption | omega | (simp only [nx]; omega) | ((repeat refine Fresh.push ?_ _); assumption) | (simp only [smA]; done) | (simp [oneCell, AW.next_push]; done) | fail) only [go_sem, Nat.reduceEqDiff, reduceIte, Nat.reduceAdd, Int.toNat_natCast, Nat.add_zero, Owes_true]; try rfl), (by rw [List.length_append]; simp; omega), hcn, hstep, (by rw [toI_add, List.length_append, List.flatMap_append]; exact hR9), ⟨g34.1.trans hk9, hf9⟩⟩
  · have hged : decide (si + G ≥ sum - cs) = false := decide_eq_false hge
    rw [if_neg (by omega)] at hstep
    simp -dsimp -implicitDefEqProofs (maxSteps := 2000000) (disch := first | assumption | omega | (simp only [nx]; omega) | ((repeat refine Fresh.push ?_ _); assumption) | (simp only [smA]; done) | (simp [oneCell, AW.next_push]; done) | fail) only [go_sem, Nat.reduceEqDiff, reduceIte, Nat.reduceAdd, Int.toNat_natCast, Nat.add_zero, Owes_true, Tryz.results82, hle4, hged, e0, e1, e2, e7, e8, e9]
    refine ⟨_, by omega, i + 1, by omega, rfl, rfl, by (simp -dsimp -implicitDefEqProofs (maxSteps := 2000000) (disch := first | assumption | omega | (simp only [nx]; omega) | ((repeat refine Fresh.push ?_ _); assumption) | (simp only [smA]; done) | (simp [oneCell, AW.next_push]; done) | fail) only [go_sem, Nat.reduceEqDiff, reduceIte, Nat.reduceAdd, Int.toNat_natCast, Nat.add_zero, Owes_true, e0]; try rfl), by (simp -dsimp -implicitDefEqProofs (maxSteps := 2000000) (disch := first | assumption | omega | (simp only [nx]; omega) | ((repeat refine Fresh.push ?_ _); assumption) | (simp only [smA]; done) | (simp [oneCell, AW.next_push]; done) | fail) only [go_sem, Nat.reduceEqDiff, reduceIte, Nat.reduceAdd, Int.toNat_natCast, Nat.add_zero, Owes_true, e1]; try rfl), by (simp -dsimp -implicitDefEqProofs (maxSteps := 2000000) (disch := first | assumption | omega | (simp only [nx]; omega) | ((repeat refine Fresh.push ?_ _); assumption) | (simp only [smA]; done) | (simp [oneCell, AW.next_push]; done) | fail) only [go_sem, Nat.reduceEqDiff, reduceIte, Nat.reduceAdd, Int.toNat_natCast, Nat.add_zero, Owes_true, e9]; try rfl), p3, n3, c3, ch, M' + 1, (by simp -dsimp -implicitDefEqProofs (maxSteps := 2000000) (disch := first | assumption | omega | (simp only [nx]; omega) | ((repeat refine Fresh.push ?_ _); assumption) | (simp only [smA]; done) | (simp [oneCell, AW.next_push]; done) | fail) only [go_sem, Nat.reduceEqDiff, reduceIte, Nat.reduceAdd, Int.toNat_natCast, Nat.add_zero, Owes_true, e2, hcs]; try rfl), (by simp -dsimp -implicitDefEqProofs (maxSteps := 2000000) (disch := first | assumption | omega | (simp only [nx]; omega) | ((repeat refine Fresh.push ?_ _); assumption) | (simp only [smA]; done) | (simp [oneCell, AW.next_push]; done) | fail) only [go_sem, Nat.reduceEqDiff, reduceIte, Nat.reduceAdd, Int.toNat_natCast, Nat.add_zero, Owes_true, e7]; try rfl), (by simp -dsimp -implicitDefEqProofs (maxSteps := 2000000) (disch := first | assumption | omega | (simp only [nx]; omega) | ((repeat refine Fresh.push ?_ _); assumption) | (simp only [smA]; done) | (simp [oneCell, AW.next_push]; done) | fail) only [go_sem, Nat.reduceEqDiff, reduceIte, Nat.reduceAdd, Int.toNat_natCast, Nat.add_zero, Owes_true, e8]; try rfl), (by omega), hch, hstep, hR4, g34⟩
end Go.Proofs
