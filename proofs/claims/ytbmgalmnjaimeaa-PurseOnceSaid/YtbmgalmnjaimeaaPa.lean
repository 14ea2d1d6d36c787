/- Contracts of sums, weights, shares. -/
import Derived.Test.YtbmgalmnjaimeaaTb
import Derived.Test.YtbmgalmnjaimeaaSh
set_option linter.unusedVariables false
set_option linter.unusedSimpArgs false
namespace Go.Proofs
open Go Go.RowKit Go.Sim
set_option maxRecDepth 100000
theorem within_ok (n a b : Int) (w : AW) : CallT Try.prog Try.T1 (.fn (.func 65) #[]) #[.int .i64 n, .int .i64 a, .int .i64 b] w (Ret (.bool (inR a n b)) fun w' => w = w') := by
  refine callT_code rfl Try.func65 rfl Try.s65_eq rfl ?_
  unfold Try.s65
  by_cases h : a ≤ n
  all_goals
    simp -dsimp -implicitDefEqProofs (maxSteps := 2000000) (disch := first | assumption | omega | (simp only [nx]; omega) | ((repeat refine Fresh.push ?_ _); assumption) | (simp only [smA]; done) | (simp [oneCell, AW.next_push]; done) | fail) only [go_sem, Nat.reduceEqDiff, reduceIte, Nat.reduceAdd, Int.toNat_natCast, Nat.add_zero, Owes_true, Try.results65, h]
    exact ⟨by simp [inR, h], rfl⟩
theorem isAmount_ok (n : Int) (w : AW) : CallT Try.prog Try.T1 (.fn (.func 56) #[]) #[.int .i64 n] w (Ret (.bool (inR 0 n 67108864)) fun w' => w = w') := by
  refine callT_code rfl Try.func56 rfl Try.s56_eq rfl ?_
  unfold Try.s56
  simp -dsimp -implicitDefEqProofs (maxSteps := 2000000) (disch := first | assumption | omega | (simp only [nx]; omega) | ((repeat refine Fresh.push ?_ _); assumption) | (simp only [smA]; done) | (simp [oneCell, AW.next_push]; done) | fail) only [go_sem, Nat.reduceEqDiff, reduceIte, Nat.reduceAdd, Int.toNat_natCast, Nat.add_zero, Owes_true, Try.results56]
  apply callV_of (e := rfl)
  · exact within_ok _ _ _ _
  rintro _ _ ⟨rfl, rfl⟩
  simp -dsimp -implicitDefEqProofs (maxSteps := 2000000) (disch := first | assumption | omega | (simp only [nx]; omega) | ((repeat refine Fresh.push ?_ _); assumption) | (simp only [smA]; done) | (simp [oneCell, AW.next_push]; done) | fail) only [go_sem, Nat.reduceEqDiff, reduceIte, Nat.reduceAdd, Int.toNat_natCast, Nat.add_zero, Owes_true, Try.results56]
  exact ⟨rfl, rfl⟩
theorem isShared_ok (n : Int) (w : AW) : CallT Try.prog Try.T1 (.fn (.func 48) #[]) #[.int .i64 n] w (Ret (.bool (inR 0 n 34359738368)) fun w' => w = w') := by
  refine callT_code rfl Try.func48 rfl Try.s48_eq rfl ?_
  unfold Try.s48
  simp -dsimp -implicitDefEqProofs (maxSteps := 2000000) (disch := first | assumption | omega | (simp only [nx]; omega) | ((repeat refine Fresh.push ?_ _); assumption) | (simp only [smA]; done) | (simp [oneCell, AW.next_push]; done) | fail) only [go_sem, Nat.reduceEqDiff, reduceIte, Nat.reduceAdd, Int.toNat_natCast, Nat.add_zero, Owes_true, Try.results48]
  apply callV_of (e := rfl)
  · exact within_ok _ _ _ _
  rintro _ _ ⟨rfl, rfl⟩
  simp -dsimp -implicitDefEqProofs (maxSteps := 2000000) (disch := first | assumption | omega | (simp only [nx]; omega) | ((repeat refine Fresh.push ?_ _); assumption) | (simp only [smA]; done) | (simp [oneCell, AW.next_push]; done) | fail) only [go_sem, Nat.reduceEqDiff, reduceIte, Nat.reduceAdd, Int.toNat_natCast, Nat.add_zero, Owes_true, Try.results48]
  exact ⟨rfl, rfl⟩
def Small (l : List Int) : Prop := ∀ n, -4611686018427387904 ≤ (l.take n).sum ∧ (l.take n).sum ≤ 4611686018427387904
theorem small_of {l : List Int} {m : Int} (h : ∀ x ∈ l, 0 ≤ x ∧ x ≤ m) (hl : (l.length : Int) * m ≤ 4611686018427387904) : Small l := by
  intro n
  have key : ∀ l : List Int, (∀ x ∈ l, 0 ≤ x ∧ x ≤ m) → 0 ≤ l.sum ∧ l.sum ≤ (l.length : Int) * m := by
    intro l
    induction l with
    | nil => intro _; simp
    | cons x l ih =>
      intro h
      have a := ih fun y hy => h y (List.mem_cons_of_mem _ hy)
      have b := h x List.mem_cons_self
      rw [List.sum_cons, List.length_cons]
      have : (((l.length + 1 : Nat) : Int)) * m = (l.length : Int) * m + m := by rw [Int.natCast_add, Int.add_mul]; simp
      omega
  have a := key (l.take n) fun x hx => h x (List.mem_of_mem_take hx)
  have hm : (l.take n).length ≤ l.length := by rw [List.length_take]; omega
  by_cases h0 : l.length = 0
  · have : l = [] := List.length_eq_zero_iff.mp h0
    subst this; simp
  · have hm0 : 0 ≤ m := by
      have := h l[0] (List.getElem_mem (by omega)); omega
    have : ((l.take n).length : Int) * m ≤ (l.length : Int) * m := Int.mul_le_mul_of_nonneg_right (by omega) hm0
    omega
theorem small_nn {l : List Int} (h : NN l) (hs : l.sum ≤ 4611686018427387904) : Small l := by
  intro n
  have key : ∀ (n : Nat) (l : List Int), NN l → 0 ≤ (l.take n).sum ∧ (l.take n).sum ≤ l.sum := by
    intro n
    induction n with
    | zero => intro l h; have := sum_nn h; simp; exact this
    | succ n ih =>
      intro l h
      cases l with
      | nil => simp
      | cons x l =>
        have a := ih l fun i => h (i + 1)
        have b := h 0
        rw [W_zero] at b
        rw [List.take_succ_cons, List.sum_cons, List.sum_cons]; omega
  have := key n l h
  omega
theorem total_ok (l : List Int) (v : Value) (w : AW) (hs : ArrOf w 1 icells v l) (hl : Small l) : CallT Try.prog Try.T1 (.fn (.func 82) #[]) #[v] w (Ret (.int .i64 l.sum) fun w' => w = w') := by
  obtain ⟨p, cap, rfl, _, _, hat⟩ := hs.open
  refine callT_code rfl Try.func82 rfl Try.s82_eq rfl ?_
  unfold Try.s82
  simp -dsimp -implicitDefEqProofs (maxSteps := 2000000) (disch := first | assumption | omega | (simp only [nx]; omega) | ((repeat refine Fresh.push ?_ _); assumption) | (simp only [smA]; done) | (simp [oneCell, AW.next_push]; done) | fail) only [go_sem, Nat.reduceEqDiff, reduceIte, Nat.reduceAdd, Int.toNat_natCast, Nat.add_zero, Owes_true, Try.results82]
  refine loopR (fun k t ds w1 => ∃ i : Nat, i ≤ l.length ∧ k = l.length - i ∧ ds = [] ∧ ev t (.tmp 3) = .int .i64 (l.take i).sum ∧ ev t (.tmp 6) = .slice p l.length cap ∧ ev t (.tmp 7) = .int .i64 (l.length : Int) ∧ ev t (.tmp 8) = .int .i64 (i : Int) ∧ w = w1) (l.length) ?_ ?_
  · refine ⟨0, by omega, by omega, rfl, ?_, ?_, ?_, ?_, rfl⟩ <;> simp -dsimp -implicitDefEqProofs (maxSteps := 2000000) (disch := first | assumption | omega | (simp only [nx]; omega) | ((repeat refine Fresh.push ?_ _); assumption) | (simp only [smA]; done) | (simp [oneCell, AW.next_push]; done) | fail) only [go_sem, Nat.reduceEqDiff, reduceIte, Nat.reduceAdd, Int.toNat_natCast, Nat.add_zero, Owes_true] <;> rfl
  rintro k t ds w1 ⟨i, hii, rfl, rfl, e3, e6, e7, e8, hw⟩
  subst hw
  by_cases hlt : (i : Int) < (l.length : Int)
  case neg =>
    obtain rfl : i = l.length := by omega
    rw [List.take_of_length_le (Nat.le_refl _)] at e3
    simp -dsimp -implicitDefEqProofs (maxSteps := 2000000) (disch := first | assumption | omega | (simp only [nx]; omega) | ((repeat refine Fresh.push ?_ _); assumption) | (simp only [smA]; done) | (simp [oneCell, AW.next_push]; done) | fail) only [go_sem, Nat.reduceEqDiff, reduceIte, Nat.reduceAdd, Int.toNat_natCast, Nat.add_zero, Owes_true, Try.results82, e3, e6, e7, e8, hlt]
    exact ⟨rfl, rfl⟩
  have hlt' : i < l.length := by omega
  obtain ⟨b1, o1, rfl, hb1, hcell⟩ := hat i hlt'
  have a0 := hcell w (.refl _ _) 0 _ rfl
  rw [Nat.add_zero, ← W_at hlt'] at a0
  have hn := hl (i + 1)
  rw [take_sum hlt'] at hn
  have hnx := take_sum hlt'
  simp -dsimp -implicitDefEqProofs (maxSteps := 2000000) (disch := first | assumption | omega | (simp only [nx]; omega) | ((repeat refine Fresh.push ?_ _); assumption) | (simp only [smA]; done) | (simp [oneCell, AW.next_push]; done) | fail) only [go_sem, Nat.reduceEqDiff, reduceIte, Nat.reduceAdd, Int.toNat_natCast, Nat.add_zero, Owes_true, Try.results82, e3, e6, e7, e8, hlt, indexV_eq, a0]
  refine ⟨_, by omega, i + 1, by omega, rfl, rfl, by (simp -dsimp -implicitDefEqProofs (maxSteps := 2000000) (disch := first | assumption | omega | (simp only [nx]; omega) | ((repeat refine Fresh.push ?_ _); assumption) | (simp only [smA]; done) | (simp [oneCell, AW.next_push]; done) | fail) only [go_sem, Nat.reduceEqDiff, reduceIte, Nat.reduceAdd, Int.toNat_natCast, Nat.add_zero, Owes_true, e3, hnx]; try rfl), by (simp -dsimp -implicitDefEqProofs (maxSteps := 2000000) (disch := first | assumption | omega | (simp only [nx]; omega) | ((repeat refine Fresh.push ?_ _); assumption) | (simp only [smA]; done) | (simp [oneCell, AW.next_push]; done) | fail) only [go_sem, Nat.reduceEqDiff, reduceIte, Nat.reduceAdd, Int.toNat_natCast, Nat.add_zero, Owes_true, e6, hnx]; try rfl), by (simp -dsimp -implicitDefEqProofs (maxSteps := 2000000) (disch := first | assumption | omega | (simp only [nx]; omega) | ((repeat refine Fresh.push ?_ _); assumption) | (simp only [smA]; done) | (simp [oneCell, AW.next_push]; done) | fail) only [go_sem, Nat.reduceEqDiff, reduceIte, Nat.reduceAdd, Int.toNat_natCast, Nat.add_zero, Owes_true, e7, hnx]; try rfl), by (simp -dsimp -implicitDefEqProofs (maxSteps := 2000000) (disch := first | assumption | omega | (simp only [nx]; omega) | ((repeat refine Fresh.push ?_ _); assumption) | (simp only [smA]; done) | (simp [oneCell, AW.next_push]; done) | fail) only [go_sem, Nat.reduceEqDiff, reduceIte, Nat.reduceAdd, Int.toNat_natCast, Nat.add_zero, Owes_true, e8, hnx]; try rfl), rfl⟩
theorem Sum_ok (l : List Int) (v : Value) (w : AW) (hs : ArrOf w 1 icells v l) (hl : Small l) : CallT Try.prog Try.T1 (.fn (.func 35) #[]) #[v] w (Ret (.int .i64 l.sum) fun w' => w = w') := by
  obtain ⟨p, cap, rfl, _, _, hat⟩ := hs.open
  refine callT_code rfl Try.func35 rfl Try.s35_eq rfl ?_
  unfold Try.s35
  simp -dsimp -implicitDefEqProofs (maxSteps := 2000000) (disch := first | assumption | omega | (simp only [nx]; omega) | ((repeat refine Fresh.push ?_ _); assumption) | (simp only [smA]; done) | (simp [oneCell, AW.next_push]; done) | fail) only [go_sem, Nat.reduceEqDiff, reduceIte, Nat.reduceAdd, Int.toNat_natCast, Nat.add_zero, Owes_true, Try.results35]
  refine loopR (fun k t ds w1 => ∃ i : Nat, i ≤ l.length ∧ k = l.length - i ∧ ds = [] ∧ ev t (.tmp 0) = .slice p l.length cap ∧ ev t (.tmp 3) = .int .i64 (l.take i).sum ∧ ev t (.tmp 4) = .int .i64 (i : Int) ∧ w = w1) (l.length) ?_ ?_
  · refine ⟨0, by omega, by omega, rfl, ?_, ?_, ?_, rfl⟩ <;> simp -dsimp -implicitDefEqProofs (maxSteps := 2000000) (disch := first | assumption | omega | (simp only [nx]; omega) | ((repeat refine Fresh.push ?_ _); assumption) | (simp only [smA]; done) | (simp [oneCell, AW.next_push]; done) | fail) only [go_sem, Nat.reduceEqDiff, reduceIte, Nat.reduceAdd, Int.toNat_natCast, Nat.add_zero, Owes_true] <;> rfl
  rintro k t ds w1 ⟨i, hii, rfl, rfl, e0, e3, e4, hw⟩
  subst hw
  by_cases hlt : (i : Int) < (l.length : Int)
  case neg =>
    obtain rfl : i = l.length := by omega
    rw [List.take_of_length_le (Nat.le_refl _)] at e3
    simp -dsimp -implicitDefEqProofs (maxSteps := 2000000) (disch := first | assumption | omega | (simp only [nx]; omega) | ((repeat refine Fresh.push ?_ _); assumption) | (simp only [smA]; done) | (simp [oneCell, AW.next_push]; done) | fail) only [go_sem, Nat.reduceEqDiff, reduceIte, Nat.reduceAdd, Int.toNat_natCast, Nat.add_zero, Owes_true, Try.results35, e0, e3, e4, hlt]
    exact ⟨rfl, rfl⟩
  have hlt' : i < l.length := by omega
  obtain ⟨b1, o1, rfl, hb1, hcell⟩ := hat i hlt'
  have a0 := hcell w (.refl _ _) 0 _ rfl
  rw [Nat.add_zero, ← W_at hlt'] at a0
  have hn := hl (i + 1)
  rw [take_sum hlt'] at hn
  have hnx := take_sum hlt'
  simp -dsimp -implicitDefEqProofs (maxSteps := 2000000) (disch := first | assumption | omega | (simp only [nx]; omega) | ((repeat refine Fresh.push ?_ _); assumption) | (simp only [smA]; done) | (simp [oneCell, AW.next_push]; done) | fail) only [go_sem, Nat.reduceEqDiff, reduceIte, Nat.reduceAdd, Int.toNat_natCast, Nat.add_zero, Owes_true, Try.results35, e0, e3, e4, hlt, indexV_eq, a0]
  refine ⟨_, by omega, i + 1, by omega, rfl, rfl, by (simp -dsimp -implicitDefEqProofs (maxSteps := 2000000) (disch := first | assumption | omega | (simp only [nx]; omega) | ((repeat refine Fresh.push ?_ _); assumption) | (simp only [smA]; done) | (simp [oneCell, AW.next_push]; done) | fail) only [go_sem, Nat.reduceEqDiff, reduceIte, Nat.reduceAdd, Int.toNat_natCast, Nat.add_zero, Owes_true, e0, hnx]; try rfl), by (simp -dsimp -implicitDefEqProofs (maxSteps := 2000000) (disch := first | assumption | omega | (simp only [nx]; omega) | ((repeat refine Fresh.push ?_ _); assumption) | (simp only [smA]; done) | (simp [oneCell, AW.next_push]; done) | fail) only [go_sem, Nat.reduceEqDiff, reduceIte, Nat.reduceAdd, Int.toNat_natCast, Nat.add_zero, Owes_true, e3, hnx]; try rfl), by (simp -dsimp -implicitDefEqProofs (maxSteps := 2000000) (disch := first | assumption | omega | (simp only [nx]; omega) | ((repeat refine Fresh.push ?_ _); assumption) | (simp only [smA]; done) | (simp [oneCell, AW.next_push]; done) | fail) only [go_sem, Nat.reduceEqDiff, reduceIte, Nat.reduceAdd, Int.toNat_natCast, Nat.add_zero, Owes_true, e4, hnx]; try rfl), rfl⟩
end Go.Proofs

namespace Go.Proofs
open Go Go.RowKit Go.Sim
set_option maxRecDepth 100000
def nint (k : Nat) : Int := (k : Int)
def Fits (w : AW) (fn : Fn) (first cap : Array Value) (n : Nat) (x : Nat → Value) (q : Nat → Bool) : Prop := ∀ w1, Grown w w1 → ∀ i, i < n → CallT Try.prog Try.T1 (.fn fn cap) (first.toList ++ [x i]).toArray w1 (Ret (.bool (q i)) (Grown w1))
set_option maxHeartbeats 1000000 in
theorem places_ok (xs : List Int) (v : Value) (fn : Fn) (first cap : Array Value) (q : Nat → Bool) (w : AW) (f : Fresh w) (hs : ArrOf w 1 icells v xs) (hl : xs.length ≤ 1000) (hf : Fits w fn first cap xs.length (fun i => .int .i64 (W xs i)) q) :
    CallT Try.prog Try.T1 (.fn (.func 114) #[]) #[v, .func fn first cap] w (fun r w' => ArrOf w' 1 icells r ((pick q xs.length).map nint) ∧ Grown w w') := by
  obtain ⟨p, c, rfl, _, _, hat⟩ := hs.open
  refine callT_code rfl Try.func114 rfl Try.s114_eq rfl ?_
  unfold Try.s114
  simp -dsimp -implicitDefEqProofs (maxSteps := 2000000) (disch := first | assumption | omega | (simp only [nx]; omega) | ((repeat refine Fresh.push ?_ _); assumption) | (simp only [smA]; done) | (simp [oneCell, AW.next_push]; done) | fail) only [go_sem, Nat.reduceEqDiff, reduceIte, Nat.reduceAdd, Int.toNat_natCast, Nat.add_zero, Owes_true, Try.results114]
  refine loopR (fun k t ds w1 => ∃ i : Nat, i ≤ xs.length ∧ k = xs.length - i ∧ ds = [] ∧ ev t (.tmp 1) = .func fn first cap ∧ ev t (.tmp 8) = .slice p xs.length c ∧ ev t (.tmp 9) = .int .i64 (xs.length : Int) ∧ ev t (.tmp 10) = .int .i64 (i : Int) ∧ (∃ u, ev t (.tmp 5) = u ∧ AOwn w.next w1 3 1 u ((pick q i).map nint).length (((pick q i).map nint).flatMap icells)) ∧ Grown w w1) (xs.length) ?_ ?_
  · refine ⟨0, by omega, by omega, rfl, ?_, ?_, ?_, ?_, ⟨_, (by simp -dsimp -implicitDefEqProofs (maxSteps := 2000000) (disch := first | assumption | omega | (simp only [nx]; omega) | ((repeat refine Fresh.push ?_ _); assumption) | (simp only [smA]; done) | (simp [oneCell, AW.next_push]; done) | fail) only [go_sem, Nat.reduceEqDiff, reduceIte, Nat.reduceAdd, Int.toNat_natCast, Nat.add_zero, Owes_true]; try rfl), .inl ⟨rfl, rfl, rfl⟩⟩, Grown.refl f⟩ <;> simp -dsimp -implicitDefEqProofs (maxSteps := 2000000) (disch := first | assumption | omega | (simp only [nx]; omega) | ((repeat refine Fresh.push ?_ _); assumption) | (simp only [smA]; done) | (simp [oneCell, AW.next_push]; done) | fail) only [go_sem, Nat.reduceEqDiff, reduceIte, Nat.reduceAdd, Int.toNat_natCast, Nat.add_zero, Owes_true] <;> rfl
  rintro k t ds w1 ⟨i, hii, rfl, rfl, e1, e8, e9, e10, hA, hg⟩
  obtain ⟨u, e5, hA⟩ := hA
  have hpl : ((pick q i).map nint).length ≤ i := by rw [List.length_map, pick]; exact Nat.le_trans (List.length_filter_le _ _) (by simp)
  by_cases hlt : (i : Int) < (xs.length : Int)
  case neg =>
    obtain rfl : i = xs.length := by omega
    simp -dsimp -implicitDefEqProofs (maxSteps := 2000000) (disch := first | assumption | omega | (simp only [nx]; omega) | ((repeat refine Fresh.push ?_ _); assumption) | (simp only [smA]; done) | (simp [oneCell, AW.next_push]; done) | fail) only [go_sem, Nat.reduceEqDiff, reduceIte, Nat.reduceAdd, Int.toNat_natCast, Nat.add_zero, Owes_true, Try.results114, e1, e5, e8, e9, e10, hlt]
    exact ⟨hA.arr icells_len (by omega), hg⟩
  have hlt' : i < xs.length := by omega
  obtain ⟨b1, o1, rfl, hb1, hcell⟩ := hat i hlt'
  have a0 := hcell _ hg.1 0 _ rfl
  rw [Nat.add_zero, ← W_at hlt'] at a0
  simp -dsimp -implicitDefEqProofs (maxSteps := 2000000) (disch := first | assumption | omega | (simp only [nx]; omega) | ((repeat refine Fresh.push ?_ _); assumption) | (simp only [smA]; done) | (simp [oneCell, AW.next_push]; done) | fail) only [go_sem, Nat.reduceEqDiff, reduceIte, Nat.reduceAdd, Int.toNat_natCast, Nat.add_zero, Owes_true, Try.results114, e1, e5, e8, e9, e10, hlt, indexV_eq, a0]
  apply callV_of (e := rfl)
  · exact hf w1 hg i hlt'
  rintro _ w2 ⟨rfl, hg2⟩
  have g2 := hg.trans hg2
  have hA2 := hA.keep hg2.1 (Nat.le_refl _)
  have hps := pick_succ q i
  cases hq : q i with
  | false =>
    have hnx : (pick q (i + 1)).map nint = (pick q i).map nint := by rw [hps, hq]; simp
    simp -dsimp -implicitDefEqProofs (maxSteps := 2000000) (disch := first | assumption | omega | (simp only [nx]; omega) | ((repeat refine Fresh.push ?_ _); assumption) | (simp only [smA]; done) | (simp [oneCell, AW.next_push]; done) | fail) only [go_sem, Nat.reduceEqDiff, reduceIte, Nat.reduceAdd, Int.toNat_natCast, Nat.add_zero, Owes_true, Try.results114, e1, e5, e8, e9, e10]
    refine ⟨_, by omega, i + 1, by omega, rfl, rfl, by (simp -dsimp -implicitDefEqProofs (maxSteps := 2000000) (disch := first | assumption | omega | (simp only [nx]; omega) | ((repeat refine Fresh.push ?_ _); assumption) | (simp only [smA]; done) | (simp [oneCell, AW.next_push]; done) | fail) only [go_sem, Nat.reduceEqDiff, reduceIte, Nat.reduceAdd, Int.toNat_natCast, Nat.add_zero, Owes_true, e1]; try rfl), by (simp -dsimp -implicitDefEqProofs (maxSteps := 2000000) (disch := first | assumption | omega | (simp only [nx]; omega) | ((repeat refine Fresh.push ?_ _); assumption) | (simp only [smA]; done) | (simp [oneCell, AW.next_push]; done) | fail) only [go_sem, Nat.reduceEqDiff, reduceIte, Nat.reduceAdd, Int.toNat_natCast, Nat.add_zero, Owes_true, e8]; try rfl), by (simp -dsimp -implicitDefEqProofs (maxSteps := 2000000) (disch := first | assumption | omega | (simp only [nx]; omega) | ((repeat refine Fresh.push ?_ _); assumption) | (simp only [smA]; done) | (simp [oneCell, AW.next_push]; done) | fail) only [go_sem, Nat.reduceEqDiff, reduceIte, Nat.reduceAdd, Int.toNat_natCast, Nat.add_zero, Owes_true, e9]; try rfl), by (simp -dsimp -implicitDefEqProofs (maxSteps := 2000000) (disch := first | assumption | omega | (simp only [nx]; omega) | ((repeat refine Fresh.push ?_ _); assumption) | (simp only [smA]; done) | (simp [oneCell, AW.next_push]; done) | fail) only [go_sem, Nat.reduceEqDiff, reduceIte, Nat.reduceAdd, Int.toNat_natCast, Nat.add_zero, Owes_true, e10]; try rfl), ⟨u, (by simp -dsimp -implicitDefEqProofs (maxSteps := 2000000) (disch := first | assumption | omega | (simp only [nx]; omega) | ((repeat refine Fresh.push ?_ _); assumption) | (simp only [smA]; done) | (simp [oneCell, AW.next_push]; done) | fail) only [go_sem, Nat.reduceEqDiff, reduceIte, Nat.reduceAdd, Int.toNat_natCast, Nat.add_zero, Owes_true, e5]), (by rw [hnx]; exact hA2)⟩, g2⟩
  | true =>
    have hnx : (pick q (i + 1)).map nint = (pick q i).map nint ++ [(i : Int)] := by rw [hps, hq, List.map_append]; rfl
    have hn2 := g2.1.next
    obtain ⟨u', w3, happ, hA3, hk3, hf3, _, _⟩ := append_one (e' := 3) Try.ty22 Try.ty3 rfl (by omega) (by omega) hA2 g2.2 hn2 (icells_len (i : Int)) (icells_one _) (by omega)
    simp only [icells] at happ
    simp -dsimp -implicitDefEqProofs (maxSteps := 2000000) (disch := first | assumption | omega | (simp only [nx]; omega) | ((repeat refine Fresh.push ?_ _); assumption) | (simp only [smA]; done) | (simp [oneCell, AW.next_push]; done) | fail) only [go_sem, Nat.reduceEqDiff, reduceIte, Nat.reduceAdd, Int.toNat_natCast, Nat.add_zero, Owes_true, Try.results114, e1, e5, e8, e9, e10, happ]
    refine ⟨_, by omega, i + 1, by omega, rfl, rfl, by (simp -dsimp -implicitDefEqProofs (maxSteps := 2000000) (disch := first | assumption | omega | (simp only [nx]; omega) | ((repeat refine Fresh.push ?_ _); assumption) | (simp only [smA]; done) | (simp [oneCell, AW.next_push]; done) | fail) only [go_sem, Nat.reduceEqDiff, reduceIte, Nat.reduceAdd, Int.toNat_natCast, Nat.add_zero, Owes_true, e1]; try rfl), by (simp -dsimp -implicitDefEqProofs (maxSteps := 2000000) (disch := first | assumption | omega | (simp only [nx]; omega) | ((repeat refine Fresh.push ?_ _); assumption) | (simp only [smA]; done) | (simp [oneCell, AW.next_push]; done) | fail) only [go_sem, Nat.reduceEqDiff, reduceIte, Nat.reduceAdd, Int.toNat_natCast, Nat.add_zero, Owes_true, e8]; try rfl), by (simp -dsimp -implicitDefEqProofs (maxSteps := 2000000) (disch := first | assumption | omega | (simp only [nx]; omega) | ((repeat refine Fresh.push ?_ _); assumption) | (simp only [smA]; done) | (simp [oneCell, AW.next_push]; done) | fail) only [go_sem, Nat.reduceEqDiff, reduceIte, Nat.reduceAdd, Int.toNat_natCast, Nat.add_zero, Owes_true, e9]; try rfl), by (simp -dsimp -implicitDefEqProofs (maxSteps := 2000000) (disch := first | assumption | omega | (simp only [nx]; omega) | ((repeat refine Fresh.push ?_ _); assumption) | (simp only [smA]; done) | (simp [oneCell, AW.next_push]; done) | fail) only [go_sem, Nat.reduceEqDiff, reduceIte, Nat.reduceAdd, Int.toNat_natCast, Nat.add_zero, Owes_true, e10]; try rfl), ⟨u', (by simp -dsimp -implicitDefEqProofs (maxSteps := 2000000) (disch := first | assumption | omega | (simp only [nx]; omega) | ((repeat refine Fresh.push ?_ _); assumption) | (simp only [smA]; done) | (simp [oneCell, AW.next_push]; done) | fail) only [go_sem, Nat.reduceEqDiff, reduceIte, Nat.reduceAdd, Int.toNat_natCast, Nat.add_zero, Owes_true]), (by rw [hnx, List.length_append, List.flatMap_append]; exact hA3)⟩, ⟨g2.1.trans hk3, hf3⟩⟩
def Makes (w : AW) (fn : Fn) (first cap : Array Value) (xs : List Int) (g : Int → Int) : Prop := ∀ w1, Grown w w1 → ∀ x ∈ xs, CallT Try.prog Try.T1 (.fn fn cap) (first.toList ++ [Value.int .i64 x]).toArray w1 (Ret (.int .i64 (g x)) fun w2 => w1 = w2)
set_option maxHeartbeats 1000000 in
theorem each_ok (xs : List Int) (v : Value) (fn : Fn) (first cap : Array Value) (g : Int → Int) (w : AW) (f : Fresh w) (hs : ArrOf w 1 icells v xs) (hl : xs.length ≤ 1000) (hf : Makes w fn first cap xs g) :
    CallT Try.prog Try.T1 (.fn (.func 86) #[]) #[v, .func fn first cap] w (fun r w' => ∃ b, r = .slice (some ⟨b, 0, none⟩) xs.length xs.length ∧ w.next ≤ b ∧ Own w' b 3 ((xs.map g).flatMap icells) ∧ Grown w w') := by
  obtain ⟨p, c, rfl, _, _, hat⟩ := hs.open
  have hmk := makeSliceV_room (g := prg Try.prog) (w := w) (q := .i64) (q' := .i64) (n := xs.length) Try.ty22 Try.ty3 (by omega) (by omega) (by omega) rfl
  have hfl : (List.replicate xs.length (Value.int .i64 0).cells.toList).flatten = (List.replicate xs.length (0 : Int)).flatMap icells := by rw [← flat_rep]; rfl
  rw [hfl] at hmk
  refine callT_code rfl Try.func86 rfl Try.s86_eq rfl ?_
  unfold Try.s86
  simp -dsimp -implicitDefEqProofs (maxSteps := 2000000) (disch := first | assumption | omega | (simp only [nx]; omega) | ((repeat refine Fresh.push ?_ _); assumption) | (simp only [smA]; done) | (simp [oneCell, AW.next_push]; done) | fail) only [go_sem, Nat.reduceEqDiff, reduceIte, Nat.reduceAdd, Int.toNat_natCast, Nat.add_zero, Owes_true, Try.results86, hmk]
  refine loopR (fun k t ds w1 => ∃ i : Nat, i ≤ xs.length ∧ k = xs.length - i ∧ ds = [] ∧ ev t (.tmp 1) = .func fn first cap ∧ ev t (.tmp 5) = .slice (some ⟨w.next, 0, none⟩) i xs.length ∧ ev t (.tmp 11) = .slice p xs.length c ∧ ev t (.tmp 12) = .int .i64 (xs.length : Int) ∧ ev t (.tmp 13) = .int .i64 (i : Int) ∧ Own w1 w.next 3 (((xs.take i).map g ++ List.replicate (xs.length - i) 0).flatMap icells) ∧ Grown w w1) (xs.length) ?_ ?_
  · refine ⟨0, by omega, by omega, rfl, ?_, ?_, ?_, ?_, ?_, Own.new f _ _, (Grown.refl f).push _⟩ <;> simp -dsimp -implicitDefEqProofs (maxSteps := 2000000) (disch := first | assumption | omega | (simp only [nx]; omega) | ((repeat refine Fresh.push ?_ _); assumption) | (simp only [smA]; done) | (simp [oneCell, AW.next_push]; done) | fail) only [go_sem, Nat.reduceEqDiff, reduceIte, Nat.reduceAdd, Int.toNat_natCast, Nat.add_zero, Owes_true] <;> rfl
  rintro k t ds w1 ⟨i, hii, rfl, rfl, e1, e5, e11, e12, e13, hO, hg⟩
  by_cases hlt : (i : Int) < (xs.length : Int)
  case neg =>
    obtain rfl : i = xs.length := by omega
    rw [List.take_of_length_le (Nat.le_refl _), Nat.sub_self, List.replicate_zero, List.append_nil] at hO
    simp -dsimp -implicitDefEqProofs (maxSteps := 2000000) (disch := first | assumption | omega | (simp only [nx]; omega) | ((repeat refine Fresh.push ?_ _); assumption) | (simp only [smA]; done) | (simp [oneCell, AW.next_push]; done) | fail) only [go_sem, Nat.reduceEqDiff, reduceIte, Nat.reduceAdd, Int.toNat_natCast, Nat.add_zero, Owes_true, Try.results86, e1, e5, e11, e12, e13, hlt]
    exact ⟨_, rfl, Nat.le_refl _, hO, hg⟩
  have hlt' : i < xs.length := by omega
  obtain ⟨b1, o1, rfl, hb1, hcell⟩ := hat i hlt'
  have a0 := hcell _ hg.1 0 _ rfl
  rw [Nat.add_zero] at a0
  simp -dsimp -implicitDefEqProofs (maxSteps := 2000000) (disch := first | assumption | omega | (simp only [nx]; omega) | ((repeat refine Fresh.push ?_ _); assumption) | (simp only [smA]; done) | (simp [oneCell, AW.next_push]; done) | fail) only [go_sem, Nat.reduceEqDiff, reduceIte, Nat.reduceAdd, Int.toNat_natCast, Nat.add_zero, Owes_true, Try.results86, e1, e5, e11, e12, e13, hlt, indexV_eq, a0]
  apply callV_of (e := rfl)
  · exact hf w1 hg xs[i] (List.getElem_mem hlt')
  rintro _ _ ⟨rfl, rfl⟩
  have hlen : (((xs.take i).map g ++ List.replicate (xs.length - i) 0).flatMap icells).length = xs.length := by
    rw [icells_flat_len]; simp; omega
  have happ := append_in (e' := 3) Try.ty22 Try.ty3 rfl (by omega) hO hg.2 hlt' hlen (by omega) (g xs[i])
  have hset : ((xs.take i).map g ++ List.replicate (xs.length - i) 0).set i (g xs[i]) = (xs.take (i + 1)).map g ++ List.replicate (xs.length - (i + 1)) 0 := by
    rw [List.take_succ_eq_append_getElem hlt', List.map_append, List.set_append_right _ _ (by rw [List.length_map, List.length_take]; omega)]
    have : (List.map g (List.take i xs)).length = i := by simp; omega
    rw [this, Nat.sub_self, show xs.length - i = (xs.length - (i + 1)) + 1 from by omega, List.replicate_succ, List.set_cons_zero]
    simp
  rw [setL_ic, hset] at happ
  have hO1 := hO.push (.cells [.int .i64 (g xs[i])] 3 w1.next 0 0)
  simp -dsimp -implicitDefEqProofs (maxSteps := 2000000) (disch := first | assumption | omega | (simp only [nx]; omega) | ((repeat refine Fresh.push ?_ _); assumption) | (simp only [smA]; done) | (simp [oneCell, AW.next_push]; done) | fail) only [go_sem, Nat.reduceEqDiff, reduceIte, Nat.reduceAdd, Int.toNat_natCast, Nat.add_zero, Owes_true, Try.results86, e1, e5, e11, e12, e13, happ]
  refine ⟨_, by omega, i + 1, by omega, rfl, rfl, by (simp -dsimp -implicitDefEqProofs (maxSteps := 2000000) (disch := first | assumption | omega | (simp only [nx]; omega) | ((repeat refine Fresh.push ?_ _); assumption) | (simp only [smA]; done) | (simp [oneCell, AW.next_push]; done) | fail) only [go_sem, Nat.reduceEqDiff, reduceIte, Nat.reduceAdd, Int.toNat_natCast, Nat.add_zero, Owes_true, e1]; try rfl), by (simp -dsimp -implicitDefEqProofs (maxSteps := 2000000) (disch := first | assumption | omega | (simp only [nx]; omega) | ((repeat refine Fresh.push ?_ _); assumption) | (simp only [smA]; done) | (simp [oneCell, AW.next_push]; done) | fail) only [go_sem, Nat.reduceEqDiff, reduceIte, Nat.reduceAdd, Int.toNat_natCast, Nat.add_zero, Owes_true, e5]; try rfl), by (simp -dsimp -implicitDefEqProofs (maxSteps := 2000000) (disch := first | assumption | omega | (simp only [nx]; omega) | ((repeat refine Fresh.push ?_ _); assumption) | (simp only [smA]; done) | (simp [oneCell, AW.next_push]; done) | fail) only [go_sem, Nat.reduceEqDiff, reduceIte, Nat.reduceAdd, Int.toNat_natCast, Nat.add_zero, Owes_true, e11]; try rfl), by (simp -dsimp -implicitDefEqProofs (maxSteps := 2000000) (disch := first | assumption | omega | (simp only [nx]; omega) | ((repeat refine Fresh.push ?_ _); assumption) | (simp only [smA]; done) | (simp [oneCell, AW.next_push]; done) | fail) only [go_sem, Nat.reduceEqDiff, reduceIte, Nat.reduceAdd, Int.toNat_natCast, Nat.add_zero, Owes_true, e12]; try rfl), by (simp -dsimp -implicitDefEqProofs (maxSteps := 2000000) (disch := first | assumption | omega | (simp only [nx]; omega) | ((repeat refine Fresh.push ?_ _); assumption) | (simp only [smA]; done) | (simp [oneCell, AW.next_push]; done) | fail) only [go_sem, Nat.reduceEqDiff, reduceIte, Nat.reduceAdd, Int.toNat_natCast, Nat.add_zero, Owes_true, e13]; try rfl), hO1.put _, ⟨(hg.push _).1.put (Nat.le_refl _) _, (hg.push _).2.put hO1.lt _⟩⟩
theorem all_ok (xs : List Int) (v : Value) (fn : Fn) (first cap : Array Value) (q : Nat → Bool) (w : AW) (f : Fresh w) (hs : ArrOf w 1 icells v xs) (hl : xs.length ≤ 1000) (hf : Fits w fn first cap xs.length (fun i => .int .i64 (W xs i)) q) :
    CallT Try.prog Try.T1 (.fn (.func 85) #[]) #[v, .func fn first cap] w (Ret (.bool ((List.range xs.length).all q)) (Grown w)) := by
  obtain ⟨p, c, rfl, _⟩ := id hs.open
  refine callT_code rfl Try.func85 rfl Try.s85_eq rfl ?_
  unfold Try.s85
  simp -dsimp -implicitDefEqProofs (maxSteps := 2000000) (disch := first | assumption | omega | (simp only [nx]; omega) | ((repeat refine Fresh.push ?_ _); assumption) | (simp only [smA]; done) | (simp [oneCell, AW.next_push]; done) | fail) only [go_sem, Nat.reduceEqDiff, reduceIte, Nat.reduceAdd, Int.toNat_natCast, Nat.add_zero, Owes_true, Try.results85]
  apply callV_of (e := rfl)
  · exact places_ok xs _ fn first cap q w f hs hl hf
  rintro r w1 ⟨hA, g1⟩
  obtain ⟨p1, c1, rfl, _⟩ := hA.open
  have : decide ((((pick q xs.length).map nint).length : Int) = (xs.length : Int)) = (List.range xs.length).all q := by
    rw [List.length_map, Bool.eq_iff_iff, decide_eq_true_eq, pick, List.all_eq_true]
    have hh : ((List.range xs.length).filter q).length = xs.length ↔ ((List.range xs.length).filter q).length = (List.range xs.length).length := by rw [List.length_range]
    rw [show ((((List.range xs.length).filter q).length : Int) = (xs.length : Int)) ↔ ((List.range xs.length).filter q).length = xs.length from by omega, hh, List.length_filter_eq_length_iff]
  simp -dsimp -implicitDefEqProofs (maxSteps := 2000000) (disch := first | assumption | omega | (simp only [nx]; omega) | ((repeat refine Fresh.push ?_ _); assumption) | (simp only [smA]; done) | (simp [oneCell, AW.next_push]; done) | fail) only [go_sem, Nat.reduceEqDiff, reduceIte, Nat.reduceAdd, Int.toNat_natCast, Nat.add_zero, Owes_true, Try.results85]
  exact ⟨by rw [← this], g1⟩
def wgtB (l : List Int) : Bool := inR 1 (l.length : Int) 24 && ((List.range l.length).all fun i => inR 0 (W l i) 67108864) && decide (0 < l.sum)
structure WIn (l : List Int) : Prop where
  len : 1 ≤ l.length ∧ l.length ≤ 24
  val : ∀ i, 0 ≤ W l i ∧ W l i ≤ 67108864
  sum : 0 < l.sum ∧ l.sum ≤ 1610612736
theorem wvals {l : List Int} (h : ((List.range l.length).all fun i => inR 0 (W l i) 67108864) = true) : ∀ i, 0 ≤ W l i ∧ W l i ≤ 67108864 := by
  intro i
  rcases Nat.lt_or_ge i l.length with q | q
  · rw [List.all_eq_true] at h
    have := h i (by simpa using q)
    rw [inR_iff] at this; exact this
  · rw [W_out q]; omega
theorem small_w {l : List Int} (hl : l.length ≤ 24) (h : ∀ i, 0 ≤ W l i ∧ W l i ≤ 67108864) : Small l ∧ l.sum ≤ 1610612736 := by
  have hm : ∀ x ∈ l, 0 ≤ x ∧ x ≤ 67108864 := fun x hx => by
    obtain ⟨i, hi, rfl⟩ := List.getElem_of_mem hx
    have := h i
    rwa [W_at hi] at this
  refine ⟨small_of hm (by omega), ?_⟩
  have := sum_le (l := l) (m := List.replicate l.length 67108864) (by simp) fun i hi => by
    rw [W_at (l := List.replicate _ _) (by simpa using hi), List.getElem_replicate]; exact (h i).2
  have e : ∀ n : Nat, (List.replicate n (67108864 : Int)).sum = (n : Int) * 67108864 := by
    intro n
    induction n with
    | zero => simp
    | succ n ih => rw [List.replicate_succ, List.sum_cons, ih]; omega
  rw [e] at this
  omega
theorem wgt_in {l : List Int} (h : wgtB l = true) : WIn l := by
  simp only [wgtB, Bool.and_eq_true, inR_iff, decide_eq_true_eq] at h
  obtain ⟨⟨h1, h2⟩, h3⟩ := h
  have hv := wvals h2
  exact ⟨by omega, hv, h3, (small_w (by omega) hv).2⟩
theorem WIn.nn {l : List Int} (h : WIn l) : NN l := fun i => (h.val i).1
set_option maxHeartbeats 1000000 in
theorem areWeights_ok (l : List Int) (v : Value) (w : AW) (f : Fresh w) (hs : ArrOf w 1 icells v l) : CallT Try.prog Try.T1 (.fn (.func 47) #[]) #[v] w (Ret (.bool (wgtB l)) (Grown w)) := by
  obtain ⟨p, c, rfl, _⟩ := id hs.open
  refine callT_code rfl Try.func47 rfl Try.s47_eq rfl ?_
  unfold Try.s47
  simp -dsimp -implicitDefEqProofs (maxSteps := 2000000) (disch := first | assumption | omega | (simp only [nx]; omega) | ((repeat refine Fresh.push ?_ _); assumption) | (simp only [smA]; done) | (simp [oneCell, AW.next_push]; done) | fail) only [go_sem, Nat.reduceEqDiff, reduceIte, Nat.reduceAdd, Int.toNat_natCast, Nat.add_zero, Owes_true, Try.results47]
  apply callV_of (e := rfl)
  · exact within_ok _ _ _ _
  rintro _ _ ⟨rfl, rfl⟩
  cases h1 : inR 1 (l.length : Int) 24 with
  | false =>
    simp -dsimp -implicitDefEqProofs (maxSteps := 2000000) (disch := first | assumption | omega | (simp only [nx]; omega) | ((repeat refine Fresh.push ?_ _); assumption) | (simp only [smA]; done) | (simp [oneCell, AW.next_push]; done) | fail) only [go_sem, Nat.reduceEqDiff, reduceIte, Nat.reduceAdd, Int.toNat_natCast, Nat.add_zero, Owes_true, Try.results47]
    exact ⟨by rw [wgtB, h1]; rfl, Grown.refl f⟩
  | true =>
  have hl := (inR_iff _ _ _).1 h1
  simp -dsimp -implicitDefEqProofs (maxSteps := 2000000) (disch := first | assumption | omega | (simp only [nx]; omega) | ((repeat refine Fresh.push ?_ _); assumption) | (simp only [smA]; done) | (simp [oneCell, AW.next_push]; done) | fail) only [go_sem, Nat.reduceEqDiff, reduceIte, Nat.reduceAdd, Int.toNat_natCast, Nat.add_zero, Owes_true, Try.results47]
  apply callV_of (e := rfl)
  · exact all_ok l _ (.func 56) #[] #[] (fun i => inR 0 (W l i) 67108864) w f hs (by omega) (fun w1 hg i _ => (isAmount_ok _ w1).mono fun v w' h => ⟨h.1, by rw [← h.2]; exact Grown.refl hg.2⟩)
  rintro _ w1 ⟨rfl, g1⟩
  cases h2 : ((List.range l.length).all fun i => inR 0 (W l i) 67108864) with
  | false =>
    simp -dsimp -implicitDefEqProofs (maxSteps := 2000000) (disch := first | assumption | omega | (simp only [nx]; omega) | ((repeat refine Fresh.push ?_ _); assumption) | (simp only [smA]; done) | (simp [oneCell, AW.next_push]; done) | fail) only [go_sem, Nat.reduceEqDiff, reduceIte, Nat.reduceAdd, Int.toNat_natCast, Nat.add_zero, Owes_true, Try.results47]
    exact ⟨by rw [wgtB, h2, Bool.and_false]; rfl, g1⟩
  | true =>
  have hv := wvals h2
  have hsm := small_w (by omega) hv
  simp -dsimp -implicitDefEqProofs (maxSteps := 2000000) (disch := first | assumption | omega | (simp only [nx]; omega) | ((repeat refine Fresh.push ?_ _); assumption) | (simp only [smA]; done) | (simp [oneCell, AW.next_push]; done) | fail) only [go_sem, Nat.reduceEqDiff, reduceIte, Nat.reduceAdd, Int.toNat_natCast, Nat.add_zero, Owes_true, Try.results47]
  apply callV_of (e := rfl)
  · exact total_ok l _ w1 (hs.grown g1) hsm.1
  rintro _ _ ⟨rfl, rfl⟩
  simp -dsimp -implicitDefEqProofs (maxSteps := 2000000) (disch := first | assumption | omega | (simp only [nx]; omega) | ((repeat refine Fresh.push ?_ _); assumption) | (simp only [smA]; done) | (simp [oneCell, AW.next_push]; done) | fail) only [go_sem, Nat.reduceEqDiff, reduceIte, Nat.reduceAdd, Int.toNat_natCast, Nat.add_zero, Owes_true, Try.results47]
  refine ⟨?_, g1⟩
  rw [wgtB, h1, h2]; rfl
end Go.Proofs

namespace Go.Proofs
open Go Go.RowKit Go.Sim
set_option maxRecDepth 100000
theorem same_fn2 (f b c : Nat) : same 12 (.func (.func f) #[] #[.pointer (some ⟨b, 0, none⟩), .pointer (some ⟨c, 0, none⟩)]) (.func (.func f) #[] #[.pointer (some ⟨b, 0, none⟩), .pointer (some ⟨c, 0, none⟩)]) = true := by simp [same, same.all]
theorem mul_bd {a b A B : Int} (h0 : 0 ≤ a) (h1 : a ≤ A) (h2 : 0 ≤ b) (h3 : b ≤ B) : 0 ≤ a * b ∧ a * b ≤ A * B := ⟨Int.mul_nonneg h0 h2, Int.mul_le_mul h1 h3 h2 (by omega)⟩
def SIn (L : List Int) : Prop := ∀ i, 0 ≤ W L i ∧ W L i ≤ 34359738368
set_option maxHeartbeats 4000000 in
theorem next_ok (ws L : List Int) (v : Value) (b2 b6 bs : Nat) (w : AW) (f : Fresh w) (hs : ArrOf w 1 icells v ws) (hW : WIn ws) (hS : SIn L) (hlen : L.length = ws.length)
    (hO2 : Own w b2 22 [v]) (hO6 : Own w b6 22 [.slice (some ⟨bs, 0, none⟩) ws.length ws.length]) (hO : Own w bs 3 (L.flatMap icells)) :
    CallT Try.prog Try.T1 (.fn (.func 88) #[.pointer (some ⟨b2, 0, none⟩), .pointer (some ⟨b6, 0, none⟩)]) #[] w (fun r w' => w = w' ∧ ∃ b : Nat, r = .int .i64 (b : Int) ∧ IsNext ws L ws.length b) := by
  obtain ⟨p, cap, rfl, _, _, hat⟩ := hs.open
  have hlw := hW.len
  have hvs : oneCell (.slice p ws.length cap) = true := rfl
  have c0 := hO2.cell (o := 0) rfl hvs
  have d0 := hO6.cell (o := 0) rfl rfl
  refine callT_code rfl Try.func88 rfl Try.s88_eq rfl ?_
  unfold Try.s88
  simp -dsimp -implicitDefEqProofs (maxSteps := 2000000) (disch := first | assumption | omega | (simp only [nx]; omega) | ((repeat refine Fresh.push ?_ _); assumption) | (simp only [smA]; done) | (simp [oneCell, AW.next_push]; done) | fail) only [go_sem, Nat.reduceEqDiff, reduceIte, Nat.reduceAdd, Int.toNat_natCast, Nat.add_zero, Owes_true, Try.results88, c0]
  refine loopR (fun k t ds w1 => ∃ i : Nat, i ≤ ws.length ∧ k = ws.length - i ∧ ds = [] ∧ ev t (.tmp 0) = .pointer (some ⟨b2, 0, none⟩) ∧ ev t (.tmp 1) = .pointer (some ⟨b6, 0, none⟩) ∧ ev t (.tmp 6) = .slice p ws.length cap ∧ ev t (.tmp 7) = .int .i64 (ws.length : Int) ∧ ev t (.tmp 8) = .int .i64 (i : Int) ∧ w = w1 ∧ (∃ b : Nat, ev t (.tmp 3) = .int .i64 (b : Int) ∧ IsNext ws L i b)) (ws.length) ?_ ?_
  · refine ⟨0, by omega, by omega, rfl, ?_, ?_, ?_, ?_, ?_, rfl, ⟨0, by (simp -dsimp -implicitDefEqProofs (maxSteps := 2000000) (disch := first | assumption | omega | (simp only [nx]; omega) | ((repeat refine Fresh.push ?_ _); assumption) | (simp only [smA]; done) | (simp [oneCell, AW.next_push]; done) | fail) only [go_sem, Nat.reduceEqDiff, reduceIte, Nat.reduceAdd, Int.toNat_natCast, Nat.add_zero, Owes_true]; try rfl), IsNext.zero _ _⟩⟩ <;> simp -dsimp -implicitDefEqProofs (maxSteps := 2000000) (disch := first | assumption | omega | (simp only [nx]; omega) | ((repeat refine Fresh.push ?_ _); assumption) | (simp only [smA]; done) | (simp [oneCell, AW.next_push]; done) | fail) only [go_sem, Nat.reduceEqDiff, reduceIte, Nat.reduceAdd, Int.toNat_natCast, Nat.add_zero, Owes_true] <;> rfl
  rintro k t ds w1 ⟨i, hii, rfl, rfl, e0, e1, e6, e7, e8, hw, hb⟩
  subst hw
  obtain ⟨b, e3, hN⟩ := hb
  by_cases hlt : (i : Int) < (ws.length : Int)
  case neg =>
    obtain rfl : i = ws.length := by omega
    simp -dsimp -implicitDefEqProofs (maxSteps := 2000000) (disch := first | assumption | omega | (simp only [nx]; omega) | ((repeat refine Fresh.push ?_ _); assumption) | (simp only [smA]; done) | (simp [oneCell, AW.next_push]; done) | fail) only [go_sem, Nat.reduceEqDiff, reduceIte, Nat.reduceAdd, Int.toNat_natCast, Nat.add_zero, Owes_true, Try.results88, e0, e1, e3, e6, e7, e8, hlt]
    exact ⟨trivial, b, rfl, hN⟩
  have hlt' : i < ws.length := by omega
  have hbn : b < ws.length := by have := hN.lt; omega
  have hbn' : (b : Int) < (ws.length : Int) := by omega
  obtain ⟨b1, o1, rfl, hb1, hcell⟩ := hat i hlt'
  have a0 := hcell _ (.refl _ _) 0 _ rfl
  rw [Nat.add_zero, ← W_at hlt'] at a0
  obtain ⟨b1', o1', e', _, hcell2⟩ := hat b hbn
  injection e' with e'
  injection e' with e1' e2' e3'
  subst e1' e2'
  have a1 := hcell2 _ (.refl _ _) 0 _ rfl
  rw [Nat.add_zero, ← W_at hbn] at a1
  have s1 := hO.icell (i := b) (by omega)
  have s2 := hO.icell (i := i) (by omega)
  rw [show (⟨bs, b, none⟩ : Addr) = ⟨bs, b * 1, none⟩ from by rw [Nat.mul_one]] at s1
  rw [show (⟨bs, i, none⟩ : Addr) = ⟨bs, i * 1, none⟩ from by rw [Nat.mul_one]] at s2
  have v1 := hW.val i
  have v2 := hW.val b
  have v3 := hS i
  have v4 := hS b
  have m1 := mul_bd v1.1 v1.2 (show 0 ≤ W L b + 1 by omega) (show W L b + 1 ≤ 34359738369 by omega)
  have m2 := mul_bd v2.1 v2.2 (show 0 ≤ W L i + 1 by omega) (show W L i + 1 ≤ 34359738369 by omega)
  by_cases hc : W ws b * (W L i + 1) < W ws i * (W L b + 1)
  · simp -dsimp -implicitDefEqProofs (maxSteps := 2000000) (disch := first | assumption | omega | (simp only [nx]; omega) | ((repeat refine Fresh.push ?_ _); assumption) | (simp only [smA]; done) | (simp [oneCell, AW.next_push]; done) | fail) only [go_sem, Nat.reduceEqDiff, reduceIte, Nat.reduceAdd, Int.toNat_natCast, Nat.add_zero, Owes_true, Try.results88, e0, e1, e3, e6, e7, e8, hlt, hbn', indexV_eq, Nat.zero_add, a0, a1, s1, s2, c0, d0, hc]
    refine ⟨_, by omega, i + 1, by omega, rfl, rfl, by (simp -dsimp -implicitDefEqProofs (maxSteps := 2000000) (disch := first | assumption | omega | (simp only [nx]; omega) | ((repeat refine Fresh.push ?_ _); assumption) | (simp only [smA]; done) | (simp [oneCell, AW.next_push]; done) | fail) only [go_sem, Nat.reduceEqDiff, reduceIte, Nat.reduceAdd, Int.toNat_natCast, Nat.add_zero, Owes_true, e0]; try rfl), by (simp -dsimp -implicitDefEqProofs (maxSteps := 2000000) (disch := first | assumption | omega | (simp only [nx]; omega) | ((repeat refine Fresh.push ?_ _); assumption) | (simp only [smA]; done) | (simp [oneCell, AW.next_push]; done) | fail) only [go_sem, Nat.reduceEqDiff, reduceIte, Nat.reduceAdd, Int.toNat_natCast, Nat.add_zero, Owes_true, e1]; try rfl), by (simp -dsimp -implicitDefEqProofs (maxSteps := 2000000) (disch := first | assumption | omega | (simp only [nx]; omega) | ((repeat refine Fresh.push ?_ _); assumption) | (simp only [smA]; done) | (simp [oneCell, AW.next_push]; done) | fail) only [go_sem, Nat.reduceEqDiff, reduceIte, Nat.reduceAdd, Int.toNat_natCast, Nat.add_zero, Owes_true, e6]; try rfl), by (simp -dsimp -implicitDefEqProofs (maxSteps := 2000000) (disch := first | assumption | omega | (simp only [nx]; omega) | ((repeat refine Fresh.push ?_ _); assumption) | (simp only [smA]; done) | (simp [oneCell, AW.next_push]; done) | fail) only [go_sem, Nat.reduceEqDiff, reduceIte, Nat.reduceAdd, Int.toNat_natCast, Nat.add_zero, Owes_true, e7]; try rfl), by (simp -dsimp -implicitDefEqProofs (maxSteps := 2000000) (disch := first | assumption | omega | (simp only [nx]; omega) | ((repeat refine Fresh.push ?_ _); assumption) | (simp only [smA]; done) | (simp [oneCell, AW.next_push]; done) | fail) only [go_sem, Nat.reduceEqDiff, reduceIte, Nat.reduceAdd, Int.toNat_natCast, Nat.add_zero, Owes_true, e8]; try rfl), rfl, ⟨i, by simp -dsimp -implicitDefEqProofs (maxSteps := 2000000) (disch := first | assumption | omega | (simp only [nx]; omega) | ((repeat refine Fresh.push ?_ _); assumption) | (simp only [smA]; done) | (simp [oneCell, AW.next_push]; done) | fail) only [go_sem, Nat.reduceEqDiff, reduceIte, Nat.reduceAdd, Int.toNat_natCast, Nat.add_zero, Owes_true], hN.take (fun j => (hS j).1) hc⟩⟩
  · simp -dsimp -implicitDefEqProofs (maxSteps := 2000000) (disch := first | assumption | omega | (simp only [nx]; omega) | ((repeat refine Fresh.push ?_ _); assumption) | (simp only [smA]; done) | (simp [oneCell, AW.next_push]; done) | fail) only [go_sem, Nat.reduceEqDiff, reduceIte, Nat.reduceAdd, Int.toNat_natCast, Nat.add_zero, Owes_true, Try.results88, e0, e1, e3, e6, e7, e8, hlt, hbn', indexV_eq, Nat.zero_add, a0, a1, s1, s2, c0, d0, hc]
    refine ⟨_, by omega, i + 1, by omega, rfl, rfl, by (simp -dsimp -implicitDefEqProofs (maxSteps := 2000000) (disch := first | assumption | omega | (simp only [nx]; omega) | ((repeat refine Fresh.push ?_ _); assumption) | (simp only [smA]; done) | (simp [oneCell, AW.next_push]; done) | fail) only [go_sem, Nat.reduceEqDiff, reduceIte, Nat.reduceAdd, Int.toNat_natCast, Nat.add_zero, Owes_true, e0]; try rfl), by (simp -dsimp -implicitDefEqProofs (maxSteps := 2000000) (disch := first | assumption | omega | (simp only [nx]; omega) | ((repeat refine Fresh.push ?_ _); assumption) | (simp only [smA]; done) | (simp [oneCell, AW.next_push]; done) | fail) only [go_sem, Nat.reduceEqDiff, reduceIte, Nat.reduceAdd, Int.toNat_natCast, Nat.add_zero, Owes_true, e1]; try rfl), by (simp -dsimp -implicitDefEqProofs (maxSteps := 2000000) (disch := first | assumption | omega | (simp only [nx]; omega) | ((repeat refine Fresh.push ?_ _); assumption) | (simp only [smA]; done) | (simp [oneCell, AW.next_push]; done) | fail) only [go_sem, Nat.reduceEqDiff, reduceIte, Nat.reduceAdd, Int.toNat_natCast, Nat.add_zero, Owes_true, e6]; try rfl), by (simp -dsimp -implicitDefEqProofs (maxSteps := 2000000) (disch := first | assumption | omega | (simp only [nx]; omega) | ((repeat refine Fresh.push ?_ _); assumption) | (simp only [smA]; done) | (simp [oneCell, AW.next_push]; done) | fail) only [go_sem, Nat.reduceEqDiff, reduceIte, Nat.reduceAdd, Int.toNat_natCast, Nat.add_zero, Owes_true, e7]; try rfl), by (simp -dsimp -implicitDefEqProofs (maxSteps := 2000000) (disch := first | assumption | omega | (simp only [nx]; omega) | ((repeat refine Fresh.push ?_ _); assumption) | (simp only [smA]; done) | (simp [oneCell, AW.next_push]; done) | fail) only [go_sem, Nat.reduceEqDiff, reduceIte, Nat.reduceAdd, Int.toNat_natCast, Nat.add_zero, Owes_true, e8]; try rfl), rfl, ⟨b, by simp -dsimp -implicitDefEqProofs (maxSteps := 2000000) (disch := first | assumption | omega | (simp only [nx]; omega) | ((repeat refine Fresh.push ?_ _); assumption) | (simp only [smA]; done) | (simp [oneCell, AW.next_push]; done) | fail) only [go_sem, Nat.reduceEqDiff, reduceIte, Nat.reduceAdd, Int.toNat_natCast, Nat.add_zero, Owes_true, e3], hN.keep hc⟩⟩
theorem part_ok (s all x : Int) (b3 b5 : Nat) (w : AW) (h0 : 0 ≤ s) (h1 : s ≤ 34359738368) (h2 : 0 ≤ x) (h3 : x ≤ 67108864) (h4 : 0 < all) (hO3 : Own w b3 3 [.int .i64 s]) (hO5 : Own w b5 3 [.int .i64 all]) :
    CallT Try.prog Try.T1 (.fn (.func 87) #[.pointer (some ⟨b3, 0, none⟩), .pointer (some ⟨b5, 0, none⟩)]) #[.int .i64 x] w (Ret (.int .i64 (s * x / all)) fun w' => w = w') := by
  have c0 := hO3.cell (o := 0) rfl rfl
  have d0 := hO5.cell (o := 0) rfl rfl
  have m := mul_bd h0 h1 h2 h3
  have hq : (s * x).tdiv all = s * x / all := Int.tdiv_eq_ediv_of_nonneg m.1
  have hall : ¬ all = 0 := by omega
  have b1 : 0 ≤ s * x / all := Int.ediv_nonneg m.1 (by omega)
  have b2 : s * x / all ≤ s * x := Int.ediv_le_self _ m.1
  refine callT_code rfl Try.func87 rfl Try.s87_eq rfl ?_
  unfold Try.s87
  simp -dsimp -implicitDefEqProofs (maxSteps := 2000000) (disch := first | assumption | omega | (simp only [nx]; omega) | ((repeat refine Fresh.push ?_ _); assumption) | (simp only [smA]; done) | (simp [oneCell, AW.next_push]; done) | fail) only [go_sem, Nat.reduceEqDiff, reduceIte, Nat.reduceAdd, Int.toNat_natCast, Nat.add_zero, Owes_true, Try.results87, c0, d0, hq, hall]
  exact ⟨rfl, rfl⟩
theorem sin_of {L : List Int} {s : Int} (h : NN L) (hs : L.sum ≤ s) (h1 : s ≤ 34359738368) : SIn L := fun i => ⟨h i, by have := W_le_sum h i; omega⟩
set_option maxHeartbeats 8000000 in
theorem share_ok (ws : List Int) (v : Value) (s : Int) (w : AW) (f : Fresh w) (hs : ArrOf w 1 icells v ws) (hW : WIn ws) (h0 : 0 ≤ s) (h1 : s ≤ 34359738368) :
    CallT Try.prog Try.T1 (.fn (.func 49) #[]) #[v, .int .i64 s] w (fun r w' => ∃ b, r = .slice (some ⟨b, 0, none⟩) ws.length ws.length ∧ w.next ≤ b ∧ Own w' b 3 ((shareL ws s).flatMap icells) ∧ (shareL ws s).length = ws.length ∧ Grown w w') := by
  obtain ⟨p, cap, rfl, _⟩ := id hs.open
  have hvs : oneCell (.slice p ws.length cap) = true := rfl
  have hlw := hW.len
  have hsw := small_w hlw.2 hW.val
  have gA := (Grown.refl f).push (.cells [.slice p ws.length cap] 22 w.next 0 0)
  have gB := gA.push (.cells [.int .i64 s] 3 (w.next + 1) 0 0)
  have hA := (Own.new f 22 [.slice p ws.length cap]).push (.cells [.int .i64 s] 3 (w.next + 1) 0 0)
  have hB := Own.new gA.2 3 [.int .i64 s]
  rw [AW.next_push] at hB
  have c0 := hA.cell (o := 0) rfl hvs
  refine callT_code rfl Try.func49 rfl Try.s49_eq rfl ?_
  unfold Try.s49
  simp -dsimp -implicitDefEqProofs (maxSteps := 2000000) (disch := first | assumption | omega | (simp only [nx]; omega) | ((repeat refine Fresh.push ?_ _); assumption) | (simp only [smA]; done) | (simp [oneCell, AW.next_push]; done) | fail) only [go_sem, Nat.reduceEqDiff, reduceIte, Nat.reduceAdd, Int.toNat_natCast, Nat.add_zero, Owes_true, Try.results49, Nat.zero_add, c0]
  apply callV_of (e := rfl)
  · exact total_ok ws _ _ (hs.grown gB) hsw.1
  rintro _ _ ⟨rfl, rfl⟩
  have gC := gB.push (.cells [.int .i64 0] 3 (w.next + 1 + 1) 0 0)
  have hC := Own.new gB.2 3 [.int .i64 0]
  simp only [AW.next_push] at hC
  have hst := storeV_own1 (o := 0) (v := .int .i64 ws.sum) hC (by simp) rfl
  simp only [setL] at hst
  have gD : Grown w _ := ⟨gC.1.put (b := w.next + 1 + 1) (by omega) (.cells [.int .i64 ws.sum] 3 (w.next + 1 + 1) 0 0), gC.2.put hC.lt (.cells [.int .i64 ws.sum] 3 (w.next + 1 + 1) 0 0)⟩
  have hD := hC.put [.int .i64 ws.sum]
  have mm := (Mut.refl gC.2).put hC (.cells [.int .i64 ws.sum] 3 (w.next + 1 + 1) 0 0)
  have hA2 := mm.own (hA.push (.cells [.int .i64 0] 3 (w.next + 1 + 1) 0 0)) (by omega)
  have hB2 := mm.own (hB.push (.cells [.int .i64 0] 3 (w.next + 1 + 1) 0 0)) (by omega)
  have c1 := hA2.cell (o := 0) rfl hvs
  simp -dsimp -implicitDefEqProofs (maxSteps := 2000000) (disch := first | assumption | omega | (simp only [nx]; omega) | ((repeat refine Fresh.push ?_ _); assumption) | (simp only [smA]; done) | (simp [oneCell, AW.next_push]; done) | fail) only [go_sem, Nat.reduceEqDiff, reduceIte, Nat.reduceAdd, Int.toNat_natCast, Nat.add_zero, Owes_true, Try.results49, Nat.zero_add, hst, c1]
  generalize ((((w.push (.cells [.slice p ws.length cap] 22 w.next 0 0)).push (.cells [.int .i64 s] 3 (w.next + 1) 0 0)).push (.cells [.int .i64 0] 3 (w.next + 1 + 1) 0 0)).put (w.next + 1 + 1) (.cells [.int .i64 ws.sum] 3 (w.next + 1 + 1) 0 0)) = w1 at *
  apply callV_of (e := rfl)
  · exact each_ok ws _ (.func 87) #[] #[.pointer (some ⟨w.next + 1, 0, none⟩), .pointer (some ⟨w.next + 1 + 1, 0, none⟩)] (fun x => s * x / ws.sum) w1 gD.2 (hs.grown gD) (by omega) (fun w2 hg x hx => by
    obtain ⟨i, hi, rfl⟩ := List.getElem_of_mem hx
    have := hW.val i
    rw [W_at hi] at this
    exact part_ok s ws.sum ws[i] (w.next + 1) (w.next + 1 + 1) w2 h0 h1 this.1 this.2 hW.sum.1 (hB2.keep hg.1) (hD.keep hg.1))
  rintro _ w2 ⟨bs, rfl, hbs, hS, hg2⟩
  have g2 := gD.trans hg2
  have hA3 := hA2.keep hg2.1
  have hB3 := hB2.keep hg2.1
  have gE := g2.push (.cells [.slice none 0 0] 22 w2.next 0 0)
  have hE := Own.new g2.2 22 [.slice none 0 0]
  have hst2 := storeV_own1 (o := 0) (v := .slice (some ⟨bs, 0, none⟩) ws.length ws.length) hE (by simp) rfl
  simp only [setL] at hst2
  have n1 := hS.lt
  have n2 := hA2.lt
  have n3 := hB2.lt
  have n4 := hg2.1.next
  have n5 := gD.1.next
  have gF : Grown w _ := ⟨gE.1.put (b := w2.next) (by omega) (.cells [.slice (some ⟨bs, 0, none⟩) ws.length ws.length] 22 w2.next 0 0), gE.2.put hE.lt (.cells [.slice (some ⟨bs, 0, none⟩) ws.length ws.length] 22 w2.next 0 0)⟩
  have hF := hE.put [.slice (some ⟨bs, 0, none⟩) ws.length ws.length]
  have mm2 := (Mut.refl gE.2).put hE (.cells [.slice (some ⟨bs, 0, none⟩) ws.length ws.length] 22 w2.next 0 0)
  have hA4 := mm2.own (hA3.push (.cells [.slice none 0 0] 22 w2.next 0 0)) (by omega)
  have hB4 := mm2.own (hB3.push (.cells [.slice none 0 0] 22 w2.next 0 0)) (by omega)
  have hS4 := mm2.own (hS.push (.cells [.slice none 0 0] 22 w2.next 0 0)) (by omega)
  have q0 := hB4.cell (o := 0) rfl rfl
  have q1 := hF.cell (o := 0) rfl rfl
  simp -dsimp -implicitDefEqProofs (maxSteps := 2000000) (disch := first | assumption | omega | (simp only [nx]; omega) | ((repeat refine Fresh.push ?_ _); assumption) | (simp only [smA]; done) | (simp [oneCell, AW.next_push]; done) | fail) only [go_sem, Nat.reduceEqDiff, reduceIte, Nat.reduceAdd, Int.toNat_natCast, Nat.add_zero, Owes_true, Try.results49, Nat.zero_add, hst2, q0, q1]
  generalize ((w2.push (.cells [.slice none 0 0] 22 w2.next 0 0)).put w2.next (.cells [.slice (some ⟨bs, 0, none⟩) ws.length ws.length] 22 w2.next 0 0)) = w3 at *
  have hfl : (ws.map fun x => s * x / ws.sum) = floors ws s ws.sum := rfl
  rw [hfl] at hS4
  have hsh := floors_shared hW.nn h0 hW.sum.1
  have hle := floors_le (s := s) hW.sum.1
  have hfn := sum_nn hsh.nn
  have hsa := (sin_of hsh.nn hle h1)
  have hfl2 := hsh.len
  have harr := hS4.iarr (by omega)
  rw [hfl2] at harr
  have hwl := WLe.refl w3
  apply callV_of (e := rfl)
  · exact total_ok (floors ws s ws.sum) _ w3 harr (small_nn hsh.nn (by omega))
  rintro _ _ ⟨rfl, rfl⟩
  simp -dsimp -implicitDefEqProofs (maxSteps := 2000000) (disch := first | assumption | omega | (simp only [nx]; omega) | ((repeat refine Fresh.push ?_ _); assumption) | (simp only [smA]; done) | (simp [oneCell, AW.next_push]; done) | fail) only [go_sem, Nat.reduceEqDiff, reduceIte, Nat.reduceAdd, Int.toNat_natCast, Nat.add_zero, Owes_true, Try.results49, Nat.zero_add, hwl]
  have hcnt : s - (floors ws s ws.sum).sum = ((s - (floors ws s ws.sum).sum).toNat : Int) := by omega
  rw [hcnt]
  generalize hK : (s - (floors ws s ws.sum).sum).toNat = K at *
  have hfn2 := same_fn2 88 w.next w2.next
  refine loopR (fun k t ds w4 => ∃ i : Nat, i ≤ K ∧ k = K - i ∧ ds = [] ∧ ev t (.tmp 6) = .pointer (some ⟨w2.next, 0, none⟩) ∧ ev t (.tmp 7) = .func (.func 88) #[] #[.pointer (some ⟨w.next, 0, none⟩), .pointer (some ⟨w2.next, 0, none⟩)] ∧ ev t (.tmp 17) = .int .i64 (K : Int) ∧ ev t (.tmp 18) = .int .i64 (i : Int) ∧ (∃ L : List Int, Shared ws L ∧ L.sum = (floors ws s ws.sum).sum + i ∧ Own w4 bs 3 (L.flatMap icells)) ∧ (Own w4 w.next 22 [.slice p ws.length cap] ∧ Own w4 w2.next 22 [.slice (some ⟨bs, 0, none⟩) ws.length ws.length] ∧ Grown w w4)) (K) ?_ ?_
  · refine ⟨0, by omega, by omega, rfl, ?_, ?_, ?_, ?_, ⟨_, hsh, by simp, hS4⟩, hA4, hF, gF⟩ <;> simp -dsimp -implicitDefEqProofs (maxSteps := 2000000) (disch := first | assumption | omega | (simp only [nx]; omega) | ((repeat refine Fresh.push ?_ _); assumption) | (simp only [smA]; done) | (simp [oneCell, AW.next_push]; done) | fail) only [go_sem, Nat.reduceEqDiff, reduceIte, Nat.reduceAdd, Int.toNat_natCast, Nat.add_zero, Owes_true, hfn2] <;> rfl
  rintro k t ds w4 ⟨i, hii, rfl, rfl, e6, e7, e17, e18, hI, hg⟩
  obtain ⟨L, hL, hLs, hSL⟩ := hI
  obtain ⟨hA5, hF5, g4⟩ := hg
  have hLl := hL.len
  have q2 := hF5.cell (o := 0) rfl rfl
  by_cases hlt : (i : Int) < (K : Int)
  case neg =>
    obtain rfl : i = K := by omega
    simp -dsimp -implicitDefEqProofs (maxSteps := 2000000) (disch := first | assumption | omega | (simp only [nx]; omega) | ((repeat refine Fresh.push ?_ _); assumption) | (simp only [smA]; done) | (simp [oneCell, AW.next_push]; done) | fail) only [go_sem, Nat.reduceEqDiff, reduceIte, Nat.reduceAdd, Int.toNat_natCast, Nat.add_zero, Owes_true, Try.results49, Nat.zero_add, e6, e7, e17, e18, hlt, q2]
    have : L = shareL ws s := shareL_eq hW.nn hL (by omega)
    rw [← this]
    exact ⟨bs, rfl, by omega, hSL, hLl, g4⟩
  have hsl : SIn L := sin_of hL.nn (show L.sum ≤ s by omega) h1
  have hwl4 := WLe.refl w4
  simp -dsimp -implicitDefEqProofs (maxSteps := 2000000) (disch := first | assumption | omega | (simp only [nx]; omega) | ((repeat refine Fresh.push ?_ _); assumption) | (simp only [smA]; done) | (simp [oneCell, AW.next_push]; done) | fail) only [go_sem, Nat.reduceEqDiff, reduceIte, Nat.reduceAdd, Int.toNat_natCast, Nat.add_zero, Owes_true, Try.results49, Nat.zero_add, e6, e7, e17, e18, hlt, q2, hfn2]
  apply callV_of (e := rfl)
  · exact next_ok ws L _ w.next w2.next bs w4 g4.2 (hs.grown g4) hW hsl hLl hA5 hF5 hSL
  rintro _ _ ⟨rfl, b, rfl, hN⟩
  obtain ⟨hbl, _⟩ := hN.pos hW.nn hW.sum.1 hL.nn
  have hbl' : (b : Int) < (ws.length : Int) := by omega
  have s1 := hSL.icell (i := b) (by omega)
  rw [show (⟨bs, b, none⟩ : Addr) = ⟨bs, b * 1, none⟩ from by rw [Nat.mul_one]] at s1
  have v4 := hsl b
  have hst3 := storeV_own1 (o := b) (v := .int .i64 (W L b + 1)) hSL (by rw [icells_flat_len]; omega) rfl
  rw [setL_ic, show (Value.pointer (some ⟨bs, b, none⟩)) = .pointer (some ⟨bs, b * 1, none⟩) from by rw [Nat.mul_one]] at hst3
  have mm3 := (Mut.refl g4.2).put hSL (.cells ((L.set b (W L b + 1)).flatMap icells) 3 bs 0 0)
  have hnx := shared_step hW.nn hW.sum.1 hL hN
  have hns := sum_set (l := L) (b := b) (by omega) (W L b + 1)
  simp -dsimp -implicitDefEqProofs (maxSteps := 2000000) (disch := first | assumption | omega | (simp only [nx]; omega) | ((repeat refine Fresh.push ?_ _); assumption) | (simp only [smA]; done) | (simp [oneCell, AW.next_push]; done) | fail) only [go_sem, Nat.reduceEqDiff, reduceIte, Nat.reduceAdd, Int.toNat_natCast, Nat.add_zero, Owes_true, Try.results49, Nat.zero_add, e6, e7, e17, e18, hbl', indexV_eq, s1, hst3, hwl4]
  refine ⟨_, by omega, i + 1, by omega, rfl, rfl, by (simp -dsimp -implicitDefEqProofs (maxSteps := 2000000) (disch := first | assumption | omega | (simp only [nx]; omega) | ((repeat refine Fresh.push ?_ _); assumption) | (simp only [smA]; done) | (simp [oneCell, AW.next_push]; done) | fail) only [go_sem, Nat.reduceEqDiff, reduceIte, Nat.reduceAdd, Int.toNat_natCast, Nat.add_zero, Owes_true, e6]; try rfl), by (simp -dsimp -implicitDefEqProofs (maxSteps := 2000000) (disch := first | assumption | omega | (simp only [nx]; omega) | ((repeat refine Fresh.push ?_ _); assumption) | (simp only [smA]; done) | (simp [oneCell, AW.next_push]; done) | fail) only [go_sem, Nat.reduceEqDiff, reduceIte, Nat.reduceAdd, Int.toNat_natCast, Nat.add_zero, Owes_true, e7]; try rfl), by (simp -dsimp -implicitDefEqProofs (maxSteps := 2000000) (disch := first | assumption | omega | (simp only [nx]; omega) | ((repeat refine Fresh.push ?_ _); assumption) | (simp only [smA]; done) | (simp [oneCell, AW.next_push]; done) | fail) only [go_sem, Nat.reduceEqDiff, reduceIte, Nat.reduceAdd, Int.toNat_natCast, Nat.add_zero, Owes_true, e17]; try rfl), by (simp -dsimp -implicitDefEqProofs (maxSteps := 2000000) (disch := first | assumption | omega | (simp only [nx]; omega) | ((repeat refine Fresh.push ?_ _); assumption) | (simp only [smA]; done) | (simp [oneCell, AW.next_push]; done) | fail) only [go_sem, Nat.reduceEqDiff, reduceIte, Nat.reduceAdd, Int.toNat_natCast, Nat.add_zero, Owes_true, e18]; try rfl), ⟨L.set b (W L b + 1), hnx, by omega, hSL.put _⟩, mm3.own hA5 (by omega), mm3.own hF5 (by omega), ⟨g4.1.put (by omega) _, g4.2.put hSL.lt _⟩⟩
end Go.Proofs

namespace Go.Proofs
open Go Go.RowKit Go.Sim
set_option maxRecDepth 100000
theorem own_at1 {B : Nat} {w : AW} {e : TypeId} {v : Value} {L : List Int} {n : Nat} (h : AOwn B w e 1 v n (L.flatMap icells)) (hl : 1 ≤ L.length) : n = L.length ∧ ∃ b, v = .slice (some ⟨b, 0, none⟩) L.length L.length ∧ ∀ i, i < L.length → w.cell? ⟨b, i * 1, none⟩ = some (.int .i64 (W L i)) := by
  rcases h with ⟨_, _, q⟩ | ⟨b, r, rfl, _, _, _, _, a6, a7, a9, _⟩
  · have := congrArg List.length q
    rw [icells_flat_len, List.length_nil] at this; omega
  · rw [icells_flat_len, Nat.mul_one] at a7
    refine ⟨a7.symm, b, by rw [a7], fun i hi => ?_⟩
    rw [Nat.mul_one]
    simp only [AW.cell?, a6, getL_eq, icells_at hi, a9 _ (List.mem_of_getElem? (icells_at hi))]
end Go.Proofs
