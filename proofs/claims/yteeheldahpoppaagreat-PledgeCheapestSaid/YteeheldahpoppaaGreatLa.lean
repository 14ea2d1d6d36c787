/- Prices and the bound that they prove: contracts of the program's and of the papers'. -/
import Derived.Test.YteeheldahpoppaaGreatFa
set_option linter.unusedVariables false
set_option linter.unusedSimpArgs false
/- Prices, and what is paid: sums, and the bound that prices prove. -/
namespace Go.Proofs
open Go Go.RowKit Go.Sim
set_option maxRecDepth 100000
/-- What a function that is handed over counts. -/
def CountT (fn : Fn) (cap : Array Value) (g : Int → Int) (xs : List Int) (w : AW) : Prop := ∀ x ∈ xs, ∀ w', Grown w w' → CallT Tryz.prog Tryz.T (.fn fn cap) #[.int .i64 x] w' (Ret (.int .i64 (g x)) (Grown w'))
def sumZ (g : Int → Int) (xs : List Int) : Int := (xs.map g).sum
theorem sumZ_snoc (g : Int → Int) (xs : List Int) (x : Int) : sumZ g (xs ++ [x]) = sumZ g xs + g x := by simp [sumZ]
theorem sumZ_in {g : Int → Int} : ∀ {xs : List Int}, (∀ x ∈ xs, 0 ≤ g x ∧ g x ≤ 1000) → 0 ≤ sumZ g xs ∧ sumZ g xs ≤ 1000 * xs.length
  | [], _ => by simp [sumZ]
  | x :: xs, h => by
    have h1 := h x List.mem_cons_self
    have h2 := sumZ_in fun y hy => h y (List.mem_cons_of_mem _ hy)
    simp only [sumZ, List.map_cons, List.sum_cons, List.length_cons] at h2 ⊢
    omega
theorem sumInt_ok (xs : List Int) (u : Value) (fn : Fn) (cp : Array Value) (g : Int → Int) (w : AW) (f : Fresh w) (hx : ArrOf w 1 icells u xs) (hc : CountT fn cp g xs w) (hg : ∀ x ∈ xs, 0 ≤ g x ∧ g x ≤ 1000) (hl : xs.length ≤ 1000000) :
    CallT Tryz.prog Tryz.T (.fn (.func 52) #[]) #[u, .func fn #[] cp] w (Ret (.int .i64 (sumZ g xs)) (Grown w)) := by
  obtain ⟨p, cap, rfl, hcap, hmax, hat⟩ := hx.open
  refine callT_code rfl Tryz.func52 rfl Tryz.s52_eq rfl ?_
  unfold Tryz.s52
  simp -dsimp -implicitDefEqProofs (maxSteps := 2000000) (disch := first | assumption | omega | (simp only [AW.next_push, AW.next_put]; omega) | ((repeat refine Fresh.push ?_ _); assumption) | (simp only [same_int, same_bool, same_ptr, same_slice, same_sliceP, same_nil, same_agg2, same_string]; done) | (simp [oneCell, AW.next_push]; done) | fail) only [go_sem, Nat.reduceEqDiff, reduceIte, Nat.reduceAdd, Int.toNat_natCast, Nat.add_zero, Owes_true, Tryz.results52]
  refine loopR (fun k t ds w1 => ∃ i : Nat, i ≤ xs.length ∧ k = xs.length - i ∧ ds = [] ∧ ev t (.tmp 1) = .func fn #[] cp ∧ ev t (.tmp 5) = .int .i64 (sumZ g (xs.take i)) ∧ ev t (.tmp 8) = .slice p xs.length cap ∧ ev t (.tmp 9) = .int .i64 (xs.length : Int) ∧ ev t (.tmp 10) = .int .i64 (i : Int) ∧ Grown w w1) (xs.length) ?_ ?_
  · refine ⟨0, by omega, by omega, rfl, ?_, ?_, ?_, ?_, ?_, .refl f⟩ <;> simp -dsimp -implicitDefEqProofs (maxSteps := 2000000) (disch := first | assumption | omega | (simp only [AW.next_push, AW.next_put]; omega) | ((repeat refine Fresh.push ?_ _); assumption) | (simp only [same_int, same_bool, same_ptr, same_slice, same_sliceP, same_nil, same_agg2, same_string]; done) | (simp [oneCell, AW.next_push]; done) | fail) only [go_sem, Nat.reduceEqDiff, reduceIte, Nat.reduceAdd, Int.toNat_natCast, Nat.add_zero, Owes_true] <;> rfl
  rintro k t ds w1 ⟨i, hii, rfl, rfl, e1, e5, e8, e9, e10, hg1⟩
  obtain ⟨hk, hf⟩ := id hg1
  by_cases hlt : (i : Int) < (xs.length : Int)
  case neg =>
    have h2 : xs.take i = xs := List.take_of_length_le (by omega)
    rw [h2] at e5
    simp -dsimp -implicitDefEqProofs (maxSteps := 2000000) (disch := first | assumption | omega | (simp only [AW.next_push, AW.next_put]; omega) | ((repeat refine Fresh.push ?_ _); assumption) | (simp only [same_int, same_bool, same_ptr, same_slice, same_sliceP, same_nil, same_agg2, same_string]; done) | (simp [oneCell, AW.next_push]; done) | fail) only [go_sem, Nat.reduceEqDiff, reduceIte, Nat.reduceAdd, Int.toNat_natCast, Nat.add_zero, Owes_true, Tryz.results52, e1, e5, e8, e9, e10, hlt]
    exact ⟨rfl, hg1⟩
  have hlt' : i < xs.length := by omega
  obtain ⟨b1, o1, rfl, hb1, hcell⟩ := hat i hlt'
  have hc0 := hcell w1 hk 0 _ rfl
  rw [Nat.add_zero] at hc0
  have hs := sumZ_in (g := g) (xs := xs.take i) fun x hx => hg x (List.mem_of_mem_take hx)
  have hs2 := hg xs[i] (List.getElem_mem hlt')
  have hlen : (xs.take i).length = i := by rw [List.length_take]; omega
  simp -dsimp -implicitDefEqProofs (maxSteps := 2000000) (disch := first | assumption | omega | (simp only [AW.next_push, AW.next_put]; omega) | ((repeat refine Fresh.push ?_ _); assumption) | (simp only [same_int, same_bool, same_ptr, same_slice, same_sliceP, same_nil, same_agg2, same_string]; done) | (simp [oneCell, AW.next_push]; done) | fail) only [go_sem, Nat.reduceEqDiff, reduceIte, Nat.reduceAdd, Int.toNat_natCast, Nat.add_zero, Owes_true, Tryz.results52, e1, e5, e8, e9, e10, hlt, indexV_eq, hc0]
  apply callV_of (e := rfl)
  · exact hc xs[i] (List.getElem_mem hlt') w1 hg1
  rintro _ w2 ⟨rfl, hg2⟩
  simp -dsimp -implicitDefEqProofs (maxSteps := 2000000) (disch := first | assumption | omega | (simp only [AW.next_push, AW.next_put]; omega) | ((repeat refine Fresh.push ?_ _); assumption) | (simp only [same_int, same_bool, same_ptr, same_slice, same_sliceP, same_nil, same_agg2, same_string]; done) | (simp [oneCell, AW.next_push]; done) | fail) only [go_sem, Nat.reduceEqDiff, reduceIte, Nat.reduceAdd, Int.toNat_natCast, Nat.add_zero, Owes_true, Tryz.results52, e1, e5, e8, e9, e10]
  have hn : sumZ g (xs.take (i + 1)) = sumZ g (xs.take i) + g xs[i] := by rw [List.take_succ_eq_append_getElem hlt', sumZ_snoc]
  refine ⟨_, by omega, i + 1, by omega, rfl, rfl, by (simp -dsimp -implicitDefEqProofs (maxSteps := 2000000) (disch := first | assumption | omega | (simp only [AW.next_push, AW.next_put]; omega) | ((repeat refine Fresh.push ?_ _); assumption) | (simp only [same_int, same_bool, same_ptr, same_slice, same_sliceP, same_nil, same_agg2, same_string]; done) | (simp [oneCell, AW.next_push]; done) | fail) only [go_sem, Nat.reduceEqDiff, reduceIte, Nat.reduceAdd, Int.toNat_natCast, Nat.add_zero, Owes_true, e1, hn]; try rfl), by (simp -dsimp -implicitDefEqProofs (maxSteps := 2000000) (disch := first | assumption | omega | (simp only [AW.next_push, AW.next_put]; omega) | ((repeat refine Fresh.push ?_ _); assumption) | (simp only [same_int, same_bool, same_ptr, same_slice, same_sliceP, same_nil, same_agg2, same_string]; done) | (simp [oneCell, AW.next_push]; done) | fail) only [go_sem, Nat.reduceEqDiff, reduceIte, Nat.reduceAdd, Int.toNat_natCast, Nat.add_zero, Owes_true, e5, hn]; try rfl), by (simp -dsimp -implicitDefEqProofs (maxSteps := 2000000) (disch := first | assumption | omega | (simp only [AW.next_push, AW.next_put]; omega) | ((repeat refine Fresh.push ?_ _); assumption) | (simp only [same_int, same_bool, same_ptr, same_slice, same_sliceP, same_nil, same_agg2, same_string]; done) | (simp [oneCell, AW.next_push]; done) | fail) only [go_sem, Nat.reduceEqDiff, reduceIte, Nat.reduceAdd, Int.toNat_natCast, Nat.add_zero, Owes_true, e8, hn]; try rfl), by (simp -dsimp -implicitDefEqProofs (maxSteps := 2000000) (disch := first | assumption | omega | (simp only [AW.next_push, AW.next_put]; omega) | ((repeat refine Fresh.push ?_ _); assumption) | (simp only [same_int, same_bool, same_ptr, same_slice, same_sliceP, same_nil, same_agg2, same_string]; done) | (simp [oneCell, AW.next_push]; done) | fail) only [go_sem, Nat.reduceEqDiff, reduceIte, Nat.reduceAdd, Int.toNat_natCast, Nat.add_zero, Owes_true, e9, hn]; try rfl), by (simp -dsimp -implicitDefEqProofs (maxSteps := 2000000) (disch := first | assumption | omega | (simp only [AW.next_push, AW.next_put]; omega) | ((repeat refine Fresh.push ?_ _); assumption) | (simp only [same_int, same_bool, same_ptr, same_slice, same_sliceP, same_nil, same_agg2, same_string]; done) | (simp [oneCell, AW.next_push]; done) | fail) only [go_sem, Nat.reduceEqDiff, reduceIte, Nat.reduceAdd, Int.toNat_natCast, Nat.add_zero, Owes_true, e10, hn]; try rfl), hg1.trans hg2⟩
def okPr (n : Nat) (ps : List Int) : Bool := decide (ps.length = n) && ps.all fun r => inR 0 r 1000
theorem arePrices_ok (ps : List Int) (n : Nat) (u : Value) (w : AW) (f : Fresh w) (hx : ArrOf w 1 icells u ps) :
    CallT Tryz.prog Tryz.T (.fn (.func 58) #[]) #[u, .int .i64 (n : Int)] w (Ret (.bool (okPr n ps)) (Grown w)) := by
  obtain ⟨p, cap, rfl, hcap, hmax, hat⟩ := hx.open
  refine callT_code rfl Tryz.func58 rfl Tryz.s58_eq rfl ?_
  unfold Tryz.s58
  by_cases h1 : (ps.length : Int) = (n : Int)
  case neg =>
    simp -dsimp -implicitDefEqProofs (maxSteps := 2000000) (disch := first | assumption | omega | (simp only [AW.next_push, AW.next_put]; omega) | ((repeat refine Fresh.push ?_ _); assumption) | (simp only [same_int, same_bool, same_ptr, same_slice, same_sliceP, same_nil, same_agg2, same_string]; done) | (simp [oneCell, AW.next_push]; done) | fail) only [go_sem, Nat.reduceEqDiff, reduceIte, Nat.reduceAdd, Int.toNat_natCast, Nat.add_zero, Owes_true, Tryz.results58, h1]
    refine ⟨?_, .refl f⟩
    have : ¬ ps.length = n := by omega
    simp [okPr, this]
  have h1' : ps.length = n := by omega
  simp -dsimp -implicitDefEqProofs (maxSteps := 2000000) (disch := first | assumption | omega | (simp only [AW.next_push, AW.next_put]; omega) | ((repeat refine Fresh.push ?_ _); assumption) | (simp only [same_int, same_bool, same_ptr, same_slice, same_sliceP, same_nil, same_agg2, same_string]; done) | (simp [oneCell, AW.next_push]; done) | fail) only [go_sem, Nat.reduceEqDiff, reduceIte, Nat.reduceAdd, Int.toNat_natCast, Nat.add_zero, Owes_true, Tryz.results58, h1]
  refine loopR (fun k t ds w1 => ∃ i : Nat, i ≤ ps.length ∧ k = ps.length - i ∧ ds = [] ∧ ev t (.tmp 11) = .slice p ps.length cap ∧ ev t (.tmp 12) = .int .i64 (ps.length : Int) ∧ ev t (.tmp 13) = .int .i64 (i : Int) ∧ w = w1 ∧ ((ps.take i).all fun r => inR 0 r 1000) = true) (ps.length) ?_ ?_
  · refine ⟨0, by omega, by omega, rfl, ?_, ?_, ?_, rfl, rfl⟩ <;> simp -dsimp -implicitDefEqProofs (maxSteps := 2000000) (disch := first | assumption | omega | (simp only [AW.next_push, AW.next_put]; omega) | ((repeat refine Fresh.push ?_ _); assumption) | (simp only [same_int, same_bool, same_ptr, same_slice, same_sliceP, same_nil, same_agg2, same_string]; done) | (simp [oneCell, AW.next_push]; done) | fail) only [go_sem, Nat.reduceEqDiff, reduceIte, Nat.reduceAdd, Int.toNat_natCast, Nat.add_zero, Owes_true, h1] <;> rfl
  rintro k t ds w1 ⟨i, hii, rfl, rfl, e11, e12, e13, hw, hall⟩
  subst hw
  by_cases hlt : (i : Int) < (ps.length : Int)
  case neg =>
    have h2 : ps.take i = ps := List.take_of_length_le (by omega)
    rw [h2] at hall
    simp -dsimp -implicitDefEqProofs (maxSteps := 2000000) (disch := first | assumption | omega | (simp only [AW.next_push, AW.next_put]; omega) | ((repeat refine Fresh.push ?_ _); assumption) | (simp only [same_int, same_bool, same_ptr, same_slice, same_sliceP, same_nil, same_agg2, same_string]; done) | (simp [oneCell, AW.next_push]; done) | fail) only [go_sem, Nat.reduceEqDiff, reduceIte, Nat.reduceAdd, Int.toNat_natCast, Nat.add_zero, Owes_true, Tryz.results58, e11, e12, e13, hlt]
    refine ⟨?_, .refl f⟩
    simp [okPr, hall, h1']
  have hlt' : i < ps.length := by omega
  obtain ⟨b1, o1, rfl, hb1, hcell⟩ := hat i hlt'
  have hc0 := hcell w (.refl _ _) 0 _ rfl
  rw [Nat.add_zero] at hc0
  simp -dsimp -implicitDefEqProofs (maxSteps := 2000000) (disch := first | assumption | omega | (simp only [AW.next_push, AW.next_put]; omega) | ((repeat refine Fresh.push ?_ _); assumption) | (simp only [same_int, same_bool, same_ptr, same_slice, same_sliceP, same_nil, same_agg2, same_string]; done) | (simp [oneCell, AW.next_push]; done) | fail) only [go_sem, Nat.reduceEqDiff, reduceIte, Nat.reduceAdd, Int.toNat_natCast, Nat.add_zero, Owes_true, Tryz.results58, e11, e12, e13, hlt, indexV_eq, hc0]
  apply callV_of (e := rfl)
  · exact within_ok _ _ _ _
  rintro _ _ ⟨rfl, rfl⟩
  cases hA : inR 0 ps[i] 1000 with
  | true =>
    simp -dsimp -implicitDefEqProofs (maxSteps := 2000000) (disch := first | assumption | omega | (simp only [AW.next_push, AW.next_put]; omega) | ((repeat refine Fresh.push ?_ _); assumption) | (simp only [same_int, same_bool, same_ptr, same_slice, same_sliceP, same_nil, same_agg2, same_string]; done) | (simp [oneCell, AW.next_push]; done) | fail) only [go_sem, Nat.reduceEqDiff, reduceIte, Nat.reduceAdd, Int.toNat_natCast, Nat.add_zero, Owes_true, Tryz.results58, e11, e12, e13]
    refine ⟨_, by omega, i + 1, by omega, rfl, rfl, by (simp -dsimp -implicitDefEqProofs (maxSteps := 2000000) (disch := first | assumption | omega | (simp only [AW.next_push, AW.next_put]; omega) | ((repeat refine Fresh.push ?_ _); assumption) | (simp only [same_int, same_bool, same_ptr, same_slice, same_sliceP, same_nil, same_agg2, same_string]; done) | (simp [oneCell, AW.next_push]; done) | fail) only [go_sem, Nat.reduceEqDiff, reduceIte, Nat.reduceAdd, Int.toNat_natCast, Nat.add_zero, Owes_true, e11]; try rfl), by (simp -dsimp -implicitDefEqProofs (maxSteps := 2000000) (disch := first | assumption | omega | (simp only [AW.next_push, AW.next_put]; omega) | ((repeat refine Fresh.push ?_ _); assumption) | (simp only [same_int, same_bool, same_ptr, same_slice, same_sliceP, same_nil, same_agg2, same_string]; done) | (simp [oneCell, AW.next_push]; done) | fail) only [go_sem, Nat.reduceEqDiff, reduceIte, Nat.reduceAdd, Int.toNat_natCast, Nat.add_zero, Owes_true, e12]; try rfl), by (simp -dsimp -implicitDefEqProofs (maxSteps := 2000000) (disch := first | assumption | omega | (simp only [AW.next_push, AW.next_put]; omega) | ((repeat refine Fresh.push ?_ _); assumption) | (simp only [same_int, same_bool, same_ptr, same_slice, same_sliceP, same_nil, same_agg2, same_string]; done) | (simp [oneCell, AW.next_push]; done) | fail) only [go_sem, Nat.reduceEqDiff, reduceIte, Nat.reduceAdd, Int.toNat_natCast, Nat.add_zero, Owes_true, e13]; try rfl), rfl, by rw [List.take_succ_eq_append_getElem hlt', List.all_append, hall]; simp [hA]⟩
  | false =>
    simp -dsimp -implicitDefEqProofs (maxSteps := 2000000) (disch := first | assumption | omega | (simp only [AW.next_push, AW.next_put]; omega) | ((repeat refine Fresh.push ?_ _); assumption) | (simp only [same_int, same_bool, same_ptr, same_slice, same_sliceP, same_nil, same_agg2, same_string]; done) | (simp [oneCell, AW.next_push]; done) | fail) only [go_sem, Nat.reduceEqDiff, reduceIte, Nat.reduceAdd, Int.toNat_natCast, Nat.add_zero, Owes_true, Tryz.results58]
    refine ⟨?_, .refl f⟩
    have : (ps.all fun r => inR 0 r 1000) = false := by
      rw [List.all_eq_false]; exact ⟨ps[i], List.getElem_mem hlt', by rw [hA]; simp⟩
    simp [okPr, this]
/-- What a measure is paid by the first fakes. -/
def paidTo (ms : List (Int × Int)) (rs : List Int) (fss : List (List (Int × Int))) (ps : List Int) (n : Nat) (k : Nat) : Int :=
  ((List.range n).map fun i => if findAt ms rs (fss.getD i []) (k : Int) = true then ps.getD i 0 else 0).sum
theorem paidTo_succ (ms : List (Int × Int)) (rs : List Int) (fss : List (List (Int × Int))) (ps : List Int) (n k : Nat) :
    paidTo ms rs fss ps (n + 1) k = paidTo ms rs fss ps n k + if findAt ms rs (fss.getD n []) (k : Int) = true then ps.getD n 0 else 0 := by simp [paidTo, List.range_succ]
theorem paidTo_in {ms : List (Int × Int)} {rs : List Int} {fss : List (List (Int × Int))} {ps : List Int} (hp : ∀ p ∈ ps, 0 ≤ p ∧ p ≤ 1000) (k : Nat) : ∀ n, 0 ≤ paidTo ms rs fss ps n k ∧ paidTo ms rs fss ps n k ≤ 1000 * n
  | 0 => by simp [paidTo]
  | n + 1 => by
    have := paidTo_in (ms := ms) (rs := rs) (fss := fss) hp k n
    rw [paidTo_succ]
    have h2 : 0 ≤ ps.getD n 0 ∧ ps.getD n 0 ≤ 1000 := by
      by_cases h : n < ps.length
      · rw [getD_at h]; exact hp _ (List.getElem_mem h)
      · rw [List.getD_eq_getElem?_getD, List.getElem?_eq_none (by omega)]; simp
    split <;> omega
def provedB (ms : List (Int × Int)) (rs : List Int) (fss : List (List (Int × Int))) (ps : List Int) : Bool := (List.range ms.length).all fun k => decide (paidTo ms rs fss ps fss.length k ≤ (ms.getD k (0, 0)).2)
theorem sum_ok (xs : List Int) (u : Value) (w : AW) (f : Fresh w) (hx : ArrOf w 1 icells u xs) (hg : ∀ x ∈ xs, 0 ≤ x ∧ x ≤ 1000) (hl : xs.length ≤ 1000000) :
    CallT Tryz.prog Tryz.T (.fn (.func 61) #[]) #[u] w (Ret (.int .i64 (sumZ id xs)) (Grown w)) := by
  obtain ⟨p, cap, rfl, hcap, hmax, hat⟩ := hx.open
  refine callT_code rfl Tryz.func61 rfl Tryz.s61_eq rfl ?_
  unfold Tryz.s61
  simp -dsimp -implicitDefEqProofs (maxSteps := 2000000) (disch := first | assumption | omega | (simp only [AW.next_push, AW.next_put]; omega) | ((repeat refine Fresh.push ?_ _); assumption) | (simp only [same_int, same_bool, same_ptr, same_slice, same_sliceP, same_nil, same_agg2, same_string]; done) | (simp [oneCell, AW.next_push]; done) | fail) only [go_sem, Nat.reduceEqDiff, reduceIte, Nat.reduceAdd, Int.toNat_natCast, Nat.add_zero, Owes_true, Tryz.results61]
  refine loopR (fun k t ds w1 => ∃ i : Nat, i ≤ xs.length ∧ k = xs.length - i ∧ ds = [] ∧ ev t (.tmp 0) = .slice p xs.length cap ∧ ev t (.tmp 3) = .int .i64 (sumZ id (xs.take i)) ∧ ev t (.tmp 4) = .int .i64 (i : Int) ∧ w = w1) (xs.length) ?_ ?_
  · refine ⟨0, by omega, by omega, rfl, ?_, ?_, ?_, rfl⟩ <;> simp -dsimp -implicitDefEqProofs (maxSteps := 2000000) (disch := first | assumption | omega | (simp only [AW.next_push, AW.next_put]; omega) | ((repeat refine Fresh.push ?_ _); assumption) | (simp only [same_int, same_bool, same_ptr, same_slice, same_sliceP, same_nil, same_agg2, same_string]; done) | (simp [oneCell, AW.next_push]; done) | fail) only [go_sem, Nat.reduceEqDiff, reduceIte, Nat.reduceAdd, Int.toNat_natCast, Nat.add_zero, Owes_true] <;> rfl
  rintro k t ds w1 ⟨i, hii, rfl, rfl, e0, e3, e4, hw⟩
  subst hw
  by_cases hlt : (i : Int) < (xs.length : Int)
  case neg =>
    have h2 : xs.take i = xs := List.take_of_length_le (by omega)
    rw [h2] at e3
    simp -dsimp -implicitDefEqProofs (maxSteps := 2000000) (disch := first | assumption | omega | (simp only [AW.next_push, AW.next_put]; omega) | ((repeat refine Fresh.push ?_ _); assumption) | (simp only [same_int, same_bool, same_ptr, same_slice, same_sliceP, same_nil, same_agg2, same_string]; done) | (simp [oneCell, AW.next_push]; done) | fail) only [go_sem, Nat.reduceEqDiff, reduceIte, Nat.reduceAdd, Int.toNat_natCast, Nat.add_zero, Owes_true, Tryz.results61, e0, e3, e4, hlt]
    exact ⟨rfl, .refl f⟩
  have hlt' : i < xs.length := by omega
  obtain ⟨b1, o1, rfl, hb1, hcell⟩ := hat i hlt'
  have hc0 := hcell w (.refl _ _) 0 _ rfl
  rw [Nat.add_zero] at hc0
  have hs := sumZ_in (g := id) (xs := xs.take i) fun x hx => hg x (List.mem_of_mem_take hx)
  have hs2 := hg xs[i] (List.getElem_mem hlt')
  have hlen : (xs.take i).length = i := by rw [List.length_take]; omega
  simp -dsimp -implicitDefEqProofs (maxSteps := 2000000) (disch := first | assumption | omega | (simp only [AW.next_push, AW.next_put]; omega) | ((repeat refine Fresh.push ?_ _); assumption) | (simp only [same_int, same_bool, same_ptr, same_slice, same_sliceP, same_nil, same_agg2, same_string]; done) | (simp [oneCell, AW.next_push]; done) | fail) only [go_sem, Nat.reduceEqDiff, reduceIte, Nat.reduceAdd, Int.toNat_natCast, Nat.add_zero, Owes_true, Tryz.results61, e0, e3, e4, hlt, indexV_eq, hc0]
  have hn : sumZ id (xs.take (i + 1)) = sumZ id (xs.take i) + xs[i] := by rw [List.take_succ_eq_append_getElem hlt', sumZ_snoc]; rfl
  refine ⟨_, by omega, i + 1, by omega, rfl, rfl, by (simp -dsimp -implicitDefEqProofs (maxSteps := 2000000) (disch := first | assumption | omega | (simp only [AW.next_push, AW.next_put]; omega) | ((repeat refine Fresh.push ?_ _); assumption) | (simp only [same_int, same_bool, same_ptr, same_slice, same_sliceP, same_nil, same_agg2, same_string]; done) | (simp [oneCell, AW.next_push]; done) | fail) only [go_sem, Nat.reduceEqDiff, reduceIte, Nat.reduceAdd, Int.toNat_natCast, Nat.add_zero, Owes_true, e0, hn]; try rfl), by (simp -dsimp -implicitDefEqProofs (maxSteps := 2000000) (disch := first | assumption | omega | (simp only [AW.next_push, AW.next_put]; omega) | ((repeat refine Fresh.push ?_ _); assumption) | (simp only [same_int, same_bool, same_ptr, same_slice, same_sliceP, same_nil, same_agg2, same_string]; done) | (simp [oneCell, AW.next_push]; done) | fail) only [go_sem, Nat.reduceEqDiff, reduceIte, Nat.reduceAdd, Int.toNat_natCast, Nat.add_zero, Owes_true, e3, hn]; try rfl), by (simp -dsimp -implicitDefEqProofs (maxSteps := 2000000) (disch := first | assumption | omega | (simp only [AW.next_push, AW.next_put]; omega) | ((repeat refine Fresh.push ?_ _); assumption) | (simp only [same_int, same_bool, same_ptr, same_slice, same_sliceP, same_nil, same_agg2, same_string]; done) | (simp [oneCell, AW.next_push]; done) | fail) only [go_sem, Nat.reduceEqDiff, reduceIte, Nat.reduceAdd, Int.toNat_natCast, Nat.add_zero, Owes_true, e4, hn]; try rfl), rfl⟩
end Go.Proofs

/- What measures are paid, and the bound that prices prove, in both versions. -/
namespace Go.Proofs
open Go Go.RowKit Go.Sim
set_option maxRecDepth 100000
theorem flat_icells : ∀ L : List Int, L.flatMap icells = L.map fun n => Value.int .i64 n
  | [] => rfl
  | x :: L => by rw [List.flatMap_cons, flat_icells L]; rfl
theorem setL_icells (L : List Int) (k : Nat) (x : Int) : setL (L.flatMap icells) k (.int .i64 x) = (L.set k x).flatMap icells := by
  rw [setL_eq, flat_icells, flat_icells, List.map_set]
theorem found_lt (ms : List (Int × Int)) (rs : List Int) (fs : List (Int × Int)) (n : Nat) : (foundTo ms rs fs n).Pairwise (· < ·) := by
  rw [foundTo, List.pairwise_map]
  exact (List.Pairwise.filter _ List.pairwise_lt_range).imp fun h => by omega
theorem found_mem (ms : List (Int × Int)) (rs : List Int) (fs : List (Int × Int)) (n k : Nat) : (k : Int) ∈ foundTo ms rs fs n ↔ k < n ∧ findAt ms rs fs (k : Int) = true := by
  simp only [foundTo, List.mem_map, List.mem_filter, List.mem_range, findAt, Int.toNat_natCast]
  constructor
  · rintro ⟨a, ⟨h1, h2⟩, h3⟩
    obtain rfl : a = k := by omega
    exact ⟨h1, h2⟩
  · rintro ⟨h1, h2⟩; exact ⟨k, ⟨h1, h2⟩, rfl⟩
theorem found_at {ms : List (Int × Int)} {rs : List Int} {fs : List (Int × Int)} {n j : Nat} (h : j < (foundTo ms rs fs n).length) : ∃ k, k < n ∧ (foundTo ms rs fs n)[j] = (k : Int) ∧ ¬ (k : Int) ∈ (foundTo ms rs fs n).take j := by
  have hm := List.getElem_mem h
  obtain ⟨k, hk, he⟩ := List.mem_map.mp hm
  simp only [List.mem_filter, List.mem_range] at hk
  refine ⟨k, hk.1, he.symm, fun hin => ?_⟩
  rw [he] at hin
  obtain ⟨i, hi, e⟩ := List.mem_iff_getElem.mp hin
  rw [List.getElem_take] at e
  rw [List.length_take] at hi
  have := List.pairwise_iff_getElem.mp (found_lt ms rs fs n) i j (by omega) h (by omega)
  omega
theorem range_map_get {n : Nat} {g : Nat → Int} {k : Nat} (h : k < n) : (((List.range n).map g).flatMap icells)[k]? = some (.int .i64 (g k)) := by
  rw [flat_icells, List.getElem?_map, List.getElem?_map, List.getElem?_range h]; rfl
theorem range_map_set {n : Nat} {g g2 : Nat → Int} {k0 : Nat} (h : ∀ k, k < n → k ≠ k0 → g2 k = g k) {x : Int} (h0 : g2 k0 = x) : ((List.range n).map g).set k0 x = (List.range n).map g2 := by
  refine List.ext_getElem (by simp) fun k h1 h2 => ?_
  rw [List.getElem_set]
  split
  · rename_i e; subst e; simp [h0]
  · rename_i e
    simp only [List.getElem_map, List.getElem_range]
    exact (h k (by simpa using h2) (fun q => e q.symm)).symm
set_option maxHeartbeats 4000000 in
theorem prove_ok (ms : List (Int × Int)) (rs : List Int) (fss : List (List (Int × Int))) (ps : List Int) (v u x y : Value) (w : AW) (f : Fresh w) (hs : ArrOf w 2 mcells v ms) (hr : ArrOf w 1 icells u rs) (hF : Fks w x fss) (hS : ArrOf w 1 icells y ps)
    (hG : Good ms rs) (hf10 : fss.length ≤ 10) (hok : ∀ fs ∈ fss, fs.length = ms.length ∧ ∀ s ∈ fs, okSp s = true) (hpl : ps.length = fss.length) (hps : ∀ p ∈ ps, 0 ≤ p ∧ p ≤ 1000) :
    CallT Tryz.prog Tryz.T (.fn (.func 59) #[]) #[v, u, x, y] w (Ret (.bool (provedB ms rs fss ps)) (Grown w)) := by
  obtain ⟨vs, hvl, hvs, hrow⟩ := id hF
  obtain ⟨p, cap, rfl, hcap, hmax, hat⟩ := hs.open
  obtain ⟨q, cap2, rfl, hcap2, hmax2, hat2⟩ := hr.open
  obtain ⟨r, cap3, rfl, hcap3, hmax3, hat3⟩ := hvs.open
  obtain ⟨s, cap4, rfl, hcap4, hmax4, hat4⟩ := hS.open
  have h8 := hG.len
  refine callT_code rfl Tryz.func59 rfl Tryz.s59_eq rfl ?_
  unfold Tryz.s59
  have hmk : makeSliceV (prg Tryz.prog) w 24 (.int .i64 (ms.length : Int)) (.int .i64 (ms.length : Int)) = some (.slice (some ⟨w.next, 0, none⟩) ms.length ms.length, w.push (.cells ((List.replicate ms.length (0 : Int)).flatMap icells) 3 w.next 0 0)) := by
    rw [makeSliceV_eq Tryz.ty24 Tryz.ty3 (by omega) (by omega) (by omega) rfl, ← flat_rep]; rfl
  have hrep : (List.replicate ms.length (0 : Int)) = (List.range ms.length).map (paidTo ms rs fss ps 0) := by
    refine List.ext_getElem (by simp) fun k h1 h2 => ?_
    simp [paidTo]
  rw [hrep] at hmk
  simp -dsimp -implicitDefEqProofs (maxSteps := 2000000) (disch := first | assumption | omega | (simp only [AW.next_push, AW.next_put]; omega) | ((repeat refine Fresh.push ?_ _); assumption) | (simp only [same_int, same_bool, same_ptr, same_slice, same_sliceP, same_nil, same_agg2, same_string]; done) | (simp [oneCell, AW.next_push]; done) | fail) only [go_sem, Nat.reduceEqDiff, reduceIte, Nat.reduceAdd, Int.toNat_natCast, Nat.add_zero, Owes_true, Tryz.results59, hmk]
  refine loopR (fun k t ds w1 => ∃ i : Nat, i ≤ vs.length ∧ k = vs.length - i ∧ ds = [] ∧ ev t (.tmp 0) = .slice p ms.length cap ∧ ev t (.tmp 1) = .slice q rs.length cap2 ∧ ev t (.tmp 3) = .slice s ps.length cap4 ∧ ev t (.tmp 9) = .slice (some ⟨w.next, 0, none⟩) ms.length ms.length ∧ ev t (.tmp 19) = .slice r vs.length cap3 ∧ ev t (.tmp 20) = .int .i64 (vs.length : Int) ∧ ev t (.tmp 21) = .int .i64 (i : Int) ∧ Own w1 w.next 3 (((List.range ms.length).map (paidTo ms rs fss ps i)).flatMap icells) ∧ Grown w w1) (vs.length) ?_ ?_
  · refine ⟨0, by omega, by omega, rfl, ?_, ?_, ?_, ?_, ?_, ?_, ?_, Own.new f _ _, (Grown.refl f).push _⟩ <;> simp -dsimp -implicitDefEqProofs (maxSteps := 2000000) (disch := first | assumption | omega | (simp only [AW.next_push, AW.next_put]; omega) | ((repeat refine Fresh.push ?_ _); assumption) | (simp only [same_int, same_bool, same_ptr, same_slice, same_sliceP, same_nil, same_agg2, same_string]; done) | (simp [oneCell, AW.next_push]; done) | fail) only [go_sem, Nat.reduceEqDiff, reduceIte, Nat.reduceAdd, Int.toNat_natCast, Nat.add_zero, Owes_true] <;> rfl
  rintro k t ds w1 ⟨i, hii, rfl, rfl, e0, e1, e3, e9, e19, e20, e21, hO, hg⟩
  obtain ⟨hk, hf⟩ := id hg
  by_cases hlt : (i : Int) < (vs.length : Int)
  · have hlt' : i < vs.length := by omega
    have hri : i < fss.length := by omega
    have hpi : i < ps.length := by omega
    have hpi' : (i : Int) < (ps.length : Int) := by omega
    obtain ⟨b1, o1, rfl, hb1, hcell⟩ := hat3 i hlt'
    have hrowi := hrow i vs[i] fss[i] (by simp [hlt']) (by simp [hri])
    obtain ⟨p3, cap5, hv3, hcap5, hmax5, hat5⟩ := hrowi.open
    have hc0 := hcell w1 hk 0 _ rfl
    rw [Nat.add_zero, hv3] at hc0
    rw [hv3] at hrowi
    obtain ⟨hfl, hsp⟩ := hok fss[i] (List.getElem_mem hri)
    have hprice := hps ps[i] (List.getElem_mem hpi)
    have hC := Own.new hf 40 [.slice p3 fss[i].length cap5]
    have gp := hg.push (.cells [.slice p3 fss[i].length cap5] 40 w1.next 0 0)
    have hOp := hO.push (.cells [.slice p3 fss[i].length cap5] 40 w1.next 0 0)
    have k0 := hC.cell (o := 0) rfl rfl
    simp -dsimp -implicitDefEqProofs (maxSteps := 2000000) (disch := first | assumption | omega | (simp only [AW.next_push, AW.next_put]; omega) | ((repeat refine Fresh.push ?_ _); assumption) | (simp only [same_int, same_bool, same_ptr, same_slice, same_sliceP, same_nil, same_agg2, same_string]; done) | (simp [oneCell, AW.next_push]; done) | fail) only [go_sem, Nat.reduceEqDiff, reduceIte, Nat.reduceAdd, Int.toNat_natCast, Nat.add_zero, Owes_true, Tryz.results59, e0, e1, e3, e9, e19, e20, e21, hlt, indexV_eq, hc0, Nat.zero_add, k0]
    apply callV_of (e := rfl)
    · exact finders_ok ms rs fss[i] _ _ _ _ gp.2 (hs.grown gp) (hr.grown gp) (hrowi.grown gp) hG hfl hsp
    rintro L w2 ⟨hL, hg2, hnew⟩
    obtain ⟨pL, capL, rfl, hcapL, hmaxL, hatL⟩ := hL.open
    have g2 := gp.trans hg2
    have hO2 := hOp.keep hg2.1
    have hfl8 := foundTo_len ms rs fss[i] ms.length
    simp -dsimp -implicitDefEqProofs (maxSteps := 2000000) (disch := first | assumption | omega | (simp only [AW.next_push, AW.next_put]; omega) | ((repeat refine Fresh.push ?_ _); assumption) | (simp only [same_int, same_bool, same_ptr, same_slice, same_sliceP, same_nil, same_agg2, same_string]; done) | (simp [oneCell, AW.next_push]; done) | fail) only [go_sem, Nat.reduceEqDiff, reduceIte, Nat.reduceAdd, Int.toNat_natCast, Nat.add_zero, Owes_true, Tryz.results59, e0, e1, e3, e9, e19, e20, e21]
    refine loopR (fun k t ds w3 => ∃ j : Nat, j ≤ (foundTo ms rs fss[i] ms.length).length ∧ k = (foundTo ms rs fss[i] ms.length).length - j ∧ ds = [] ∧ ev t (.tmp 0) = .slice p ms.length cap ∧ ev t (.tmp 1) = .slice q rs.length cap2 ∧ ev t (.tmp 3) = .slice s ps.length cap4 ∧ ev t (.tmp 9) = .slice (some ⟨w.next, 0, none⟩) ms.length ms.length ∧ ev t (.tmp 10) = .int .i64 (i : Int) ∧ ev t (.tmp 19) = .slice (some ⟨b1, o1, none⟩) vs.length cap3 ∧ ev t (.tmp 20) = .int .i64 (vs.length : Int) ∧ ev t (.tmp 21) = .int .i64 (i : Int) ∧ ev t (.tmp 29) = .slice pL (foundTo ms rs fss[i] ms.length).length capL ∧ ev t (.tmp 30) = .int .i64 ((foundTo ms rs fss[i] ms.length).length : Int) ∧ ev t (.tmp 31) = .int .i64 (j : Int) ∧ Own w3 w.next 3 (((List.range ms.length).map fun k => paidTo ms rs fss ps i k + if (k : Int) ∈ (foundTo ms rs fss[i] ms.length).take j then ps[i] else 0).flatMap icells) ∧ Grown w w3 ∧ (∀ n, n ≠ w.next → n < w2.next → w3.blk n = w2.blk n) ∧ w2.next ≤ w3.next) ((foundTo ms rs fss[i] ms.length).length) ?_ ?_
    · refine ⟨0, by omega, by omega, rfl, ?_, ?_, ?_, ?_, ?_, ?_, ?_, ?_, ?_, ?_, ?_, by simpa using hO2, g2, fun _ _ _ => rfl, Nat.le_refl _⟩ <;> simp -dsimp -implicitDefEqProofs (maxSteps := 2000000) (disch := first | assumption | omega | (simp only [AW.next_push, AW.next_put]; omega) | ((repeat refine Fresh.push ?_ _); assumption) | (simp only [same_int, same_bool, same_ptr, same_slice, same_sliceP, same_nil, same_agg2, same_string]; done) | (simp [oneCell, AW.next_push]; done) | fail) only [go_sem, Nat.reduceEqDiff, reduceIte, Nat.reduceAdd, Int.toNat_natCast, Nat.add_zero, Owes_true, e0, e1, e3, e9, e19, e20, e21] <;> rfl
    rintro k t ds w3 ⟨j, hij, rfl, rfl, e0, e1, e3, e9, e10, e19, e20, e21, e29, e30, e31, hO3, hg3, hk23, hn23⟩
    obtain ⟨hk3, hf3⟩ := id hg3
    by_cases hjt : (j : Int) < ((foundTo ms rs fss[i] ms.length).length : Int)
    case neg =>
      simp -dsimp -implicitDefEqProofs (maxSteps := 2000000) (disch := first | assumption | omega | (simp only [AW.next_push, AW.next_put]; omega) | ((repeat refine Fresh.push ?_ _); assumption) | (simp only [same_int, same_bool, same_ptr, same_slice, same_sliceP, same_nil, same_agg2, same_string]; done) | (simp [oneCell, AW.next_push]; done) | fail) only [go_sem, Nat.reduceEqDiff, reduceIte, Nat.reduceAdd, Int.toNat_natCast, Nat.add_zero, Owes_true, Tryz.results59, e0, e1, e3, e9, e10, e19, e20, e21, e29, e30, e31, hjt]
      refine ⟨_, by omega, i + 1, by omega, rfl, rfl, by (simp -dsimp -implicitDefEqProofs (maxSteps := 2000000) (disch := first | assumption | omega | (simp only [AW.next_push, AW.next_put]; omega) | ((repeat refine Fresh.push ?_ _); assumption) | (simp only [same_int, same_bool, same_ptr, same_slice, same_sliceP, same_nil, same_agg2, same_string]; done) | (simp [oneCell, AW.next_push]; done) | fail) only [go_sem, Nat.reduceEqDiff, reduceIte, Nat.reduceAdd, Int.toNat_natCast, Nat.add_zero, Owes_true, e0]; try rfl), by (simp -dsimp -implicitDefEqProofs (maxSteps := 2000000) (disch := first | assumption | omega | (simp only [AW.next_push, AW.next_put]; omega) | ((repeat refine Fresh.push ?_ _); assumption) | (simp only [same_int, same_bool, same_ptr, same_slice, same_sliceP, same_nil, same_agg2, same_string]; done) | (simp [oneCell, AW.next_push]; done) | fail) only [go_sem, Nat.reduceEqDiff, reduceIte, Nat.reduceAdd, Int.toNat_natCast, Nat.add_zero, Owes_true, e1]; try rfl), by (simp -dsimp -implicitDefEqProofs (maxSteps := 2000000) (disch := first | assumption | omega | (simp only [AW.next_push, AW.next_put]; omega) | ((repeat refine Fresh.push ?_ _); assumption) | (simp only [same_int, same_bool, same_ptr, same_slice, same_sliceP, same_nil, same_agg2, same_string]; done) | (simp [oneCell, AW.next_push]; done) | fail) only [go_sem, Nat.reduceEqDiff, reduceIte, Nat.reduceAdd, Int.toNat_natCast, Nat.add_zero, Owes_true, e3]; try rfl), by (simp -dsimp -implicitDefEqProofs (maxSteps := 2000000) (disch := first | assumption | omega | (simp only [AW.next_push, AW.next_put]; omega) | ((repeat refine Fresh.push ?_ _); assumption) | (simp only [same_int, same_bool, same_ptr, same_slice, same_sliceP, same_nil, same_agg2, same_string]; done) | (simp [oneCell, AW.next_push]; done) | fail) only [go_sem, Nat.reduceEqDiff, reduceIte, Nat.reduceAdd, Int.toNat_natCast, Nat.add_zero, Owes_true, e9]; try rfl), by (simp -dsimp -implicitDefEqProofs (maxSteps := 2000000) (disch := first | assumption | omega | (simp only [AW.next_push, AW.next_put]; omega) | ((repeat refine Fresh.push ?_ _); assumption) | (simp only [same_int, same_bool, same_ptr, same_slice, same_sliceP, same_nil, same_agg2, same_string]; done) | (simp [oneCell, AW.next_push]; done) | fail) only [go_sem, Nat.reduceEqDiff, reduceIte, Nat.reduceAdd, Int.toNat_natCast, Nat.add_zero, Owes_true, e19]; try rfl), by (simp -dsimp -implicitDefEqProofs (maxSteps := 2000000) (disch := first | assumption | omega | (simp only [AW.next_push, AW.next_put]; omega) | ((repeat refine Fresh.push ?_ _); assumption) | (simp only [same_int, same_bool, same_ptr, same_slice, same_sliceP, same_nil, same_agg2, same_string]; done) | (simp [oneCell, AW.next_push]; done) | fail) only [go_sem, Nat.reduceEqDiff, reduceIte, Nat.reduceAdd, Int.toNat_natCast, Nat.add_zero, Owes_true, e20]; try rfl), by (simp -dsimp -implicitDefEqProofs (maxSteps := 2000000) (disch := first | assumption | omega | (simp only [AW.next_push, AW.next_put]; omega) | ((repeat refine Fresh.push ?_ _); assumption) | (simp only [same_int, same_bool, same_ptr, same_slice, same_sliceP, same_nil, same_agg2, same_string]; done) | (simp [oneCell, AW.next_push]; done) | fail) only [go_sem, Nat.reduceEqDiff, reduceIte, Nat.reduceAdd, Int.toNat_natCast, Nat.add_zero, Owes_true, e21]; try rfl), ?_, hg3⟩
      have h2 : (foundTo ms rs fss[i] ms.length).take j = foundTo ms rs fss[i] ms.length := List.take_of_length_le (by omega)
      rw [h2] at hO3
      have : ((List.range ms.length).map (paidTo ms rs fss ps (i + 1))) = ((List.range ms.length).map fun k => paidTo ms rs fss ps i k + if (k : Int) ∈ foundTo ms rs fss[i] ms.length then ps[i] else 0) := by
        refine List.map_congr_left fun k hk => ?_
        have hkn : k < ms.length := by simpa using hk
        rw [paidTo_succ, getD_at hri, getD_at hpi]
        by_cases hq : findAt ms rs fss[i] (k : Int) = true
        · rw [if_pos hq, if_pos ((found_mem ms rs fss[i] ms.length k).2 ⟨hkn, hq⟩)]
        · rw [if_neg hq, if_neg (fun h => hq ((found_mem ms rs fss[i] ms.length k).1 h).2)]
      rw [this]; exact hO3
    have hjt' : j < (foundTo ms rs fss[i] ms.length).length := by omega
    obtain ⟨kk, hkk, hek, hnin⟩ := found_at hjt'
    obtain ⟨b6, o6, rfl, hb6, hcell6⟩ := hatL j hjt'
    obtain ⟨b7, o7, rfl, hb7, hcell7⟩ := hat4 i hpi
    have hb6' : w.next ≠ b6 := by have := hnew b6 o6 _ _ rfl; have := hO.lt; have := gp.1.next; simp only [AW.next_push] at *; omega
    have z0 : w3.cell? ⟨b6, o6 + j * 1 + 0, none⟩ = some (.int .i64 (foundTo ms rs fss[i] ms.length)[j]) := by
      have := hcell6 w2 (.refl _ _) 0 _ rfl
      rw [← this]; simp only [AW.cell?, hk23 b6 (fun q => hb6' q.symm) hb6]
    have y0 := hcell7 w3 hk3 0 _ rfl
    rw [Nat.add_zero] at z0 y0
    have z0' : w3.cell? ⟨b6, o6 + j * 1, none⟩ = some (.int .i64 (kk : Int)) := by rw [z0, hek]
    have hkk' : (kk : Int) < (ms.length : Int) := by omega
    have hpk := paidTo_in (ms := ms) (rs := rs) (fss := fss) hps kk i
    have x0 : w3.cell? ⟨w.next, kk, none⟩ = some (.int .i64 (paidTo ms rs fss ps i kk)) := by
      have := hO3.cell (o := kk) (range_map_get hkk) rfl
      rw [this, if_neg hnin, Int.add_zero]
    have hst := storeV_own1 (o := kk) (v := .int .i64 (paidTo ms rs fss ps i kk + ps[i])) hO3 (by rw [flat_icells]; simpa using hkk) rfl
    rw [setL_icells, range_map_set (g2 := fun k => paidTo ms rs fss ps i k + if (k : Int) ∈ (foundTo ms rs fss[i] ms.length).take (j + 1) then ps[i] else 0)
      (fun k hk hne => by
        have : (k : Int) ∈ (foundTo ms rs fss[i] ms.length).take (j + 1) ↔ (k : Int) ∈ (foundTo ms rs fss[i] ms.length).take j := by
          rw [List.take_succ_eq_append_getElem hjt', List.mem_append, List.mem_singleton, hek]
          constructor
          · rintro (h | h)
            · exact h
            · omega
          · exact .inl
        simp only [this])
      (by
        have : (kk : Int) ∈ (foundTo ms rs fss[i] ms.length).take (j + 1) := by
          rw [List.take_succ_eq_append_getElem hjt', List.mem_append, List.mem_singleton, hek]; exact .inr rfl
        simp only [this, if_true])] at hst
    have hlt3 := hO3.lt
    have x0' : w3.cell? ⟨w.next, kk * 1, none⟩ = some (.int .i64 (paidTo ms rs fss ps i kk)) := by rw [Nat.mul_one]; exact x0
    rw [show (Value.pointer (some ⟨w.next, kk, none⟩)) = .pointer (some ⟨w.next, kk * 1, none⟩) from by rw [Nat.mul_one]] at hst
    simp -dsimp -implicitDefEqProofs (maxSteps := 2000000) (disch := first | assumption | omega | (simp only [AW.next_push, AW.next_put]; omega) | ((repeat refine Fresh.push ?_ _); assumption) | (simp only [same_int, same_bool, same_ptr, same_slice, same_sliceP, same_nil, same_agg2, same_string]; done) | (simp [oneCell, AW.next_push]; done) | fail) only [go_sem, Nat.reduceEqDiff, reduceIte, Nat.reduceAdd, Int.toNat_natCast, Nat.add_zero, Owes_true, Tryz.results59, e0, e1, e3, e9, e10, e19, e20, e21, e29, e30, e31, hjt, indexV_eq, Nat.zero_add, z0', y0, x0', hst]
    refine ⟨_, by omega, j + 1, by omega, rfl, rfl, by (simp -dsimp -implicitDefEqProofs (maxSteps := 2000000) (disch := first | assumption | omega | (simp only [AW.next_push, AW.next_put]; omega) | ((repeat refine Fresh.push ?_ _); assumption) | (simp only [same_int, same_bool, same_ptr, same_slice, same_sliceP, same_nil, same_agg2, same_string]; done) | (simp [oneCell, AW.next_push]; done) | fail) only [go_sem, Nat.reduceEqDiff, reduceIte, Nat.reduceAdd, Int.toNat_natCast, Nat.add_zero, Owes_true, e0]; try rfl), by (simp -dsimp -implicitDefEqProofs (maxSteps := 2000000) (disch := first | assumption | omega | (simp only [AW.next_push, AW.next_put]; omega) | ((repeat refine Fresh.push ?_ _); assumption) | (simp only [same_int, same_bool, same_ptr, same_slice, same_sliceP, same_nil, same_agg2, same_string]; done) | (simp [oneCell, AW.next_push]; done) | fail) only [go_sem, Nat.reduceEqDiff, reduceIte, Nat.reduceAdd, Int.toNat_natCast, Nat.add_zero, Owes_true, e1]; try rfl), by (simp -dsimp -implicitDefEqProofs (maxSteps := 2000000) (disch := first | assumption | omega | (simp only [AW.next_push, AW.next_put]; omega) | ((repeat refine Fresh.push ?_ _); assumption) | (simp only [same_int, same_bool, same_ptr, same_slice, same_sliceP, same_nil, same_agg2, same_string]; done) | (simp [oneCell, AW.next_push]; done) | fail) only [go_sem, Nat.reduceEqDiff, reduceIte, Nat.reduceAdd, Int.toNat_natCast, Nat.add_zero, Owes_true, e3]; try rfl), by (simp -dsimp -implicitDefEqProofs (maxSteps := 2000000) (disch := first | assumption | omega | (simp only [AW.next_push, AW.next_put]; omega) | ((repeat refine Fresh.push ?_ _); assumption) | (simp only [same_int, same_bool, same_ptr, same_slice, same_sliceP, same_nil, same_agg2, same_string]; done) | (simp [oneCell, AW.next_push]; done) | fail) only [go_sem, Nat.reduceEqDiff, reduceIte, Nat.reduceAdd, Int.toNat_natCast, Nat.add_zero, Owes_true, e9]; try rfl), by (simp -dsimp -implicitDefEqProofs (maxSteps := 2000000) (disch := first | assumption | omega | (simp only [AW.next_push, AW.next_put]; omega) | ((repeat refine Fresh.push ?_ _); assumption) | (simp only [same_int, same_bool, same_ptr, same_slice, same_sliceP, same_nil, same_agg2, same_string]; done) | (simp [oneCell, AW.next_push]; done) | fail) only [go_sem, Nat.reduceEqDiff, reduceIte, Nat.reduceAdd, Int.toNat_natCast, Nat.add_zero, Owes_true, e10]; try rfl), by (simp -dsimp -implicitDefEqProofs (maxSteps := 2000000) (disch := first | assumption | omega | (simp only [AW.next_push, AW.next_put]; omega) | ((repeat refine Fresh.push ?_ _); assumption) | (simp only [same_int, same_bool, same_ptr, same_slice, same_sliceP, same_nil, same_agg2, same_string]; done) | (simp [oneCell, AW.next_push]; done) | fail) only [go_sem, Nat.reduceEqDiff, reduceIte, Nat.reduceAdd, Int.toNat_natCast, Nat.add_zero, Owes_true, e19]; try rfl), by (simp -dsimp -implicitDefEqProofs (maxSteps := 2000000) (disch := first | assumption | omega | (simp only [AW.next_push, AW.next_put]; omega) | ((repeat refine Fresh.push ?_ _); assumption) | (simp only [same_int, same_bool, same_ptr, same_slice, same_sliceP, same_nil, same_agg2, same_string]; done) | (simp [oneCell, AW.next_push]; done) | fail) only [go_sem, Nat.reduceEqDiff, reduceIte, Nat.reduceAdd, Int.toNat_natCast, Nat.add_zero, Owes_true, e20]; try rfl), by (simp -dsimp -implicitDefEqProofs (maxSteps := 2000000) (disch := first | assumption | omega | (simp only [AW.next_push, AW.next_put]; omega) | ((repeat refine Fresh.push ?_ _); assumption) | (simp only [same_int, same_bool, same_ptr, same_slice, same_sliceP, same_nil, same_agg2, same_string]; done) | (simp [oneCell, AW.next_push]; done) | fail) only [go_sem, Nat.reduceEqDiff, reduceIte, Nat.reduceAdd, Int.toNat_natCast, Nat.add_zero, Owes_true, e21]; try rfl), by (simp -dsimp -implicitDefEqProofs (maxSteps := 2000000) (disch := first | assumption | omega | (simp only [AW.next_push, AW.next_put]; omega) | ((repeat refine Fresh.push ?_ _); assumption) | (simp only [same_int, same_bool, same_ptr, same_slice, same_sliceP, same_nil, same_agg2, same_string]; done) | (simp [oneCell, AW.next_push]; done) | fail) only [go_sem, Nat.reduceEqDiff, reduceIte, Nat.reduceAdd, Int.toNat_natCast, Nat.add_zero, Owes_true, e29]; try rfl), by (simp -dsimp -implicitDefEqProofs (maxSteps := 2000000) (disch := first | assumption | omega | (simp only [AW.next_push, AW.next_put]; omega) | ((repeat refine Fresh.push ?_ _); assumption) | (simp only [same_int, same_bool, same_ptr, same_slice, same_sliceP, same_nil, same_agg2, same_string]; done) | (simp [oneCell, AW.next_push]; done) | fail) only [go_sem, Nat.reduceEqDiff, reduceIte, Nat.reduceAdd, Int.toNat_natCast, Nat.add_zero, Owes_true, e30]; try rfl), by (simp -dsimp -implicitDefEqProofs (maxSteps := 2000000) (disch := first | assumption | omega | (simp only [AW.next_push, AW.next_put]; omega) | ((repeat refine Fresh.push ?_ _); assumption) | (simp only [same_int, same_bool, same_ptr, same_slice, same_sliceP, same_nil, same_agg2, same_string]; done) | (simp [oneCell, AW.next_push]; done) | fail) only [go_sem, Nat.reduceEqDiff, reduceIte, Nat.reduceAdd, Int.toNat_natCast, Nat.add_zero, Owes_true, e31]; try rfl), hO3.put _, hg3.put (Nat.le_refl _) hO3.lt _, fun n h1 h2 => by rw [AW.blk_put _ _ _ _ (Trie.in_ _) (Trie.in_ _), if_neg h1]; exact hk23 n h1 h2, by rw [AW.next_put]; exact hn23⟩
  obtain rfl : i = vs.length := by omega
  rw [hvl] at hO
  simp -dsimp -implicitDefEqProofs (maxSteps := 2000000) (disch := first | assumption | omega | (simp only [AW.next_push, AW.next_put]; omega) | ((repeat refine Fresh.push ?_ _); assumption) | (simp only [same_int, same_bool, same_ptr, same_slice, same_sliceP, same_nil, same_agg2, same_string]; done) | (simp [oneCell, AW.next_push]; done) | fail) only [go_sem, Nat.reduceEqDiff, reduceIte, Nat.reduceAdd, Int.toNat_natCast, Nat.add_zero, Owes_true, Tryz.results59, e0, e1, e3, e9, e19, e20, e21, hlt]
  refine loopR (fun k t ds w3 => ∃ j : Nat, j ≤ ms.length ∧ k = ms.length - j ∧ ds = [] ∧ ev t (.tmp 9) = .slice (some ⟨w.next, 0, none⟩) ms.length ms.length ∧ ev t (.tmp 47) = .slice p ms.length cap ∧ ev t (.tmp 48) = .int .i64 (ms.length : Int) ∧ ev t (.tmp 49) = .int .i64 (j : Int) ∧ Own w3 w.next 3 (((List.range ms.length).map (paidTo ms rs fss ps fss.length)).flatMap icells) ∧ Grown w w3 ∧ ((List.range j).all fun k => decide (paidTo ms rs fss ps fss.length k ≤ (ms.getD k (0, 0)).2)) = true) (ms.length) ?_ ?_
  · refine ⟨0, by omega, by omega, rfl, ?_, ?_, ?_, ?_, hO, hg, rfl⟩ <;> simp -dsimp -implicitDefEqProofs (maxSteps := 2000000) (disch := first | assumption | omega | (simp only [AW.next_push, AW.next_put]; omega) | ((repeat refine Fresh.push ?_ _); assumption) | (simp only [same_int, same_bool, same_ptr, same_slice, same_sliceP, same_nil, same_agg2, same_string]; done) | (simp [oneCell, AW.next_push]; done) | fail) only [go_sem, Nat.reduceEqDiff, reduceIte, Nat.reduceAdd, Int.toNat_natCast, Nat.add_zero, Owes_true, e0, e9] <;> rfl
  rintro k t ds w3 ⟨j, hij, rfl, rfl, e9, e47, e48, e49, hO3, hg3, hall⟩
  obtain ⟨hk3, hf3⟩ := id hg3
  by_cases hjt : (j : Int) < (ms.length : Int)
  case neg =>
    obtain rfl : j = ms.length := by omega
    simp -dsimp -implicitDefEqProofs (maxSteps := 2000000) (disch := first | assumption | omega | (simp only [AW.next_push, AW.next_put]; omega) | ((repeat refine Fresh.push ?_ _); assumption) | (simp only [same_int, same_bool, same_ptr, same_slice, same_sliceP, same_nil, same_agg2, same_string]; done) | (simp [oneCell, AW.next_push]; done) | fail) only [go_sem, Nat.reduceEqDiff, reduceIte, Nat.reduceAdd, Int.toNat_natCast, Nat.add_zero, Owes_true, Tryz.results59, e9, e47, e48, e49, hjt]
    exact ⟨by rw [provedB, hall], hg3⟩
  have hjt' : j < ms.length := by omega
  obtain ⟨b1, o1, rfl, hb1, hcell⟩ := hat j hjt'
  have hc0 := hcell w3 hk3 0 _ rfl
  have hc1 := hcell w3 hk3 1 _ rfl
  rw [Nat.add_zero] at hc0
  have hT := Own.new hf3 53 [.int .i64 ms[j].1, .int .i64 ms[j].2]
  have ht1 := hT.cell (o := 1) rfl rfl
  have hOp := hO3.push (.cells [.int .i64 ms[j].1, .int .i64 ms[j].2] 53 w3.next 0 0)
  have x0 := hOp.cell (o := j) (range_map_get hjt') rfl
  rw [show (⟨w.next, j, none⟩ : Addr) = ⟨w.next, j * 1, none⟩ from by rw [Nat.mul_one]] at x0
  by_cases hgt : ms[j].2 < paidTo ms rs fss ps fss.length j
  · simp -dsimp -implicitDefEqProofs (maxSteps := 2000000) (disch := first | assumption | omega | (simp only [AW.next_push, AW.next_put]; omega) | ((repeat refine Fresh.push ?_ _); assumption) | (simp only [same_int, same_bool, same_ptr, same_slice, same_sliceP, same_nil, same_agg2, same_string]; done) | (simp [oneCell, AW.next_push]; done) | fail) only [go_sem, Nat.reduceEqDiff, reduceIte, Nat.reduceAdd, Int.toNat_natCast, Nat.add_zero, Owes_true, Tryz.results59, e9, e47, e48, e49, hjt, indexV_eq, hc0, hc1, Nat.zero_add, ht1, x0, hgt]
    refine ⟨?_, hg3.push _⟩
    rw [provedB, List.all_eq_false.mpr ⟨j, by simpa using hjt', by rw [getD_at hjt']; simp; omega⟩]
  · simp -dsimp -implicitDefEqProofs (maxSteps := 2000000) (disch := first | assumption | omega | (simp only [AW.next_push, AW.next_put]; omega) | ((repeat refine Fresh.push ?_ _); assumption) | (simp only [same_int, same_bool, same_ptr, same_slice, same_sliceP, same_nil, same_agg2, same_string]; done) | (simp [oneCell, AW.next_push]; done) | fail) only [go_sem, Nat.reduceEqDiff, reduceIte, Nat.reduceAdd, Int.toNat_natCast, Nat.add_zero, Owes_true, Tryz.results59, e9, e47, e48, e49, hjt, indexV_eq, hc0, hc1, Nat.zero_add, ht1, x0, hgt]
    refine ⟨_, by omega, j + 1, by omega, rfl, rfl, by (simp -dsimp -implicitDefEqProofs (maxSteps := 2000000) (disch := first | assumption | omega | (simp only [AW.next_push, AW.next_put]; omega) | ((repeat refine Fresh.push ?_ _); assumption) | (simp only [same_int, same_bool, same_ptr, same_slice, same_sliceP, same_nil, same_agg2, same_string]; done) | (simp [oneCell, AW.next_push]; done) | fail) only [go_sem, Nat.reduceEqDiff, reduceIte, Nat.reduceAdd, Int.toNat_natCast, Nat.add_zero, Owes_true, e9]; try rfl), by (simp -dsimp -implicitDefEqProofs (maxSteps := 2000000) (disch := first | assumption | omega | (simp only [AW.next_push, AW.next_put]; omega) | ((repeat refine Fresh.push ?_ _); assumption) | (simp only [same_int, same_bool, same_ptr, same_slice, same_sliceP, same_nil, same_agg2, same_string]; done) | (simp [oneCell, AW.next_push]; done) | fail) only [go_sem, Nat.reduceEqDiff, reduceIte, Nat.reduceAdd, Int.toNat_natCast, Nat.add_zero, Owes_true, e47]; try rfl), by (simp -dsimp -implicitDefEqProofs (maxSteps := 2000000) (disch := first | assumption | omega | (simp only [AW.next_push, AW.next_put]; omega) | ((repeat refine Fresh.push ?_ _); assumption) | (simp only [same_int, same_bool, same_ptr, same_slice, same_sliceP, same_nil, same_agg2, same_string]; done) | (simp [oneCell, AW.next_push]; done) | fail) only [go_sem, Nat.reduceEqDiff, reduceIte, Nat.reduceAdd, Int.toNat_natCast, Nat.add_zero, Owes_true, e48]; try rfl), by (simp -dsimp -implicitDefEqProofs (maxSteps := 2000000) (disch := first | assumption | omega | (simp only [AW.next_push, AW.next_put]; omega) | ((repeat refine Fresh.push ?_ _); assumption) | (simp only [same_int, same_bool, same_ptr, same_slice, same_sliceP, same_nil, same_agg2, same_string]; done) | (simp [oneCell, AW.next_push]; done) | fail) only [go_sem, Nat.reduceEqDiff, reduceIte, Nat.reduceAdd, Int.toNat_natCast, Nat.add_zero, Owes_true, e49]; try rfl), hOp, hg3.push _, by rw [List.range_succ, List.all_append, hall]; simp only [List.all_cons, List.all_nil, Bool.and_true, Bool.true_and, getD_at hjt']; exact decide_eq_true (by omega)⟩
end Go.Proofs

/- The bound that prices prove, in both versions. -/
namespace Go.Proofs
open Go Go.RowKit Go.Sim
set_option maxRecDepth 100000
def boundOk (ms : List (Int × Int)) (rs : List Int) (fss : List (List (Int × Int))) (ps : List Int) : Bool := okPr fss.length ps && provedB ms rs fss ps
def boundE (ms : List (Int × Int)) (rs : List Int) (fss : List (List (Int × Int))) (ps : List Int) : Int := if askE ms [rs] fss = 0 then (if boundOk ms rs fss ps = true then 0 else 16) else askE ms [rs] fss
def boundR (ms : List (Int × Int)) (rs : List Int) (fss : List (List (Int × Int))) (ps : List Int) : Int := if boundE ms rs fss ps = 0 then sumZ id ps else 0
def BoundPost (ms : List (Int × Int)) (rs : List Int) (fss : List (List (Int × Int))) (ps : List Int) (w : AW) : Value → AW → Prop := Ret (.tuple #[.int .i64 (boundR ms rs fss ps), .int .i64 (boundE ms rs fss ps)]) (Grown w)
theorem BoundPost.err {ms : List (Int × Int)} {rs : List Int} {fss : List (List (Int × Int))} {ps : List Int} {w w' : AW} {e : Int} (h : boundE ms rs fss ps = e) (h0 : e ≠ 0) (g : Grown w w') : BoundPost ms rs fss ps w (.tuple #[.int .i64 0, .int .i64 e]) w' := by
  refine ⟨?_, g⟩
  rw [boundR, h, if_neg h0]
theorem BoundPost.fine {ms : List (Int × Int)} {rs : List Int} {fss : List (List (Int × Int))} {ps : List Int} {w w' : AW} (h : boundE ms rs fss ps = 0) (g : Grown w w') : BoundPost ms rs fss ps w (.tuple #[.int .i64 (sumZ id ps), .int .i64 0]) w' := by
  refine ⟨?_, g⟩
  rw [boundR, h, if_pos rfl]
theorem okPr_in {n : Nat} {ps : List Int} (h : okPr n ps = true) : ps.length = n ∧ ∀ p ∈ ps, 0 ≤ p ∧ p ≤ 1000 := by
  simp only [okPr, Bool.and_eq_true, decide_eq_true_eq, List.all_eq_true] at h
  exact ⟨h.1, fun p hp => (inR_iff _ _ _).1 (h.2 p hp)⟩
theorem count_id (xs : List Int) (w : AW) : CountT (.func 60) #[] id xs w := by
  intro x _ w' hg
  refine callT_code rfl Tryz.func60 rfl Tryz.s60_eq rfl ?_
  unfold Tryz.s60
  simp -dsimp -implicitDefEqProofs (maxSteps := 2000000) (disch := first | assumption | omega | (simp only [AW.next_push, AW.next_put]; omega) | ((repeat refine Fresh.push ?_ _); assumption) | (simp only [same_int, same_bool, same_ptr, same_slice, same_sliceP, same_nil, same_agg2, same_string]; done) | (simp [oneCell, AW.next_push]; done) | fail) only [go_sem, Nat.reduceEqDiff, reduceIte, Nat.reduceAdd, Int.toNat_natCast, Nat.add_zero, Owes_true, Tryz.results60]
  exact ⟨rfl, .refl hg.2⟩
set_option maxHeartbeats 1000000 in
theorem Bound_ok (ms : List (Int × Int)) (rs : List Int) (fss : List (List (Int × Int))) (ps : List Int) (v u x y : Value) (w : AW) (f : Fresh w) (hs : ArrOf w 2 mcells v ms) (hr : ArrOf w 1 icells u rs) (hF : Fks w x fss) (hS : ArrOf w 1 icells y ps) :
    CallT Tryz.prog Tryz.T (.fn (.func 24) #[]) #[v, u, x, y] w (BoundPost ms rs fss ps w) := by
  obtain ⟨q, cap2, rfl, hcap2, hmax2, hat2⟩ := hr.open
  obtain ⟨vs, hvl, hvs, hrow⟩ := id hF
  obtain ⟨r, cap3, rfl, hcap3, hmax3, hat3⟩ := hvs.open
  have g1 := (Grown.refl f).push (.cells [.slice q rs.length cap2] 24 w.next 0 0)
  refine callT_code rfl Tryz.func24 rfl Tryz.s24_eq rfl ?_
  unfold Tryz.s24
  simp -dsimp -implicitDefEqProofs (maxSteps := 2000000) (disch := first | assumption | omega | (simp only [AW.next_push, AW.next_put]; omega) | ((repeat refine Fresh.push ?_ _); assumption) | (simp only [same_int, same_bool, same_ptr, same_slice, same_sliceP, same_nil, same_agg2, same_string]; done) | (simp [oneCell, AW.next_push]; done) | fail) only [go_sem, Nat.reduceEqDiff, reduceIte, Nat.reduceAdd, Int.toNat_natCast, Nat.add_zero, Owes_true, Tryz.results24]
  apply callV_of (e := rfl)
  · exact checkF_ok ms [rs] fss v _ _ _ g1.2 (hs.grown g1) (hF.grown g1) (rows1 f hr)
  rintro _ w1 ⟨rfl, hg1⟩
  have g2 := g1.trans hg1
  by_cases hE : askE ms [rs] fss = 0
  case neg =>
    simp -dsimp -implicitDefEqProofs (maxSteps := 2000000) (disch := first | assumption | omega | (simp only [AW.next_push, AW.next_put]; omega) | ((repeat refine Fresh.push ?_ _); assumption) | (simp only [same_int, same_bool, same_ptr, same_slice, same_sliceP, same_nil, same_agg2, same_string]; done) | (simp [oneCell, AW.next_push]; done) | fail) only [go_sem, Nat.reduceEqDiff, reduceIte, Nat.reduceAdd, Int.toNat_natCast, Nat.add_zero, Owes_true, Tryz.results24, hE]
    exact BoundPost.err (by rw [boundE, if_neg hE]) hE g2
  obtain ⟨hG, hf10, hfs⟩ := askE_zero hE
  simp -dsimp -implicitDefEqProofs (maxSteps := 2000000) (disch := first | assumption | omega | (simp only [AW.next_push, AW.next_put]; omega) | ((repeat refine Fresh.push ?_ _); assumption) | (simp only [same_int, same_bool, same_ptr, same_slice, same_sliceP, same_nil, same_agg2, same_string]; done) | (simp [oneCell, AW.next_push]; done) | fail) only [go_sem, Nat.reduceEqDiff, reduceIte, Nat.reduceAdd, Int.toNat_natCast, Nat.add_zero, Owes_true, Tryz.results24, hE]
  apply callV_of (e := rfl)
  · exact arePrices_ok ps vs.length y w1 g2.2 (hS.grown g2)
  rintro _ w2 ⟨rfl, hg2⟩
  have g3 := g2.trans hg2
  rw [hvl]
  cases hP : okPr fss.length ps with
  | false =>
    simp -dsimp -implicitDefEqProofs (maxSteps := 2000000) (disch := first | assumption | omega | (simp only [AW.next_push, AW.next_put]; omega) | ((repeat refine Fresh.push ?_ _); assumption) | (simp only [same_int, same_bool, same_ptr, same_slice, same_sliceP, same_nil, same_agg2, same_string]; done) | (simp [oneCell, AW.next_push]; done) | fail) only [go_sem, Nat.reduceEqDiff, reduceIte, Nat.reduceAdd, Int.toNat_natCast, Nat.add_zero, Owes_true, Tryz.results24]
    exact BoundPost.err (by rw [boundE, if_pos hE, boundOk, hP]; rfl) (by omega) g3
  | true =>
  obtain ⟨hpl, hps⟩ := okPr_in hP
  simp -dsimp -implicitDefEqProofs (maxSteps := 2000000) (disch := first | assumption | omega | (simp only [AW.next_push, AW.next_put]; omega) | ((repeat refine Fresh.push ?_ _); assumption) | (simp only [same_int, same_bool, same_ptr, same_slice, same_sliceP, same_nil, same_agg2, same_string]; done) | (simp [oneCell, AW.next_push]; done) | fail) only [go_sem, Nat.reduceEqDiff, reduceIte, Nat.reduceAdd, Int.toNat_natCast, Nat.add_zero, Owes_true, Tryz.results24]
  apply callV_of (e := rfl)
  · exact prove_ok ms rs fss ps v _ _ y w2 g3.2 (hs.grown g3) (hr.grown g3) (by rw [← hvl]; exact hF.grown g3) (hS.grown g3) hG hf10 hfs hpl hps
  rintro _ w3 ⟨rfl, hg3⟩
  have g4 := g3.trans hg3
  cases hQ : provedB ms rs fss ps with
  | false =>
    simp -dsimp -implicitDefEqProofs (maxSteps := 2000000) (disch := first | assumption | omega | (simp only [AW.next_push, AW.next_put]; omega) | ((repeat refine Fresh.push ?_ _); assumption) | (simp only [same_int, same_bool, same_ptr, same_slice, same_sliceP, same_nil, same_agg2, same_string]; done) | (simp [oneCell, AW.next_push]; done) | fail) only [go_sem, Nat.reduceEqDiff, reduceIte, Nat.reduceAdd, Int.toNat_natCast, Nat.add_zero, Owes_true, Tryz.results24]
    exact BoundPost.err (by rw [boundE, if_pos hE, boundOk, hP, hQ]; rfl) (by omega) g4
  | true =>
    simp -dsimp -implicitDefEqProofs (maxSteps := 2000000) (disch := first | assumption | omega | (simp only [AW.next_push, AW.next_put]; omega) | ((repeat refine Fresh.push ?_ _); assumption) | (simp only [same_int, same_bool, same_ptr, same_slice, same_sliceP, same_nil, same_agg2, same_string]; done) | (simp [oneCell, AW.next_push]; done) | fail) only [go_sem, Nat.reduceEqDiff, reduceIte, Nat.reduceAdd, Int.toNat_natCast, Nat.add_zero, Owes_true, Tryz.results24]
    apply callV_of (e := rfl)
    · exact sumInt_ok ps y (.func 60) #[] id w3 g4.2 (hS.grown g4) (count_id ps w3) hps (by omega)
    rintro _ w4 ⟨rfl, hg4⟩
    simp -dsimp -implicitDefEqProofs (maxSteps := 2000000) (disch := first | assumption | omega | (simp only [AW.next_push, AW.next_put]; omega) | ((repeat refine Fresh.push ?_ _); assumption) | (simp only [same_int, same_bool, same_ptr, same_slice, same_sliceP, same_nil, same_agg2, same_string]; done) | (simp [oneCell, AW.next_push]; done) | fail) only [go_sem, Nat.reduceEqDiff, reduceIte, Nat.reduceAdd, Int.toNat_natCast, Nat.add_zero, Owes_true, Tryz.results24]
    exact BoundPost.fine (by rw [boundE, if_pos hE, boundOk, hP, hQ]; rfl) (g4.trans hg4)
set_option maxHeartbeats 4000000 in
theorem refBound_ok (ms : List (Int × Int)) (rs : List Int) (fss : List (List (Int × Int))) (ps : List Int) (v u x y : Value) (w : AW) (f : Fresh w) (hs : ArrOf w 2 mcells v ms) (hr : ArrOf w 1 icells u rs) (hF : Fks w x fss) (hS : ArrOf w 1 icells y ps) :
    CallT Tryz.prog Tryz.T (.fn (.func 25) #[]) #[v, u, x, y] w (BoundPost ms rs fss ps w) := by
  obtain ⟨vs, hvl, hvs, hrow⟩ := id hF
  obtain ⟨p, cap, rfl, hcap, hmax, hat⟩ := hs.open
  obtain ⟨q, cap2, rfl, hcap2, hmax2, hat2⟩ := hr.open
  obtain ⟨r, cap3, rfl, hcap3, hmax3, hat3⟩ := hvs.open
  obtain ⟨s, cap4, rfl, hcap4, hmax4, hat4⟩ := hS.open
  refine callT_code rfl Tryz.func25 rfl Tryz.s25_eq rfl ?_
  unfold Tryz.s25
  simp -dsimp -implicitDefEqProofs (maxSteps := 2000000) (disch := first | assumption | omega | (simp only [AW.next_push, AW.next_put]; omega) | ((repeat refine Fresh.push ?_ _); assumption) | (simp only [same_int, same_bool, same_ptr, same_slice, same_sliceP, same_nil, same_agg2, same_string]; done) | (simp [oneCell, AW.next_push]; done) | fail) only [go_sem, Nat.reduceEqDiff, reduceIte, Nat.reduceAdd, Int.toNat_natCast, Nat.add_zero, Owes_true, Tryz.results25]
  apply callV_of (e := rfl)
  · exact asked_ok ms rs fss _ _ _ w f hs hr hF
  rintro _ w1 ⟨rfl, g1⟩
  by_cases hE : askE ms [rs] fss = 0
  case neg =>
    simp -dsimp -implicitDefEqProofs (maxSteps := 2000000) (disch := first | assumption | omega | (simp only [AW.next_push, AW.next_put]; omega) | ((repeat refine Fresh.push ?_ _); assumption) | (simp only [same_int, same_bool, same_ptr, same_slice, same_sliceP, same_nil, same_agg2, same_string]; done) | (simp [oneCell, AW.next_push]; done) | fail) only [go_sem, Nat.reduceEqDiff, reduceIte, Nat.reduceAdd, Int.toNat_natCast, Nat.add_zero, Owes_true, Tryz.results25, hE]
    exact BoundPost.err (by rw [boundE, if_neg hE]) hE g1
  obtain ⟨hG, hf10, hfs⟩ := askE_zero hE
  have h8 := hG.len
  obtain ⟨hk, hf⟩ := id g1
  simp -dsimp -implicitDefEqProofs (maxSteps := 2000000) (disch := first | assumption | omega | (simp only [AW.next_push, AW.next_put]; omega) | ((repeat refine Fresh.push ?_ _); assumption) | (simp only [same_int, same_bool, same_ptr, same_slice, same_sliceP, same_nil, same_agg2, same_string]; done) | (simp [oneCell, AW.next_push]; done) | fail) only [go_sem, Nat.reduceEqDiff, reduceIte, Nat.reduceAdd, Int.toNat_natCast, Nat.add_zero, Owes_true, Tryz.results25, hE]
  refine loopR (fun k t ds w2 => ∃ i : Nat, i ≤ ps.length ∧ k = ps.length - i ∧ ds = [] ∧ ev t (.tmp 0) = .slice p ms.length cap ∧ ev t (.tmp 1) = .slice q rs.length cap2 ∧ ev t (.tmp 2) = .slice r vs.length cap3 ∧ ev t (.tmp 3) = .slice s ps.length cap4 ∧ ev t (.tmp 11) = .bool (decide ((ps.length : Int) = (vs.length : Int)) && ((ps.take i).all fun r => inR 0 r 1000)) ∧ ev t (.tmp 12) = .int .i64 (i : Int) ∧ w1 = w2) (ps.length) ?_ ?_
  · refine ⟨0, by omega, by omega, rfl, ?_, ?_, ?_, ?_, ?_, ?_, rfl⟩ <;> simp -dsimp -implicitDefEqProofs (maxSteps := 2000000) (disch := first | assumption | omega | (simp only [AW.next_push, AW.next_put]; omega) | ((repeat refine Fresh.push ?_ _); assumption) | (simp only [same_int, same_bool, same_ptr, same_slice, same_sliceP, same_nil, same_agg2, same_string]; done) | (simp [oneCell, AW.next_push]; done) | fail) only [go_sem, Nat.reduceEqDiff, reduceIte, Nat.reduceAdd, Int.toNat_natCast, Nat.add_zero, Owes_true, List.take_zero, List.all_nil] <;> rfl
  rintro k t ds w2 ⟨i, hii, rfl, rfl, e0, e1, e2, e3, e11, e12, hw⟩
  subst hw
  by_cases hlt : (i : Int) < (ps.length : Int)
  · have hlt' : i < ps.length := by omega
    obtain ⟨b1, o1, rfl, hb1, hcell⟩ := hat4 i hlt'
    have hc0 := hcell w1 hk 0 _ rfl
    rw [Nat.add_zero] at hc0
    have htake : ps.take (i + 1) = ps.take i ++ [ps[i]] := by rw [List.take_succ_eq_append_getElem hlt']
    have hnext : (decide ((ps.length : Int) = (vs.length : Int)) && ((ps.take (i + 1)).all fun r => inR 0 r 1000)) = ((decide ((ps.length : Int) = (vs.length : Int)) && ((ps.take i).all fun r => inR 0 r 1000)) && inR 0 ps[i] 1000) := by
      rw [htake, List.all_append]; simp [Bool.and_assoc]
    generalize (decide ((ps.length : Int) = (vs.length : Int)) && ((ps.take i).all fun r => inR 0 r 1000)) = B at e11 hnext
    cases B with
    | false =>
      simp -dsimp -implicitDefEqProofs (maxSteps := 2000000) (disch := first | assumption | omega | (simp only [AW.next_push, AW.next_put]; omega) | ((repeat refine Fresh.push ?_ _); assumption) | (simp only [same_int, same_bool, same_ptr, same_slice, same_sliceP, same_nil, same_agg2, same_string]; done) | (simp [oneCell, AW.next_push]; done) | fail) only [go_sem, Nat.reduceEqDiff, reduceIte, Nat.reduceAdd, Int.toNat_natCast, Nat.add_zero, Owes_true, Tryz.results25, e0, e1, e2, e3, e11, e12, hlt]
      refine ⟨_, by omega, i + 1, by omega, rfl, rfl, by simp -dsimp -implicitDefEqProofs (maxSteps := 2000000) (disch := first | assumption | omega | (simp only [AW.next_push, AW.next_put]; omega) | ((repeat refine Fresh.push ?_ _); assumption) | (simp only [same_int, same_bool, same_ptr, same_slice, same_sliceP, same_nil, same_agg2, same_string]; done) | (simp [oneCell, AW.next_push]; done) | fail) only [go_sem, Nat.reduceEqDiff, reduceIte, Nat.reduceAdd, Int.toNat_natCast, Nat.add_zero, Owes_true, e0], by simp -dsimp -implicitDefEqProofs (maxSteps := 2000000) (disch := first | assumption | omega | (simp only [AW.next_push, AW.next_put]; omega) | ((repeat refine Fresh.push ?_ _); assumption) | (simp only [same_int, same_bool, same_ptr, same_slice, same_sliceP, same_nil, same_agg2, same_string]; done) | (simp [oneCell, AW.next_push]; done) | fail) only [go_sem, Nat.reduceEqDiff, reduceIte, Nat.reduceAdd, Int.toNat_natCast, Nat.add_zero, Owes_true, e1], by simp -dsimp -implicitDefEqProofs (maxSteps := 2000000) (disch := first | assumption | omega | (simp only [AW.next_push, AW.next_put]; omega) | ((repeat refine Fresh.push ?_ _); assumption) | (simp only [same_int, same_bool, same_ptr, same_slice, same_sliceP, same_nil, same_agg2, same_string]; done) | (simp [oneCell, AW.next_push]; done) | fail) only [go_sem, Nat.reduceEqDiff, reduceIte, Nat.reduceAdd, Int.toNat_natCast, Nat.add_zero, Owes_true, e2], by simp -dsimp -implicitDefEqProofs (maxSteps := 2000000) (disch := first | assumption | omega | (simp only [AW.next_push, AW.next_put]; omega) | ((repeat refine Fresh.push ?_ _); assumption) | (simp only [same_int, same_bool, same_ptr, same_slice, same_sliceP, same_nil, same_agg2, same_string]; done) | (simp [oneCell, AW.next_push]; done) | fail) only [go_sem, Nat.reduceEqDiff, reduceIte, Nat.reduceAdd, Int.toNat_natCast, Nat.add_zero, Owes_true, e3], ?_, by (simp -dsimp -implicitDefEqProofs (maxSteps := 2000000) (disch := first | assumption | omega | (simp only [AW.next_push, AW.next_put]; omega) | ((repeat refine Fresh.push ?_ _); assumption) | (simp only [same_int, same_bool, same_ptr, same_slice, same_sliceP, same_nil, same_agg2, same_string]; done) | (simp [oneCell, AW.next_push]; done) | fail) only [go_sem, Nat.reduceEqDiff, reduceIte, Nat.reduceAdd, Int.toNat_natCast, Nat.add_zero, Owes_true]; try rfl), rfl⟩
      rw [hnext]; simp -dsimp -implicitDefEqProofs (maxSteps := 2000000) (disch := first | assumption | omega | (simp only [AW.next_push, AW.next_put]; omega) | ((repeat refine Fresh.push ?_ _); assumption) | (simp only [same_int, same_bool, same_ptr, same_slice, same_sliceP, same_nil, same_agg2, same_string]; done) | (simp [oneCell, AW.next_push]; done) | fail) only [go_sem, Nat.reduceEqDiff, reduceIte, Nat.reduceAdd, Int.toNat_natCast, Nat.add_zero, Owes_true]
    | true =>
      simp -dsimp -implicitDefEqProofs (maxSteps := 2000000) (disch := first | assumption | omega | (simp only [AW.next_push, AW.next_put]; omega) | ((repeat refine Fresh.push ?_ _); assumption) | (simp only [same_int, same_bool, same_ptr, same_slice, same_sliceP, same_nil, same_agg2, same_string]; done) | (simp [oneCell, AW.next_push]; done) | fail) only [go_sem, Nat.reduceEqDiff, reduceIte, Nat.reduceAdd, Int.toNat_natCast, Nat.add_zero, Owes_true, Tryz.results25, e0, e1, e2, e3, e11, e12, hlt, indexV_eq, hc0]
      apply callV_of (e := rfl)
      · exact From_ok _ _ _ w1
      rintro _ _ ⟨rfl, rfl⟩
      simp -dsimp -implicitDefEqProofs (maxSteps := 2000000) (disch := first | assumption | omega | (simp only [AW.next_push, AW.next_put]; omega) | ((repeat refine Fresh.push ?_ _); assumption) | (simp only [same_int, same_bool, same_ptr, same_slice, same_sliceP, same_nil, same_agg2, same_string]; done) | (simp [oneCell, AW.next_push]; done) | fail) only [go_sem, Nat.reduceEqDiff, reduceIte, Nat.reduceAdd, Int.toNat_natCast, Nat.add_zero, Owes_true, Tryz.results25, e0, e1, e2, e3, e11, e12]
      refine ⟨_, by omega, i + 1, by omega, rfl, rfl, by simp -dsimp -implicitDefEqProofs (maxSteps := 2000000) (disch := first | assumption | omega | (simp only [AW.next_push, AW.next_put]; omega) | ((repeat refine Fresh.push ?_ _); assumption) | (simp only [same_int, same_bool, same_ptr, same_slice, same_sliceP, same_nil, same_agg2, same_string]; done) | (simp [oneCell, AW.next_push]; done) | fail) only [go_sem, Nat.reduceEqDiff, reduceIte, Nat.reduceAdd, Int.toNat_natCast, Nat.add_zero, Owes_true, e0], by simp -dsimp -implicitDefEqProofs (maxSteps := 2000000) (disch := first | assumption | omega | (simp only [AW.next_push, AW.next_put]; omega) | ((repeat refine Fresh.push ?_ _); assumption) | (simp only [same_int, same_bool, same_ptr, same_slice, same_sliceP, same_nil, same_agg2, same_string]; done) | (simp [oneCell, AW.next_push]; done) | fail) only [go_sem, Nat.reduceEqDiff, reduceIte, Nat.reduceAdd, Int.toNat_natCast, Nat.add_zero, Owes_true, e1], by simp -dsimp -implicitDefEqProofs (maxSteps := 2000000) (disch := first | assumption | omega | (simp only [AW.next_push, AW.next_put]; omega) | ((repeat refine Fresh.push ?_ _); assumption) | (simp only [same_int, same_bool, same_ptr, same_slice, same_sliceP, same_nil, same_agg2, same_string]; done) | (simp [oneCell, AW.next_push]; done) | fail) only [go_sem, Nat.reduceEqDiff, reduceIte, Nat.reduceAdd, Int.toNat_natCast, Nat.add_zero, Owes_true, e2], by simp -dsimp -implicitDefEqProofs (maxSteps := 2000000) (disch := first | assumption | omega | (simp only [AW.next_push, AW.next_put]; omega) | ((repeat refine Fresh.push ?_ _); assumption) | (simp only [same_int, same_bool, same_ptr, same_slice, same_sliceP, same_nil, same_agg2, same_string]; done) | (simp [oneCell, AW.next_push]; done) | fail) only [go_sem, Nat.reduceEqDiff, reduceIte, Nat.reduceAdd, Int.toNat_natCast, Nat.add_zero, Owes_true, e3], ?_, by (simp -dsimp -implicitDefEqProofs (maxSteps := 2000000) (disch := first | assumption | omega | (simp only [AW.next_push, AW.next_put]; omega) | ((repeat refine Fresh.push ?_ _); assumption) | (simp only [same_int, same_bool, same_ptr, same_slice, same_sliceP, same_nil, same_agg2, same_string]; done) | (simp [oneCell, AW.next_push]; done) | fail) only [go_sem, Nat.reduceEqDiff, reduceIte, Nat.reduceAdd, Int.toNat_natCast, Nat.add_zero, Owes_true]; try rfl), rfl⟩
      rw [hnext]; simp -dsimp -implicitDefEqProofs (maxSteps := 2000000) (disch := first | assumption | omega | (simp only [AW.next_push, AW.next_put]; omega) | ((repeat refine Fresh.push ?_ _); assumption) | (simp only [same_int, same_bool, same_ptr, same_slice, same_sliceP, same_nil, same_agg2, same_string]; done) | (simp [oneCell, AW.next_push]; done) | fail) only [go_sem, Nat.reduceEqDiff, reduceIte, Nat.reduceAdd, Int.toNat_natCast, Nat.add_zero, Owes_true]
  have hok : (decide ((ps.length : Int) = (vs.length : Int)) && ((ps.take i).all fun r => inR 0 r 1000)) = okPr fss.length ps := by
    rw [List.take_of_length_le (by omega), okPr]
    congr 1
    exact decide_eq_decide.2 (by omega)
  rw [hok] at e11
  simp -dsimp -implicitDefEqProofs (maxSteps := 2000000) (disch := first | assumption | omega | (simp only [AW.next_push, AW.next_put]; omega) | ((repeat refine Fresh.push ?_ _); assumption) | (simp only [same_int, same_bool, same_ptr, same_slice, same_sliceP, same_nil, same_agg2, same_string]; done) | (simp [oneCell, AW.next_push]; done) | fail) only [go_sem, Nat.reduceEqDiff, reduceIte, Nat.reduceAdd, Int.toNat_natCast, Nat.add_zero, Owes_true, Tryz.results25, e0, e1, e2, e3, e11, e12, hlt]
  refine loopR (fun k t ds w3 => ∃ j : Nat, j ≤ ms.length ∧ k = ms.length - j ∧ ds = [] ∧ ev t (.tmp 0) = .slice p ms.length cap ∧ ev t (.tmp 1) = .slice q rs.length cap2 ∧ ev t (.tmp 2) = .slice r vs.length cap3 ∧ ev t (.tmp 3) = .slice s ps.length cap4 ∧ ev t (.tmp 11) = .bool (okPr fss.length ps && ((List.range j).all fun k => decide (paidTo ms rs fss ps fss.length k ≤ (ms.getD k (0, 0)).2))) ∧ ev t (.tmp 13) = .int .i64 (j : Int) ∧ Grown w w3) (ms.length) ?_ ?_
  · refine ⟨0, by omega, by omega, rfl, ?_, ?_, ?_, ?_, ?_, ?_, g1⟩ <;> simp -dsimp -implicitDefEqProofs (maxSteps := 2000000) (disch := first | assumption | omega | (simp only [AW.next_push, AW.next_put]; omega) | ((repeat refine Fresh.push ?_ _); assumption) | (simp only [same_int, same_bool, same_ptr, same_slice, same_sliceP, same_nil, same_agg2, same_string]; done) | (simp [oneCell, AW.next_push]; done) | fail) only [go_sem, Nat.reduceEqDiff, reduceIte, Nat.reduceAdd, Int.toNat_natCast, Nat.add_zero, Owes_true, e0, e1, e2, e3, e11, Bool.and_true, List.range_zero, List.all_nil] <;> rfl
  rintro k t ds w3 ⟨j, hij, rfl, rfl, e0, e1, e2, e3, e11, e13, hg3⟩
  obtain ⟨hk3, hf3⟩ := id hg3
  have bad : (okPr fss.length ps && ((List.range j).all fun k => decide (paidTo ms rs fss ps fss.length k ≤ (ms.getD k (0, 0)).2))) = false → boundOk ms rs fss ps = false := by
    intro h
    rw [boundOk]
    cases hP : okPr fss.length ps with
    | false => rfl
    | true =>
      rw [hP, Bool.true_and, List.all_eq_false] at h
      obtain ⟨k, hk, hb⟩ := h
      rw [Bool.true_and, provedB, List.all_eq_false]
      exact ⟨k, by simp at hk ⊢; omega, hb⟩
  by_cases hB : (okPr fss.length ps && ((List.range j).all fun k => decide (paidTo ms rs fss ps fss.length k ≤ (ms.getD k (0, 0)).2))) = true
  case neg =>
    rw [Bool.not_eq_true] at hB
    rw [hB] at e11
    simp -dsimp -implicitDefEqProofs (maxSteps := 2000000) (disch := first | assumption | omega | (simp only [AW.next_push, AW.next_put]; omega) | ((repeat refine Fresh.push ?_ _); assumption) | (simp only [same_int, same_bool, same_ptr, same_slice, same_sliceP, same_nil, same_agg2, same_string]; done) | (simp [oneCell, AW.next_push]; done) | fail) only [go_sem, Nat.reduceEqDiff, reduceIte, Nat.reduceAdd, Int.toNat_natCast, Nat.add_zero, Owes_true, Tryz.results25, e0, e1, e2, e3, e11, e13]
    exact BoundPost.err (by rw [boundE, if_pos hE, bad hB]; rfl) (by omega) hg3
  rw [hB] at e11
  rw [Bool.and_eq_true] at hB
  obtain ⟨hpl, hps⟩ := okPr_in hB.1
  by_cases hjt : (j : Int) < (ms.length : Int)
  case neg =>
    obtain rfl : j = ms.length := by omega
    simp -dsimp -implicitDefEqProofs (maxSteps := 2000000) (disch := first | assumption | omega | (simp only [AW.next_push, AW.next_put]; omega) | ((repeat refine Fresh.push ?_ _); assumption) | (simp only [same_int, same_bool, same_ptr, same_slice, same_sliceP, same_nil, same_agg2, same_string]; done) | (simp [oneCell, AW.next_push]; done) | fail) only [go_sem, Nat.reduceEqDiff, reduceIte, Nat.reduceAdd, Int.toNat_natCast, Nat.add_zero, Owes_true, Tryz.results25, e0, e1, e2, e3, e11, e13, hjt]
    apply callV_of (e := rfl)
    · exact sum_ok ps _ w3 hf3 (hS.grown hg3) hps (by omega)
    rintro _ w4 ⟨rfl, hg4⟩
    simp -dsimp -implicitDefEqProofs (maxSteps := 2000000) (disch := first | assumption | omega | (simp only [AW.next_push, AW.next_put]; omega) | ((repeat refine Fresh.push ?_ _); assumption) | (simp only [same_int, same_bool, same_ptr, same_slice, same_sliceP, same_nil, same_agg2, same_string]; done) | (simp [oneCell, AW.next_push]; done) | fail) only [go_sem, Nat.reduceEqDiff, reduceIte, Nat.reduceAdd, Int.toNat_natCast, Nat.add_zero, Owes_true, Tryz.results25]
    exact BoundPost.fine (by rw [boundE, if_pos hE, boundOk, hB.1, provedB, hB.2]; rfl) (hg3.trans hg4)
  have hjt' : j < ms.length := by omega
  have hjr : j < rs.length := by have := hG.rlen; omega
  have hjr' : (j : Int) < (rs.length : Int) := by omega
  obtain ⟨b1, o1, rfl, hb1, hcell⟩ := hat j hjt'
  obtain ⟨b2, o2, rfl, hb2, hcell2⟩ := hat2 j hjr
  simp -dsimp -implicitDefEqProofs (maxSteps := 2000000) (disch := first | assumption | omega | (simp only [AW.next_push, AW.next_put]; omega) | ((repeat refine Fresh.push ?_ _); assumption) | (simp only [same_int, same_bool, same_ptr, same_slice, same_sliceP, same_nil, same_agg2, same_string]; done) | (simp [oneCell, AW.next_push]; done) | fail) only [go_sem, Nat.reduceEqDiff, reduceIte, Nat.reduceAdd, Int.toNat_natCast, Nat.add_zero, Owes_true, Tryz.results25, e0, e1, e2, e3, e11, e13, hjt]
  refine loopR (fun k t ds w4 => ∃ i : Nat, i ≤ vs.length ∧ k = vs.length - i ∧ ds = [] ∧ ev t (.tmp 0) = .slice (some ⟨b1, o1, none⟩) ms.length cap ∧ ev t (.tmp 1) = .slice (some ⟨b2, o2, none⟩) rs.length cap2 ∧ ev t (.tmp 2) = .slice r vs.length cap3 ∧ ev t (.tmp 3) = .slice s ps.length cap4 ∧ ev t (.tmp 13) = .int .i64 (j : Int) ∧ ev t (.tmp 14) = .int .i64 (paidTo ms rs fss ps i j) ∧ ev t (.tmp 15) = .int .i64 (i : Int) ∧ Grown w w4) (vs.length) ?_ ?_
  · refine ⟨0, by omega, by omega, rfl, ?_, ?_, ?_, ?_, ?_, ?_, ?_, hg3⟩ <;> simp -dsimp -implicitDefEqProofs (maxSteps := 2000000) (disch := first | assumption | omega | (simp only [AW.next_push, AW.next_put]; omega) | ((repeat refine Fresh.push ?_ _); assumption) | (simp only [same_int, same_bool, same_ptr, same_slice, same_sliceP, same_nil, same_agg2, same_string]; done) | (simp [oneCell, AW.next_push]; done) | fail) only [go_sem, Nat.reduceEqDiff, reduceIte, Nat.reduceAdd, Int.toNat_natCast, Nat.add_zero, Owes_true, e0, e1, e2, e3, e13] <;> rfl
  rintro k t ds w4 ⟨i, hii, rfl, rfl, e0, e1, e2, e3, e13, e14, e15, hg4⟩
  obtain ⟨hk4, hf4⟩ := id hg4
  have m0 := hcell w4 hk4 0 _ rfl
  have m1 := hcell w4 hk4 1 _ rfl
  have r0 := hcell2 w4 hk4 0 _ rfl
  rw [Nat.add_zero] at m0 r0
  by_cases hit : (i : Int) < (vs.length : Int)
  case neg =>
    have hi : i = fss.length := by omega
    rw [hi] at e14
    simp -dsimp -implicitDefEqProofs (maxSteps := 2000000) (disch := first | assumption | omega | (simp only [AW.next_push, AW.next_put]; omega) | ((repeat refine Fresh.push ?_ _); assumption) | (simp only [same_int, same_bool, same_ptr, same_slice, same_sliceP, same_nil, same_agg2, same_string]; done) | (simp [oneCell, AW.next_push]; done) | fail) only [go_sem, Nat.reduceEqDiff, reduceIte, Nat.reduceAdd, Int.toNat_natCast, Nat.add_zero, Owes_true, Tryz.results25, e0, e1, e2, e3, e13, e14, e15, hit, hjt, indexV_eq, m1]
    refine ⟨_, by omega, j + 1, by omega, rfl, rfl, by simp -dsimp -implicitDefEqProofs (maxSteps := 2000000) (disch := first | assumption | omega | (simp only [AW.next_push, AW.next_put]; omega) | ((repeat refine Fresh.push ?_ _); assumption) | (simp only [same_int, same_bool, same_ptr, same_slice, same_sliceP, same_nil, same_agg2, same_string]; done) | (simp [oneCell, AW.next_push]; done) | fail) only [go_sem, Nat.reduceEqDiff, reduceIte, Nat.reduceAdd, Int.toNat_natCast, Nat.add_zero, Owes_true, e0], by simp -dsimp -implicitDefEqProofs (maxSteps := 2000000) (disch := first | assumption | omega | (simp only [AW.next_push, AW.next_put]; omega) | ((repeat refine Fresh.push ?_ _); assumption) | (simp only [same_int, same_bool, same_ptr, same_slice, same_sliceP, same_nil, same_agg2, same_string]; done) | (simp [oneCell, AW.next_push]; done) | fail) only [go_sem, Nat.reduceEqDiff, reduceIte, Nat.reduceAdd, Int.toNat_natCast, Nat.add_zero, Owes_true, e1], by simp -dsimp -implicitDefEqProofs (maxSteps := 2000000) (disch := first | assumption | omega | (simp only [AW.next_push, AW.next_put]; omega) | ((repeat refine Fresh.push ?_ _); assumption) | (simp only [same_int, same_bool, same_ptr, same_slice, same_sliceP, same_nil, same_agg2, same_string]; done) | (simp [oneCell, AW.next_push]; done) | fail) only [go_sem, Nat.reduceEqDiff, reduceIte, Nat.reduceAdd, Int.toNat_natCast, Nat.add_zero, Owes_true, e2], by simp -dsimp -implicitDefEqProofs (maxSteps := 2000000) (disch := first | assumption | omega | (simp only [AW.next_push, AW.next_put]; omega) | ((repeat refine Fresh.push ?_ _); assumption) | (simp only [same_int, same_bool, same_ptr, same_slice, same_sliceP, same_nil, same_agg2, same_string]; done) | (simp [oneCell, AW.next_push]; done) | fail) only [go_sem, Nat.reduceEqDiff, reduceIte, Nat.reduceAdd, Int.toNat_natCast, Nat.add_zero, Owes_true, e3], ?_, by (simp -dsimp -implicitDefEqProofs (maxSteps := 2000000) (disch := first | assumption | omega | (simp only [AW.next_push, AW.next_put]; omega) | ((repeat refine Fresh.push ?_ _); assumption) | (simp only [same_int, same_bool, same_ptr, same_slice, same_sliceP, same_nil, same_agg2, same_string]; done) | (simp [oneCell, AW.next_push]; done) | fail) only [go_sem, Nat.reduceEqDiff, reduceIte, Nat.reduceAdd, Int.toNat_natCast, Nat.add_zero, Owes_true]; try rfl), hg4⟩
    have hn : (okPr fss.length ps && ((List.range (j + 1)).all fun k => decide (paidTo ms rs fss ps fss.length k ≤ (ms.getD k (0, 0)).2))) = decide (paidTo ms rs fss ps fss.length j ≤ ms[j].2) := by
      rw [hB.1, List.range_succ, List.all_append, hB.2]; simp only [List.all_cons, List.all_nil, Bool.and_true, Bool.true_and, getD_at hjt']
    rw [hn]; simp -dsimp -implicitDefEqProofs (maxSteps := 2000000) (disch := first | assumption | omega | (simp only [AW.next_push, AW.next_put]; omega) | ((repeat refine Fresh.push ?_ _); assumption) | (simp only [same_int, same_bool, same_ptr, same_slice, same_sliceP, same_nil, same_agg2, same_string]; done) | (simp [oneCell, AW.next_push]; done) | fail) only [go_sem, Nat.reduceEqDiff, reduceIte, Nat.reduceAdd, Int.toNat_natCast, Nat.add_zero, Owes_true]
  have hit' : i < vs.length := by omega
  have hif : i < fss.length := by omega
  have hip : i < ps.length := by omega
  have hip' : (i : Int) < (ps.length : Int) := by omega
  obtain ⟨b3, o3, rfl, hb3, hcell3⟩ := hat3 i hit'
  obtain ⟨b4, o4, rfl, hb4, hcell4⟩ := hat4 i hip
  have z0 := hcell3 w4 hk4 0 _ rfl
  have y0 := hcell4 w4 hk4 0 _ rfl
  obtain ⟨hfl, hsp⟩ := hfs fss[i] (List.getElem_mem hif)
  obtain ⟨p3, cap5, hv3, hcap5, hmax5, hat5⟩ := (hrow i vs[i] fss[i] (by simp [hit']) (by simp [hif])).open
  have hjf : j < fss[i].length := by omega
  have hjf' : (j : Int) < (fss[i].length : Int) := by omega
  rw [Nat.add_zero] at z0 y0
  rw [hv3] at z0
  obtain ⟨b5, o5, rfl, hb5, hcell5⟩ := hat5 j hjf
  have x0 := hcell5 w4 hk4 0 _ rfl
  have x1 := hcell5 w4 hk4 1 _ rfl
  rw [Nat.add_zero] at x0
  have hfind : findAt ms rs fss[i] (j : Int) = find1 ms[j] rs[j] fss[i][j] := by rw [findAt, Int.toNat_natCast, getD_at hjt', getD_at hjr, getD_at hjf]
  have hpk := paidTo_in (ms := ms) (rs := rs) (fss := fss) hps j i
  have hpi := hps ps[i] (List.getElem_mem hip)
  simp -dsimp -implicitDefEqProofs (maxSteps := 2000000) (disch := first | assumption | omega | (simp only [AW.next_push, AW.next_put]; omega) | ((repeat refine Fresh.push ?_ _); assumption) | (simp only [same_int, same_bool, same_ptr, same_slice, same_sliceP, same_nil, same_agg2, same_string]; done) | (simp [oneCell, AW.next_push]; done) | fail) only [go_sem, Nat.reduceEqDiff, reduceIte, Nat.reduceAdd, Int.toNat_natCast, Nat.add_zero, Owes_true, Tryz.results25, e0, e1, e2, e3, e13, e14, e15, hit, hjt, hjr', hjf', indexV_eq, m0, m1, r0, z0, x0, x1]
  apply callV_of (e := rfl)
  · exact refFinds_ok ms[j] fss[i][j] rs[j] (hG.tol _ (List.getElem_mem hjt')) (hG.rd _ (List.getElem_mem hjr)) _ hf4
  rintro _ w5 ⟨rfl, hg5⟩
  have hle := hg5.1.wle hf4
  have g5 := hg4.trans hg5
  have y1 := hcell4 w5 g5.1 0 _ rfl
  rw [Nat.add_zero] at y1
  cases hQ : find1 ms[j] rs[j] fss[i][j] with
  | true =>
    have hn : paidTo ms rs fss ps (i + 1) j = paidTo ms rs fss ps i j + ps[i] := by rw [paidTo_succ, getD_at hif, hfind, hQ, if_pos rfl, getD_at hip]
    simp -dsimp -implicitDefEqProofs (maxSteps := 2000000) (disch := first | assumption | omega | (simp only [AW.next_push, AW.next_put]; omega) | ((repeat refine Fresh.push ?_ _); assumption) | (simp only [same_int, same_bool, same_ptr, same_slice, same_sliceP, same_nil, same_agg2, same_string]; done) | (simp [oneCell, AW.next_push]; done) | fail) only [go_sem, Nat.reduceEqDiff, reduceIte, Nat.reduceAdd, Int.toNat_natCast, Nat.add_zero, Owes_true, Tryz.results25, e0, e1, e2, e3, e13, e14, e15, indexV_eq, y1]
    refine ⟨_, by omega, i + 1, by omega, rfl, rfl, by (simp -dsimp -implicitDefEqProofs (maxSteps := 2000000) (disch := first | assumption | omega | (simp only [AW.next_push, AW.next_put]; omega) | ((repeat refine Fresh.push ?_ _); assumption) | (simp only [same_int, same_bool, same_ptr, same_slice, same_sliceP, same_nil, same_agg2, same_string]; done) | (simp [oneCell, AW.next_push]; done) | fail) only [go_sem, Nat.reduceEqDiff, reduceIte, Nat.reduceAdd, Int.toNat_natCast, Nat.add_zero, Owes_true, e0, hn]; try rfl), by (simp -dsimp -implicitDefEqProofs (maxSteps := 2000000) (disch := first | assumption | omega | (simp only [AW.next_push, AW.next_put]; omega) | ((repeat refine Fresh.push ?_ _); assumption) | (simp only [same_int, same_bool, same_ptr, same_slice, same_sliceP, same_nil, same_agg2, same_string]; done) | (simp [oneCell, AW.next_push]; done) | fail) only [go_sem, Nat.reduceEqDiff, reduceIte, Nat.reduceAdd, Int.toNat_natCast, Nat.add_zero, Owes_true, e1, hn]; try rfl), by (simp -dsimp -implicitDefEqProofs (maxSteps := 2000000) (disch := first | assumption | omega | (simp only [AW.next_push, AW.next_put]; omega) | ((repeat refine Fresh.push ?_ _); assumption) | (simp only [same_int, same_bool, same_ptr, same_slice, same_sliceP, same_nil, same_agg2, same_string]; done) | (simp [oneCell, AW.next_push]; done) | fail) only [go_sem, Nat.reduceEqDiff, reduceIte, Nat.reduceAdd, Int.toNat_natCast, Nat.add_zero, Owes_true, e2, hn]; try rfl), by (simp -dsimp -implicitDefEqProofs (maxSteps := 2000000) (disch := first | assumption | omega | (simp only [AW.next_push, AW.next_put]; omega) | ((repeat refine Fresh.push ?_ _); assumption) | (simp only [same_int, same_bool, same_ptr, same_slice, same_sliceP, same_nil, same_agg2, same_string]; done) | (simp [oneCell, AW.next_push]; done) | fail) only [go_sem, Nat.reduceEqDiff, reduceIte, Nat.reduceAdd, Int.toNat_natCast, Nat.add_zero, Owes_true, e3, hn]; try rfl), by (simp -dsimp -implicitDefEqProofs (maxSteps := 2000000) (disch := first | assumption | omega | (simp only [AW.next_push, AW.next_put]; omega) | ((repeat refine Fresh.push ?_ _); assumption) | (simp only [same_int, same_bool, same_ptr, same_slice, same_sliceP, same_nil, same_agg2, same_string]; done) | (simp [oneCell, AW.next_push]; done) | fail) only [go_sem, Nat.reduceEqDiff, reduceIte, Nat.reduceAdd, Int.toNat_natCast, Nat.add_zero, Owes_true, e13, hn]; try rfl), by (simp -dsimp -implicitDefEqProofs (maxSteps := 2000000) (disch := first | assumption | omega | (simp only [AW.next_push, AW.next_put]; omega) | ((repeat refine Fresh.push ?_ _); assumption) | (simp only [same_int, same_bool, same_ptr, same_slice, same_sliceP, same_nil, same_agg2, same_string]; done) | (simp [oneCell, AW.next_push]; done) | fail) only [go_sem, Nat.reduceEqDiff, reduceIte, Nat.reduceAdd, Int.toNat_natCast, Nat.add_zero, Owes_true, e14, hn]; try rfl), by (simp -dsimp -implicitDefEqProofs (maxSteps := 2000000) (disch := first | assumption | omega | (simp only [AW.next_push, AW.next_put]; omega) | ((repeat refine Fresh.push ?_ _); assumption) | (simp only [same_int, same_bool, same_ptr, same_slice, same_sliceP, same_nil, same_agg2, same_string]; done) | (simp [oneCell, AW.next_push]; done) | fail) only [go_sem, Nat.reduceEqDiff, reduceIte, Nat.reduceAdd, Int.toNat_natCast, Nat.add_zero, Owes_true, e15, hn]; try rfl), g5⟩
  | false =>
    have hn : paidTo ms rs fss ps (i + 1) j = paidTo ms rs fss ps i j := by rw [paidTo_succ, getD_at hif, hfind, hQ]; simp
    simp -dsimp -implicitDefEqProofs (maxSteps := 2000000) (disch := first | assumption | omega | (simp only [AW.next_push, AW.next_put]; omega) | ((repeat refine Fresh.push ?_ _); assumption) | (simp only [same_int, same_bool, same_ptr, same_slice, same_sliceP, same_nil, same_agg2, same_string]; done) | (simp [oneCell, AW.next_push]; done) | fail) only [go_sem, Nat.reduceEqDiff, reduceIte, Nat.reduceAdd, Int.toNat_natCast, Nat.add_zero, Owes_true, Tryz.results25, e0, e1, e2, e3, e13, e14, e15]
    refine ⟨_, by omega, i + 1, by omega, rfl, rfl, by (simp -dsimp -implicitDefEqProofs (maxSteps := 2000000) (disch := first | assumption | omega | (simp only [AW.next_push, AW.next_put]; omega) | ((repeat refine Fresh.push ?_ _); assumption) | (simp only [same_int, same_bool, same_ptr, same_slice, same_sliceP, same_nil, same_agg2, same_string]; done) | (simp [oneCell, AW.next_push]; done) | fail) only [go_sem, Nat.reduceEqDiff, reduceIte, Nat.reduceAdd, Int.toNat_natCast, Nat.add_zero, Owes_true, e0, hn]; try rfl), by (simp -dsimp -implicitDefEqProofs (maxSteps := 2000000) (disch := first | assumption | omega | (simp only [AW.next_push, AW.next_put]; omega) | ((repeat refine Fresh.push ?_ _); assumption) | (simp only [same_int, same_bool, same_ptr, same_slice, same_sliceP, same_nil, same_agg2, same_string]; done) | (simp [oneCell, AW.next_push]; done) | fail) only [go_sem, Nat.reduceEqDiff, reduceIte, Nat.reduceAdd, Int.toNat_natCast, Nat.add_zero, Owes_true, e1, hn]; try rfl), by (simp -dsimp -implicitDefEqProofs (maxSteps := 2000000) (disch := first | assumption | omega | (simp only [AW.next_push, AW.next_put]; omega) | ((repeat refine Fresh.push ?_ _); assumption) | (simp only [same_int, same_bool, same_ptr, same_slice, same_sliceP, same_nil, same_agg2, same_string]; done) | (simp [oneCell, AW.next_push]; done) | fail) only [go_sem, Nat.reduceEqDiff, reduceIte, Nat.reduceAdd, Int.toNat_natCast, Nat.add_zero, Owes_true, e2, hn]; try rfl), by (simp -dsimp -implicitDefEqProofs (maxSteps := 2000000) (disch := first | assumption | omega | (simp only [AW.next_push, AW.next_put]; omega) | ((repeat refine Fresh.push ?_ _); assumption) | (simp only [same_int, same_bool, same_ptr, same_slice, same_sliceP, same_nil, same_agg2, same_string]; done) | (simp [oneCell, AW.next_push]; done) | fail) only [go_sem, Nat.reduceEqDiff, reduceIte, Nat.reduceAdd, Int.toNat_natCast, Nat.add_zero, Owes_true, e3, hn]; try rfl), by (simp -dsimp -implicitDefEqProofs (maxSteps := 2000000) (disch := first | assumption | omega | (simp only [AW.next_push, AW.next_put]; omega) | ((repeat refine Fresh.push ?_ _); assumption) | (simp only [same_int, same_bool, same_ptr, same_slice, same_sliceP, same_nil, same_agg2, same_string]; done) | (simp [oneCell, AW.next_push]; done) | fail) only [go_sem, Nat.reduceEqDiff, reduceIte, Nat.reduceAdd, Int.toNat_natCast, Nat.add_zero, Owes_true, e13, hn]; try rfl), by (simp -dsimp -implicitDefEqProofs (maxSteps := 2000000) (disch := first | assumption | omega | (simp only [AW.next_push, AW.next_put]; omega) | ((repeat refine Fresh.push ?_ _); assumption) | (simp only [same_int, same_bool, same_ptr, same_slice, same_sliceP, same_nil, same_agg2, same_string]; done) | (simp [oneCell, AW.next_push]; done) | fail) only [go_sem, Nat.reduceEqDiff, reduceIte, Nat.reduceAdd, Int.toNat_natCast, Nat.add_zero, Owes_true, e14, hn]; try rfl), by (simp -dsimp -implicitDefEqProofs (maxSteps := 2000000) (disch := first | assumption | omega | (simp only [AW.next_push, AW.next_put]; omega) | ((repeat refine Fresh.push ?_ _); assumption) | (simp only [same_int, same_bool, same_ptr, same_slice, same_sliceP, same_nil, same_agg2, same_string]; done) | (simp [oneCell, AW.next_push]; done) | fail) only [go_sem, Nat.reduceEqDiff, reduceIte, Nat.reduceAdd, Int.toNat_natCast, Nat.add_zero, Owes_true, e15, hn]; try rfl), g5⟩
end Go.Proofs
