/- This program: its code, contracts, numbers, part 6. -/
import Derived.Test.YtlilncofnckgdaaPae
import Derived.Test.YtlilncofnckgdaaPad
set_option linter.unusedVariables false
set_option linter.unusedSimpArgs false
namespace Go.Proofs
open Go Go.RowKit Go.Sim
set_option maxRecDepth 100000
theorem chs_step {n m j : Nat} (h1 : m ≤ n) (h2 : n < 9) (h3 : j < m) : chs (n - m + j) j * (n - m + j + 1) / (j + 1) = chs (n - m + j + 1) (j + 1) := by
  have : ∀ n, n < 9 → ∀ m, m < 9 → m ≤ n → ∀ j, j < 9 → j < m → chs (n - m + j) j * (n - m + j + 1) / (j + 1) = chs (n - m + j + 1) (j + 1) := by decide +kernel
  exact this n h2 m (by omega) h1 j (by omega) h3
theorem C_ok {n m : Nat} (hn : n < 9) (hm : m < 9) (w : AW) : CallT Try.prog Try.T1 (.fn (.func 107) #[]) #[.int .i64 (n : Int), .int .i64 (m : Int)] w (Ret (.int .i64 (chs n m : Int)) fun w' => w = w') := by
  have hm0 : ¬ (m : Int) < 0 := by omega
  refine callT_code rfl Try.func107 rfl Try.s107_eq rfl ?_
  unfold Try.s107
  by_cases hgt : (m : Int) > (n : Int)
  · simp -dsimp -implicitDefEqProofs (maxSteps := 2000000) (disch := first | assumption | omega | (simp only [nx]; omega) | ((repeat refine Fresh.push ?_ _); assumption) | (simp only [smA]; done) | (simp [oneCell, AW.next_push]; done) | fail) only [go_sem, Nat.reduceEqDiff, reduceIte, Nat.reduceAdd, Int.toNat_natCast, Nat.add_zero, Owes_true, Try.results107, hm0, hgt]
    rw [chs_zero hm (by omega)]
    exact ⟨rfl, rfl⟩
  simp -dsimp -implicitDefEqProofs (maxSteps := 2000000) (disch := first | assumption | omega | (simp only [nx]; omega) | ((repeat refine Fresh.push ?_ _); assumption) | (simp only [smA]; done) | (simp [oneCell, AW.next_push]; done) | fail) only [go_sem, Nat.reduceEqDiff, reduceIte, Nat.reduceAdd, Int.toNat_natCast, Nat.add_zero, Owes_true, Try.results107, hm0, hgt]
  have hc0 : (chs (n - m) 0 : Int) = 1 := by cases (n - m) <;> rfl
  refine loopR (fun k t ds w1 => ∃ j : Nat, j ≤ m ∧ k = m - j ∧ ds = [] ∧ ev t (.tmp 0) = .int .i64 (n : Int) ∧ ev t (.tmp 1) = .int .i64 (m : Int) ∧ ev t (.tmp 5) = .int .i64 (chs (n - m + j) j : Int) ∧ ev t (.tmp 6) = .int .i64 ((j : Int) + 1) ∧ w = w1) (m) ?_ ?_
  · refine ⟨0, by omega, by omega, rfl, ?_, ?_, ?_, ?_, rfl⟩ <;> simp -dsimp -implicitDefEqProofs (maxSteps := 2000000) (disch := first | assumption | omega | (simp only [nx]; omega) | ((repeat refine Fresh.push ?_ _); assumption) | (simp only [smA]; done) | (simp [oneCell, AW.next_push]; done) | fail) only [go_sem, Nat.reduceEqDiff, reduceIte, Nat.reduceAdd, Int.toNat_natCast, Nat.add_zero, Owes_true, hc0] <;> rfl
  rintro k t ds w1 ⟨j, hij, rfl, rfl, e0, e1, e5, e6, hw⟩
  subst hw
  by_cases hlt : (j : Int) + 1 ≤ (m : Int)
  case neg =>
    obtain rfl : j = m := by omega
    have e : n - j + j = n := by omega
    rw [e] at e5
    simp -dsimp -implicitDefEqProofs (maxSteps := 2000000) (disch := first | assumption | omega | (simp only [nx]; omega) | ((repeat refine Fresh.push ?_ _); assumption) | (simp only [smA]; done) | (simp [oneCell, AW.next_push]; done) | fail) only [go_sem, Nat.reduceEqDiff, reduceIte, Nat.reduceAdd, Int.toNat_natCast, Nat.add_zero, Owes_true, Try.results107, e0, e1, e5, e6, hlt]
    exact ⟨rfl, rfl⟩
  have hst := chs_step (n := n) (m := m) (j := j) (by omega) hn (by omega)
  have hb := chs_le (n := n - m + j) (k := j) (by omega) (by omega)
  have hb2 := chs_le (n := n - m + (j + 1)) (k := j + 1) (by omega) (by omega)
  have hj0 : ¬ (j : Int) + 1 = 0 := by omega
  have hq : ((chs (n - m + j) j : Int) * ((n : Int) - (m : Int) + ((j : Int) + 1))).tdiv ((j : Int) + 1) = (chs (n - m + (j + 1)) (j + 1) : Int) := by
    have e1 : (n : Int) - (m : Int) + ((j : Int) + 1) = ((n - m + j + 1 : Nat) : Int) := by omega
    have e2 : (j : Int) + 1 = ((j + 1 : Nat) : Int) := by omega
    rw [e1, e2, ← Int.natCast_mul, ← Int.ofNat_tdiv, hst]
    rfl
  have hmul : (chs (n - m + j) j : Int) * ((n : Int) - (m : Int) + ((j : Int) + 1)) ≤ 70 * 9 := Int.mul_le_mul (by omega) (by omega) (by omega) (by omega)
  have hmul0 : 0 ≤ (chs (n - m + j) j : Int) * ((n : Int) - (m : Int) + ((j : Int) + 1)) := Int.mul_nonneg (by omega) (by omega)
  have hnx : (j : Int) + 1 + 1 = ((j + 1 : Nat) : Int) + 1 := by omega
  simp -dsimp -implicitDefEqProofs (maxSteps := 2000000) (disch := first | assumption | omega | (simp only [nx]; omega) | ((repeat refine Fresh.push ?_ _); assumption) | (simp only [smA]; done) | (simp [oneCell, AW.next_push]; done) | fail) only [go_sem, Nat.reduceEqDiff, reduceIte, Nat.reduceAdd, Int.toNat_natCast, Nat.add_zero, Owes_true, Try.results107, e0, e1, e5, e6, hlt, hj0, hq]
  refine ⟨_, by omega, j + 1, by omega, rfl, rfl, by (simp -dsimp -implicitDefEqProofs (maxSteps := 2000000) (disch := first | assumption | omega | (simp only [nx]; omega) | ((repeat refine Fresh.push ?_ _); assumption) | (simp only [smA]; done) | (simp [oneCell, AW.next_push]; done) | fail) only [go_sem, Nat.reduceEqDiff, reduceIte, Nat.reduceAdd, Int.toNat_natCast, Nat.add_zero, Owes_true, e0, hnx]; try rfl), by (simp -dsimp -implicitDefEqProofs (maxSteps := 2000000) (disch := first | assumption | omega | (simp only [nx]; omega) | ((repeat refine Fresh.push ?_ _); assumption) | (simp only [smA]; done) | (simp [oneCell, AW.next_push]; done) | fail) only [go_sem, Nat.reduceEqDiff, reduceIte, Nat.reduceAdd, Int.toNat_natCast, Nat.add_zero, Owes_true, e1, hnx]; try rfl), by (simp -dsimp -implicitDefEqProofs (maxSteps := 2000000) (disch := first | assumption | omega | (simp only [nx]; omega) | ((repeat refine Fresh.push ?_ _); assumption) | (simp only [smA]; done) | (simp [oneCell, AW.next_push]; done) | fail) only [go_sem, Nat.reduceEqDiff, reduceIte, Nat.reduceAdd, Int.toNat_natCast, Nat.add_zero, Owes_true, e5, hnx]; try rfl), by (simp -dsimp -implicitDefEqProofs (maxSteps := 2000000) (disch := first | assumption | omega | (simp only [nx]; omega) | ((repeat refine Fresh.push ?_ _); assumption) | (simp only [smA]; done) | (simp [oneCell, AW.next_push]; done) | fail) only [go_sem, Nat.reduceEqDiff, reduceIte, Nat.reduceAdd, Int.toNat_natCast, Nat.add_zero, Owes_true, e6, hnx]; try rfl), rfl⟩
def audTo (A : AudN) (i : Nat) : Bool := (inR 1 A.st.length 4 && (decide ((A.co.length : Int) = (A.st.length : Int)) && inR 0 A.sure 1000)) && (List.range i).all fun j => inR 1 (W A.st j) 8 && inR 0 (W A.co j) 1000
theorem audTo_succ (A : AudN) (i : Nat) : audTo A (i + 1) = (audTo A i && (inR 1 (W A.st i) 8 && inR 0 (W A.co i) 1000)) := by
  unfold audTo; rw [List.range_succ, List.all_append, ← Bool.and_assoc]; simp
theorem all_range {L : List Int} (f : Int → Bool) : (List.range L.length).all (fun j => f (W L j)) = L.all f := by
  rw [Bool.eq_iff_iff, List.all_eq_true, List.all_eq_true]
  constructor
  · intro h x hx
    obtain ⟨i, hi, rfl⟩ := List.getElem_of_mem hx
    have := h i (List.mem_range.2 hi)
    rw [W_at hi] at this; exact this
  · intro h i hi
    rw [List.mem_range] at hi
    rw [W_at hi]
    exact h _ (List.getElem_mem hi)
theorem audTo_all (A : AudN) : (audTo A A.st.length && inR 1 A.lost A.st.sum) = audB A := by
  have hsplit : ((List.range A.st.length).all fun j => inR 1 (W A.st j) 8 && inR 0 (W A.co j) 1000) = ((List.range A.st.length).all (fun j => inR 1 (W A.st j) 8) && (List.range A.st.length).all fun j => inR 0 (W A.co j) 1000) := by
    rw [Bool.eq_iff_iff, Bool.and_eq_true, List.all_eq_true, List.all_eq_true, List.all_eq_true]
    constructor
    · intro h
      exact ⟨fun x hx => (Bool.and_eq_true _ _ ▸ h x hx).1, fun x hx => (Bool.and_eq_true _ _ ▸ h x hx).2⟩
    · intro h x hx
      rw [Bool.and_eq_true]; exact ⟨h.1 x hx, h.2 x hx⟩
  unfold audTo audB
  rw [hsplit, all_range (fun n => inR 1 n 8)]
  cases hd : decide ((A.co.length : Int) = (A.st.length : Int)) with
  | false => simp
  | true =>
    have hl : A.co.length = A.st.length := by have := of_decide_eq_true hd; omega
    rw [← hl, all_range (fun n => inR 0 n 1000)]
    cases inR 1 (A.co.length : Int) 4 <;> cases (A.st.all fun n => inR 1 n 8) <;> cases (A.co.all fun n => inR 0 n 1000) <;> cases inR 1 A.lost A.st.sum <;> cases inR 0 A.sure 1000 <;> rfl
theorem audTo_bad {A : AudN} {i : Nat} (hi : i ≤ A.st.length) (h : audTo A i = false) : audTo A A.st.length = false := by
  unfold audTo at h ⊢
  rw [Bool.and_eq_false_iff] at h ⊢
  rcases h with h | h
  · exact .inl h
  · right
    rw [List.all_eq_false] at h ⊢
    obtain ⟨j, hj, hb⟩ := h
    exact ⟨j, by rw [List.mem_range] at hj ⊢; omega, hb⟩
theorem audTo_small {A : AudN} (h : audTo A A.st.length = true) : smallL A.st := by
  unfold audTo at h
  rw [Bool.and_eq_true, Bool.and_eq_true, List.all_eq_true, inR_iff] at h
  refine ⟨fun x hx => ?_, by omega⟩
  obtain ⟨i, hi, rfl⟩ := List.getElem_of_mem hx
  have := h.2 i (List.mem_range.2 hi)
  rw [Bool.and_eq_true, inR_iff, W_at hi] at this
  omega
set_option maxHeartbeats 16000000 in
theorem CheckR_ok (A : AudN) (p q : Option Addr) (a c : Nat) (w : AW) (f : Fresh w) (hs : ArrOf w 1 icells (.slice p A.st.length a) A.st) (hc : ArrOf w 1 icells (.slice q A.co.length c) A.co) :
    CallT Try.prog Try.T1 (.fn (.func 19) #[]) #[.agg (audC p q a c A).toArray] w (Ret (.int .i64 (audE A)) (Grown w)) := by
  have g1 := (Grown.refl f).push (.cells (audC p q a c A) 24 w.next 0 0)
  have O1 := Own.new f 24 (audC p q a c A)
  have c0 := O1.cell (o := 0) rfl rfl
  have c1 := O1.cell (o := 1) rfl rfl
  have c2 := O1.cell (o := 2) rfl rfl
  have c3 := O1.cell (o := 3) rfl rfl
  have hsum := fun (w' : AW) (g' : Grown w w') => Sum_ok A.st _ w' (hs.grown g')
  obtain ⟨_, _, epd, _, _, hat⟩ := hs.open
  injection epd with epd1 epd2 epd3
  subst epd1 epd3
  obtain ⟨_, _, epd, _, _, hat2⟩ := hc.open
  injection epd with epd1 epd2 epd3
  subst epd1 epd3
  have hz : audTo A 0 = (inR 1 A.st.length 4 && (decide ((A.co.length : Int) = (A.st.length : Int)) && inR 0 A.sure 1000)) := by unfold audTo; simp
  refine callT_code rfl Try.func19 rfl Try.s19_eq rfl ?_
  unfold Try.s19
  unfold audC at *
  simp -dsimp -implicitDefEqProofs (maxSteps := 2000000) (disch := first | assumption | omega | (simp only [nx]; omega) | ((repeat refine Fresh.push ?_ _); assumption) | (simp only [smA]; done) | (simp [oneCell, AW.next_push]; done) | fail) only [go_sem, Nat.reduceEqDiff, reduceIte, Nat.reduceAdd, Int.toNat_natCast, Nat.add_zero, Owes_true, Try.results19, c0, Nat.zero_add]
  generalize w.push (.cells [.slice p A.st.length a, .slice q A.co.length c, .int .i64 A.lost, .int .i64 A.sure] 24 w.next 0 0) = w2 at *
  apply callV_of (e := rfl)
  · exact From_ok _ _ _ _
  rintro _ _ ⟨rfl, rfl⟩
  apply joinC (F := fun t => ev t (.tmp 1) = .pointer (some ⟨w.next, 0, none⟩) ∧ ev t (.tmp 3) = .bool (audTo A 0)) (w := w2)
  case mainC =>
    intro go
    cases h1 : inR 1 (A.st.length : Int) 4 with
    | false =>
      have e : audTo A 0 = false := by rw [hz, h1]; rfl
      simp -dsimp -implicitDefEqProofs (maxSteps := 2000000) (disch := first | assumption | omega | (simp only [nx]; omega) | ((repeat refine Fresh.push ?_ _); assumption) | (simp only [smA]; done) | (simp [oneCell, AW.next_push]; done) | fail) only [go_sem, Nat.reduceEqDiff, reduceIte, Nat.reduceAdd, Int.toNat_natCast, Nat.add_zero, Owes_true, Try.results19]
      exact joinC_use go ⟨by (simp -dsimp -implicitDefEqProofs (maxSteps := 2000000) (disch := first | assumption | omega | (simp only [nx]; omega) | ((repeat refine Fresh.push ?_ _); assumption) | (simp only [smA]; done) | (simp [oneCell, AW.next_push]; done) | fail) only [go_sem, Nat.reduceEqDiff, reduceIte, Nat.reduceAdd, Int.toNat_natCast, Nat.add_zero, Owes_true]; try rfl), by (simp -dsimp -implicitDefEqProofs (maxSteps := 2000000) (disch := first | assumption | omega | (simp only [nx]; omega) | ((repeat refine Fresh.push ?_ _); assumption) | (simp only [smA]; done) | (simp [oneCell, AW.next_push]; done) | fail) only [go_sem, Nat.reduceEqDiff, reduceIte, Nat.reduceAdd, Int.toNat_natCast, Nat.add_zero, Owes_true, e]; try rfl)⟩
    | true =>
    by_cases hl : (A.co.length : Int) = (A.st.length : Int)
    case neg =>
      have hd : decide ((A.co.length : Int) = (A.st.length : Int)) = false := decide_eq_false hl
      have e : audTo A 0 = false := by rw [hz, hd]; simp
      simp -dsimp -implicitDefEqProofs (maxSteps := 2000000) (disch := first | assumption | omega | (simp only [nx]; omega) | ((repeat refine Fresh.push ?_ _); assumption) | (simp only [smA]; done) | (simp [oneCell, AW.next_push]; done) | fail) only [go_sem, Nat.reduceEqDiff, reduceIte, Nat.reduceAdd, Int.toNat_natCast, Nat.add_zero, Owes_true, Try.results19, c0, c1, hd, Nat.zero_add]
      exact joinC_use go ⟨by (simp -dsimp -implicitDefEqProofs (maxSteps := 2000000) (disch := first | assumption | omega | (simp only [nx]; omega) | ((repeat refine Fresh.push ?_ _); assumption) | (simp only [smA]; done) | (simp [oneCell, AW.next_push]; done) | fail) only [go_sem, Nat.reduceEqDiff, reduceIte, Nat.reduceAdd, Int.toNat_natCast, Nat.add_zero, Owes_true]; try rfl), by (simp -dsimp -implicitDefEqProofs (maxSteps := 2000000) (disch := first | assumption | omega | (simp only [nx]; omega) | ((repeat refine Fresh.push ?_ _); assumption) | (simp only [smA]; done) | (simp [oneCell, AW.next_push]; done) | fail) only [go_sem, Nat.reduceEqDiff, reduceIte, Nat.reduceAdd, Int.toNat_natCast, Nat.add_zero, Owes_true, e]; try rfl)⟩
    have hd : decide ((A.co.length : Int) = (A.st.length : Int)) = true := decide_eq_true hl
    simp -dsimp -implicitDefEqProofs (maxSteps := 2000000) (disch := first | assumption | omega | (simp only [nx]; omega) | ((repeat refine Fresh.push ?_ _); assumption) | (simp only [smA]; done) | (simp [oneCell, AW.next_push]; done) | fail) only [go_sem, Nat.reduceEqDiff, reduceIte, Nat.reduceAdd, Int.toNat_natCast, Nat.add_zero, Owes_true, Try.results19, c0, c1, c3, hd, Nat.zero_add]
    apply callV_of (e := rfl)
    · exact From_ok _ _ _ _
    rintro _ _ ⟨rfl, rfl⟩
    have e : audTo A 0 = inR 0 A.sure 1000 := by rw [hz, h1, hd]; rfl
    simp -dsimp -implicitDefEqProofs (maxSteps := 2000000) (disch := first | assumption | omega | (simp only [nx]; omega) | ((repeat refine Fresh.push ?_ _); assumption) | (simp only [smA]; done) | (simp [oneCell, AW.next_push]; done) | fail) only [go_sem, Nat.reduceEqDiff, reduceIte, Nat.reduceAdd, Int.toNat_natCast, Nat.add_zero, Owes_true, Try.results19]
    exact joinC_use go ⟨by (simp -dsimp -implicitDefEqProofs (maxSteps := 2000000) (disch := first | assumption | omega | (simp only [nx]; omega) | ((repeat refine Fresh.push ?_ _); assumption) | (simp only [smA]; done) | (simp [oneCell, AW.next_push]; done) | fail) only [go_sem, Nat.reduceEqDiff, reduceIte, Nat.reduceAdd, Int.toNat_natCast, Nat.add_zero, Owes_true]; try rfl), by (simp -dsimp -implicitDefEqProofs (maxSteps := 2000000) (disch := first | assumption | omega | (simp only [nx]; omega) | ((repeat refine Fresh.push ?_ _); assumption) | (simp only [smA]; done) | (simp [oneCell, AW.next_push]; done) | fail) only [go_sem, Nat.reduceEqDiff, reduceIte, Nat.reduceAdd, Int.toNat_natCast, Nat.add_zero, Owes_true, e]; try rfl)⟩
  case restC =>
  rintro t ⟨e1, e3⟩
  unfold Try.s19_c4
  simp -dsimp -implicitDefEqProofs (maxSteps := 2000000) (disch := first | assumption | omega | (simp only [nx]; omega) | ((repeat refine Fresh.push ?_ _); assumption) | (simp only [smA]; done) | (simp [oneCell, AW.next_push]; done) | fail) only [go_sem, Nat.reduceEqDiff, reduceIte, Nat.reduceAdd, Int.toNat_natCast, Nat.add_zero, Owes_true, Try.results19, e1, e3]
  refine loopR (fun k t ds w3 => ∃ i : Nat, i ≤ A.st.length ∧ k = A.st.length - i ∧ ds = [] ∧ ev t (.tmp 1) = .pointer (some ⟨w.next, 0, none⟩) ∧ ev t (.tmp 3) = .bool (audTo A i) ∧ ev t (.tmp 4) = .int .i64 (i : Int) ∧ w2 = w3) (A.st.length) ?_ ?_
  · refine ⟨0, by omega, by omega, rfl, ?_, ?_, ?_, rfl⟩ <;> simp -dsimp -implicitDefEqProofs (maxSteps := 2000000) (disch := first | assumption | omega | (simp only [nx]; omega) | ((repeat refine Fresh.push ?_ _); assumption) | (simp only [smA]; done) | (simp [oneCell, AW.next_push]; done) | fail) only [go_sem, Nat.reduceEqDiff, reduceIte, Nat.reduceAdd, Int.toNat_natCast, Nat.add_zero, Owes_true, e1, e3] <;> rfl
  rintro k t ds w3 ⟨i, hii, rfl, rfl, e1, e3, e4, hw⟩
  subst hw
  cases hok : audTo A i with
  | false =>
    rw [hok] at e3
    have hB : audB A = false := by rw [← audTo_all, audTo_bad (by omega) hok]; rfl
    have hE : audE A = 100 := by unfold audE; rw [hB]; rfl
    rw [hE]
    simp -dsimp -implicitDefEqProofs (maxSteps := 2000000) (disch := first | assumption | omega | (simp only [nx]; omega) | ((repeat refine Fresh.push ?_ _); assumption) | (simp only [smA]; done) | (simp [oneCell, AW.next_push]; done) | fail) only [go_sem, Nat.reduceEqDiff, reduceIte, Nat.reduceAdd, Int.toNat_natCast, Nat.add_zero, Owes_true, Try.results19, e1, e3, e4]
    unfold Try.s19_c47
    simp -dsimp -implicitDefEqProofs (maxSteps := 2000000) (disch := first | assumption | omega | (simp only [nx]; omega) | ((repeat refine Fresh.push ?_ _); assumption) | (simp only [smA]; done) | (simp [oneCell, AW.next_push]; done) | fail) only [go_sem, Nat.reduceEqDiff, reduceIte, Nat.reduceAdd, Int.toNat_natCast, Nat.add_zero, Owes_true, Try.results19, e1, e3, e4]
    exact ⟨rfl, g1⟩
  | true =>
  rw [hok] at e3
  have hle : WLe w2 w2 := (Grown.refl g1.2).1.wle g1.2
  by_cases hlt : (i : Int) < (A.st.length : Int)
  case neg =>
    obtain rfl : i = A.st.length := by omega
    simp -dsimp -implicitDefEqProofs (maxSteps := 2000000) (disch := first | assumption | omega | (simp only [nx]; omega) | ((repeat refine Fresh.push ?_ _); assumption) | (simp only [smA]; done) | (simp [oneCell, AW.next_push]; done) | fail) only [go_sem, Nat.reduceEqDiff, reduceIte, Nat.reduceAdd, Int.toNat_natCast, Nat.add_zero, Owes_true, Try.results19, e1, e3, e4, hlt, c0, Nat.zero_add]
    unfold Try.s19_c47
    simp -dsimp -implicitDefEqProofs (maxSteps := 2000000) (disch := first | assumption | omega | (simp only [nx]; omega) | ((repeat refine Fresh.push ?_ _); assumption) | (simp only [smA]; done) | (simp [oneCell, AW.next_push]; done) | fail) only [go_sem, Nat.reduceEqDiff, reduceIte, Nat.reduceAdd, Int.toNat_natCast, Nat.add_zero, Owes_true, Try.results19, e1, e3, e4, hlt, c0, c2, Nat.zero_add]
    apply callV_of (e := rfl)
    · exact hsum w2 g1
    rintro _ _ ⟨rfl, s, rfl, hsm⟩
    obtain rfl := hsm (audTo_small hok)
    simp -dsimp -implicitDefEqProofs (maxSteps := 2000000) (disch := first | assumption | omega | (simp only [nx]; omega) | ((repeat refine Fresh.push ?_ _); assumption) | (simp only [smA]; done) | (simp [oneCell, AW.next_push]; done) | fail) only [go_sem, Nat.reduceEqDiff, reduceIte, Nat.reduceAdd, Int.toNat_natCast, Nat.add_zero, Owes_true, Try.results19, hle]
    apply callV_of (e := rfl)
    · exact From_ok _ _ _ _
    rintro _ _ ⟨rfl, rfl⟩
    have hB : audB A = inR 1 A.lost A.st.sum := by rw [← audTo_all, hok]; rfl
    cases hin : inR 1 A.lost A.st.sum with
    | false =>
      have hE : audE A = 100 := by unfold audE; rw [hB, hin]; rfl
      rw [hE]
      simp -dsimp -implicitDefEqProofs (maxSteps := 2000000) (disch := first | assumption | omega | (simp only [nx]; omega) | ((repeat refine Fresh.push ?_ _); assumption) | (simp only [smA]; done) | (simp [oneCell, AW.next_push]; done) | fail) only [go_sem, Nat.reduceEqDiff, reduceIte, Nat.reduceAdd, Int.toNat_natCast, Nat.add_zero, Owes_true, Try.results19, hle]
      exact ⟨rfl, g1⟩
    | true =>
      have hE : audE A = 0 := by unfold audE; rw [hB, hin]; rfl
      rw [hE]
      simp -dsimp -implicitDefEqProofs (maxSteps := 2000000) (disch := first | assumption | omega | (simp only [nx]; omega) | ((repeat refine Fresh.push ?_ _); assumption) | (simp only [smA]; done) | (simp [oneCell, AW.next_push]; done) | fail) only [go_sem, Nat.reduceEqDiff, reduceIte, Nat.reduceAdd, Int.toNat_natCast, Nat.add_zero, Owes_true, Try.results19, hle]
      exact ⟨rfl, g1⟩
  have hlen : A.co.length = A.st.length := by
    unfold audTo at hok
    rw [Bool.and_eq_true, Bool.and_eq_true, Bool.and_eq_true] at hok
    have := of_decide_eq_true hok.1.2.1
    omega
  have hlt' : i < A.st.length := by omega
  have hlt2 : (i : Int) < (A.co.length : Int) := by omega
  obtain ⟨b1, o1, rfl, hb1', hcell⟩ := hat i hlt'
  obtain ⟨b2, o2, rfl, hb2', hcell2⟩ := hat2 i (by omega)
  have a0 := hcell w2 g1.1 0 _ rfl
  have a1 := hcell2 w2 g1.1 0 _ rfl
  rw [Nat.add_zero, ← W_at hlt'] at a0
  rw [Nat.add_zero, ← W_at (by omega)] at a1
  have hsu := audTo_succ A i
  rw [hok, Bool.true_and] at hsu
  simp -dsimp -implicitDefEqProofs (maxSteps := 2000000) (disch := first | assumption | omega | (simp only [nx]; omega) | ((repeat refine Fresh.push ?_ _); assumption) | (simp only [smA]; done) | (simp [oneCell, AW.next_push]; done) | fail) only [go_sem, Nat.reduceEqDiff, reduceIte, Nat.reduceAdd, Int.toNat_natCast, Nat.add_zero, Owes_true, Try.results19, e1, e3, e4, hlt, indexV_eq, a0, c0, Nat.zero_add]
  apply callV_of (e := rfl)
  · exact From_ok _ _ _ _
  rintro _ _ ⟨rfl, rfl⟩
  cases hin : inR 1 (W A.st i) 8 with
  | false =>
    rw [hin, Bool.false_and] at hsu
    simp -dsimp -implicitDefEqProofs (maxSteps := 2000000) (disch := first | assumption | omega | (simp only [nx]; omega) | ((repeat refine Fresh.push ?_ _); assumption) | (simp only [smA]; done) | (simp [oneCell, AW.next_push]; done) | fail) only [go_sem, Nat.reduceEqDiff, reduceIte, Nat.reduceAdd, Int.toNat_natCast, Nat.add_zero, Owes_true, Try.results19, e1, e3, e4]
    refine ⟨_, by omega, i + 1, by omega, rfl, rfl, by (simp -dsimp -implicitDefEqProofs (maxSteps := 2000000) (disch := first | assumption | omega | (simp only [nx]; omega) | ((repeat refine Fresh.push ?_ _); assumption) | (simp only [smA]; done) | (simp [oneCell, AW.next_push]; done) | fail) only [go_sem, Nat.reduceEqDiff, reduceIte, Nat.reduceAdd, Int.toNat_natCast, Nat.add_zero, Owes_true, e1, hsu]; try rfl), by (simp -dsimp -implicitDefEqProofs (maxSteps := 2000000) (disch := first | assumption | omega | (simp only [nx]; omega) | ((repeat refine Fresh.push ?_ _); assumption) | (simp only [smA]; done) | (simp [oneCell, AW.next_push]; done) | fail) only [go_sem, Nat.reduceEqDiff, reduceIte, Nat.reduceAdd, Int.toNat_natCast, Nat.add_zero, Owes_true, e3, hsu]; try rfl), by (simp -dsimp -implicitDefEqProofs (maxSteps := 2000000) (disch := first | assumption | omega | (simp only [nx]; omega) | ((repeat refine Fresh.push ?_ _); assumption) | (simp only [smA]; done) | (simp [oneCell, AW.next_push]; done) | fail) only [go_sem, Nat.reduceEqDiff, reduceIte, Nat.reduceAdd, Int.toNat_natCast, Nat.add_zero, Owes_true, e4, hsu]; try rfl), rfl⟩
  | true =>
  rw [hin, Bool.true_and] at hsu
  simp -dsimp -implicitDefEqProofs (maxSteps := 2000000) (disch := first | assumption | omega | (simp only [nx]; omega) | ((repeat refine Fresh.push ?_ _); assumption) | (simp only [smA]; done) | (simp [oneCell, AW.next_push]; done) | fail) only [go_sem, Nat.reduceEqDiff, reduceIte, Nat.reduceAdd, Int.toNat_natCast, Nat.add_zero, Owes_true, Try.results19, e1, e3, e4, hlt2, indexV_eq, a1, c1, Nat.zero_add]
  apply callV_of (e := rfl)
  · exact From_ok _ _ _ _
  rintro _ _ ⟨rfl, rfl⟩
  simp -dsimp -implicitDefEqProofs (maxSteps := 2000000) (disch := first | assumption | omega | (simp only [nx]; omega) | ((repeat refine Fresh.push ?_ _); assumption) | (simp only [smA]; done) | (simp [oneCell, AW.next_push]; done) | fail) only [go_sem, Nat.reduceEqDiff, reduceIte, Nat.reduceAdd, Int.toNat_natCast, Nat.add_zero, Owes_true, Try.results19, e1, e3, e4]
  refine ⟨_, by omega, i + 1, by omega, rfl, rfl, by (simp -dsimp -implicitDefEqProofs (maxSteps := 2000000) (disch := first | assumption | omega | (simp only [nx]; omega) | ((repeat refine Fresh.push ?_ _); assumption) | (simp only [smA]; done) | (simp [oneCell, AW.next_push]; done) | fail) only [go_sem, Nat.reduceEqDiff, reduceIte, Nat.reduceAdd, Int.toNat_natCast, Nat.add_zero, Owes_true, e1, hsu]; try rfl), by (simp -dsimp -implicitDefEqProofs (maxSteps := 2000000) (disch := first | assumption | omega | (simp only [nx]; omega) | ((repeat refine Fresh.push ?_ _); assumption) | (simp only [smA]; done) | (simp [oneCell, AW.next_push]; done) | fail) only [go_sem, Nat.reduceEqDiff, reduceIte, Nat.reduceAdd, Int.toNat_natCast, Nat.add_zero, Owes_true, e3, hsu]; try rfl), by (simp -dsimp -implicitDefEqProofs (maxSteps := 2000000) (disch := first | assumption | omega | (simp only [nx]; omega) | ((repeat refine Fresh.push ?_ _); assumption) | (simp only [smA]; done) | (simp [oneCell, AW.next_push]; done) | fail) only [go_sem, Nat.reduceEqDiff, reduceIte, Nat.reduceAdd, Int.toNat_natCast, Nat.add_zero, Owes_true, e4, hsu]; try rfl), rfl⟩
set_option maxHeartbeats 16000000 in
theorem missR_ok {A : AudN} (h : audB A = true) (P L : List Int) (hPl : P.length = A.st.length) (hLl : L.length = A.st.length) (hP : FitS A.st P) (hL : FitS A.st L) (p q : Option Addr) (a c : Nat) (v u : Value) (w : AW) (f : Fresh w) (hs : ArrOf w 1 icells (.slice p A.st.length a) A.st) (hv : ArrOf w 1 icells v P) (hu : ArrOf w 1 icells u L) :
    CallT Try.prog Try.T1 (.fn (.func 63) #[]) #[.agg (audC p q a c A).toArray, v, u] w (Ret (.int .i64 (missI A.st P L : Int)) (Grown w)) := by
  obtain ⟨hS, _⟩ := audB_ok h
  have g1 := (Grown.refl f).push (.cells (audC p q a c A) 24 w.next 0 0)
  have O1 := Own.new f 24 (audC p q a c A)
  have c0 := O1.cell (o := 0) rfl rfl
  obtain ⟨pv, cv, rfl, _, _, hatP⟩ := hv.open
  obtain ⟨pu, cu, rfl, _, _, hatL⟩ := hu.open
  obtain ⟨_, _, epd, _, _, hat⟩ := hs.open
  injection epd with epd1 epd2 epd3
  subst epd1 epd3
  refine callT_code rfl Try.func63 rfl Try.s63_eq rfl ?_
  unfold Try.s63
  unfold audC at *
  simp -dsimp -implicitDefEqProofs (maxSteps := 2000000) (disch := first | assumption | omega | (simp only [nx]; omega) | ((repeat refine Fresh.push ?_ _); assumption) | (simp only [smA]; done) | (simp [oneCell, AW.next_push]; done) | fail) only [go_sem, Nat.reduceEqDiff, reduceIte, Nat.reduceAdd, Int.toNat_natCast, Nat.add_zero, Owes_true, Try.results63]
  generalize w.push (.cells [.slice p A.st.length a, .slice q A.co.length c, .int .i64 A.lost, .int .i64 A.sure] 24 w.next 0 0) = w2 at *
  refine loopR (fun k t ds w3 => ∃ i : Nat, i ≤ P.length ∧ k = P.length - i ∧ ds = [] ∧ ev t (.tmp 1) = .slice pv P.length cv ∧ ev t (.tmp 2) = .slice pu L.length cu ∧ ev t (.tmp 3) = .pointer (some ⟨w.next, 0, none⟩) ∧ ev t (.tmp 7) = .int .i64 (missTo A.st P L i : Int) ∧ ev t (.tmp 8) = .int .i64 (i : Int) ∧ w2 = w3) (P.length) ?_ ?_
  · refine ⟨0, by omega, by omega, rfl, ?_, ?_, ?_, ?_, ?_, rfl⟩ <;> simp -dsimp -implicitDefEqProofs (maxSteps := 2000000) (disch := first | assumption | omega | (simp only [nx]; omega) | ((repeat refine Fresh.push ?_ _); assumption) | (simp only [smA]; done) | (simp [oneCell, AW.next_push]; done) | fail) only [go_sem, Nat.reduceEqDiff, reduceIte, Nat.reduceAdd, Int.toNat_natCast, Nat.add_zero, Owes_true] <;> rfl
  rintro k t ds w3 ⟨i, hii, rfl, rfl, e1, e2, e3, e7, e8, hw⟩
  subst hw
  by_cases hlt : (i : Int) < (P.length : Int)
  case neg =>
    obtain rfl : i = P.length := by omega
    simp -dsimp -implicitDefEqProofs (maxSteps := 2000000) (disch := first | assumption | omega | (simp only [nx]; omega) | ((repeat refine Fresh.push ?_ _); assumption) | (simp only [smA]; done) | (simp [oneCell, AW.next_push]; done) | fail) only [go_sem, Nat.reduceEqDiff, reduceIte, Nat.reduceAdd, Int.toNat_natCast, Nat.add_zero, Owes_true, Try.results63, e1, e2, e3, e7, e8, hlt]
    exact ⟨by unfold missI; rw [hPl], g1⟩
  have hlt' : i < P.length := by omega
  have hltS : (i : Int) < (A.st.length : Int) := by omega
  have hltL : (i : Int) < (L.length : Int) := by omega
  obtain ⟨b1, o1, rfl, hb1', hcell⟩ := hat i (by omega)
  obtain ⟨b2, o2, rfl, hb2', hcell2⟩ := hatP i hlt'
  obtain ⟨b3, o3, rfl, hb3', hcell3⟩ := hatL i (by omega)
  have a0 := hcell w2 g1.1 0 _ rfl
  have a1 := hcell2 w2 g1.1 0 _ rfl
  have a2 := hcell3 w2 g1.1 0 _ rfl
  rw [Nat.add_zero, ← W_at (by omega)] at a0
  rw [Nat.add_zero, ← W_at hlt'] at a1
  rw [Nat.add_zero, ← W_at (by omega)] at a2
  have hle : WLe w2 w2 := (Grown.refl g1.2).1.wle g1.2
  have hSi := hS.2.2 i (by omega)
  have hPi := hP i (by omega)
  have hLi := hL i (by omega)
  obtain ⟨x, hx⟩ : ∃ x : Nat, W A.st i - W L i = (x : Int) := ⟨(W A.st i - W L i).toNat, by omega⟩
  obtain ⟨y, hy⟩ : ∃ y : Nat, W P i = (y : Int) := ⟨(W P i).toNat, by omega⟩
  have hns : missTo A.st P L (i + 1) = missTo A.st P L i * chs x y := by rw [missTo, hx, hy]; rfl
  have hbd := missTo_b hS hP hL (i := i + 1) (by omega)
  have hbd0 := missTo_b hS hP hL (i := i) (by omega)
  have hch := chs_le (n := x) (k := y) (by omega) (by omega)
  rw [hns] at hbd
  have hcast : (missTo A.st P L i : Int) * (chs x y : Int) = ((missTo A.st P L i * chs x y : Nat) : Int) := by push_cast; rfl
  rw [hy] at a1
  generalize hmm : missTo A.st P L i = m at *
  simp -dsimp -implicitDefEqProofs (maxSteps := 2000000) (disch := first | assumption | omega | (simp only [nx]; omega) | ((repeat refine Fresh.push ?_ _); assumption) | (simp only [smA]; done) | (simp [oneCell, AW.next_push]; done) | fail) only [go_sem, Nat.reduceEqDiff, reduceIte, Nat.reduceAdd, Int.toNat_natCast, Nat.add_zero, Owes_true, Try.results63, e1, e2, e3, e7, e8, hlt, hltS, hltL, indexV_eq, a0, a1, a2, c0, hx, Nat.zero_add]
  apply callV_of (e := rfl)
  · exact C_ok (by omega) (by omega) w2
  rintro _ _ ⟨rfl, rfl⟩
  simp -dsimp -implicitDefEqProofs (maxSteps := 2000000) (disch := first | assumption | omega | (simp only [nx]; omega) | ((repeat refine Fresh.push ?_ _); assumption) | (simp only [smA]; done) | (simp [oneCell, AW.next_push]; done) | fail) only [go_sem, Nat.reduceEqDiff, reduceIte, Nat.reduceAdd, Int.toNat_natCast, Nat.add_zero, Owes_true, Try.results63, e1, e2, e3, e7, e8, hle, hcast]
  refine ⟨_, by omega, i + 1, by omega, rfl, rfl, by (simp -dsimp -implicitDefEqProofs (maxSteps := 2000000) (disch := first | assumption | omega | (simp only [nx]; omega) | ((repeat refine Fresh.push ?_ _); assumption) | (simp only [smA]; done) | (simp [oneCell, AW.next_push]; done) | fail) only [go_sem, Nat.reduceEqDiff, reduceIte, Nat.reduceAdd, Int.toNat_natCast, Nat.add_zero, Owes_true, e1, hns, hcast]; try rfl), by (simp -dsimp -implicitDefEqProofs (maxSteps := 2000000) (disch := first | assumption | omega | (simp only [nx]; omega) | ((repeat refine Fresh.push ?_ _); assumption) | (simp only [smA]; done) | (simp [oneCell, AW.next_push]; done) | fail) only [go_sem, Nat.reduceEqDiff, reduceIte, Nat.reduceAdd, Int.toNat_natCast, Nat.add_zero, Owes_true, e2, hns, hcast]; try rfl), by (simp -dsimp -implicitDefEqProofs (maxSteps := 2000000) (disch := first | assumption | omega | (simp only [nx]; omega) | ((repeat refine Fresh.push ?_ _); assumption) | (simp only [smA]; done) | (simp [oneCell, AW.next_push]; done) | fail) only [go_sem, Nat.reduceEqDiff, reduceIte, Nat.reduceAdd, Int.toNat_natCast, Nat.add_zero, Owes_true, e3, hns, hcast]; try rfl), by (simp -dsimp -implicitDefEqProofs (maxSteps := 2000000) (disch := first | assumption | omega | (simp only [nx]; omega) | ((repeat refine Fresh.push ?_ _); assumption) | (simp only [smA]; done) | (simp [oneCell, AW.next_push]; done) | fail) only [go_sem, Nat.reduceEqDiff, reduceIte, Nat.reduceAdd, Int.toNat_natCast, Nat.add_zero, Owes_true, e7, hns, hcast]; try rfl), by (simp -dsimp -implicitDefEqProofs (maxSteps := 2000000) (disch := first | assumption | omega | (simp only [nx]; omega) | ((repeat refine Fresh.push ?_ _); assumption) | (simp only [smA]; done) | (simp [oneCell, AW.next_push]; done) | fail) only [go_sem, Nat.reduceEqDiff, reduceIte, Nat.reduceAdd, Int.toNat_natCast, Nat.add_zero, Owes_true, e8, hns, hcast]; try rfl), rfl⟩
end Go.Proofs

namespace Go.Proofs
open Go Go.RowKit Go.Sim
set_option maxRecDepth 100000
def zeros (n : Nat) : List Int := List.replicate n 0
theorem zeros_at (n i : Nat) : W (zeros n) i = 0 := by
  rcases Nat.lt_or_ge i n with q | q
  · rw [W_at (by simp [zeros]; exact q)]; simp [zeros]
  · exact W_out (by simp [zeros]; exact q)
theorem zeros_fit {S : List Int} (hS : okS S) (n : Nat) : FitS S (zeros n) := fun i hi => by rw [zeros_at]; have := hS.2.2 i hi; omega
theorem miss_zeros (S P : List Int) (n : Nat) : missI S P (zeros n) = allI S P := missTo_ext (fun _ => rfl) (fun i => by rw [zeros_at, W_nil]) _
theorem ms22 (n : Nat) (hn : n ≤ 1048576) : msQ (prg Try.prog) 22 (.int .i64 (n : Int)) (.int .i64 (n : Int)) = some ((zeros n).flatMap icells, 3, fun b => .slice (some ⟨b, 0, none⟩) n n) := by
  rw [msQ_le Try.ty22 Try.ty3 (Nat.le_refl _) hn (by omega) (by omega) rfl]
  have : (List.replicate n ((Value.int .i64 0).cells.toList)).flatten = (zeros n).flatMap icells := flat_rep (enc := icells) (0 : Int) n
  rw [this]
theorem arr_zeros {w : AW} (f : Fresh w) (n : Nat) (hn : n ≤ 1048576) : ArrOf (w.push (.cells ((zeros n).flatMap icells) 3 w.next 0 0)) 1 icells (.slice (some ⟨w.next, 0, none⟩) n n) (zeros n) := by
  have := Own.iarr (Own.new f 3 ((zeros n).flatMap icells)) (by simp [zeros]; omega)
  simpa [zeros] using this
end Go.Proofs

namespace Go.Proofs
open Go Go.RowKit Go.Sim
set_option maxRecDepth 100000
theorem Try.bs84 (t : Tmps) (l : List (Nat × Operand)) : makes (prg Try.prog) t (.buildSlice 84 1 ⟨l⟩) = bsQ 22 1 1 [.slice none 0 0] (l.map fun p => (p.1, ev t p.2)) := makes_bs Try.ty84 Try.ty22 rfl (by kernel_rfl)
attribute [go_sem] Try.bs84
theorem Apnd.wle {w w' : AW} (h : Apnd w w') (f : Fresh w) : WLe w w' := fun j y hj => by
  by_cases q : j < w.next
  · rw [h.blk j q]; exact hj
  · rw [f.1 j (by omega)] at hj; cases hj
theorem vcells_all (l : List Value) : l.flatMap vcells = l := by
  induction l with
  | nil => rfl
  | cons x l ih => rw [List.flatMap_cons, ih]; rfl
theorem NumRows.first {w : AW} {v : Value} {LL : List (List Int)} (h : NumRows w v LL) (h1 : 1 ≤ LL.length) : ∃ (vs : List Value) (b o c : Nat), vs.length = LL.length ∧ v = .slice (some ⟨b, o, none⟩) LL.length c ∧ aFirst w 1 LL.length v = some vs ∧ (∀ x ∈ vs, oneCell x = true) ∧ ∀ (i : Nat) x L, vs[i]? = some x → LL[i]? = some L → ArrOf w 1 icells x L := by
  obtain ⟨vs, a, b, d⟩ := h
  obtain ⟨p, c, rfl, hc, _, hat⟩ := b.open
  obtain ⟨b1, o1, rfl, _, _⟩ := hat 0 (by omega)
  have hn := arr_new b (fun _ => rfl) (Nat.le_refl 1)
  rw [vcells_all] at hn
  rw [a] at hn ⊢
  refine ⟨vs, b1, o1, c, a, rfl, ?_, fun x hx => ?_, d⟩
  · unfold aNew at hn
    split at hn
    · rename_i l hq; rw [hq, hn]
    · split at hn
      · omega
      · cases hn
  · obtain ⟨i, hi, rfl⟩ := List.getElem_of_mem hx
    obtain ⟨_, _, e, _⟩ := (d i _ _ (List.getElem?_eq_getElem hi) (List.getElem?_eq_getElem (by omega))).open
    rw [e]; rfl
theorem AOwn.sameV {B : Nat} {w : AW} {e : TypeId} {size n : Nat} {v : Value} {cells : List Value} (h : AOwn B w e size v n cells) : same 12 v v = true := by
  rcases h with ⟨rfl, _⟩ | ⟨b, r, rfl, _⟩
  · rfl
  · exact same_slice _ _ _ _
theorem AOwn.len {B : Nat} {w : AW} {e : TypeId} {size n : Nat} {v : Value} {cells : List Value} (h : AOwn B w e size v n cells) : ∃ p c, v = .slice p n c := by
  rcases h with ⟨rfl, rfl, _⟩ | ⟨b, r, rfl, _⟩
  · exact ⟨_, _, rfl⟩
  · exact ⟨_, _, rfl⟩
def RowsR (B : Nat) (w : AW) (v : Value) (LL : List (List Int)) : Prop := ∃ vs : List Value, vs.length = LL.length ∧ AOwn B w 22 1 v LL.length vs ∧ (∀ x ∈ vs, oneCell x = true) ∧ ∀ (i : Nat) x L, vs[i]? = some x → LL[i]? = some L → ArrOf w 1 icells x L
theorem RowsR.nil (B : Nat) (w : AW) : RowsR B w (.slice none 0 0) [] := ⟨[], rfl, .inl ⟨rfl, rfl, rfl⟩, fun x h => (by cases h), fun i x L h => (by simp at h)⟩
theorem RowsR.grown {B : Nat} {w w' : AW} {v : Value} {LL : List (List Int)} (h : RowsR B w v LL) (g : Grown w w') : RowsR B w' v LL := by
  obtain ⟨vs, a, b, c, d⟩ := h
  exact ⟨vs, a, b.keep g.1 (Nat.le_refl _), c, fun i x L h1 h2 => (d i x L h1 h2).grown g⟩
theorem RowsR.weak {B C : Nat} {w : AW} {v : Value} {LL : List (List Int)} (h : RowsR B w v LL) (k : C ≤ B) : RowsR C w v LL := by
  obtain ⟨vs, a, b, c, d⟩ := h
  exact ⟨vs, a, AOwn.weak b k, c, d⟩
theorem RowsR.num {B : Nat} {w : AW} {v : Value} {LL : List (List Int)} (h : RowsR B w v LL) (hl : LL.length ≤ 1048576) : NumRows w v LL := by
  obtain ⟨vs, a, b, c, d⟩ := h
  refine ⟨vs, a, AOwn.arr (B := B) (e := 22) (by rw [vcells_all, a]; exact b) (fun _ => rfl) (by omega), d⟩
theorem RowsR.app {B : Nat} {w : AW} {v x : Value} {LL MM : List (List Int)} (h : RowsR B w v LL) (k : NumRows w x MM) (f : Fresh w) (hB : B ≤ w.next) (h1 : 1 ≤ MM.length) (hr : LL.length + MM.length ≤ 1048576) :
    ∃ v' w', append (prg Try.prog) w 84 84 v x = some (v', w') ∧ RowsR B w' v' (LL ++ MM) ∧ Keep B w w' ∧ Fresh w' ∧ Apnd w w' := by
  obtain ⟨vs, a, b, c, d⟩ := h
  obtain ⟨us, bx, ox, cx, a2, rfl, hfst, c2, d2⟩ := NumRows.first k h1
  obtain ⟨v', w', e1, e2, e3, e4, _, e6⟩ := append_own2 Try.ty84 Try.ty22 rfl (by omega) (by omega) b f hB (x := .slice (some ⟨bx, ox, none⟩) MM.length cx) rfl hfst (by omega) c2 h1 hr
  refine ⟨v', w', e1, ⟨vs ++ us, by rw [List.length_append, List.length_append]; omega, by rw [List.length_append]; exact e2, fun y hy => ?_, fun i y L hy hL => ?_⟩, e3, e4, e6⟩
  · rcases List.mem_append.1 hy with q | q
    · exact c y q
    · exact c2 y q
  · rcases Nat.lt_or_ge i vs.length with q | q
    · rw [List.getElem?_append_left q] at hy
      rw [List.getElem?_append_left (by omega)] at hL
      exact Arr.app (d i y L hy hL) e6
    · rw [List.getElem?_append_right q] at hy
      rw [List.getElem?_append_right (by omega)] at hL
      rw [a] at hy
      exact Arr.app (d2 _ y L hy hL) e6
theorem making_more {B b30 : Nat} {w : AW} {v : Value} {L : List Int} (h : Making B w 3 1 v L.length (L.flatMap icells)) (f : Fresh w) (hB : B ≤ w.next) (x : Int) (o : Own w b30 3 [.int .i64 x]) (hl : L.length ≤ 1000) :
    ∃ v' w', append (prg Try.prog) w 22 22 v (.slice (some ⟨b30, 0, none⟩) 1 1) = some (v', w') ∧ AOwn B w' 3 1 v' (L ++ [x]).length ((L ++ [x]).flatMap icells) ∧ Keep B w w' ∧ Fresh w' ∧ Apnd w w' := by
  have hA : ArrOf w 1 icells (.slice (some ⟨b30, 0, none⟩) 1 1) [x] := Own.iarr (L := [x]) o (by simp)
  rcases h with ⟨h0, hc, b, e', rfl, hb, hblk⟩ | h
  · have hL : L = [] := List.length_eq_zero_iff.1 h0
    subst hL
    have hn := arr_new hA icells_len (Nat.le_refl _)
    obtain ⟨v', w', e1, e2, e3, e4⟩ := append_empty Try.ty22 Try.ty3 rfl (by omega) hblk f (x := .slice (some ⟨b30, 0, none⟩) 1 1) rfl hn rfl (fun y hy => by simp [icells] at hy; subst hy; rfl) (by omega) (by omega)
    refine ⟨v', w', e1, ?_, e2.mono hB, e3, ⟨e2.blk, fun j c e hj hb hf => e2.fam j hj, e2.next⟩⟩
    rcases e4 with ⟨q, _⟩ | q
    · omega
    · exact AOwn.weak q hB
  · obtain ⟨v', w', e1, e2, e3, e4, _, e6⟩ := append_own2 Try.ty22 Try.ty3 rfl (by omega) (by omega) h f hB (x := .slice (some ⟨b30, 0, none⟩) 1 1) rfl (first1 (o.cell (o := 0) rfl rfl)) rfl (fun y hy => by simp at hy; subst hy; rfl) (by omega) (by omega)
    exact ⟨v', w', e1, by rw [List.length_append, List.flatMap_append]; exact e2, e3, e4, e6⟩
def allL : List Int → List (List Int)
  | [] => [[]]
  | s :: S => (fromTo 0 s).flatMap fun n => (allL S).map (n :: ·)
theorem allL_ne : ∀ {S : List Int}, (∀ x ∈ S, 0 ≤ x) → 1 ≤ (allL S).length
  | [], _ => Nat.le_refl _
  | s :: S, h => by
    have ih := allL_ne (S := S) fun x hx => h x (List.mem_cons_of_mem _ hx)
    have hs := h s List.mem_cons_self
    have h0 : (0 : Int) ∈ fromTo 0 s := fromTo_mem.2 ⟨by omega, hs⟩
    obtain ⟨t, ht⟩ : ∃ t, t ∈ allL S := by
      cases hq : allL S with
      | nil => rw [hq] at ih; simp at ih
      | cons t l => exact ⟨t, List.mem_cons_self⟩
    have : (0 :: t) ∈ allL (s :: S) := by
      simp only [allL, List.mem_flatMap, List.mem_map]
      exact ⟨0, h0, t, ht, rfl⟩
    exact List.length_pos_of_mem this
theorem allL_le : ∀ {S : List Int}, (∀ x ∈ S, 0 ≤ x ∧ x ≤ 8) → (allL S).length ≤ 9 ^ S.length
  | [], _ => Nat.le_refl _
  | s :: S, h => by
    have ih := allL_le (S := S) fun x hx => h x (List.mem_cons_of_mem _ hx)
    have hs := h s List.mem_cons_self
    have hfl : ∀ (N : List Int), (N.flatMap fun n => (allL S).map (n :: ·)).length = N.length * (allL S).length := by
      intro N
      induction N with
      | nil => simp
      | cons n N ihn => rw [List.flatMap_cons, List.length_append, ihn, List.length_map, List.length_cons, Nat.succ_mul]; omega
    rw [allL, hfl, fromTo_len, List.length_cons, Nat.pow_succ, Nat.mul_comm (9 ^ S.length)]
    exact Nat.mul_le_mul (by omega) ih
theorem allL_is : ∀ {S : List Int} {lo hi : Int}, (∀ x ∈ S, 0 ≤ x) → lo ≤ 0 → S.sum ≤ hi → allL S = listsL S lo hi
  | [], _, _, _, _, _ => rfl
  | s :: S, lo, hi, h, h1, h2 => by
    have hS : ∀ x ∈ S, 0 ≤ x := fun x hx => h x (List.mem_cons_of_mem _ hx)
    have hs := h s List.mem_cons_self
    have hn := sum_nn hS
    rw [List.sum_cons] at h2
    rw [allL, listsL, show max 0 (lo - S.sum) = 0 from by omega, show min s hi = s from by omega]
    have : ∀ N : List Int, (∀ n ∈ N, 0 ≤ n ∧ n ≤ s) → (N.flatMap fun n => (allL S).map (n :: ·)) = N.flatMap fun n => (listsL S (lo - n) (hi - n)).map (n :: ·) := by
      intro N
      induction N with
      | nil => intro _; rfl
      | cons n N ihn =>
        intro hN
        have hn' := hN n List.mem_cons_self
        rw [List.flatMap_cons, List.flatMap_cons, ihn fun x hx => hN x (List.mem_cons_of_mem _ hx), ← allL_is (lo := lo - n) (hi := hi - n) hS (by omega) (by omega)]
    exact this _ fun n hn => fromTo_mem.1 hn
end Go.Proofs

namespace Go.Proofs
open Go Go.RowKit Go.Sim
set_option maxRecDepth 100000
theorem okS_in {S : List Int} (hS : okS S) : ∀ x ∈ S, 0 ≤ x ∧ x ≤ 8 := fun x hx => by
  obtain ⟨i, hi, rfl⟩ := List.getElem_of_mem hx
  have := hS.2.2 i hi
  rw [W_at hi] at this; omega
theorem allL_b {S : List Int} (hS : okS S) (d : Nat) : (allL (S.drop d)).length ≤ 6561 := by
  have h1 := allL_le (S := S.drop d) fun x hx => okS_in hS x (List.mem_of_mem_drop hx)
  have h2 : (S.drop d).length ≤ 4 := by rw [List.length_drop]; have := hS.2.1; omega
  have h3 : 9 ^ (S.drop d).length ≤ 9 ^ 4 := Nat.pow_le_pow_right (by omega) h2
  omega
theorem same_s12 (p : Option Addr) (n c : Nat) : same 12 (.slice p n c) (.slice p n c) = true := by
  cases p with
  | none => simp [same]
  | some a => obtain ⟨b, o, s⟩ := a; cases s <;> simp [same]
theorem arr_one {w : AW} {b : Nat} {e : TypeId} {x : Value} (h : Own w b e [x]) (h1 : oneCell x = true) : ArrOf w 1 vcells (.slice (some ⟨b, 0, none⟩) 1 1) [x] := by
  refine ⟨_, _, _, rfl, by simp, Nat.le_refl _, by omega, fun _ => ⟨b, 0, rfl, h.lt, fun i j r y hi hx => ?_⟩⟩
  rw [List.getElem?_map] at hi
  obtain ⟨z, hz, rfl⟩ := Option.map_eq_some_iff.mp hi
  cases i with
  | succ i => simp at hz
  | zero =>
    simp at hz; subst hz
    cases j with
    | succ j => simp [vcells] at hx
    | zero =>
      simp [vcells] at hx; subst hx
      exact h.cell (o := 0) rfl h1
def preL (S l : List Int) (i : Nat) : List (List Int) := ((List.range i).map fun (x : Nat) => (x : Int)).flatMap fun n => (allL S).map fun t => l ++ n :: t
theorem preL_succ (S l : List Int) (i : Nat) : preL S l (i + 1) = preL S l i ++ (allL S).map fun t => l ++ (i : Int) :: t := by
  unfold preL; rw [List.range_succ, List.map_append, List.flatMap_append]; simp
theorem preL_len (S l : List Int) (i : Nat) : (preL S l i).length = i * (allL S).length := by
  induction i with
  | zero => simp [preL]
  | succ i ih => rw [preL_succ, List.length_append, ih, List.length_map, Nat.succ_mul]
theorem preL_all {S l : List Int} {s : Int} (h : 0 ≤ s) : preL S l (s.toNat + 1) = (allL (s :: S)).map (l ++ ·) := by
  unfold preL
  rw [allL, List.map_flatMap]
  have : fromTo 0 s = (List.range (s.toNat + 1)).map fun (x : Nat) => (x : Int) := by
    unfold fromTo
    rw [show (s - 0 + 1).toNat = s.toNat + 1 from by omega]
    simp
  rw [this]
  congr 1
  funext n
  rw [List.map_map]; rfl
set_option maxHeartbeats 32000000 in
theorem listsR_ok {A : AudN} (hS : okS A.st) {W1 : AW} {p q : Option Addr} {a c : Nat} (hs : ArrOf W1 1 icells (.slice p A.st.length a) A.st) : ∀ (m : Nat) (l : List Int) (v : Value) (w : AW), l.length + m = A.st.length → ArrOf w 1 icells v l → Fresh w → Keep W1.next W1 w →
    CallT Try.prog Try.T1 (.fn (.func 77) #[]) #[.agg (audC p q a c A).toArray, v] w (fun r w' => Grown w w' ∧ NumRows w' r ((allL (A.st.drop l.length)).map (l ++ ·))) := by
  intro m
  induction m with
  | zero =>
    intro l v w hl hv f hk
    obtain ⟨pv, cv, rfl, _⟩ := id hv.open
    have g1 := (Grown.refl f).push (.cells (audC p q a c A) 24 w.next 0 0)
    have O1 := Own.new f 24 (audC p q a c A)
    have c0 := O1.cell (o := 0) rfl rfl
    have hd : decide ((l.length : Int) = (A.st.length : Int)) = true := decide_eq_true (by omega)
    have nx1 : (w.push (.cells (audC p q a c A) 24 w.next 0 0)).next = w.next + 1 := AW.next_push _ _
    refine callT_code rfl Try.func77 rfl Try.s77_eq rfl ?_
    unfold Try.s77
    unfold audC at *
    simp -dsimp -implicitDefEqProofs (maxSteps := 2000000) (disch := first | assumption | omega | (simp only [nx]; omega) | ((repeat refine Fresh.push ?_ _); assumption) | (simp only [smA]; done) | (simp [oneCell, AW.next_push]; done) | fail) only [go_sem, Nat.reduceEqDiff, reduceIte, Nat.reduceAdd, Int.toNat_natCast, Nat.add_zero, Owes_true, Try.results77, c0, hd, Nat.zero_add]
    generalize w.push (.cells [.slice p A.st.length a, .slice q A.co.length c, .int .i64 A.lost, .int .i64 A.sure] 24 w.next 0 0) = w2 at *
    have g2 := (Grown.refl g1.2).push (.cells [.slice pv l.length cv] 22 w2.next 0 0)
    have O2 := Own.new g1.2 22 [.slice pv l.length cv]
    rw [nx1] at g2 O2
    refine ⟨g1.trans g2, [.slice pv l.length cv], ?_, ?_, ?_⟩
    · rw [List.drop_of_length_le (by omega)]; rfl
    · exact arr_one O2 rfl
    · intro i x L hx hL
      rw [List.drop_of_length_le (by omega)] at hL
      cases i with
      | zero =>
        simp [allL] at hx hL
        subst hx hL
        exact hv.grown (g1.trans g2)
      | succ i => simp at hx
  | succ m ih =>
    intro l v w hl hv f hk
    obtain ⟨pv, cv, rfl, _⟩ := id hv.open
    have hrl : l.length < A.st.length := by omega
    have g1 := (Grown.refl f).push (.cells (audC p q a c A) 24 w.next 0 0)
    have O1 := Own.new f 24 (audC p q a c A)
    have hd : decide ((l.length : Int) = (A.st.length : Int)) = false := decide_eq_false (by omega)
    have c0' := O1.cell (o := 0) rfl rfl
    have nx1 : (w.push (.cells (audC p q a c A) 24 w.next 0 0)).next = w.next + 1 := AW.next_push _ _
    have hdr : A.st.drop l.length = W A.st l.length :: A.st.drop (l.length + 1) := by rw [W_at hrl]; exact List.drop_eq_getElem_cons hrl
    have hSr := hS.2.2 l.length hrl
    have hl4 := hS.2.1
    obtain ⟨s, hse⟩ : ∃ s : Nat, W A.st l.length = (s : Int) := ⟨(W A.st l.length).toNat, by omega⟩
    have hsaud := same_audV p q a c A
    have hsl : same 12 (.slice pv l.length cv) (.slice pv l.length cv) = true := same_s12 _ _ _
    obtain ⟨_, _, epd, _, _, hat⟩ := hs.open
    injection epd with epd1 epd2 epd3
    subst epd1 epd3
    obtain ⟨b1, o1, rfl, hb1, hcell⟩ := hat l.length hrl
    have hrl' : (l.length : Int) < (A.st.length : Int) := by omega
    refine callT_code rfl Try.func77 rfl Try.s77_eq rfl ?_
    unfold Try.s77
    unfold audC at *
    simp -dsimp -implicitDefEqProofs (maxSteps := 2000000) (disch := first | assumption | omega | (simp only [nx]; omega) | ((repeat refine Fresh.push ?_ _); assumption) | (simp only [smA]; done) | (simp [oneCell, AW.next_push]; done) | fail) only [go_sem, Nat.reduceEqDiff, reduceIte, Nat.reduceAdd, Int.toNat_natCast, Nat.add_zero, Owes_true, Try.results77, c0', hd, Nat.zero_add]
    generalize w.push (.cells [.slice (some ⟨b1, o1, none⟩) A.st.length a, .slice q A.co.length c, .int .i64 A.lost, .int .i64 A.sure] 24 w.next 0 0) = w2 at *
    have hB := allL_b hS (l.length + 1)
    refine loopR (fun k t ds w3 => ∃ i : Nat, i ≤ s + 1 ∧ k = s + 1 - i ∧ ds = [] ∧ ev t (.tmp 1) = .slice pv l.length cv ∧ ev t (.tmp 2) = .pointer (some ⟨w.next, 0, none⟩) ∧ ev t (.tmp 6) = .int .i64 (i : Int) ∧ ∃ x : Value, ev t (.tmp 5) = x ∧ RowsR w2.next w3 x (preL (A.st.drop (l.length + 1)) l i) ∧ Keep w2.next w2 w3 ∧ Fresh w3) (s + 1) ?_ ?_
    · refine ⟨0, by omega, by omega, rfl, ?_, ?_, ?_, .slice none 0 0, by simp -dsimp -implicitDefEqProofs (maxSteps := 2000000) (disch := first | assumption | omega | (simp only [nx]; omega) | ((repeat refine Fresh.push ?_ _); assumption) | (simp only [smA]; done) | (simp [oneCell, AW.next_push]; done) | fail) only [go_sem, Nat.reduceEqDiff, reduceIte, Nat.reduceAdd, Int.toNat_natCast, Nat.add_zero, Owes_true], RowsR.nil _ _, .refl _ _, g1.2⟩ <;> simp -dsimp -implicitDefEqProofs (maxSteps := 2000000) (disch := first | assumption | omega | (simp only [nx]; omega) | ((repeat refine Fresh.push ?_ _); assumption) | (simp only [smA]; done) | (simp [oneCell, AW.next_push]; done) | fail) only [go_sem, Nat.reduceEqDiff, reduceIte, Nat.reduceAdd, Int.toNat_natCast, Nat.add_zero, Owes_true] <;> rfl
    rintro k t ds w3 ⟨i, hii, rfl, rfl, e1, e2, e6, x, e5, hR, k3, f3⟩
    have hkW : Keep W1.next W1 w3 := (hk.trans (g1.1.mono hk.next)).trans (k3.mono (by have := hk.next; have := g1.1.next; omega))
    have O3 := O1.keep k3
    have c0 := O3.cell (o := 0) rfl rfl
    have c1 := O3.cell (o := 1) rfl rfl
    have c2 := O3.cell (o := 2) rfl rfl
    have c3 := O3.cell (o := 3) rfl rfl
    have a0 := hcell w3 hkW 0 _ rfl
    rw [Nat.add_zero, ← W_at hrl, hse] at a0
    by_cases hlt : (i : Int) ≤ (s : Int)
    case neg =>
      obtain rfl : i = s + 1 := by omega
      simp -dsimp -implicitDefEqProofs (maxSteps := 2000000) (disch := first | assumption | omega | (simp only [nx]; omega) | ((repeat refine Fresh.push ?_ _); assumption) | (simp only [smA]; done) | (simp [oneCell, AW.next_push]; done) | fail) only [go_sem, Nat.reduceEqDiff, reduceIte, Nat.reduceAdd, Int.toNat_natCast, Nat.add_zero, Owes_true, Try.results77, e1, e2, e5, e6, hlt, c0, hrl', indexV_eq, a0, Nat.zero_add]
      have hfin := preL_all (S := A.st.drop (l.length + 1)) (l := l) (s := (s : Int)) (by omega)
      rw [Int.toNat_natCast, ← hse, ← hdr] at hfin
      rw [hfin] at hR
      exact ⟨⟨g1.1.trans (k3.mono g1.1.next), f3⟩, hR.num (by rw [List.length_map]; have := allL_b hS l.length; omega)⟩
    have hvA := (hv.grown g1).kept k3
    have g4 := (Grown.refl f3).push (.cells [.int .i64 (i : Int)] 3 w3.next 0 0)
    have O4 := Own.new f3 3 [.int .i64 (i : Int)]
    have hxs : same 12 x x = true := by obtain ⟨_, _, h, _⟩ := hR; exact AOwn.sameV h
    simp -dsimp -implicitDefEqProofs (maxSteps := 2000000) (disch := first | assumption | omega | (simp only [nx]; omega) | ((repeat refine Fresh.push ?_ _); assumption) | (simp only [smA]; done) | (simp [oneCell, AW.next_push]; done) | fail) only [go_sem, Nat.reduceEqDiff, reduceIte, Nat.reduceAdd, Int.toNat_natCast, Nat.add_zero, Owes_true, Try.results77, e1, e2, e5, e6, hlt, c0, c1, c2, c3, hrl', indexV_eq, a0, Nat.zero_add, hxs, hsaud, hsl]
    apply callV_of (e := rfl)
    · exact Own_ok l _ _ g4.2 (hvA.grown g4) (by omega)
    rintro y w5 ⟨hmk, g5⟩
    have hle5 : WLe _ w5 := g5.1.wle g4.2
    have O5 := O4.keep g5.1
    have hn4 : (w3.push (.cells [.int .i64 (i : Int)] 3 w3.next 0 0)).next = w3.next + 1 := AW.next_push _ _
    obtain ⟨y2, w6, happ, hrow, k6, f6, ap6⟩ := making_more hmk g5.2 g5.1.next (i : Int) O5 (by omega)
    have hle6 : WLe w5 w6 := Go.Proofs.Apnd.wle ap6 g5.2
    have g36 : Grown w3 w6 := ⟨(g4.1.trans (g5.1.mono g4.1.next)).trans (k6.mono g4.1.next), f6⟩
    have hrA : ArrOf w6 1 icells y2 (l ++ [(i : Int)]) := AOwn.arr hrow icells_len (by simp; omega)
    have hll : (l ++ [(i : Int)]).length = l.length + 1 := by simp
    have hrec := ih (l ++ [(i : Int)]) y2 w6 (by rw [hll]; omega) hrA f6 (hkW.trans (g36.1.mono hkW.next))
    rw [hll] at hrec
    have hmap : (allL (A.st.drop (l.length + 1))).map ((l ++ [(i : Int)]) ++ ·) = (allL (A.st.drop (l.length + 1))).map fun t => l ++ (i : Int) :: t := by
      congr 1; funext t; simp
    rw [hmap] at hrec
    simp -dsimp -implicitDefEqProofs (maxSteps := 2000000) (disch := first | assumption | omega | (simp only [nx]; omega) | ((repeat refine Fresh.push ?_ _); assumption) | (simp only [smA]; done) | (simp [oneCell, AW.next_push]; done) | fail) only [go_sem, Nat.reduceEqDiff, reduceIte, Nat.reduceAdd, Int.toNat_natCast, Nat.add_zero, Owes_true, Try.results77, e1, e2, e5, e6, hle5, happ, hle6]
    apply callV_of (e := rfl)
    · exact hrec
    rintro z w7 ⟨g7, hR7⟩
    have hle7 : WLe w6 w7 := g7.1.wle f6
    have g37 := g36.trans g7
    obtain ⟨z2, w8, happ2, hR8, k8, f8, _⟩ := RowsR.app (hR.grown g37) hR7 g7.2 (by have := k3.next; have := g37.1.next; omega) (by rw [List.length_map]; exact allL_ne fun x hx => (okS_in hS x (List.mem_of_mem_drop hx)).1) (by
      rw [preL_len, List.length_map]
      have : i * (allL (A.st.drop (l.length + 1))).length ≤ 8 * 6561 := Nat.mul_le_mul (by omega) hB
      omega)
    rw [← preL_succ] at hR8
    have hz2 : same 12 z2 z2 = true := by obtain ⟨_, _, h, _⟩ := hR8; exact AOwn.sameV h
    simp -dsimp -implicitDefEqProofs (maxSteps := 2000000) (disch := first | assumption | omega | (simp only [nx]; omega) | ((repeat refine Fresh.push ?_ _); assumption) | (simp only [smA]; done) | (simp [oneCell, AW.next_push]; done) | fail) only [go_sem, Nat.reduceEqDiff, reduceIte, Nat.reduceAdd, Int.toNat_natCast, Nat.add_zero, Owes_true, Try.results77, e1, e2, e5, e6, hle7, happ2, hz2]
    refine ⟨_, by omega, i + 1, by omega, rfl, rfl, by (simp -dsimp -implicitDefEqProofs (maxSteps := 2000000) (disch := first | assumption | omega | (simp only [nx]; omega) | ((repeat refine Fresh.push ?_ _); assumption) | (simp only [smA]; done) | (simp [oneCell, AW.next_push]; done) | fail) only [go_sem, Nat.reduceEqDiff, reduceIte, Nat.reduceAdd, Int.toNat_natCast, Nat.add_zero, Owes_true, e1]; try rfl), by (simp -dsimp -implicitDefEqProofs (maxSteps := 2000000) (disch := first | assumption | omega | (simp only [nx]; omega) | ((repeat refine Fresh.push ?_ _); assumption) | (simp only [smA]; done) | (simp [oneCell, AW.next_push]; done) | fail) only [go_sem, Nat.reduceEqDiff, reduceIte, Nat.reduceAdd, Int.toNat_natCast, Nat.add_zero, Owes_true, e2]; try rfl), by (simp -dsimp -implicitDefEqProofs (maxSteps := 2000000) (disch := first | assumption | omega | (simp only [nx]; omega) | ((repeat refine Fresh.push ?_ _); assumption) | (simp only [smA]; done) | (simp [oneCell, AW.next_push]; done) | fail) only [go_sem, Nat.reduceEqDiff, reduceIte, Nat.reduceAdd, Int.toNat_natCast, Nat.add_zero, Owes_true, e6]; try rfl), z2, (by simp -dsimp -implicitDefEqProofs (maxSteps := 2000000) (disch := first | assumption | omega | (simp only [nx]; omega) | ((repeat refine Fresh.push ?_ _); assumption) | (simp only [smA]; done) | (simp [oneCell, AW.next_push]; done) | fail) only [go_sem, Nat.reduceEqDiff, reduceIte, Nat.reduceAdd, Int.toNat_natCast, Nat.add_zero, Owes_true]), hR8, k3.trans ((g37.1.mono k3.next).trans k8), f8⟩
end Go.Proofs

namespace Go.Proofs
open Go Go.RowKit Go.Sim
set_option maxRecDepth 100000
theorem sorted_same : ∀ {a b : List (List Int)}, (a.Pairwise fun x y => aheadB x y = true) → (b.Pairwise fun x y => aheadB x y = true) → (∀ t, t ∈ a ↔ t ∈ b) → a = b
  | [], [], _, _, _ => rfl
  | [], y :: b, _, _, h => absurd ((h y).2 List.mem_cons_self) (by simp)
  | x :: a, [], _, _, h => absurd ((h x).1 List.mem_cons_self) (by simp)
  | x :: a, y :: b, ha, hb, h => by
    rw [List.pairwise_cons] at ha hb
    have e : x = y := by
      rcases List.mem_cons.1 ((h x).1 List.mem_cons_self) with q | q
      · exact q
      · rcases List.mem_cons.1 ((h y).2 List.mem_cons_self) with r | r
        · exact r.symm
        · have := aheadB_asymm (hb.1 x q); rw [ha.1 y r] at this; cases this
    subst e
    have : a = b := sorted_same ha.2 hb.2 fun t => ⟨fun ht => by
      rcases List.mem_cons.1 ((h t).1 (List.mem_cons_of_mem _ ht)) with q | q
      · subst q; have := ha.1 _ ht; rw [aheadB_refl] at this; cases this
      · exact q, fun ht => by
      rcases List.mem_cons.1 ((h t).2 (List.mem_cons_of_mem _ ht)) with q | q
      · subst q; have := hb.1 _ ht; rw [aheadB_refl] at this; cases this
      · exact q⟩
    rw [this]
theorem allL_samples {A : AudN} (h : audB A = true) : allL A.st = samplesL A := allL_is (okS_nn (audB_ok h).1) (Int.le_refl 0) (Int.le_refl _)
def lostB (A : AudN) (t : List Int) : Bool := decide (t.sum = A.lost)
theorem lost_is {A : AudN} (h : audB A = true) : (allL A.st).filter (lostB A) = lossesL A := by
  refine sorted_same ?_ (listsL_pw _ _ _) fun t => ?_
  · rw [allL_samples h]; exact (listsL_pw _ _ _).filter _
  · rw [List.mem_filter, allL_samples h, samples_mem h, losses_mem h]
    unfold lostB
    rw [decide_eq_true_eq]
    exact ⟨fun ⟨⟨x, y⟩, z⟩ => ⟨x, y, z⟩, fun ⟨x, y, z⟩ => ⟨⟨x, y⟩, z⟩⟩
theorem fit_small {S t : List Int} (hS : okS S) (hl : t.length = S.length) (ht : FitS S t) : smallL t := ⟨fun x hx => by
  obtain ⟨i, hi, rfl⟩ := List.getElem_of_mem hx
  have h1 := ht i (by omega)
  have h2 := hS.2.2 i (by omega)
  rw [W_at hi] at h1; omega, by have := hS.2.1; omega⟩
set_option maxHeartbeats 32000000 in
theorem lossesR_ok {A : AudN} (h : audB A = true) (p q : Option Addr) (a c : Nat) (w : AW) (f : Fresh w) (hs : ArrOf w 1 icells (.slice p A.st.length a) A.st) :
    CallT Try.prog Try.T1 (.fn (.func 72) #[]) #[.agg (audC p q a c A).toArray] w (fun r w' => Grown w w' ∧ NumRows w' r (lossesL A)) := by
  obtain ⟨hS, _⟩ := audB_ok h
  have g1 := (Grown.refl f).push (.cells (audC p q a c A) 24 w.next 0 0)
  have O1 := Own.new f 24 (audC p q a c A)
  have hsa := same_audV p q a c A
  have c0 := O1.cell (o := 0) rfl rfl
  have c1 := O1.cell (o := 1) rfl rfl
  have c2 := O1.cell (o := 2) rfl rfl
  have c3 := O1.cell (o := 3) rfl rfl
  have hall := listsR_ok hS (p := p) (q := q) (a := a) (c := c) (hs.grown g1) A.st.length [] (.slice none 0 0) _ (by simp) (ArrOf.nil _ _ _) g1.2 (.refl _ _)
  rw [show (allL (A.st.drop ([] : List Int).length)).map (([] : List Int) ++ ·) = allL A.st from by simp] at hall
  have hB : (allL A.st).length ≤ 6561 := by have := allL_b hS 0; simpa using this
  refine callT_code rfl Try.func72 rfl Try.s72_eq rfl ?_
  unfold Try.s72
  unfold audC at *
  simp -dsimp -implicitDefEqProofs (maxSteps := 2000000) (disch := first | assumption | omega | (simp only [nx]; omega) | ((repeat refine Fresh.push ?_ _); assumption) | (simp only [smA]; done) | (simp [oneCell, AW.next_push]; done) | fail) only [go_sem, Nat.reduceEqDiff, reduceIte, Nat.reduceAdd, Int.toNat_natCast, Nat.add_zero, Owes_true, Try.results72, c0, c1, c2, c3, Nat.zero_add]
  generalize w.push (.cells [.slice p A.st.length a, .slice q A.co.length c, .int .i64 A.lost, .int .i64 A.sure] 24 w.next 0 0) = w1 at *
  apply callV_of (e := rfl)
  · exact hall
  rintro z w2 ⟨g2, hz⟩
  have hle2 : WLe w1 w2 := g2.1.wle g1.2
  have O2 := O1.keep g2.1
  obtain ⟨pz, cz, rfl, _, _, hat⟩ := hz.open
  simp -dsimp -implicitDefEqProofs (maxSteps := 2000000) (disch := first | assumption | omega | (simp only [nx]; omega) | ((repeat refine Fresh.push ?_ _); assumption) | (simp only [smA]; done) | (simp [oneCell, AW.next_push]; done) | fail) only [go_sem, Nat.reduceEqDiff, reduceIte, Nat.reduceAdd, Int.toNat_natCast, Nat.add_zero, Owes_true, Try.results72, hle2]
  refine loopR (fun k t ds w3 => ∃ i : Nat, i ≤ (allL A.st).length ∧ k = (allL A.st).length - i ∧ ds = [] ∧ ev t (.tmp 1) = .pointer (some ⟨w.next, 0, none⟩) ∧ ev t (.tmp 3) = .slice pz (allL A.st).length cz ∧ ev t (.tmp 5) = .int .i64 (i : Int) ∧ ∃ x : Value, ev t (.tmp 4) = x ∧ RowsR w2.next w3 x (((allL A.st).take i).filter (lostB A)) ∧ Keep w2.next w2 w3 ∧ Fresh w3) ((allL A.st).length) ?_ ?_
  · refine ⟨0, by omega, by omega, rfl, ?_, ?_, ?_, .slice none 0 0, by simp -dsimp -implicitDefEqProofs (maxSteps := 2000000) (disch := first | assumption | omega | (simp only [nx]; omega) | ((repeat refine Fresh.push ?_ _); assumption) | (simp only [smA]; done) | (simp [oneCell, AW.next_push]; done) | fail) only [go_sem, Nat.reduceEqDiff, reduceIte, Nat.reduceAdd, Int.toNat_natCast, Nat.add_zero, Owes_true, hle2], RowsR.nil _ _, .refl _ _, g2.2⟩ <;> simp -dsimp -implicitDefEqProofs (maxSteps := 2000000) (disch := first | assumption | omega | (simp only [nx]; omega) | ((repeat refine Fresh.push ?_ _); assumption) | (simp only [smA]; done) | (simp [oneCell, AW.next_push]; done) | fail) only [go_sem, Nat.reduceEqDiff, reduceIte, Nat.reduceAdd, Int.toNat_natCast, Nat.add_zero, Owes_true] <;> rfl
  rintro k t ds w3 ⟨i, hii, rfl, rfl, e1, e3, e5, x, e4, hR, k3, f3⟩
  by_cases hlt : (i : Int) < ((allL A.st).length : Int)
  case neg =>
    obtain rfl : i = (allL A.st).length := by omega
    simp -dsimp -implicitDefEqProofs (maxSteps := 2000000) (disch := first | assumption | omega | (simp only [nx]; omega) | ((repeat refine Fresh.push ?_ _); assumption) | (simp only [smA]; done) | (simp [oneCell, AW.next_push]; done) | fail) only [go_sem, Nat.reduceEqDiff, reduceIte, Nat.reduceAdd, Int.toNat_natCast, Nat.add_zero, Owes_true, Try.results72, e1, e3, e4, e5, hlt]
    rw [List.take_length, lost_is h] at hR
    exact ⟨⟨(g1.1.trans (g2.1.mono g1.1.next)).trans (k3.mono (g1.trans g2).1.next), f3⟩, hR.num (by
      rw [← lost_is h]; exact Nat.le_trans (List.length_filter_le _ _) (by omega))⟩
  have hlt' : i < (allL A.st).length := by omega
  obtain ⟨b1, o1, v, rfl, hb1, hrow, hcell⟩ := hat i hlt'
  have a0 := hcell w3 k3
  have hti : (allL A.st)[i] ∈ samplesL A := by rw [← allL_samples h]; exact List.getElem_mem hlt'
  obtain ⟨tl, tf⟩ := (samples_mem h _).1 hti
  have hsm := fit_small hS tl tf
  have hrow3 := hrow.kept k3
  have hsum := Sum_ok _ _ w3 hrow3
  have O3 := O2.keep k3
  have d2 := O3.cell (o := 2) rfl rfl
  have hnext : ((allL A.st).take (i + 1)).filter (lostB A) = ((allL A.st).take i).filter (lostB A) ++ [(allL A.st)[i]].filter (lostB A) := by
    rw [List.take_add_one, List.getElem?_eq_getElem hlt', List.filter_append]; rfl
  generalize (allL A.st)[i] = T at *
  obtain ⟨pv, cv, rfl, _⟩ := hrow.open
  have hsv : same 12 (.slice pv T.length cv) (.slice pv T.length cv) = true := same_s12 _ _ _
  simp -dsimp -implicitDefEqProofs (maxSteps := 2000000) (disch := first | assumption | omega | (simp only [nx]; omega) | ((repeat refine Fresh.push ?_ _); assumption) | (simp only [smA]; done) | (simp [oneCell, AW.next_push]; done) | fail) only [go_sem, Nat.reduceEqDiff, reduceIte, Nat.reduceAdd, Int.toNat_natCast, Nat.add_zero, Owes_true, Try.results72, e1, e3, e4, e5, hlt, indexV_eq, a0, d2, Nat.zero_add]
  apply callV_of (e := rfl)
  · exact hsum
  rintro _ _ ⟨rfl, n, rfl, hn⟩
  rw [hn hsm]
  have hxs : same 12 x x = true := by obtain ⟨_, _, hh, _⟩ := hR; exact AOwn.sameV hh
  have hle3 : WLe w3 w3 := (Grown.refl f3).1.wle f3
  cases hd : decide (T.sum = A.lost) with
  | false =>
    simp -dsimp -implicitDefEqProofs (maxSteps := 2000000) (disch := first | assumption | omega | (simp only [nx]; omega) | ((repeat refine Fresh.push ?_ _); assumption) | (simp only [smA]; done) | (simp [oneCell, AW.next_push]; done) | fail) only [go_sem, Nat.reduceEqDiff, reduceIte, Nat.reduceAdd, Int.toNat_natCast, Nat.add_zero, Owes_true, Try.results72, e1, e3, e4, e5, hd, hle3, d2]
    have : [T].filter (lostB A) = [] := by simp [lostB, hd]
    rw [this, List.append_nil] at hnext
    refine ⟨_, by omega, i + 1, by omega, rfl, rfl, by (simp -dsimp -implicitDefEqProofs (maxSteps := 2000000) (disch := first | assumption | omega | (simp only [nx]; omega) | ((repeat refine Fresh.push ?_ _); assumption) | (simp only [smA]; done) | (simp [oneCell, AW.next_push]; done) | fail) only [go_sem, Nat.reduceEqDiff, reduceIte, Nat.reduceAdd, Int.toNat_natCast, Nat.add_zero, Owes_true, e1]; try rfl), by (simp -dsimp -implicitDefEqProofs (maxSteps := 2000000) (disch := first | assumption | omega | (simp only [nx]; omega) | ((repeat refine Fresh.push ?_ _); assumption) | (simp only [smA]; done) | (simp [oneCell, AW.next_push]; done) | fail) only [go_sem, Nat.reduceEqDiff, reduceIte, Nat.reduceAdd, Int.toNat_natCast, Nat.add_zero, Owes_true, e3]; try rfl), by (simp -dsimp -implicitDefEqProofs (maxSteps := 2000000) (disch := first | assumption | omega | (simp only [nx]; omega) | ((repeat refine Fresh.push ?_ _); assumption) | (simp only [smA]; done) | (simp [oneCell, AW.next_push]; done) | fail) only [go_sem, Nat.reduceEqDiff, reduceIte, Nat.reduceAdd, Int.toNat_natCast, Nat.add_zero, Owes_true, e5]; try rfl), x, (by simp -dsimp -implicitDefEqProofs (maxSteps := 2000000) (disch := first | assumption | omega | (simp only [nx]; omega) | ((repeat refine Fresh.push ?_ _); assumption) | (simp only [smA]; done) | (simp [oneCell, AW.next_push]; done) | fail) only [go_sem, Nat.reduceEqDiff, reduceIte, Nat.reduceAdd, Int.toNat_natCast, Nat.add_zero, Owes_true, e4]), (by rw [hnext]; exact hR), k3, f3⟩
  | true =>
    have : [T].filter (lostB A) = [T] := by simp [lostB, hd]
    rw [this] at hnext
    have g4 := (Grown.refl f3).push (.cells [.slice pv T.length cv] 22 w3.next 0 0)
    have O4 := Own.new f3 22 [.slice pv T.length cv]
    have hone : NumRows (w3.push (.cells [.slice pv T.length cv] 22 w3.next 0 0)) (.slice (some ⟨w3.next, 0, none⟩) 1 1) [T] := ⟨[.slice pv T.length cv], rfl, arr_one O4 rfl, fun j y L hy hL => by
      cases j with
      | zero => simp at hy hL; subst hy hL; exact hrow3.grown g4
      | succ j => simp at hy⟩
    obtain ⟨z2, w8, happ2, hR8, k8, f8, _⟩ := RowsR.app (hR.grown g4) hone g4.2 (by have := k3.next; have := g4.1.next; omega) (Nat.le_refl 1) (by
      have : (((allL A.st).take i).filter (lostB A)).length ≤ ((allL A.st).take i).length := List.length_filter_le _ _
      rw [List.length_take] at this
      simp only [List.length_singleton]
      omega)
    rw [← hnext] at hR8
    have hz2 : same 12 z2 z2 = true := by obtain ⟨_, _, hh, _⟩ := hR8; exact AOwn.sameV hh
    simp -dsimp -implicitDefEqProofs (maxSteps := 2000000) (disch := first | assumption | omega | (simp only [nx]; omega) | ((repeat refine Fresh.push ?_ _); assumption) | (simp only [smA]; done) | (simp [oneCell, AW.next_push]; done) | fail) only [go_sem, Nat.reduceEqDiff, reduceIte, Nat.reduceAdd, Int.toNat_natCast, Nat.add_zero, Owes_true, Try.results72, e1, e3, e4, e5, hd, hle3, d2, indexV_eq, a0, hlt, happ2]
    refine ⟨_, by omega, i + 1, by omega, rfl, rfl, by (simp -dsimp -implicitDefEqProofs (maxSteps := 2000000) (disch := first | assumption | omega | (simp only [nx]; omega) | ((repeat refine Fresh.push ?_ _); assumption) | (simp only [smA]; done) | (simp [oneCell, AW.next_push]; done) | fail) only [go_sem, Nat.reduceEqDiff, reduceIte, Nat.reduceAdd, Int.toNat_natCast, Nat.add_zero, Owes_true, e1]; try rfl), by (simp -dsimp -implicitDefEqProofs (maxSteps := 2000000) (disch := first | assumption | omega | (simp only [nx]; omega) | ((repeat refine Fresh.push ?_ _); assumption) | (simp only [smA]; done) | (simp [oneCell, AW.next_push]; done) | fail) only [go_sem, Nat.reduceEqDiff, reduceIte, Nat.reduceAdd, Int.toNat_natCast, Nat.add_zero, Owes_true, e3]; try rfl), by (simp -dsimp -implicitDefEqProofs (maxSteps := 2000000) (disch := first | assumption | omega | (simp only [nx]; omega) | ((repeat refine Fresh.push ?_ _); assumption) | (simp only [smA]; done) | (simp [oneCell, AW.next_push]; done) | fail) only [go_sem, Nat.reduceEqDiff, reduceIte, Nat.reduceAdd, Int.toNat_natCast, Nat.add_zero, Owes_true, e5]; try rfl), z2, (by simp -dsimp -implicitDefEqProofs (maxSteps := 2000000) (disch := first | assumption | omega | (simp only [nx]; omega) | ((repeat refine Fresh.push ?_ _); assumption) | (simp only [smA]; done) | (simp [oneCell, AW.next_push]; done) | fail) only [go_sem, Nat.reduceEqDiff, reduceIte, Nat.reduceAdd, Int.toNat_natCast, Nat.add_zero, Owes_true]), hR8, k3.trans ((g4.1.mono k3.next).trans k8), f8⟩
end Go.Proofs

namespace Go.Proofs
open Go Go.RowKit Go.Sim
set_option maxRecDepth 100000
theorem missI_bS {S P L : List Int} (hS : okS S) (hP : FitS S P) (hL : FitS S L) : missI S P L ≤ 24010000 := missTo_b hS hP hL (Nat.le_refl _)
def headW (S P : List Int) (LL : List (List Int)) (i : Nat) : List Int := (worstF S P (LL.take (max i 1))).2
theorem headW_in {S P : List Int} {LL : List (List Int)} (h1 : 1 ≤ LL.length) (i : Nat) : headW S P LL i ∈ LL ∧ (worstF S P (LL.take (max i 1))).1 = (missI S P (headW S P LL i) : Int) := by
  have hne : LL.take (max i 1) ≠ [] := by
    intro e
    have := congrArg List.length e
    simp only [List.length_take, List.length_nil] at this
    omega
  obtain ⟨_, h2, _⟩ := worstF_is S P (LL.take (max i 1))
  exact ⟨List.mem_of_mem_take (h2 hne).1, (h2 hne).2⟩
theorem headW_zero {S P : List Int} {LL : List (List Int)} (h1 : 1 ≤ LL.length) : headW S P LL 0 = LL[0] := by
  cases LL with
  | nil => simp at h1
  | cons t LL =>
    show (worstF S P [t]).2 = t
    have : (-1 : Int) < (missI S P t : Int) := by omega
    simp [worstF, stepW, this]
theorem headW_one {S P : List Int} {LL : List (List Int)} : headW S P LL 1 = headW S P LL 0 := rfl
theorem headW_succ {S P : List Int} {LL : List (List Int)} (h1 : 1 ≤ LL.length) {i : Nat} (hi : i < LL.length) : headW S P LL (i + 1) = if (missI S P (headW S P LL i) : Int) < (missI S P LL[i] : Int) then LL[i] else headW S P LL i := by
  rcases Nat.eq_zero_or_pos i with q | q
  · subst q
    rw [headW_one, headW_zero h1, if_neg (by omega)]
  · have e1 : max (i + 1) 1 = i + 1 := by omega
    have e2 : max i 1 = i := by omega
    have hx := (headW_in (S := S) (P := P) h1 i).2
    unfold headW at *
    rw [e1, List.take_add_one, List.getElem?_eq_getElem hi, Option.toList_some, worstF_snoc]
    rw [e2] at *
    unfold stepW
    rw [hx]
    split <;> rfl
set_option maxHeartbeats 32000000 in
theorem worstR_ok {A : AudN} (h : audB A = true) (P : List Int) (hPl : P.length = A.st.length) (hP : FitS A.st P) (LL : List (List Int)) (h1 : 1 ≤ LL.length) (hLL : ∀ t ∈ LL, t.length = A.st.length ∧ FitS A.st t) (p q : Option Addr) (a c : Nat) (v z : Value) (w : AW) (f : Fresh w) (hs : ArrOf w 1 icells (.slice p A.st.length a) A.st) (hv : ArrOf w 1 icells v P) (hz : NumRows w z LL) :
    CallT Try.prog Try.T1 (.fn (.func 71) #[]) #[.agg (audC p q a c A).toArray, v, z] w (fun r w' => Grown w w' ∧ ArrOf w' 1 icells r (worstF A.st P LL).2) := by
  obtain ⟨hS, _⟩ := audB_ok h
  have g1 := (Grown.refl f).push (.cells (audC p q a c A) 24 w.next 0 0)
  have O1 := Own.new f 24 (audC p q a c A)
  have hsa := same_audV p q a c A
  have c0 := O1.cell (o := 0) rfl rfl
  have c1 := O1.cell (o := 1) rfl rfl
  have c2 := O1.cell (o := 2) rfl rfl
  have c3 := O1.cell (o := 3) rfl rfl
  obtain ⟨pv, cv, rfl, _⟩ := id hv.open
  obtain ⟨pz, cz, rfl, _, _, hat⟩ := hz.open
  have hsv : same 12 (.slice pv P.length cv) (.slice pv P.length cv) = true := same_s12 _ _ _
  obtain ⟨b0, o0, v0, rfl, _, hrow0, hcell0⟩ := hat 0 h1
  have a00 : w.cell? ⟨b0, o0 + Int.toNat 0 * 1, none⟩ = some v0 := hcell0 w (.refl _ _)
  have hlt0 : (0 : Int) < (LL.length : Int) := by omega
  refine callT_code rfl Try.func71 rfl Try.s71_eq rfl ?_
  unfold Try.s71
  unfold audC at *
  simp -dsimp -implicitDefEqProofs (maxSteps := 2000000) (disch := first | assumption | omega | (simp only [nx]; omega) | ((repeat refine Fresh.push ?_ _); assumption) | (simp only [smA]; done) | (simp [oneCell, AW.next_push]; done) | fail) only [go_sem, Nat.reduceEqDiff, reduceIte, Nat.reduceAdd, Int.toNat_natCast, Nat.add_zero, Owes_true, Try.results71, c0, c1, c2, c3, Nat.zero_add, indexV_eq, hlt0, a00]
  generalize w.push (.cells [.slice p A.st.length a, .slice q A.co.length c, .int .i64 A.lost, .int .i64 A.sure] 24 w.next 0 0) = w1 at *
  refine loopR (fun k t ds w3 => ∃ i : Nat, i ≤ LL.length ∧ k = LL.length - i ∧ ds = [] ∧ ev t (.tmp 1) = .slice pv P.length cv ∧ ev t (.tmp 2) = .slice (some ⟨b0, o0, none⟩) LL.length cz ∧ ev t (.tmp 3) = .pointer (some ⟨w.next, 0, none⟩) ∧ ev t (.tmp 8) = .int .i64 (i : Int) ∧ ∃ x : Value, ev t (.tmp 7) = x ∧ ArrOf w3 1 icells x (headW A.st P LL i) ∧ Keep w1.next w1 w3 ∧ Fresh w3) (LL.length) ?_ ?_
  · refine ⟨0, by omega, by omega, rfl, ?_, ?_, ?_, ?_, v0, by simp -dsimp -implicitDefEqProofs (maxSteps := 2000000) (disch := first | assumption | omega | (simp only [nx]; omega) | ((repeat refine Fresh.push ?_ _); assumption) | (simp only [smA]; done) | (simp [oneCell, AW.next_push]; done) | fail) only [go_sem, Nat.reduceEqDiff, reduceIte, Nat.reduceAdd, Int.toNat_natCast, Nat.add_zero, Owes_true], by rw [headW_zero h1]; exact hrow0.grown g1, .refl _ _, g1.2⟩ <;> simp -dsimp -implicitDefEqProofs (maxSteps := 2000000) (disch := first | assumption | omega | (simp only [nx]; omega) | ((repeat refine Fresh.push ?_ _); assumption) | (simp only [smA]; done) | (simp [oneCell, AW.next_push]; done) | fail) only [go_sem, Nat.reduceEqDiff, reduceIte, Nat.reduceAdd, Int.toNat_natCast, Nat.add_zero, Owes_true] <;> rfl
  rintro k t ds w3 ⟨i, hii, rfl, rfl, e1, e2, e3, e8, x, e7, hR, k3, f3⟩
  by_cases hlt : (i : Int) < (LL.length : Int)
  case neg =>
    obtain rfl : i = LL.length := by omega
    simp -dsimp -implicitDefEqProofs (maxSteps := 2000000) (disch := first | assumption | omega | (simp only [nx]; omega) | ((repeat refine Fresh.push ?_ _); assumption) | (simp only [smA]; done) | (simp [oneCell, AW.next_push]; done) | fail) only [go_sem, Nat.reduceEqDiff, reduceIte, Nat.reduceAdd, Int.toNat_natCast, Nat.add_zero, Owes_true, Try.results71, e1, e2, e3, e7, e8, hlt]
    unfold headW at hR
    rw [show max LL.length 1 = LL.length from by omega, List.take_length] at hR
    exact ⟨⟨g1.1.trans (k3.mono g1.1.next), f3⟩, hR⟩
  have hlt' : i < LL.length := by omega
  obtain ⟨b1, o1, u, epd, hb1, hrow, hcell⟩ := hat i hlt'
  injection epd with epd
  injection epd with epd1 epd2
  subst epd1 epd2
  have gW : Grown w w3 := ⟨g1.1.trans (k3.mono g1.1.next), f3⟩
  have a0 := hcell w3 gW.1
  obtain ⟨tl, tf⟩ := hLL _ (List.getElem_mem hlt')
  obtain ⟨hl, hf⟩ := hLL _ (headW_in (S := A.st) (P := P) h1 i).1
  have hrow3 := hrow.grown gW
  have O3 := O1.keep k3
  have d0 := O3.cell (o := 0) rfl rfl
  have d1 := O3.cell (o := 1) rfl rfl
  have d2 := O3.cell (o := 2) rfl rfl
  have d3 := O3.cell (o := 3) rfl rfl
  have hnx := headW_succ (S := A.st) (P := P) h1 hlt'
  have hb1 := missI_bS hS hP tf
  have hb2 := missI_bS hS hP hf
  generalize LL[i] = T at *
  obtain ⟨pu, cu, rfl, _⟩ := id hrow.open
  obtain ⟨px, cx, rfl, _⟩ := id hR.open
  have hsu : same 12 (.slice pu T.length cu) (.slice pu T.length cu) = true := same_s12 _ _ _
  have hsx : same 12 (.slice px (headW A.st P LL i).length cx) (.slice px (headW A.st P LL i).length cx) = true := same_s12 _ _ _
  have hm1 := missR_ok h P T hPl tl hP tf p q a c _ _ w3 f3 (hs.grown gW) (hv.grown gW) hrow3
  unfold audC at hm1
  simp -dsimp -implicitDefEqProofs (maxSteps := 2000000) (disch := first | assumption | omega | (simp only [nx]; omega) | ((repeat refine Fresh.push ?_ _); assumption) | (simp only [smA]; done) | (simp [oneCell, AW.next_push]; done) | fail) only [go_sem, Nat.reduceEqDiff, reduceIte, Nat.reduceAdd, Int.toNat_natCast, Nat.add_zero, Owes_true, Try.results71, e1, e2, e3, e7, e8, hlt, indexV_eq, a0, d0, d1, d2, d3, Nat.zero_add]
  apply callV_of (e := rfl)
  · exact hm1
  rintro _ w4 ⟨rfl, g4⟩
  have gW4 := gW.trans g4
  have hle4 : WLe w3 w4 := g4.1.wle f3
  have hm2 := missR_ok h P (headW A.st P LL i) hPl hl hP hf p q a c _ _ w4 g4.2 (hs.grown gW4) (hv.grown gW4) (hR.grown g4)
  unfold audC at hm2
  simp -dsimp -implicitDefEqProofs (maxSteps := 2000000) (disch := first | assumption | omega | (simp only [nx]; omega) | ((repeat refine Fresh.push ?_ _); assumption) | (simp only [smA]; done) | (simp [oneCell, AW.next_push]; done) | fail) only [go_sem, Nat.reduceEqDiff, reduceIte, Nat.reduceAdd, Int.toNat_natCast, Nat.add_zero, Owes_true, Try.results71, hle4]
  apply callV_of (e := rfl)
  · exact hm2
  rintro _ w5 ⟨rfl, g5⟩
  have hle5 : WLe w4 w5 := g5.1.wle g4.2
  have g35 := g4.trans g5
  have a05 := hcell w5 (gW.trans g35).1
  have k5 : Keep w1.next w1 w5 := k3.trans (g35.1.mono k3.next)
  by_cases hgt : (missI A.st P T : Int) > (missI A.st P (headW A.st P LL i) : Int)
  · rw [if_pos hgt] at hnx
    simp -dsimp -implicitDefEqProofs (maxSteps := 2000000) (disch := first | assumption | omega | (simp only [nx]; omega) | ((repeat refine Fresh.push ?_ _); assumption) | (simp only [smA]; done) | (simp [oneCell, AW.next_push]; done) | fail) only [go_sem, Nat.reduceEqDiff, reduceIte, Nat.reduceAdd, Int.toNat_natCast, Nat.add_zero, Owes_true, Try.results71, e1, e2, e3, e7, e8, hlt, indexV_eq, a05, hle5, hgt]
    refine ⟨_, by omega, i + 1, by omega, rfl, rfl, by (simp -dsimp -implicitDefEqProofs (maxSteps := 2000000) (disch := first | assumption | omega | (simp only [nx]; omega) | ((repeat refine Fresh.push ?_ _); assumption) | (simp only [smA]; done) | (simp [oneCell, AW.next_push]; done) | fail) only [go_sem, Nat.reduceEqDiff, reduceIte, Nat.reduceAdd, Int.toNat_natCast, Nat.add_zero, Owes_true, e1]; try rfl), by (simp -dsimp -implicitDefEqProofs (maxSteps := 2000000) (disch := first | assumption | omega | (simp only [nx]; omega) | ((repeat refine Fresh.push ?_ _); assumption) | (simp only [smA]; done) | (simp [oneCell, AW.next_push]; done) | fail) only [go_sem, Nat.reduceEqDiff, reduceIte, Nat.reduceAdd, Int.toNat_natCast, Nat.add_zero, Owes_true, e2]; try rfl), by (simp -dsimp -implicitDefEqProofs (maxSteps := 2000000) (disch := first | assumption | omega | (simp only [nx]; omega) | ((repeat refine Fresh.push ?_ _); assumption) | (simp only [smA]; done) | (simp [oneCell, AW.next_push]; done) | fail) only [go_sem, Nat.reduceEqDiff, reduceIte, Nat.reduceAdd, Int.toNat_natCast, Nat.add_zero, Owes_true, e3]; try rfl), by (simp -dsimp -implicitDefEqProofs (maxSteps := 2000000) (disch := first | assumption | omega | (simp only [nx]; omega) | ((repeat refine Fresh.push ?_ _); assumption) | (simp only [smA]; done) | (simp [oneCell, AW.next_push]; done) | fail) only [go_sem, Nat.reduceEqDiff, reduceIte, Nat.reduceAdd, Int.toNat_natCast, Nat.add_zero, Owes_true, e8]; try rfl), .slice pu T.length cu, (by simp -dsimp -implicitDefEqProofs (maxSteps := 2000000) (disch := first | assumption | omega | (simp only [nx]; omega) | ((repeat refine Fresh.push ?_ _); assumption) | (simp only [smA]; done) | (simp [oneCell, AW.next_push]; done) | fail) only [go_sem, Nat.reduceEqDiff, reduceIte, Nat.reduceAdd, Int.toNat_natCast, Nat.add_zero, Owes_true]), (by rw [hnx]; exact hrow3.grown g35), k5, g5.2⟩
  · rw [if_neg hgt] at hnx
    simp -dsimp -implicitDefEqProofs (maxSteps := 2000000) (disch := first | assumption | omega | (simp only [nx]; omega) | ((repeat refine Fresh.push ?_ _); assumption) | (simp only [smA]; done) | (simp [oneCell, AW.next_push]; done) | fail) only [go_sem, Nat.reduceEqDiff, reduceIte, Nat.reduceAdd, Int.toNat_natCast, Nat.add_zero, Owes_true, Try.results71, e1, e2, e3, e7, e8, hlt, hle5, hgt]
    refine ⟨_, by omega, i + 1, by omega, rfl, rfl, by (simp -dsimp -implicitDefEqProofs (maxSteps := 2000000) (disch := first | assumption | omega | (simp only [nx]; omega) | ((repeat refine Fresh.push ?_ _); assumption) | (simp only [smA]; done) | (simp [oneCell, AW.next_push]; done) | fail) only [go_sem, Nat.reduceEqDiff, reduceIte, Nat.reduceAdd, Int.toNat_natCast, Nat.add_zero, Owes_true, e1]; try rfl), by (simp -dsimp -implicitDefEqProofs (maxSteps := 2000000) (disch := first | assumption | omega | (simp only [nx]; omega) | ((repeat refine Fresh.push ?_ _); assumption) | (simp only [smA]; done) | (simp [oneCell, AW.next_push]; done) | fail) only [go_sem, Nat.reduceEqDiff, reduceIte, Nat.reduceAdd, Int.toNat_natCast, Nat.add_zero, Owes_true, e2]; try rfl), by (simp -dsimp -implicitDefEqProofs (maxSteps := 2000000) (disch := first | assumption | omega | (simp only [nx]; omega) | ((repeat refine Fresh.push ?_ _); assumption) | (simp only [smA]; done) | (simp [oneCell, AW.next_push]; done) | fail) only [go_sem, Nat.reduceEqDiff, reduceIte, Nat.reduceAdd, Int.toNat_natCast, Nat.add_zero, Owes_true, e3]; try rfl), by (simp -dsimp -implicitDefEqProofs (maxSteps := 2000000) (disch := first | assumption | omega | (simp only [nx]; omega) | ((repeat refine Fresh.push ?_ _); assumption) | (simp only [smA]; done) | (simp [oneCell, AW.next_push]; done) | fail) only [go_sem, Nat.reduceEqDiff, reduceIte, Nat.reduceAdd, Int.toNat_natCast, Nat.add_zero, Owes_true, e8]; try rfl), .slice px (headW A.st P LL i).length cx, (by simp -dsimp -implicitDefEqProofs (maxSteps := 2000000) (disch := first | assumption | omega | (simp only [nx]; omega) | ((repeat refine Fresh.push ?_ _); assumption) | (simp only [smA]; done) | (simp [oneCell, AW.next_push]; done) | fail) only [go_sem, Nat.reduceEqDiff, reduceIte, Nat.reduceAdd, Int.toNat_natCast, Nat.add_zero, Owes_true, e7]), (by rw [hnx]; exact hR.grown g35), k5, g5.2⟩
end Go.Proofs

namespace Go.Proofs
open Go Go.RowKit Go.Sim
set_option maxRecDepth 100000
theorem losses_pos {A : AudN} (h : audB A = true) : 1 ≤ (lossesL A).length := by
  have := losses_ne h
  cases q : lossesL A with
  | nil => exact absurd q this
  | cons x l => simp
theorem losses_fit {A : AudN} (h : audB A = true) : ∀ t ∈ lossesL A, t.length = A.st.length ∧ FitS A.st t := fun t ht => by
  obtain ⟨x, y, _⟩ := (losses_mem h t).1 ht
  exact ⟨x, y⟩
set_option maxHeartbeats 32000000 in
theorem findsR_ok {A : AudN} (h : audB A = true) (P : List Int) (hPl : P.length = A.st.length) (hPf : FitS A.st P) (p q : Option Addr) (a c : Nat) (v z : Value) (w : AW) (f : Fresh w) (hs : ArrOf w 1 icells (.slice p A.st.length a) A.st) (hv : ArrOf w 1 icells v P) (hz : NumRows w z (lossesL A)) :
    CallT Try.prog Try.T1 (.fn (.func 74) #[]) #[.agg (audC p q a c A).toArray, v, z] w (Ret (.bool (findsB A P)) (Grown w)) := by
  obtain ⟨hS, hco, _, _, _, hu1, hu2⟩ := audB_ok h
  obtain ⟨pv, cv, rfl, _⟩ := id hv.open
  obtain ⟨pz, cz, rfl, _⟩ := hz.open
  have g1 := (Grown.refl f).push (.cells (audC p q a c A) 24 w.next 0 0)
  have O1 := Own.new f 24 (audC p q a c A)
  have c0 := O1.cell (o := 0) rfl rfl
  have c1 := O1.cell (o := 1) rfl rfl
  have c2 := O1.cell (o := 2) rfl rfl
  have c3 := O1.cell (o := 3) rfl rfl
  have hsa := same_audV p q a c A
  have hsv : same 12 (.slice pv P.length cv) (.slice pv P.length cv) = true := same_s12 _ _ _
  have hsz : same 12 (.slice pz (lossesL A).length cz) (.slice pz (lossesL A).length cz) = true := same_s12 _ _ _
  have h32 : P.length ≤ 1048576 := by have := hS.2.1; omega
  have hm22 := ms22 P.length h32
  have hf1 : Fresh (w.push (.cells (audC p q a c A) 24 w.next 0 0)) := g1.2
  have nx1 : (w.push (.cells (audC p q a c A) 24 w.next 0 0)).next = w.next + 1 := AW.next_push _ _
  refine callT_code rfl Try.func74 rfl Try.s74_eq rfl ?_
  unfold Try.s74
  unfold audC at *
  simp -dsimp -implicitDefEqProofs (maxSteps := 2000000) (disch := first | assumption | omega | (simp only [nx]; omega) | ((repeat refine Fresh.push ?_ _); assumption) | (simp only [smA]; done) | (simp [oneCell, AW.next_push]; done) | fail) only [go_sem, Nat.reduceEqDiff, reduceIte, Nat.reduceAdd, Int.toNat_natCast, Nat.add_zero, Owes_true, Try.results74]
  generalize w.push (.cells [.slice p A.st.length a, .slice q A.co.length c, .int .i64 A.lost, .int .i64 A.sure] 24 w.next 0 0) = w1 at *
  have hzA := arr_zeros g1.2 P.length h32
  have g2 := (Grown.refl g1.2).push (.cells ((zeros P.length).flatMap icells) 3 w1.next 0 0)
  have gg2 := g1.trans g2
  have hw3 := worstR_ok h P hPl hPf (lossesL A) (losses_pos h) (losses_fit h) p q a c _ _ _ g2.2 (hs.grown gg2) (hv.grown gg2) (hz.grown gg2)
  unfold audC at hw3
  simp -dsimp -implicitDefEqProofs (maxSteps := 2000000) (disch := first | assumption | omega | (simp only [nx]; omega) | ((repeat refine Fresh.push ?_ _); assumption) | (simp only [smA]; done) | (simp [oneCell, AW.next_push]; done) | fail) only [go_sem, Nat.reduceEqDiff, reduceIte, Nat.reduceAdd, Int.toNat_natCast, Nat.add_zero, Owes_true, Try.results74, c0, c1, c2, c3, Nat.zero_add, hm22]
  apply callV_of (e := rfl)
  · exact hw3
  rintro y w3 ⟨g3, hy⟩
  have gg3 := gg2.trans g3
  have hle3 : WLe _ w3 := g3.1.wle g2.2
  obtain ⟨hwm, hwe, _⟩ := worstX_is h P
  obtain ⟨hwl, hwf⟩ := losses_fit h _ hwm
  have hww : (worstF A.st P (lossesL A)).2 = (worstX A P).2 := rfl
  rw [hww] at hy
  obtain ⟨py, cy, rfl, _⟩ := id hy.open
  have hsy : same 12 (.slice py (worstX A P).2.length cy) (.slice py (worstX A P).2.length cy) = true := same_s12 _ _ _
  have hfb : findsB A P = decide (1000 * (worstX A P).1 ≤ (allI A.st P : Int) * (1000 - A.sure)) := rfl
  rw [hfb, hwe]
  have hb1 := missI_bS hS hPf hwf
  have hb2 : allI A.st P ≤ 24010000 := missTo_b hS hPf (fit_nil hS) (i := A.st.length) (Nat.le_refl _)
  have hm1 := missR_ok h P (worstX A P).2 hPl hwl hPf hwf p q a c _ _ w3 g3.2 (hs.grown gg3) (hv.grown gg3) hy
  have hall : missI A.st P (zeros P.length) = allI A.st P := miss_zeros _ _ _
  have hm2 := fun w' (g' : Grown w3 w') => missR_ok h P (zeros P.length) hPl (by simp [zeros]; exact hPl) hPf (zeros_fit hS _) p q a c _ _ w' g'.2 (hs.grown (gg3.trans g')) (hv.grown (gg3.trans g')) (hzA.grown (g3.trans g'))
  rw [hall] at hm2
  generalize missI A.st P (worstX A P).2 = N at *
  generalize allI A.st P = M at *
  have m1 : (0 : Int) ≤ (M : Int) * (1000 - A.sure) := Int.mul_nonneg (by omega) (by omega)
  have m2 : (M : Int) * (1000 - A.sure) ≤ 24010000 * 1000 := Int.mul_le_mul (by omega) (by omega) (by omega) (by omega)
  unfold audC at hm1 hm2
  simp -dsimp -implicitDefEqProofs (maxSteps := 2000000) (disch := first | assumption | omega | (simp only [nx]; omega) | ((repeat refine Fresh.push ?_ _); assumption) | (simp only [smA]; done) | (simp [oneCell, AW.next_push]; done) | fail) only [go_sem, Nat.reduceEqDiff, reduceIte, Nat.reduceAdd, Int.toNat_natCast, Nat.add_zero, Owes_true, Try.results74, hle3]
  apply callV_of (e := rfl)
  · exact hm1
  rintro _ w4 ⟨rfl, g4⟩
  have hle4 : WLe w3 w4 := g4.1.wle g3.2
  simp -dsimp -implicitDefEqProofs (maxSteps := 2000000) (disch := first | assumption | omega | (simp only [nx]; omega) | ((repeat refine Fresh.push ?_ _); assumption) | (simp only [smA]; done) | (simp [oneCell, AW.next_push]; done) | fail) only [go_sem, Nat.reduceEqDiff, reduceIte, Nat.reduceAdd, Int.toNat_natCast, Nat.add_zero, Owes_true, Try.results74, hle4]
  apply callV_of (e := rfl)
  · exact hm2 w4 g4
  rintro _ w5 ⟨rfl, g5⟩
  have hle5 : WLe w4 w5 := g5.1.wle g4.2
  simp -dsimp -implicitDefEqProofs (maxSteps := 2000000) (disch := first | assumption | omega | (simp only [nx]; omega) | ((repeat refine Fresh.push ?_ _); assumption) | (simp only [smA]; done) | (simp [oneCell, AW.next_push]; done) | fail) only [go_sem, Nat.reduceEqDiff, reduceIte, Nat.reduceAdd, Int.toNat_natCast, Nat.add_zero, Owes_true, Try.results74, hle5]
  exact ⟨rfl, (gg3.trans g4).trans g5⟩
end Go.Proofs

namespace Go.Proofs
open Go Go.RowKit Go.Sim
set_option maxRecDepth 100000
noncomputable abbrev lpL (s : LoopState) (t : Tmps) (dm : Nat) : ALoop := ⟨s, none, 26, t, #[21], codeA Try.f26, codeB Try.f26, dm⟩
abbrev KpL (W4 : AW) (n1 n2 : Nat) (w : AW) : Prop := MutS (fun j => j = n1 ∨ j = n2) W4 w
structure JL (W4 : AW) (A : AudN) (b n1 n2 n6 dm lp bc : Nat) (lv : ALoop) (Q : List (List Int)) (w : AW) : Prop where
  row : ∃ v, Own w n1 22 [v] ∧ AOwnS (fun j => bc < j) w 3 1 v (leastF A Q).2.length ((leastF A Q).2.flatMap icells)
  o2 : Own w n2 3 [.int .i64 (leastF A Q).1]
  o6 : Own w n6 70 [ptr b]
  loop : w.blk lp = some (.loop lv)
  mark : w.blk dm = some (.deferred (some []))
  keep : KpL W4 n1 n2 w
  fresh : Fresh w
  lt : lp < w.next
  len : (leastF A Q).2.length ≤ 4
  bnd : n1 < n2 ∧ n2 < W4.next ∧ W4.next ≤ n6 ∧ n6 < dm ∧ dm < lp ∧ lp < bc
theorem KpL.of {W4 w w' : AW} {n1 n2 : Nat} (h : KpL W4 n1 n2 w) {T : Nat → Prop} (m : MutS T w w') (hT : ∀ j, T j → (j = n1 ∨ j = n2) ∨ W4.next ≤ j) : KpL W4 n1 n2 w' :=
  h.trans m fun j q => hT j q
theorem JL.mut {W4 w w' : AW} {A : AudN} {b n1 n2 n6 dm lp bc : Nat} {lv : ALoop} {Q : List (List Int)} (h : JL W4 A b n1 n2 n6 dm lp bc lv Q w) {T : Nat → Prop} (m : MutS T w w') (hT : ∀ j, T j → j = bc) : JL W4 A b n1 n2 n6 dm lp bc lv Q w' := by
  have hb := h.bnd
  have hl := h.lt
  have no : ∀ j, j ≤ lp → ¬ T j := fun j hj q => by have := hT j q; omega
  obtain ⟨v, r1, r2⟩ := h.row
  exact ⟨⟨v, m.own r1 (no _ (by omega)), r2.other m fun j hj q => by have := hT j q; omega⟩, m.own h.o2 (no _ (by omega)), m.own h.o6 (no _ (by omega)), by rw [m.blk _ hl (no _ (by omega))]; exact h.loop, by rw [m.blk _ (by omega) (no _ (by omega))]; exact h.mark,
    KpL.of h.keep m (fun j q => .inr (by have := hT j q; omega)), m.fresh, by have := m.next; omega, h.len, h.bnd⟩
theorem JL.relp {W4 w : AW} {A : AudN} {b n1 n2 n6 dm lp bc : Nat} {lv : ALoop} {Q : List (List Int)} (h : JL W4 A b n1 n2 n6 dm lp bc lv Q w) (lv2 : ALoop) : JL W4 A b n1 n2 n6 dm lp bc lv2 Q (w.put lp (.loop lv2)) := by
  have hb := h.bnd
  have m := MutS.put (S := fun j => j = lp) h.fresh rfl h.lt (.loop lv2)
  obtain ⟨v, r1, r2⟩ := h.row
  exact ⟨⟨v, m.own r1 (by omega), r2.other m fun j hj q => by omega⟩, m.own h.o2 (by omega), m.own h.o6 (by omega), by rw [AW.blk_put _ _ _ _ (Trie.in_ _) (Trie.in_ _), if_pos rfl], by rw [m.blk _ (by have := h.lt; omega) (by omega)]; exact h.mark,
    KpL.of h.keep m (fun j q => .inr (by omega)), m.fresh, by rw [AW.next_put]; exact h.lt, h.len, h.bnd⟩
theorem RowA.boundB {B : Nat} {w : AW} {v : Value} {L : List Int} (h : RowA B w v L) {bc : Nat} (hb : bc < B) : AOwnS (fun j => bc < j) w 3 1 v L.length (L.flatMap icells) := by
  rcases h with h | ⟨b, r, a1, a2, a3, a4, a5, a6, a7, a9, a8⟩
  · exact .inl h
  · exact .inr ⟨b, r, a1, by omega, a3, by omega, a5, a6, a7, a9, fun j hj => let ⟨c1, c2, c3⟩ := a8 j hj; ⟨by omega, c2, c3⟩⟩
set_option maxHeartbeats 16000000 in
theorem yieldL_ok {W0 W4 : AW} {A : AudN} (h : audB A = true) {b : Nat} {p q : Option Addr} {a c : Nat} (hs : ArrOf W0 1 icells (.slice p A.st.length a) A.st) (hcut : Cutt W0 (.slice p A.st.length a) A.st.length) (hc : ArrOf W0 1 icells (.slice q A.co.length c) A.co) {n1 n2 n6 dm lp bc : Nat}
    (hK : ∀ w, KpL W4 n1 n2 w → Keep W0.next W0 w ∧ SearchAt w b p q a c A) (t : Tmps)
    (e2 : ev t (.tmp 2) = ptr n1) (e3 : ev t (.tmp 3) = ptr n2) (e6 : ev t (.tmp 6) = ptr n6) (Q : List (List Int)) (u : List Int) (w : AW) (hJ : JL W4 A b n1 n2 n6 dm lp bc (lpL .ready t dm) Q w) (hbc : bc < w.next) (hul : u.length = A.st.length) (huf : FitS A.st u) :
    CallT Try.prog Try.T1 (.fn (.yield lp) #[]) #[aV (padI u)] w (fun v w' => v = .bool true ∧ JL W4 A b n1 n2 n6 dm lp bc (lpL .ready t dm) (Q ++ [u]) w' ∧ MutS (fun j => (j = n1 ∨ j = n2) ∨ j = lp) w w') := by
  obtain ⟨hS, _⟩ := audB_ok h
  have hu4 : (padI u).length = 4 := padI_len (by have := hS.2.1; omega)
  obtain ⟨w1, hst, O1, g1, n1'⟩ := put4 hJ.fresh hu4
  have h1 : JL W4 A b n1 n2 n6 dm lp bc (lpL .ready t dm) Q w1 := hJ.mut (T := fun _ => False) (.of g1) fun _ q => q.elim
  refine callT_yield (lp := lpL .ready t dm) hJ.loop rfl ?_
  show CodeT Try.prog Try.T1 { fn := 26, round := some lp } (codeA Try.f26) (putTmp t (some 21) _) [] w _
  refine codeR_codeT (x := .mk) _ ?_
  rw [Try.ra26_eq]
  unfold Try.ra26
  unfold aV
  simp -dsimp -implicitDefEqProofs (maxSteps := 2000000) (disch := first | assumption | omega | (simp only [nx]; omega) | ((repeat refine Fresh.push ?_ _); assumption) | (simp only [smA]; done) | (simp [oneCell, AW.next_push]; done) | fail) only [go_sem, Nat.reduceEqDiff, reduceIte, Nat.reduceAdd, Int.toNat_natCast, Nat.add_zero, Owes_true, hst]
  refine ⟨trivial, _, h1.loop, rfl, ?_⟩
  refine codeR_codeT (x := .mk) _ ?_
  rw [Try.rb26_eq]
  unfold Try.rb26
  have h2 := h1.relp (lpL .busy t dm)
  have m12 := MutS.put (S := fun j => j = lp) h1.fresh rfl h1.lt (.loop (lpL .busy t dm))
  have hlt := hJ.lt
  have hbd := hJ.bnd
  have O2 := m12.own O1 (by omega)
  have nx2 : (w1.put lp (.loop (lpL .busy t dm))).next = w.next + 1 := by rw [AW.next_put]; exact n1'
  generalize w1.put lp (.loop (lpL .busy t dm)) = w2 at *
  have d6 := h2.o6.cell (o := 0) rfl rfl
  have lu := loadAll O2 (n := 4) (by rw [icells_flat_len, hu4]) (icells_ones _)
  obtain ⟨k2, s2⟩ := hK w2 h2.keep
  have hco := cost_ok h (padI u) hu4 (fit_pad huf) b p q a c w2 h2.fresh s2 (hc.kept k2)
  have hcp : costI A.co (padI u) = costI A.co u := costTo_pad _ _ _
  rw [hcp] at hco
  unfold aV at hco
  simp -dsimp -implicitDefEqProofs (maxSteps := 2000000) (disch := first | assumption | omega | (simp only [nx]; omega) | ((repeat refine Fresh.push ?_ _); assumption) | (simp only [smA]; done) | (simp [oneCell, AW.next_push]; done) | fail) only [go_sem, Nat.reduceEqDiff, reduceIte, Nat.reduceAdd, Int.toNat_natCast, Nat.add_zero, Owes_true, e2, e3, e6, d6, lu, Nat.zero_add]
  apply callV_of (e := rfl)
  · exact hco
  rintro _ w3 ⟨rfl, g3⟩
  have h3 : JL W4 A b n1 n2 n6 dm lp bc (lpL .busy t dm) Q w3 := h2.mut (T := fun _ => False) (.of g3) fun _ q => q.elim
  have O3 := O2.keep g3.1
  have lu3 := loadAll O3 (n := 4) (by rw [icells_flat_len, hu4]) (icells_ones _)
  have d3 := h3.o2.cell (o := 0) rfl rfl
  have d63 := h3.o6.cell (o := 0) rfl rfl
  have hsn := leastF_snoc A Q u
  have m03 : MutS (fun j => (j = n1 ∨ j = n2) ∨ j = lp) w w3 := ((MutS.of g1).trans (m12.mono fun j q => .inr q) (Within.refl _ _)).trans (MutS.of g3) (Within.refl _ _)
  have hlt3 := h3.lt
  have hnx3 := g3.1.next
  obtain ⟨k3, s3⟩ := hK w3 h3.keep
  have hfd := finds_ok h (padI u) hu4 (fit_pad huf) b p q a c w3 h3.fresh s3 (hs.kept k3) (hcut.grown k3)
  rw [findsB_pad] at hfd
  unfold aV at hfd
  have stay : ∀ w', JL W4 A b n1 n2 n6 dm lp bc (lpL .busy t dm) Q w' → MutS (fun j => (j = n1 ∨ j = n2) ∨ j = lp) w w' → leastF A (Q ++ [u]) = leastF A Q →
      JL W4 A b n1 n2 n6 dm lp bc (lpL .ready t dm) (Q ++ [u]) (w'.put lp (.loop (lpL .ready t dm))) ∧ MutS (fun j => (j = n1 ∨ j = n2) ∨ j = lp) w (w'.put lp (.loop (lpL .ready t dm))) := by
    intro w' hh mm e
    have h3' : JL W4 A b n1 n2 n6 dm lp bc (lpL .busy t dm) (Q ++ [u]) w' := ⟨by rw [e]; exact hh.row, by rw [e]; exact hh.o2, hh.o6, hh.loop, hh.mark, hh.keep, hh.fresh, hh.lt, by rw [e]; exact hh.len, hh.bnd⟩
    exact ⟨h3'.relp _, mm.trans ((MutS.put (S := fun j => j = lp) hh.fresh rfl hh.lt _).mono fun j q => .inr q) (Within.refl _ _)⟩
  by_cases hlt2 : costI A.co u < (leastF A Q).1
  case neg =>
    have hst : leastF A (Q ++ [u]) = leastF A Q := by rw [hsn]; unfold stepC; rw [if_neg (fun q => hlt2 q.1)]
    obtain ⟨y1, y2⟩ := stay w3 h3 m03 hst
    simp -dsimp -implicitDefEqProofs (maxSteps := 2000000) (disch := first | assumption | omega | (simp only [nx]; omega) | ((repeat refine Fresh.push ?_ _); assumption) | (simp only [smA]; done) | (simp [oneCell, AW.next_push]; done) | fail) only [go_sem, Nat.reduceEqDiff, reduceIte, Nat.reduceAdd, Int.toNat_natCast, Nat.add_zero, Owes_true, e2, e3, e6, d3, hlt2]
    exact ⟨trivial, trivial, _, h3.loop, trivial, y1, y2⟩
  simp -dsimp -implicitDefEqProofs (maxSteps := 2000000) (disch := first | assumption | omega | (simp only [nx]; omega) | ((repeat refine Fresh.push ?_ _); assumption) | (simp only [smA]; done) | (simp [oneCell, AW.next_push]; done) | fail) only [go_sem, Nat.reduceEqDiff, reduceIte, Nat.reduceAdd, Int.toNat_natCast, Nat.add_zero, Owes_true, e2, e3, e6, d3, d63, hlt2, lu3]
  apply callV_of (e := rfl)
  · exact hfd
  rintro _ w4 ⟨rfl, g4⟩
  have h4 : JL W4 A b n1 n2 n6 dm lp bc (lpL .busy t dm) Q w4 := h3.mut (T := fun _ => False) (.of g4) fun _ q => q.elim
  have m04 := m03.trans (MutS.of g4) (Within.refl _ _)
  cases hF : findsB A u with
  | false =>
    have hst : leastF A (Q ++ [u]) = leastF A Q := by rw [hsn]; unfold stepC; rw [if_neg (fun q => by rw [hF] at q; exact Bool.noConfusion q.2)]
    obtain ⟨y1, y2⟩ := stay w4 h4 m04 hst
    simp -dsimp -implicitDefEqProofs (maxSteps := 2000000) (disch := first | assumption | omega | (simp only [nx]; omega) | ((repeat refine Fresh.push ?_ _); assumption) | (simp only [smA]; done) | (simp [oneCell, AW.next_push]; done) | fail) only [go_sem, Nat.reduceEqDiff, reduceIte, Nat.reduceAdd, Int.toNat_natCast, Nat.add_zero, Owes_true, e2, e3, e6]
    exact ⟨trivial, trivial, _, h4.loop, trivial, y1, y2⟩
  | true =>
  have hst : leastF A (Q ++ [u]) = (costI A.co u, u) := by rw [hsn]; unfold stepC; rw [if_pos ⟨hlt2, hF⟩]
  have O4 := O3.keep g4.1
  have lu4 := loadAll O4 (n := 4) (by rw [icells_flat_len, hu4]) (icells_ones _)
  have d64 := h4.o6.cell (o := 0) rfl rfl
  obtain ⟨k4, s4⟩ := hK w4 h4.keep
  have hli := list_ok hS w4 h4.fresh s4 (padI u) hu4
  unfold aV at hli
  simp -dsimp -implicitDefEqProofs (maxSteps := 2000000) (disch := first | assumption | omega | (simp only [nx]; omega) | ((repeat refine Fresh.push ?_ _); assumption) | (simp only [smA]; done) | (simp [oneCell, AW.next_push]; done) | fail) only [go_sem, Nat.reduceEqDiff, reduceIte, Nat.reduceAdd, Int.toNat_natCast, Nat.add_zero, Owes_true, e2, e3, e6, d64, lu4]
  apply callV_of (e := rfl)
  · exact hli
  rintro v w5 ⟨hR, g5⟩
  have h5 : JL W4 A b n1 n2 n6 dm lp bc (lpL .busy t dm) Q w5 := h4.mut (T := fun _ => False) (.of g5) fun _ q => q.elim
  have m05 := m04.trans (MutS.of g5) (Within.refl _ _)
  have hnx4 := g4.1.next
  have htk : (padI u).take A.st.length = u := by
    unfold padI; rw [List.take_append_of_le_length (by omega), List.take_of_length_le (by omega)]
  rw [htk] at hR
  have hRb := hR.boundB (bc := bc) (by omega)
  have hone := hR.one
  obtain ⟨v0, r1, _⟩ := h5.row
  have st1 := storeV_own1 (o := 0) (v := v) r1 (by simp) hone
  simp only [setL] at st1
  have m1 := MutS.put (S := fun j => j = n1) h5.fresh rfl r1.lt (.cells [v] 22 n1 0 0)
  have r1' := r1.put [v]
  have nn1 : (w5.put n1 (.cells [v] 22 n1 0 0)).next = w5.next := AW.next_put _ _ _
  have hRb' := hRb.other m1 fun j hj q => by omega
  generalize w5.put n1 (.cells [v] 22 n1 0 0) = w6 at *
  have o2' := m1.own h5.o2 (by omega)
  have st2 := storeV_own1 (o := 0) (v := .int .i64 (costI A.co u)) o2' (by simp) rfl
  simp only [setL] at st2
  have m2 := MutS.put (S := fun j => j = n2) m1.fresh rfl o2'.lt (.cells [.int .i64 (costI A.co u)] 3 n2 0 0)
  have o2'' := o2'.put [.int .i64 (costI A.co u)]
  have nn2 : (w6.put n2 (.cells [.int .i64 (costI A.co u)] 3 n2 0 0)).next = w6.next := AW.next_put _ _ _
  have hRb'' := hRb'.other m2 fun j hj q => by omega
  simp -dsimp -implicitDefEqProofs (maxSteps := 2000000) (disch := first | assumption | omega | (simp only [nx]; omega) | ((repeat refine Fresh.push ?_ _); assumption) | (simp only [smA]; done) | (simp [oneCell, AW.next_push]; done) | fail) only [go_sem, Nat.reduceEqDiff, reduceIte, Nat.reduceAdd, Int.toNat_natCast, Nat.add_zero, Owes_true, e2, e3, e6, st1, st2]
  generalize w6.put n2 (.cells [.int .i64 (costI A.co u)] 3 n2 0 0) = w7 at *
  have hlt5 := h5.lt
  have h7 : JL W4 A b n1 n2 n6 dm lp bc (lpL .busy t dm) (Q ++ [u]) w7 :=
    ⟨⟨v, m2.own r1' (by omega), by rw [hst]; exact hRb''⟩, by rw [hst]; exact o2'', m2.own (m1.own h5.o6 (by omega)) (by omega), by rw [m2.blk _ (by omega) (by omega), m1.blk _ (by omega) (by omega)]; exact h5.loop,
      by rw [m2.blk _ (by omega) (by omega), m1.blk _ (by omega) (by omega)]; exact h5.mark, KpL.of (KpL.of h5.keep m1 fun j q => .inl (.inl q)) m2 fun j q => .inl (.inr q), m2.fresh, by omega, by rw [hst]; have := hS.2.1; simp only []; omega, h5.bnd⟩
  exact ⟨trivial, trivial, _, h7.loop, trivial, h7.relp _, ((m05.trans (m1.mono fun j q => .inl (.inl q)) (Within.refl _ _)).trans (m2.mono fun j q => .inl (.inr q)) (Within.refl _ _)).trans ((MutS.put (S := fun j => j = lp) h7.fresh rfl h7.lt _).mono fun j q => .inr q) (Within.refl _ _)⟩
end Go.Proofs

namespace Go.Proofs
open Go Go.RowKit Go.Sim
set_option maxRecDepth 100000
theorem sum32 {S : List Int} (hS : okS S) : S.sum ≤ 32 := by
  have : ∀ L : List Int, (∀ x ∈ L, x ≤ 8) → L.sum ≤ 8 * (L.length : Int) := by
    intro L
    induction L with
    | nil => simp
    | cons x L ih =>
      intro h
      have := ih fun y hy => h y (List.mem_cons_of_mem _ hy)
      have := h x List.mem_cons_self
      rw [List.sum_cons, List.length_cons]; push_cast; omega
  have := this S fun x hx => by
    obtain ⟨i, hi, rfl⟩ := List.getElem_of_mem hx
    have := hS.2.2 i hi
    rw [W_at hi] at this; omega
  have := hS.2.1
  omega
theorem smallS {S : List Int} (hS : okS S) : smallL S := ⟨fun x hx => by
    obtain ⟨i, hi, rfl⟩ := List.getElem_of_mem hx
    have := hS.2.2 i hi
    rw [W_at hi] at this; omega, by have := hS.2.1; omega⟩
theorem yields_L {W0 W4 : AW} {A : AudN} (h : audB A = true) {b : Nat} {p q : Option Addr} {a c : Nat} (hs : ArrOf W0 1 icells (.slice p A.st.length a) A.st) (hcut : Cutt W0 (.slice p A.st.length a) A.st.length) (hc : ArrOf W0 1 icells (.slice q A.co.length c) A.co) {n1 n2 n6 dm lp bc : Nat}
    (hK : ∀ w, KpL W4 n1 n2 w → Keep W0.next W0 w ∧ SearchAt w b p q a c A) (t : Tmps)
    (e2 : ev t (.tmp 2) = ptr n1) (e3 : ev t (.tmp 3) = ptr n2) (e6 : ev t (.tmp 6) = ptr n6) :
    Yields (KpL W4 n1 n2) A.st lp bc (fun j => (j = n1 ∨ j = n2) ∨ j = lp) (fun Q w => JL W4 A b n1 n2 n6 dm lp bc (lpL .ready t dm) Q w) where
  mutC := fun Q w w' h m => h.mut m fun j q => q
  grow := fun Q w w' h g => h.mut (T := fun _ => False) (.of g) fun _ q => q.elim
  yield := fun Q u w hJ hl hf _ _ hbc => yieldL_ok h hs hcut hc hK t e2 e3 e6 Q u w hJ hbc hl hf
theorem rangeL_ok {W0 W4 w5 : AW} {A : AudN} (h : audB A = true) {b : Nat} {p q : Option Addr} {a c : Nat} (hs : ArrOf W0 1 icells (.slice p A.st.length a) A.st) (hcut : Cutt W0 (.slice p A.st.length a) A.st.length) (hc : ArrOf W0 1 icells (.slice q A.co.length c) A.co) {n1 n2 n6 bs bl bh : Nat}
    (hK : ∀ w, KpL W4 n1 n2 w → Keep W0.next W0 w ∧ SearchAt w b p q a c A) (k5 : KpL W4 n1 n2 w5)
    (o1 : Own w5 n1 22 [.slice none 0 0]) (o2 : Own w5 n2 3 [.int .i64 9223372036854775807]) (o6 : Own w5 n6 70 [ptr b]) (L1 : Own w5 bs 70 [ptr b]) (L2 : Own w5 bl 3 [.int .i64 0]) (L3 : Own w5 bh 3 [.int .i64 A.st.sum]) (h12 : n1 < n2) (h24 : n2 < W4.next) (h46 : W4.next ≤ n6) (hbs : n6 < bs) (t : Tmps)
    (e2 : ev t (.tmp 2) = ptr n1) (e3 : ev t (.tmp 3) = ptr n2) (e6 : ev t (.tmp 6) = ptr n6) :
    CallT Try.prog Try.T1 (.fn (.func 111) #[ptr bs, ptr bl, ptr bh]) #[.func (.yield (w5.next + 1)) #[] #[]] ((w5.push (.deferred (some []))).push (.loop (lpL .ready t w5.next)))
      (fun _ w' => JL W4 A b n1 n2 n6 w5.next (w5.next + 1) (w5.next + 1 + 1 + 1) (lpL .ready t w5.next) (samplesL A) w') := by
  obtain ⟨hS, _⟩ := audB_ok h
  have f5 := k5.fresh
  have hn1 : (w5.push (.deferred (some []))).next = w5.next + 1 := AW.next_push _ _
  have hn2 : ((w5.push (.deferred (some []))).push (.loop (lpL .ready t w5.next))).next = w5.next + 1 + 1 := by rw [AW.next_push, hn1]
  have gA := ((Grown.refl f5).push (.deferred (some []))).push (.loop (lpL .ready t w5.next))
  have hkn := k5.next
  have hbl := L1.lt
  have hkA : KpL W4 n1 n2 ((w5.push (.deferred (some []))).push (.loop (lpL .ready t w5.next))) := KpL.of k5 (T := fun _ => False) (.of gA) fun _ q => q.elim
  have J0 : JL W4 A b n1 n2 n6 w5.next (w5.next + 1) (w5.next + 1 + 1 + 1) (lpL .ready t w5.next) [] ((w5.push (.deferred (some []))).push (.loop (lpL .ready t w5.next))) := by
    refine ⟨⟨_, (o1.push _).push _, .inl ⟨rfl, rfl, rfl⟩⟩, (o2.push _).push _, (o6.push _).push _, ?_, ?_, hkA, gA.2, by omega, by show 0 ≤ 4; omega, ⟨h12, h24, h46, by omega, by omega, by omega⟩⟩
    · show ((w5.push (.deferred (some []))).push _).blk (w5.next + 1) = _
      rw [AW.blk_push _ _ _ (Trie.in_ _) (Trie.in_ _), if_pos hn1.symm]
    · show ((w5.push (.deferred (some []))).push _).blk w5.next = _
      rw [AW.blk_push _ _ _ (Trie.in_ _) (Trie.in_ _), if_neg (by omega), AW.blk_push _ _ _ (Trie.in_ _) (Trie.in_ _), if_pos rfl]
  have hE : SeaEnv W0 b p q a c A (fun j => (j = n1 ∨ j = n2) ∨ j = w5.next + 1) W4.next (KpL W4 n1 n2) :=
    ⟨fun w h => (hK w h).1, fun w h => (hK w h).2, fun w w' T h m hT => KpL.of h m fun j q => by rcases hT j q with (z | z) | z; exact .inl z; exact .inr (by omega); exact .inr z⟩
  have hsm := sum32 hS
  have hsn := sum_nn (okS_nn hS)
  have hy := yields_L (dm := w5.next) (lp := w5.next + 1) (bc := w5.next + 1 + 1 + 1) h hs hcut hc hK t e2 e3 e6
  have hbc : ((w5.push (.deferred (some []))).push (.loop (lpL .ready t w5.next))).next + 1 = w5.next + 1 + 1 + 1 := by rw [hn2]
  rw [← hbc] at hy J0 ⊢
  exact (gen_ok hS hE hs hcut (lp := w5.next + 1) (J := fun Q w => JL W4 A b n1 n2 n6 w5.next (w5.next + 1) _ (lpL .ready t w5.next) Q w) _ hkA (by omega) gA.2 ((L1.push _).push _) (by omega) 0 A.st.sum ((L2.push _).push _) ((L3.push _).push _)
    hy (fun j hj => by omega) (by omega) J0 (by omega) (by omega) hsn (by omega) hsn).mono fun _ w' h => h.1
def lstC (A : AudN) : Int := if audB A then (leastX A).1 else 0
def lstL (A : AudN) : List Int := if audB A then (leastX A).2 else []
set_option maxHeartbeats 32000000 in
theorem Least_ok (A : AudN) (p q : Option Addr) (a c : Nat) (w : AW) (f : Fresh w) (hs : ArrOf w 1 icells (.slice p A.st.length a) A.st) (hcut : Cutt w (.slice p A.st.length a) A.st.length) (hc : ArrOf w 1 icells (.slice q A.co.length c) A.co) :
    CallT Try.prog Try.T1 (.fn (.func 26) #[]) #[.agg (audC p q a c A).toArray] w (fun r w' => Grown w w' ∧ ∃ (v : Value), r = .tuple #[v, .int .i64 (lstC A), .int .i64 (audE A)] ∧ AOwnS (fun j => w.next ≤ j) w' 3 1 v (lstL A).length ((lstL A).flatMap icells)) := by
  have g1 := (Grown.refl f).push (.cells (audC p q a c A) 24 w.next 0 0)
  have O1 := Own.new f 24 (audC p q a c A)
  have g2 := g1.push (.cells [.slice none 0 0] 22 (w.next + 1) 0 0)
  have O2 := Own.new g1.2 22 [.slice none 0 0]
  have g3 := g2.push (.cells [.int .i64 0] 3 (w.next + 1 + 1) 0 0)
  have O3 := Own.new g2.2 3 [.int .i64 0]
  simp only [AW.next_push] at O2 O3
  have O1' := (O1.push (.cells [.slice none 0 0] 22 (w.next + 1) 0 0)).push (.cells [.int .i64 0] 3 (w.next + 1 + 1) 0 0)
  have O2' := O2.push (.cells [.int .i64 0] 3 (w.next + 1 + 1) 0 0)
  have nx3 : (((w.push (.cells (audC p q a c A) 24 w.next 0 0)).push (.cells [.slice none 0 0] 22 (w.next + 1) 0 0)).push (.cells [.int .i64 0] 3 (w.next + 1 + 1) 0 0)).next = w.next + 1 + 1 + 1 := by simp only [AW.next_push]
  have hck := Check_ok A p q a c _ g3.2 (hs.grown g3) (hc.grown g3)
  have hse := fun w' (f' : Fresh w') => searchOf_ok A p q a c w' f'
  have hld0 := loadAll O1' (n := 4) rfl (by simp [audC, oneCell])
  have hsa := same_audV p q a c A
  refine callT_codeX [11] rfl Try.func26 rfl Try.s26_eq rfl ?_
  unfold Try.s26
  unfold audC at *
  simp -dsimp -implicitDefEqProofs (maxSteps := 2000000) (disch := first | assumption | omega | (simp only [nx]; omega) | ((repeat refine Fresh.push ?_ _); assumption) | (simp only [smA]; done) | (simp [oneCell, AW.next_push]; done) | fail) only [go_sem, Nat.reduceEqDiff, reduceIte, Nat.reduceAdd, Int.toNat_natCast, Nat.add_zero, Owes_true, Try.results26]
  generalize ((w.push (.cells [.slice p A.st.length a, .slice q A.co.length c, .int .i64 A.lost, .int .i64 A.sure] 24 w.next 0 0)).push (.cells [.slice none 0 0] 22 (w.next + 1) 0 0)).push (.cells [.int .i64 0] 3 (w.next + 1 + 1) 0 0) = w3 at *
  have z0 := O1'.cell (o := 0) rfl rfl
  have z1 := O1'.cell (o := 1) rfl rfl
  have z2 := O1'.cell (o := 2) rfl rfl
  have z3 := O1'.cell (o := 3) rfl rfl
  apply callV_of (e := rfl)
  · exact hck
  rintro _ w4 ⟨rfl, g4⟩
  have gg4 := g3.trans g4
  have P1 := O1'.keep g4.1
  have P2 := O2'.keep g4.1
  have P3 := O3.keep g4.1
  have hkn4 := g4.1.next
  cases hA : audB A with
  | false =>
    have hE : audE A = 100 := by unfold audE; rw [hA]; rfl
    have hL : lstL A = [] := by unfold lstL; rw [hA]; rfl
    have hC : lstC A = 0 := by unfold lstC; rw [hA]; rfl
    have s1 := storeV_own1 (o := 0) (v := .slice none 0 0) P2 (by simp) rfl
    simp only [setL] at s1
    have m1 := MutS.put (S := fun j => j = w.next + 1) g4.2 rfl P2.lt (.cells [.slice none 0 0] 22 (w.next + 1) 0 0)
    have P2a := P2.put [.slice none 0 0]
    have P3a := m1.own P3 (by omega)
    have nn1 : (w4.put (w.next + 1) (.cells [.slice none 0 0] 22 (w.next + 1) 0 0)).next = w4.next := AW.next_put _ _ _
    have d1 : decide ((100 : Int) = 0) = false := rfl
    rw [hE]
    simp -dsimp -implicitDefEqProofs (maxSteps := 2000000) (disch := first | assumption | omega | (simp only [nx]; omega) | ((repeat refine Fresh.push ?_ _); assumption) | (simp only [smA]; done) | (simp [oneCell, AW.next_push]; done) | fail) only [go_sem, Nat.reduceEqDiff, reduceIte, Nat.reduceAdd, Int.toNat_natCast, Nat.add_zero, Owes_true, Try.results26, d1, s1]
    generalize w4.put (w.next + 1) (.cells [.slice none 0 0] 22 (w.next + 1) 0 0) = w5 at *
    have s2 := storeV_own1 (o := 0) (v := .int .i64 0) P3a (by simp) rfl
    simp only [setL] at s2
    have m2 := MutS.put (S := fun j => j = w.next + 1 + 1) m1.fresh rfl P3a.lt (.cells [.int .i64 0] 3 (w.next + 1 + 1) 0 0)
    have P3b := P3a.put [.int .i64 0]
    have P2b := m2.own P2a (by omega)
    simp -dsimp -implicitDefEqProofs (maxSteps := 2000000) (disch := first | assumption | omega | (simp only [nx]; omega) | ((repeat refine Fresh.push ?_ _); assumption) | (simp only [smA]; done) | (simp [oneCell, AW.next_push]; done) | fail) only [go_sem, Nat.reduceEqDiff, reduceIte, Nat.reduceAdd, Int.toNat_natCast, Nat.add_zero, Owes_true, Try.results26, s2]
    generalize w5.put (w.next + 1 + 1) (.cells [.int .i64 0] 3 (w.next + 1 + 1) 0 0) = w6 at *
    have y2 := P2b.cell (o := 0) rfl rfl
    have y3 := P3b.cell (o := 0) rfl rfl
    simp -dsimp -implicitDefEqProofs (maxSteps := 2000000) (disch := first | assumption | omega | (simp only [nx]; omega) | ((repeat refine Fresh.push ?_ _); assumption) | (simp only [smA]; done) | (simp [oneCell, AW.next_push]; done) | fail) only [go_sem, Nat.reduceEqDiff, reduceIte, Nat.reduceAdd, Int.toNat_natCast, Nat.add_zero, Owes_true, Try.results26, y2, y3]
    refine ⟨⟨(gg4.1.trans (m1.keep (fun j q => by omega) gg4.1.next)).trans (m2.keep (fun j q => by omega) (by omega)), m2.fresh⟩, _, by rw [hC], ?_⟩
    rw [hL]
    exact .inl ⟨rfl, rfl, rfl⟩
  | true =>
  have hE : audE A = 0 := by unfold audE; rw [hA]; rfl
  have hL : lstL A = (leastX A).2 := by unfold lstL; rw [hA]; rfl
  have hC : lstC A = (leastX A).1 := by unfold lstC; rw [hA]; rfl
  obtain ⟨hS, hco, _⟩ := audB_ok hA
  have d0 : decide ((0 : Int) = 0) = true := rfl
  rw [hE, hL, hC]
  have x0 := P1.cell (o := 0) rfl rfl
  have x1 := P1.cell (o := 1) rfl rfl
  have x2 := P1.cell (o := 2) rfl rfl
  have x3 := P1.cell (o := 3) rfl rfl
  simp -dsimp -implicitDefEqProofs (maxSteps := 2000000) (disch := first | assumption | omega | (simp only [nx]; omega) | ((repeat refine Fresh.push ?_ _); assumption) | (simp only [smA]; done) | (simp [oneCell, AW.next_push]; done) | fail) only [go_sem, Nat.reduceEqDiff, reduceIte, Nat.reduceAdd, Int.toNat_natCast, Nat.add_zero, Owes_true, Try.results26, d0, x0, x1, x2, x3, Nat.zero_add]
  apply callV_of (e := rfl)
  · exact hse w4 gg4.2
  rintro _ W4 ⟨bs, rfl, hbs, hsea, g5⟩
  have gg5 := gg4.trans g5
  have hkn5 := g5.1.next
  have R1 := P1.keep g5.1
  have R2 := P2.keep g5.1
  have R3 := P3.keep g5.1
  have g6 := (Grown.refl g5.2).push (.cells [.pointer none] 70 W4.next 0 0)
  have O6 := Own.new g5.2 70 [.pointer none]
  have s6 := storeV_own1 (o := 0) (v := ptr bs) O6 (by simp) rfl
  simp only [setL] at s6
  have m6 := MutS.put (S := fun j => j = W4.next) g6.2 rfl O6.lt (.cells [ptr bs] 70 W4.next 0 0)
  have O6' := O6.put [ptr bs]
  have R1' := m6.own (R1.keep g6.1) (by have := R1.lt; omega)
  have R2' := m6.own (R2.keep g6.1) (by omega)
  have R3' := m6.own (R3.keep g6.1) (by omega)
  have k6 : KpL W4 (w.next + 1) (w.next + 1 + 1) ((W4.push (.cells [.pointer none] 70 W4.next 0 0)).put W4.next (.cells [ptr bs] 70 W4.next 0 0)) := KpL.of (KpL.of (MutS.refl g5.2) (T := fun _ => False) (.of g6) fun _ q => q.elim) m6 fun j q => .inr (by omega)
  have nx6 : ((W4.push (.cells [.pointer none] 70 W4.next 0 0)).put W4.next (.cells [ptr bs] 70 W4.next 0 0)).next = W4.next + 1 := by rw [AW.next_put, AW.next_push]
  simp -dsimp -implicitDefEqProofs (maxSteps := 2000000) (disch := first | assumption | omega | (simp only [nx]; omega) | ((repeat refine Fresh.push ?_ _); assumption) | (simp only [smA]; done) | (simp [oneCell, AW.next_push]; done) | fail) only [go_sem, Nat.reduceEqDiff, reduceIte, Nat.reduceAdd, Int.toNat_natCast, Nat.add_zero, Owes_true, Try.results26, s6]
  generalize (W4.push (.cells [.pointer none] 70 W4.next 0 0)).put W4.next (.cells [ptr bs] 70 W4.next 0 0) = w6 at *
  have s7 := storeV_own1 (o := 0) (v := .int .i64 9223372036854775807) R3' (by simp) rfl
  simp only [setL] at s7
  have m7 := MutS.put (S := fun j => j = w.next + 1 + 1) k6.fresh rfl R3'.lt (.cells [.int .i64 9223372036854775807] 3 (w.next + 1 + 1) 0 0)
  have T3 := R3'.put [.int .i64 9223372036854775807]
  have T2 := m7.own R2' (by omega)
  have T1 := m7.own R1' (by omega)
  have T6 := m7.own O6' (by omega)
  have k7 : KpL W4 (w.next + 1) (w.next + 1 + 1) (w6.put (w.next + 1 + 1) (.cells [.int .i64 9223372036854775807] 3 (w.next + 1 + 1) 0 0)) := KpL.of k6 m7 fun j q => .inl (.inr q)
  have nx7 : (w6.put (w.next + 1 + 1) (.cells [.int .i64 9223372036854775807] 3 (w.next + 1 + 1) 0 0)).next = W4.next + 1 := by rw [AW.next_put]; exact nx6
  simp -dsimp -implicitDefEqProofs (maxSteps := 2000000) (disch := first | assumption | omega | (simp only [nx]; omega) | ((repeat refine Fresh.push ?_ _); assumption) | (simp only [smA]; done) | (simp [oneCell, AW.next_push]; done) | fail) only [go_sem, Nat.reduceEqDiff, reduceIte, Nat.reduceAdd, Int.toNat_natCast, Nat.add_zero, Owes_true, Try.results26, s7]
  generalize w6.put (w.next + 1 + 1) (.cells [.int .i64 9223372036854775807] 3 (w.next + 1 + 1) 0 0) = w7 at *
  have hk7 : Keep w.next w w7 := ⟨fun i hi => (k7.blk i (by omega) (by omega)).trans (gg5.1.blk i hi), fun i hi => (k7.fam i (by omega) (by omega)).trans (gg5.1.fam i hi), by have := gg5.1.next; have := k7.next; omega⟩
  have q6 := T6.cell (o := 0) rfl rfl
  have q1 := T1.cell (o := 0) rfl rfl
  have hsum := sum_ok A.st _ w7 (hs.kept hk7)
  simp -dsimp -implicitDefEqProofs (maxSteps := 2000000) (disch := first | assumption | omega | (simp only [nx]; omega) | ((repeat refine Fresh.push ?_ _); assumption) | (simp only [smA]; done) | (simp [oneCell, AW.next_push]; done) | fail) only [go_sem, Nat.reduceEqDiff, reduceIte, Nat.reduceAdd, Int.toNat_natCast, Nat.add_zero, Owes_true, Try.results26, q6, q1, Nat.zero_add]
  apply callV_of (e := rfl)
  · exact hsum
  rintro _ _ ⟨rfl, sm, rfl, hsm⟩
  obtain rfl := hsm (smallS hS)
  have hle7 : WLe w7 w7 := (Grown.refl k7.fresh).1.wle k7.fresh
  simp -dsimp -implicitDefEqProofs (maxSteps := 2000000) (disch := first | assumption | omega | (simp only [nx]; omega) | ((repeat refine Fresh.push ?_ _); assumption) | (simp only [smA]; done) | (simp [oneCell, AW.next_push]; done) | fail) only [go_sem, Nat.reduceEqDiff, reduceIte, Nat.reduceAdd, Int.toNat_natCast, Nat.add_zero, Owes_true, Try.results26, hle7, q6, q1]
  apply callV_of (e := rfl)
  · exact lists_ok bs 0 A.st.sum w7 k7.fresh
  rintro _ w8 ⟨rfl, L1, L2, L3, g8, n8⟩
  have hle8 : WLe w7 w8 := g8.1.wle k7.fresh
  rw [nx7] at L1 L2 L3 n8
  simp -dsimp -implicitDefEqProofs (maxSteps := 2000000) (disch := first | assumption | omega | (simp only [nx]; omega) | ((repeat refine Fresh.push ?_ _); assumption) | (simp only [smA]; done) | (simp [oneCell, AW.next_push]; done) | fail) only [go_sem, Nat.reduceEqDiff, reduceIte, Nat.reduceAdd, Int.toNat_natCast, Nat.add_zero, Owes_true, Try.results26, hle8, nx7]
  have hK : ∀ w', KpL W4 (w.next + 1) (w.next + 1 + 1) w' → Keep w.next w w' ∧ SearchAt w' bs p q a c A := fun w' h => ⟨⟨fun i hi => (h.blk i (by omega) (by omega)).trans (gg5.1.blk i hi), fun i hi => (h.fam i (by omega) (by omega)).trans (gg5.1.fam i hi), by have := gg5.1.next; have := h.next; omega⟩, h.own hsea (by omega)⟩
  have k8 : KpL W4 (w.next + 1) (w.next + 1 + 1) w8 := KpL.of k7 (T := fun _ => False) (.of g8) fun _ q => q.elim
  refine codeT_range rfl (by simp -dsimp -implicitDefEqProofs (maxSteps := 2000000) (disch := first | assumption | omega | (simp only [nx]; omega) | ((repeat refine Fresh.push ?_ _); assumption) | (simp only [smA]; done) | (simp [oneCell, AW.next_push]; done) | fail) only [go_sem, Nat.reduceEqDiff, reduceIte, Nat.reduceAdd, Int.toNat_natCast, Nat.add_zero, Owes_true]; rfl) ?_
  refine (rangeL_ok hA hs hcut hc hK k8 (T2.keep g8.1) (T3.keep g8.1) (T6.keep g8.1) L1 L2 L3 (by omega) (by omega) (Nat.le_refl _) (by omega) _ (by simp -dsimp -implicitDefEqProofs (maxSteps := 2000000) (disch := first | assumption | omega | (simp only [nx]; omega) | ((repeat refine Fresh.push ?_ _); assumption) | (simp only [smA]; done) | (simp [oneCell, AW.next_push]; done) | fail) only [go_sem, Nat.reduceEqDiff, reduceIte, Nat.reduceAdd, Int.toNat_natCast, Nat.add_zero, Owes_true]) (by simp -dsimp -implicitDefEqProofs (maxSteps := 2000000) (disch := first | assumption | omega | (simp only [nx]; omega) | ((repeat refine Fresh.push ?_ _); assumption) | (simp only [smA]; done) | (simp [oneCell, AW.next_push]; done) | fail) only [go_sem, Nat.reduceEqDiff, reduceIte, Nat.reduceAdd, Int.toNat_natCast, Nat.add_zero, Owes_true]) (by simp -dsimp -implicitDefEqProofs (maxSteps := 2000000) (disch := first | assumption | omega | (simp only [nx]; omega) | ((repeat refine Fresh.push ?_ _); assumption) | (simp only [smA]; done) | (simp [oneCell, AW.next_push]; done) | fail) only [go_sem, Nat.reduceEqDiff, reduceIte, Nat.reduceAdd, Int.toNat_natCast, Nat.add_zero, Owes_true])).mono ?_
  rintro _ w9 hI
  refine ⟨_, hI.loop, rfl, rfl, ?_⟩
  intro W2 hW2
  obtain ⟨lpx, hIW⟩ : ∃ lpx, JL W4 A bs (w.next + 1) (w.next + 1 + 1) W4.next w8.next (w8.next + 1) (w8.next + 1 + 1 + 1) lpx (samplesL A) W2 := ⟨_, by rw [hW2]; exact hI.relp _⟩
  clear hW2 hI
  have hXd : leastF A (samplesL A) = leastX A := rfl
  obtain ⟨v, i4, iR⟩ := hIW.row
  have i5 := hIW.o2
  have hmk := hIW.mark
  have hlt2 := hIW.lt
  have hkp := hIW.keep
  have hfr := hIW.fresh
  have hXl := hIW.len
  rw [hXd] at iR i5 hXl
  generalize leastX A = X at *
  clear hIW
  have hv1 : oneCell v = true := by
    rcases iR with ⟨e, _⟩ | ⟨_, _, e, _⟩ <;> rw [e] <;> rfl
  have hsv : same 12 v v = true := by
    rcases iR with ⟨e, _⟩ | ⟨_, _, e, _⟩ <;> rw [e] <;> simp [same]
  have ld4 := i4.cell (o := 0) rfl hv1
  have ld5 := i5.cell (o := 0) rfl rfl
  have st4 := storeV_own1 (o := 0) (v := v) i4 (by simp) hv1
  simp only [setL] at st4
  have m4 := MutS.put (S := fun j => j = w.next + 1) hfr rfl i4.lt (.cells [v] 22 (w.next + 1) 0 0)
  have j4 := i4.put [v]
  have nn4 : (W2.put (w.next + 1) (.cells [v] 22 (w.next + 1) 0 0)).next = W2.next := AW.next_put _ _ _
  have jR := iR.other m4 fun j hj q => by omega
  have hkn8 := g8.1.next
  generalize W2.put (w.next + 1) (.cells [v] 22 (w.next + 1) 0 0) = W3 at *
  have j5 := m4.own i5 (by omega)
  have ld5' := j5.cell (o := 0) rfl rfl
  have st5 := storeV_own1 (o := 0) (v := .int .i64 X.1) j5 (by simp) rfl
  simp only [setL] at st5
  have m5 := MutS.put (S := fun j => j = w.next + 1 + 1) m4.fresh rfl j5.lt (.cells [.int .i64 X.1] 3 (w.next + 1 + 1) 0 0)
  have q5 := j5.put [.int .i64 X.1]
  have nn5 : (W3.put (w.next + 1 + 1) (.cells [.int .i64 X.1] 3 (w.next + 1 + 1) 0 0)).next = W3.next := AW.next_put _ _ _
  have jR' := jR.other m5 fun j hj q => by omega
  simp -dsimp -implicitDefEqProofs (maxSteps := 2000000) (disch := first | assumption | omega | (simp only [nx]; omega) | ((repeat refine Fresh.push ?_ _); assumption) | (simp only [smA]; done) | (simp [oneCell, AW.next_push]; done) | fail) only [go_sem, Nat.reduceEqDiff, reduceIte, Nat.reduceAdd, Int.toNat_natCast, Nat.add_zero, Owes_true, Try.results26]
  show CodeT _ _ _ _ _ _ _ _
  refine codeT_regX Try.x26r11_eq Try.x26r11_kinds ?_
  unfold Try.x26r11
  simp -dsimp -implicitDefEqProofs (maxSteps := 2000000) (disch := first | assumption | omega | (simp only [nx]; omega) | ((repeat refine Fresh.push ?_ _); assumption) | (simp only [smA]; done) | (simp [oneCell, AW.next_push]; done) | fail) only [go_sem, Nat.reduceEqDiff, reduceIte, Nat.reduceAdd, Int.toNat_natCast, Nat.add_zero, Owes_true, ld4, ld5, hsv, st4]
  refine ⟨⟨.inr fun inf hinf => ?_, .inl (show Nat.testBit 1 0 = true by decide), trivial⟩, ?_⟩
  · rw [Try.ty3] at hinf
    injection hinf with hinf
    subst hinf
    simp -dsimp -implicitDefEqProofs (maxSteps := 2000000) (disch := first | assumption | omega | (simp only [nx]; omega) | ((repeat refine Fresh.push ?_ _); assumption) | (simp only [smA]; done) | (simp [oneCell, AW.next_push]; done) | fail) only [go_sem, Nat.reduceEqDiff, reduceIte, Nat.reduceAdd, Int.toNat_natCast, Nat.add_zero, Owes_true, ld5', ld5]
  simp -dsimp -implicitDefEqProofs (maxSteps := 2000000) (disch := first | assumption | omega | (simp only [nx]; omega) | ((repeat refine Fresh.push ?_ _); assumption) | (simp only [smA]; done) | (simp [oneCell, AW.next_push]; done) | fail) only [go_sem, Nat.reduceEqDiff, reduceIte, Nat.reduceAdd, Int.toNat_natCast, Nat.add_zero, Owes_true, ld4, ld5, hsv, st5]
  generalize W3.put (w.next + 1 + 1) (.cells [.int .i64 X.1] 3 (w.next + 1 + 1) 0 0) = W5 at *
  refine ⟨⟨.inl (show Nat.testBit 7 1 = true by decide), .inl (show Nat.testBit 7 0 = true by decide), trivial⟩, ?_⟩
  simp -dsimp -implicitDefEqProofs (maxSteps := 2000000) (disch := first | assumption | omega | (simp only [nx]; omega) | ((repeat refine Fresh.push ?_ _); assumption) | (simp only [smA]; done) | (simp [oneCell, AW.next_push]; done) | fail) only [go_sem, Nat.reduceEqDiff, reduceIte, Nat.reduceAdd, Int.toNat_natCast, Nat.add_zero, Owes_true, Try.results26]
  refine Left_one ?_ ?_
  · rw [m5.blk _ (by omega) (by omega), m4.blk _ (by omega) (by omega)]; exact hmk
  have m9 := MutS.put (S := fun j => j = w8.next) m5.fresh rfl (by omega) (.deferred none)
  have y4 := (m9.own (m5.own j4 (by omega)) (by omega)).cell (o := 0) rfl hv1
  have y5 := (m9.own q5 (by omega)).cell (o := 0) rfl rfl
  have jR9 := jR'.other m9 fun j hj q => by omega
  have kk : Keep w.next w _ := ((hK _ hkp).1.trans (m4.keep (fun j q => by omega) (by have := hkp.next; omega))).trans ((m5.keep (fun j q => by omega) (by have := hkp.next; omega)).trans (m9.keep (fun j q => by omega) (by have := hkp.next; omega)))
  simp -dsimp -implicitDefEqProofs (maxSteps := 2000000) (disch := first | assumption | omega | (simp only [nx]; omega) | ((repeat refine Fresh.push ?_ _); assumption) | (simp only [smA]; done) | (simp [oneCell, AW.next_push]; done) | fail) only [go_sem, Nat.reduceEqDiff, reduceIte, Nat.reduceAdd, Int.toNat_natCast, Nat.add_zero, Owes_true, Try.results26, y4, y5]
  exact ⟨⟨kk, m9.fresh⟩, v, rfl, jR9.mono fun j hj => by omega⟩
end Go.Proofs

namespace Go.Proofs
open Go Go.RowKit Go.Sim
set_option maxRecDepth 100000
set_option maxHeartbeats 16000000 in
theorem costR_ok {A : AudN} (h : audB A = true) (P : List Int) (hPl : P.length = A.st.length) (hP : FitS A.st P) (p q : Option Addr) (a c : Nat) (v : Value) (w : AW) (f : Fresh w) (hc : ArrOf w 1 icells (.slice q A.co.length c) A.co) (hv : ArrOf w 1 icells v P) :
    CallT Try.prog Try.T1 (.fn (.func 78) #[]) #[.agg (audC p q a c A).toArray, v] w (Ret (.int .i64 (costI A.co P)) (Grown w)) := by
  obtain ⟨hS, hco, hci, _⟩ := audB_ok h
  have g1 := (Grown.refl f).push (.cells (audC p q a c A) 24 w.next 0 0)
  have O1 := Own.new f 24 (audC p q a c A)
  have c1 := O1.cell (o := 1) rfl rfl
  obtain ⟨pv, cv, rfl, _, _, hatP⟩ := hv.open
  obtain ⟨_, _, epd, _, _, hat⟩ := hc.open
  injection epd with epd1 epd2 epd3
  subst epd1 epd3
  refine callT_code rfl Try.func78 rfl Try.s78_eq rfl ?_
  unfold Try.s78
  unfold audC at *
  simp -dsimp -implicitDefEqProofs (maxSteps := 2000000) (disch := first | assumption | omega | (simp only [nx]; omega) | ((repeat refine Fresh.push ?_ _); assumption) | (simp only [smA]; done) | (simp [oneCell, AW.next_push]; done) | fail) only [go_sem, Nat.reduceEqDiff, reduceIte, Nat.reduceAdd, Int.toNat_natCast, Nat.add_zero, Owes_true, Try.results78]
  generalize w.push (.cells [.slice p A.st.length a, .slice q A.co.length c, .int .i64 A.lost, .int .i64 A.sure] 24 w.next 0 0) = w2 at *
  refine loopR (fun k t ds w3 => ∃ i : Nat, i ≤ P.length ∧ k = P.length - i ∧ ds = [] ∧ ev t (.tmp 1) = .slice pv P.length cv ∧ ev t (.tmp 2) = .pointer (some ⟨w.next, 0, none⟩) ∧ ev t (.tmp 5) = .int .i64 (costTo A.co P i) ∧ ev t (.tmp 6) = .int .i64 (i : Int) ∧ w2 = w3) (P.length) ?_ ?_
  · refine ⟨0, by omega, by omega, rfl, ?_, ?_, ?_, ?_, rfl⟩ <;> simp -dsimp -implicitDefEqProofs (maxSteps := 2000000) (disch := first | assumption | omega | (simp only [nx]; omega) | ((repeat refine Fresh.push ?_ _); assumption) | (simp only [smA]; done) | (simp [oneCell, AW.next_push]; done) | fail) only [go_sem, Nat.reduceEqDiff, reduceIte, Nat.reduceAdd, Int.toNat_natCast, Nat.add_zero, Owes_true] <;> rfl
  rintro k t ds w3 ⟨i, hii, rfl, rfl, e1, e2, e5, e6, hw⟩
  subst hw
  by_cases hlt : (i : Int) < (P.length : Int)
  case neg =>
    obtain rfl : i = P.length := by omega
    simp -dsimp -implicitDefEqProofs (maxSteps := 2000000) (disch := first | assumption | omega | (simp only [nx]; omega) | ((repeat refine Fresh.push ?_ _); assumption) | (simp only [smA]; done) | (simp [oneCell, AW.next_push]; done) | fail) only [go_sem, Nat.reduceEqDiff, reduceIte, Nat.reduceAdd, Int.toNat_natCast, Nat.add_zero, Owes_true, Try.results78, e1, e2, e5, e6, hlt]
    exact ⟨by unfold costI; rw [hco, hPl], g1⟩
  have hlt' : i < P.length := by omega
  have hltC : (i : Int) < (A.co.length : Int) := by omega
  obtain ⟨b1, o1, rfl, hb1', hcell⟩ := hat i (by omega)
  obtain ⟨b2, o2, rfl, hb2', hcell2⟩ := hatP i hlt'
  have a0 := hcell w2 g1.1 0 _ rfl
  have a1 := hcell2 w2 g1.1 0 _ rfl
  rw [Nat.add_zero, ← W_at (by omega)] at a0
  rw [Nat.add_zero, ← W_at hlt'] at a1
  have hcb := costTo_in hci hS hP i (by omega)
  have hcb1 := costTo_in hci hS hP (i + 1) (by omega)
  have h1 := hci i (by omega)
  have h2 := hP i (by omega)
  have h3 := hS.2.2 i (by omega)
  have m1 : 0 ≤ W P i * W A.co i := Int.mul_nonneg h2.1 h1.1
  have m2 : W P i * W A.co i ≤ 8 * 1000 := Int.mul_le_mul (by omega) h1.2 h1.1 (by omega)
  have hS4 := hS.2.1
  have hnx : costTo A.co P (i + 1) = costTo A.co P i + W P i * W A.co i := rfl
  rw [hnx] at hcb1
  generalize hcc : costTo A.co P i = C at *
  generalize hmm : W P i * W A.co i = M at *
  simp -dsimp -implicitDefEqProofs (maxSteps := 2000000) (disch := first | assumption | omega | (simp only [nx]; omega) | ((repeat refine Fresh.push ?_ _); assumption) | (simp only [smA]; done) | (simp [oneCell, AW.next_push]; done) | fail) only [go_sem, Nat.reduceEqDiff, reduceIte, Nat.reduceAdd, Int.toNat_natCast, Nat.add_zero, Owes_true, Try.results78, e1, e2, e5, e6, hlt, hltC, indexV_eq, a0, a1, c1, hmm, Nat.zero_add]
  refine ⟨_, by omega, i + 1, by omega, rfl, rfl, by (simp -dsimp -implicitDefEqProofs (maxSteps := 2000000) (disch := first | assumption | omega | (simp only [nx]; omega) | ((repeat refine Fresh.push ?_ _); assumption) | (simp only [smA]; done) | (simp [oneCell, AW.next_push]; done) | fail) only [go_sem, Nat.reduceEqDiff, reduceIte, Nat.reduceAdd, Int.toNat_natCast, Nat.add_zero, Owes_true, e1, hnx]; try rfl), by (simp -dsimp -implicitDefEqProofs (maxSteps := 2000000) (disch := first | assumption | omega | (simp only [nx]; omega) | ((repeat refine Fresh.push ?_ _); assumption) | (simp only [smA]; done) | (simp [oneCell, AW.next_push]; done) | fail) only [go_sem, Nat.reduceEqDiff, reduceIte, Nat.reduceAdd, Int.toNat_natCast, Nat.add_zero, Owes_true, e2, hnx]; try rfl), by (simp -dsimp -implicitDefEqProofs (maxSteps := 2000000) (disch := first | assumption | omega | (simp only [nx]; omega) | ((repeat refine Fresh.push ?_ _); assumption) | (simp only [smA]; done) | (simp [oneCell, AW.next_push]; done) | fail) only [go_sem, Nat.reduceEqDiff, reduceIte, Nat.reduceAdd, Int.toNat_natCast, Nat.add_zero, Owes_true, e5, hnx]; try rfl), by (simp -dsimp -implicitDefEqProofs (maxSteps := 2000000) (disch := first | assumption | omega | (simp only [nx]; omega) | ((repeat refine Fresh.push ?_ _); assumption) | (simp only [smA]; done) | (simp [oneCell, AW.next_push]; done) | fail) only [go_sem, Nat.reduceEqDiff, reduceIte, Nat.reduceAdd, Int.toNat_natCast, Nat.add_zero, Owes_true, e6, hnx]; try rfl), rfl⟩
theorem owes_go {A B : Prop} {x : Tok (A, B)} (h : A) (k : B) : Owes true A B x := ⟨fun _ => h, k⟩
theorem aheadB_total : ∀ {a b : List Int}, a.length = b.length → aheadB a b = false → aheadB b a = false → a = b
  | [], [], _, _, _ => rfl
  | [], _ :: _, h, _, _ => by simp at h
  | _ :: _, [], h, _, _ => by simp at h
  | x :: a, y :: b, h, h1, h2 => by
    rw [aheadB] at h1 h2
    by_cases e : x = y
    · subst e
      rw [if_pos rfl] at h1 h2
      rw [aheadB_total (by simpa using h) h1 h2]
    · rw [if_neg e] at h1
      rw [if_neg (fun q => e q.symm)] at h2
      have := of_decide_eq_false h1
      have := of_decide_eq_false h2
      omega
def lastF (A : AudN) : List (List Int) → List Int
  | [] => A.st
  | t :: Q => if costI A.co t ≤ costI A.co (lastF A Q) ∧ findsB A t = true then t else lastF A Q
theorem lastF_in {A : AudN} (h : audB A = true) : ∀ Q : List (List Int), (∀ t ∈ Q, t.length = A.st.length ∧ FitS A.st t) → (lastF A Q).length = A.st.length ∧ FitS A.st (lastF A Q) ∧ findsB A (lastF A Q) = true
  | [], _ => ⟨rfl, fit_self (audB_ok h).1, finds_all h⟩
  | t :: Q, hq => by
    have ih := lastF_in h Q fun u hu => hq u (List.mem_cons_of_mem _ hu)
    unfold lastF
    split
    · rename_i hif
      obtain ⟨a, b⟩ := hq t List.mem_cons_self
      exact ⟨a, b, hif.2⟩
    · exact ih
theorem lastF_is {A : AudN} : ∀ Q : List (List Int), (Q.Pairwise fun a b => aheadB a b = true) → ∀ t ∈ Q, findsB A t = true → costI A.co (lastF A Q) ≤ costI A.co t ∧ (costI A.co (lastF A Q) = costI A.co t → aheadB t (lastF A Q) = false)
  | [], _, t, ht, _ => by cases ht
  | u :: Q, hp, t, ht, hf => by
    rw [List.pairwise_cons] at hp
    have ih := lastF_is (A := A) Q hp.2
    unfold lastF
    split
    · rename_i hif
      rcases List.mem_cons.1 ht with q | q
      · subst q; exact ⟨Int.le_refl _, fun _ => aheadB_refl _⟩
      · have := (ih t q hf).1
        exact ⟨by omega, fun _ => aheadB_asymm (hp.1 t q)⟩
    · rename_i hif
      rcases List.mem_cons.1 ht with q | q
      · subst q
        have : ¬ costI A.co t ≤ costI A.co (lastF A Q) := fun z => hif ⟨z, hf⟩
        exact ⟨by omega, fun e => by omega⟩
      · exact ih t q hf
theorem lastF_least {A : AudN} (h : audB A = true) : lastF A (samplesL A) = (leastX A).2 := by
  obtain ⟨a1, a2, a3, a4, a5⟩ := leastX_is h
  obtain ⟨b1, b2, b3⟩ := lastF_in h (samplesL A) fun t ht => (samples_mem h t).1 ht
  obtain ⟨c1, c2⟩ := lastF_is (A := A) (samplesL A) (listsL_pw _ _ _) (leastX A).2 ((samples_mem h _).2 ⟨a1, a2⟩) a4
  obtain ⟨d1, d2⟩ := a5 _ b1 b2 b3
  exact aheadB_total (by omega) (d2 (by omega)) (c2 (by omega))
theorem Making.iarr {B : Nat} {w : AW} {v : Value} {L : List Int} (h : Making B w 3 1 v L.length (L.flatMap icells)) (h1 : 1 ≤ L.length) (hl : L.length ≤ 1048576) : ArrOf w 1 icells v L := by
  rcases h with ⟨h0, _⟩ | h
  · omega
  · exact AOwn.arr h icells_len hl
set_option maxHeartbeats 64000000 in
theorem LeastR_ok (A : AudN) (p q : Option Addr) (a c : Nat) (w : AW) (f : Fresh w) (hs : ArrOf w 1 icells (.slice p A.st.length a) A.st) (hc : ArrOf w 1 icells (.slice q A.co.length c) A.co) :
    CallT Try.prog Try.T1 (.fn (.func 27) #[]) #[.agg (audC p q a c A).toArray] w (fun r w' => Grown w w' ∧ ∃ (v : Value), r = .tuple #[v, .int .i64 (lstC A), .int .i64 (audE A)] ∧ ArrOf w' 1 icells v (lstL A)) := by
  have g1 := (Grown.refl f).push (.cells (audC p q a c A) 24 w.next 0 0)
  have O1 := Own.new f 24 (audC p q a c A)
  have hck := CheckR_ok A p q a c _ g1.2 (hs.grown g1) (hc.grown g1)
  have hsa := same_audV p q a c A
  refine callT_code rfl Try.func27 rfl Try.s27_eq rfl ?_
  unfold Try.s27
  unfold audC at *
  simp -dsimp -implicitDefEqProofs (maxSteps := 2000000) (disch := first | assumption | omega | (simp only [nx]; omega) | ((repeat refine Fresh.push ?_ _); assumption) | (simp only [smA]; done) | (simp [oneCell, AW.next_push]; done) | fail) only [go_sem, Nat.reduceEqDiff, reduceIte, Nat.reduceAdd, Int.toNat_natCast, Nat.add_zero, Owes_true, Try.results27]
  apply callV_of (e := rfl)
  · exact hck
  rintro _ w2 ⟨rfl, g2⟩
  have gg2 := g1.trans g2
  have O2 := O1.keep g2.1
  have c0 := O2.cell (o := 0) rfl rfl
  have c1 := O2.cell (o := 1) rfl rfl
  have c2 := O2.cell (o := 2) rfl rfl
  have c3 := O2.cell (o := 3) rfl rfl
  cases hb : audB A with
  | false =>
    have hE : audE A = 100 := by unfold audE; rw [hb]; rfl
    have h1 : lstC A = 0 := by unfold lstC; rw [hb]; rfl
    have h2 : lstL A = [] := by unfold lstL; rw [hb]; rfl
    rw [hE, h1, h2]
    have hd : decide ((100 : Int) = 0) = false := rfl
    simp -dsimp -implicitDefEqProofs (maxSteps := 2000000) (disch := first | assumption | omega | (simp only [nx]; omega) | ((repeat refine Fresh.push ?_ _); assumption) | (simp only [smA]; done) | (simp [oneCell, AW.next_push]; done) | fail) only [go_sem, Nat.reduceEqDiff, reduceIte, Nat.reduceAdd, Int.toNat_natCast, Nat.add_zero, Owes_true, Try.results27, hd]
    exact ⟨gg2, _, rfl, ArrOf.nil _ _ _⟩
  | true =>
  have hE : audE A = 0 := by unfold audE; rw [hb]; rfl
  have h1 : lstC A = (leastX A).1 := by unfold lstC; rw [hb]; rfl
  have h2 : lstL A = (leastX A).2 := by unfold lstL; rw [hb]; rfl
  rw [hE, h1, h2]
  obtain ⟨hS, _⟩ := audB_ok hb
  have hall := listsR_ok hS (p := p) (q := q) (a := a) (c := c) (hs.grown gg2) A.st.length [] (.slice none 0 0) _ (by simp) (ArrOf.nil _ _ _) g2.2 (.refl _ _)
  rw [show (allL (A.st.drop ([] : List Int).length)).map (([] : List Int) ++ ·) = samplesL A from by rw [← allL_samples hb]; simp] at hall
  have hB : (samplesL A).length ≤ 6561 := by rw [← allL_samples hb]; have := allL_b hS 0; simpa using this
  unfold audC at hall
  simp -dsimp -implicitDefEqProofs (maxSteps := 2000000) (disch := first | assumption | omega | (simp only [nx]; omega) | ((repeat refine Fresh.push ?_ _); assumption) | (simp only [smA]; done) | (simp [oneCell, AW.next_push]; done) | fail) only [go_sem, Nat.reduceEqDiff, reduceIte, Nat.reduceAdd, Int.toNat_natCast, Nat.add_zero, Owes_true, Try.results27, c0, c1, c2, c3, Nat.zero_add]
  apply callV_of (e := rfl)
  · exact hall
  rintro z w3 ⟨g3, hz⟩
  have gg3 := gg2.trans g3
  have hle3 : WLe w2 w3 := g3.1.wle g2.2
  have O3 := O2.keep g3.1
  have d0 := O3.cell (o := 0) rfl rfl
  have d1 := O3.cell (o := 1) rfl rfl
  have d2 := O3.cell (o := 2) rfl rfl
  have d3 := O3.cell (o := 3) rfl rfl
  have hlo := lossesR_ok hb p q a c w3 g3.2 (hs.grown gg3)
  unfold audC at hlo
  obtain ⟨pz, cz, rfl, _⟩ := id hz.open
  simp -dsimp -implicitDefEqProofs (maxSteps := 2000000) (disch := first | assumption | omega | (simp only [nx]; omega) | ((repeat refine Fresh.push ?_ _); assumption) | (simp only [smA]; done) | (simp [oneCell, AW.next_push]; done) | fail) only [go_sem, Nat.reduceEqDiff, reduceIte, Nat.reduceAdd, Int.toNat_natCast, Nat.add_zero, Owes_true, Try.results27, hle3, d0, d1, d2, d3, Nat.zero_add]
  apply callV_of (e := rfl)
  · exact hlo
  rintro y w4 ⟨g4, hy⟩
  have gg4 := gg3.trans g4
  have hle4 : WLe w3 w4 := g4.1.wle g3.2
  have O4 := O3.keep g4.1
  have f0 := O4.cell (o := 0) rfl rfl
  have hz4 := hz.grown g4
  obtain ⟨_, _, epz, _, _, hat⟩ := hz4.open
  injection epz with e1 e2 e3
  subst e1 e3
  obtain ⟨py, cy, rfl, _⟩ := id hy.open
  have hsy : same 12 (.slice py (lossesL A).length cy) (.slice py (lossesL A).length cy) = true := same_s12 _ _ _
  have hmem : ∀ t ∈ samplesL A, t.length = A.st.length ∧ FitS A.st t := fun t ht => (samples_mem hb t).1 ht
  have hfin := lastF_least hb
  have hxx := leastX_is hb
  simp -dsimp -implicitDefEqProofs (maxSteps := 2000000) (disch := first | assumption | omega | (simp only [nx]; omega) | ((repeat refine Fresh.push ?_ _); assumption) | (simp only [smA]; done) | (simp [oneCell, AW.next_push]; done) | fail) only [go_sem, Nat.reduceEqDiff, reduceIte, Nat.reduceAdd, Int.toNat_natCast, Nat.add_zero, Owes_true, Try.results27, hle4, f0, Nat.zero_add]
  generalize hSs : samplesL A = SS at *
  refine loopR (fun k t ds w5 => ∃ i : Nat, i ≤ SS.length ∧ k = SS.length - i ∧ ds = [] ∧ ev t (.tmp 1) = .pointer (some ⟨w.next, 0, none⟩) ∧ ev t (.tmp 6) = .slice pz SS.length cz ∧ ev t (.tmp 7) = .slice py (lossesL A).length cy ∧ ∃ x : Value, ev t (.tmp 8) = x ∧ ArrOf w5 1 icells x (lastF A (SS.drop (SS.length - i))) ∧ Keep w4.next w4 w5 ∧ Fresh w5 ∧ ∃ j0 : Int, ev t (.tmp 9) = .int .i64 j0 ∧ j0 = (SS.length : Int) - 1 - (i : Int)) (SS.length) ?_ ?_
  · refine ⟨0, by omega, by omega, rfl, ?_, ?_, ?_, .slice p A.st.length a, by simp -dsimp -implicitDefEqProofs (maxSteps := 2000000) (disch := first | assumption | omega | (simp only [nx]; omega) | ((repeat refine Fresh.push ?_ _); assumption) | (simp only [smA]; done) | (simp [oneCell, AW.next_push]; done) | fail) only [go_sem, Nat.reduceEqDiff, reduceIte, Nat.reduceAdd, Int.toNat_natCast, Nat.add_zero, Owes_true], by rw [Nat.sub_zero, List.drop_length]; exact hs.grown gg4, .refl _ _, g4.2, (SS.length : Int) - 1, by simp -dsimp -implicitDefEqProofs (maxSteps := 2000000) (disch := first | assumption | omega | (simp only [nx]; omega) | ((repeat refine Fresh.push ?_ _); assumption) | (simp only [smA]; done) | (simp [oneCell, AW.next_push]; done) | fail) only [go_sem, Nat.reduceEqDiff, reduceIte, Nat.reduceAdd, Int.toNat_natCast, Nat.add_zero, Owes_true], by omega⟩ <;> simp -dsimp -implicitDefEqProofs (maxSteps := 2000000) (disch := first | assumption | omega | (simp only [nx]; omega) | ((repeat refine Fresh.push ?_ _); assumption) | (simp only [smA]; done) | (simp [oneCell, AW.next_push]; done) | fail) only [go_sem, Nat.reduceEqDiff, reduceIte, Nat.reduceAdd, Int.toNat_natCast, Nat.add_zero, Owes_true] <;> rfl
  rintro k t ds w5 ⟨i, hii, rfl, rfl, e1, e6, e7, x, e8, hR, k5, f5, j0, e9, hj0⟩
  have gW : Grown w w5 := ⟨gg4.1.trans (k5.mono gg4.1.next), f5⟩
  have O5 := O4.keep k5
  have h0 := O5.cell (o := 0) rfl rfl
  have h1' := O5.cell (o := 1) rfl rfl
  have h2' := O5.cell (o := 2) rfl rfl
  have h3' := O5.cell (o := 3) rfl rfl
  have hmem' : ∀ t ∈ SS.drop (SS.length - i), t.length = A.st.length ∧ FitS A.st t := fun t ht => hmem t (List.mem_of_mem_drop ht)
  obtain ⟨hBl, hBf, hBF⟩ := lastF_in hb _ hmem'
  have hcB := cost_in hb hBf
  have hcR := costR_ok hb (lastF A (SS.drop (SS.length - i))) hBl hBf p q a c x
  by_cases hlt : j0 ≥ 0
  case neg =>
    obtain rfl : i = SS.length := by omega
    rw [Nat.sub_self, List.drop_zero, hfin] at hR hcR hBl
    obtain ⟨pB, cB, rfl, _⟩ := id hR.open
    have hS4 := hS.2.1
    have hS1 := hS.1
    rw [hxx.2.2.1]
    rw [Nat.sub_self, List.drop_zero, hfin] at hcB
    generalize hXX : (leastX A).2 = X at *
    have how := Own_ok X _ w5 f5 hR (by omega)
    have hsB : same 12 (.slice pB X.length cB) (.slice pB X.length cB) = true := same_s12 _ _ _
    simp -dsimp -implicitDefEqProofs (maxSteps := 2000000) (disch := first | assumption | omega | (simp only [nx]; omega) | ((repeat refine Fresh.push ?_ _); assumption) | (simp only [smA]; done) | (simp [oneCell, AW.next_push]; done) | fail) only [go_sem, Nat.reduceEqDiff, reduceIte, Nat.reduceAdd, Int.toNat_natCast, Nat.add_zero, Owes_true, Try.results27, e1, e6, e7, e8, e9, hlt, h0, h1', h2', h3', Nat.zero_add]
    refine owes_go ?hA ?hB
    case hA => simp -dsimp -implicitDefEqProofs (maxSteps := 2000000) (disch := first | assumption | omega | (simp only [nx]; omega) | ((repeat refine Fresh.push ?_ _); assumption) | (simp only [smA]; done) | (simp [oneCell, AW.next_push]; done) | fail) only [go_sem, Nat.reduceEqDiff, reduceIte, Nat.reduceAdd, Int.toNat_natCast, Nat.add_zero, Owes_true, e8, hsB]
    simp -dsimp -implicitDefEqProofs (maxSteps := 2000000) (disch := first | assumption | omega | (simp only [nx]; omega) | ((repeat refine Fresh.push ?_ _); assumption) | (simp only [smA]; done) | (simp [oneCell, AW.next_push]; done) | fail) only [go_sem, Nat.reduceEqDiff, reduceIte, Nat.reduceAdd, Int.toNat_natCast, Nat.add_zero, Owes_true, Try.results27, e1, e6, e7, e8, e9, hlt, h0, h1', h2', h3', Nat.zero_add]
    apply callV_of (e := rfl)
    · exact how
    rintro y6 w6 ⟨hmk, g6⟩
    have hsy6 : same 12 y6 y6 = true := making_same hmk
    have hle6 : WLe w5 w6 := g6.1.wle f5
    have hcc := hcR w6 g6.2 (hc.grown (gW.trans g6)) (hR.grown g6)
    unfold audC at hcc
    simp -dsimp -implicitDefEqProofs (maxSteps := 2000000) (disch := first | assumption | omega | (simp only [nx]; omega) | ((repeat refine Fresh.push ?_ _); assumption) | (simp only [smA]; done) | (simp [oneCell, AW.next_push]; done) | fail) only [go_sem, Nat.reduceEqDiff, reduceIte, Nat.reduceAdd, Int.toNat_natCast, Nat.add_zero, Owes_true, Try.results27, hle6]
    apply callV_of (e := rfl)
    · exact hcc
    rintro _ w7 ⟨rfl, g7⟩
    have hle7 : WLe w6 w7 := g7.1.wle g6.2
    simp -dsimp -implicitDefEqProofs (maxSteps := 2000000) (disch := first | assumption | omega | (simp only [nx]; omega) | ((repeat refine Fresh.push ?_ _); assumption) | (simp only [smA]; done) | (simp [oneCell, AW.next_push]; done) | fail) only [go_sem, Nat.reduceEqDiff, reduceIte, Nat.reduceAdd, Int.toNat_natCast, Nat.add_zero, Owes_true, Try.results27, hle7]
    exact ⟨(gW.trans g6).trans g7, _, rfl, (Making.iarr hmk (by omega) (by omega)).grown g7⟩
  have hlen : i < SS.length := by omega
  obtain ⟨j, hj⟩ : ∃ j : Nat, j0 = (j : Int) := ⟨j0.toNat, by omega⟩
  have hjl : j < SS.length := by omega
  subst hj
  have hnx : SS.drop (SS.length - (i + 1)) = SS[j] :: SS.drop (SS.length - i) := by
    rw [show SS.length - (i + 1) = j from by omega, show SS.length - i = j + 1 from by omega]
    exact List.drop_eq_getElem_cons hjl
  obtain ⟨b1, o1, u, rfl, hb1, hrow, hcell⟩ := hat j hjl
  have a0 := hcell w5 k5
  obtain ⟨tl, tf⟩ := hmem _ (List.getElem_mem hjl)
  have hrow5 := hrow.kept k5
  generalize SS[j] = T at *
  generalize hBB : lastF A (SS.drop (SS.length - i)) = B at *
  obtain ⟨pu, cu, rfl, _⟩ := id hrow.open
  obtain ⟨pB, cB, rfl, _⟩ := id hR.open
  have hjlt : (j : Int) < (SS.length : Int) := by omega
  have hsu : same 12 (.slice pu T.length cu) (.slice pu T.length cu) = true := same_s12 _ _ _
  have hsB : same 12 (.slice pB B.length cB) (.slice pB B.length cB) = true := same_s12 _ _ _
  have hcT := cost_in hb tf
  have hcA := costR_ok hb T tl tf p q a c _ w5 f5 (hc.grown gW) hrow5
  unfold audC at hcA
  simp -dsimp -implicitDefEqProofs (maxSteps := 2000000) (disch := first | assumption | omega | (simp only [nx]; omega) | ((repeat refine Fresh.push ?_ _); assumption) | (simp only [smA]; done) | (simp [oneCell, AW.next_push]; done) | fail) only [go_sem, Nat.reduceEqDiff, reduceIte, Nat.reduceAdd, Int.toNat_natCast, Nat.add_zero, Owes_true, Try.results27, e1, e6, e7, e8, e9, hlt, hjlt, indexV_eq, a0, h0, h1', h2', h3', Nat.zero_add]
  apply callV_of (e := rfl)
  · exact hcA
  rintro _ w6 ⟨rfl, g6⟩
  have hle6 : WLe w5 w6 := g6.1.wle f5
  have gW6 := gW.trans g6
  have hcc := hcR w6 g6.2 (hc.grown gW6) (hR.grown g6)
  unfold audC at hcc
  simp -dsimp -implicitDefEqProofs (maxSteps := 2000000) (disch := first | assumption | omega | (simp only [nx]; omega) | ((repeat refine Fresh.push ?_ _); assumption) | (simp only [smA]; done) | (simp [oneCell, AW.next_push]; done) | fail) only [go_sem, Nat.reduceEqDiff, reduceIte, Nat.reduceAdd, Int.toNat_natCast, Nat.add_zero, Owes_true, Try.results27, hle6]
  apply callV_of (e := rfl)
  · exact hcc
  rintro _ w7 ⟨rfl, g7⟩
  have hle7 : WLe w6 w7 := g7.1.wle g6.2
  have gW7 := gW6.trans g7
  have g57 := g6.trans g7
  have k7 : Keep w4.next w4 w7 := k5.trans (g57.1.mono k5.next)
  have hLF : lastF A (SS.drop (SS.length - (i + 1))) = if costI A.co T ≤ costI A.co B ∧ findsB A T = true then T else B := by rw [hnx, ← hBB]; rfl
  have hLF0 : lastF A (T :: SS.drop (SS.length - i)) = if costI A.co T ≤ costI A.co B ∧ findsB A T = true then T else B := by rw [← hBB]; rfl
  by_cases hco : costI A.co T ≤ costI A.co B
  case neg =>
    rw [if_neg (fun z => hco z.1)] at hLF
    simp -dsimp -implicitDefEqProofs (maxSteps := 2000000) (disch := first | assumption | omega | (simp only [nx]; omega) | ((repeat refine Fresh.push ?_ _); assumption) | (simp only [smA]; done) | (simp [oneCell, AW.next_push]; done) | fail) only [go_sem, Nat.reduceEqDiff, reduceIte, Nat.reduceAdd, Int.toNat_natCast, Nat.add_zero, Owes_true, Try.results27, e1, e6, e7, e8, e9, hle7, hco]
    refine ⟨_, by omega, i + 1, by omega, rfl, rfl, by (simp -dsimp -implicitDefEqProofs (maxSteps := 2000000) (disch := first | assumption | omega | (simp only [nx]; omega) | ((repeat refine Fresh.push ?_ _); assumption) | (simp only [smA]; done) | (simp [oneCell, AW.next_push]; done) | fail) only [go_sem, Nat.reduceEqDiff, reduceIte, Nat.reduceAdd, Int.toNat_natCast, Nat.add_zero, Owes_true, e1]; try rfl), by (simp -dsimp -implicitDefEqProofs (maxSteps := 2000000) (disch := first | assumption | omega | (simp only [nx]; omega) | ((repeat refine Fresh.push ?_ _); assumption) | (simp only [smA]; done) | (simp [oneCell, AW.next_push]; done) | fail) only [go_sem, Nat.reduceEqDiff, reduceIte, Nat.reduceAdd, Int.toNat_natCast, Nat.add_zero, Owes_true, e6]; try rfl), by (simp -dsimp -implicitDefEqProofs (maxSteps := 2000000) (disch := first | assumption | omega | (simp only [nx]; omega) | ((repeat refine Fresh.push ?_ _); assumption) | (simp only [smA]; done) | (simp [oneCell, AW.next_push]; done) | fail) only [go_sem, Nat.reduceEqDiff, reduceIte, Nat.reduceAdd, Int.toNat_natCast, Nat.add_zero, Owes_true, e7]; try rfl), .slice pB B.length cB, (by simp -dsimp -implicitDefEqProofs (maxSteps := 2000000) (disch := first | assumption | omega | (simp only [nx]; omega) | ((repeat refine Fresh.push ?_ _); assumption) | (simp only [smA]; done) | (simp [oneCell, AW.next_push]; done) | fail) only [go_sem, Nat.reduceEqDiff, reduceIte, Nat.reduceAdd, Int.toNat_natCast, Nat.add_zero, Owes_true, e8]), (by rw [hLF]; exact hR.grown g57), k7, g7.2, (j : Int) - 1, (by simp -dsimp -implicitDefEqProofs (maxSteps := 2000000) (disch := first | assumption | omega | (simp only [nx]; omega) | ((repeat refine Fresh.push ?_ _); assumption) | (simp only [smA]; done) | (simp [oneCell, AW.next_push]; done) | fail) only [go_sem, Nat.reduceEqDiff, reduceIte, Nat.reduceAdd, Int.toNat_natCast, Nat.add_zero, Owes_true, e9]), (by omega)⟩
  have O7 := O5.keep g57.1
  have i0 := O7.cell (o := 0) rfl rfl
  have i1 := O7.cell (o := 1) rfl rfl
  have i2 := O7.cell (o := 2) rfl rfl
  have i3 := O7.cell (o := 3) rfl rfl
  have a07 := hcell w7 k7
  have hfd := findsR_ok hb T tl tf p q a c _ _ w7 g7.2 (hs.grown gW7) (hrow5.grown g57) (hy.grown ⟨k7, g7.2⟩)
  unfold audC at hfd
  simp -dsimp -implicitDefEqProofs (maxSteps := 2000000) (disch := first | assumption | omega | (simp only [nx]; omega) | ((repeat refine Fresh.push ?_ _); assumption) | (simp only [smA]; done) | (simp [oneCell, AW.next_push]; done) | fail) only [go_sem, Nat.reduceEqDiff, reduceIte, Nat.reduceAdd, Int.toNat_natCast, Nat.add_zero, Owes_true, Try.results27, e1, e6, e7, e8, e9, hle7, hco, hlt, hjlt, indexV_eq, a07, i0, i1, i2, i3, Nat.zero_add]
  apply callV_of (e := rfl)
  · exact hfd
  rintro _ w8 ⟨rfl, g8⟩
  have hle8 : WLe w7 w8 := g8.1.wle g7.2
  have g58 := g57.trans g8
  have k8 : Keep w4.next w4 w8 := k5.trans (g58.1.mono k5.next)
  have a08 := hcell w8 k8
  cases hfb : findsB A T with
  | false =>
    rw [hfb, if_neg (fun z => by cases z.2)] at hLF
    simp -dsimp -implicitDefEqProofs (maxSteps := 2000000) (disch := first | assumption | omega | (simp only [nx]; omega) | ((repeat refine Fresh.push ?_ _); assumption) | (simp only [smA]; done) | (simp [oneCell, AW.next_push]; done) | fail) only [go_sem, Nat.reduceEqDiff, reduceIte, Nat.reduceAdd, Int.toNat_natCast, Nat.add_zero, Owes_true, Try.results27, e1, e6, e7, e8, e9, hle8, hfb]
    refine ⟨_, by omega, i + 1, by omega, rfl, rfl, by (simp -dsimp -implicitDefEqProofs (maxSteps := 2000000) (disch := first | assumption | omega | (simp only [nx]; omega) | ((repeat refine Fresh.push ?_ _); assumption) | (simp only [smA]; done) | (simp [oneCell, AW.next_push]; done) | fail) only [go_sem, Nat.reduceEqDiff, reduceIte, Nat.reduceAdd, Int.toNat_natCast, Nat.add_zero, Owes_true, e1]; try rfl), by (simp -dsimp -implicitDefEqProofs (maxSteps := 2000000) (disch := first | assumption | omega | (simp only [nx]; omega) | ((repeat refine Fresh.push ?_ _); assumption) | (simp only [smA]; done) | (simp [oneCell, AW.next_push]; done) | fail) only [go_sem, Nat.reduceEqDiff, reduceIte, Nat.reduceAdd, Int.toNat_natCast, Nat.add_zero, Owes_true, e6]; try rfl), by (simp -dsimp -implicitDefEqProofs (maxSteps := 2000000) (disch := first | assumption | omega | (simp only [nx]; omega) | ((repeat refine Fresh.push ?_ _); assumption) | (simp only [smA]; done) | (simp [oneCell, AW.next_push]; done) | fail) only [go_sem, Nat.reduceEqDiff, reduceIte, Nat.reduceAdd, Int.toNat_natCast, Nat.add_zero, Owes_true, e7]; try rfl), .slice pB B.length cB, (by simp -dsimp -implicitDefEqProofs (maxSteps := 2000000) (disch := first | assumption | omega | (simp only [nx]; omega) | ((repeat refine Fresh.push ?_ _); assumption) | (simp only [smA]; done) | (simp [oneCell, AW.next_push]; done) | fail) only [go_sem, Nat.reduceEqDiff, reduceIte, Nat.reduceAdd, Int.toNat_natCast, Nat.add_zero, Owes_true, e8]), (by rw [hLF]; exact hR.grown g58), k8, g8.2, (j : Int) - 1, (by simp -dsimp -implicitDefEqProofs (maxSteps := 2000000) (disch := first | assumption | omega | (simp only [nx]; omega) | ((repeat refine Fresh.push ?_ _); assumption) | (simp only [smA]; done) | (simp [oneCell, AW.next_push]; done) | fail) only [go_sem, Nat.reduceEqDiff, reduceIte, Nat.reduceAdd, Int.toNat_natCast, Nat.add_zero, Owes_true, e9]), (by omega)⟩
  | true =>
    rw [hfb, if_pos ⟨hco, rfl⟩] at hLF
    simp -dsimp -implicitDefEqProofs (maxSteps := 2000000) (disch := first | assumption | omega | (simp only [nx]; omega) | ((repeat refine Fresh.push ?_ _); assumption) | (simp only [smA]; done) | (simp [oneCell, AW.next_push]; done) | fail) only [go_sem, Nat.reduceEqDiff, reduceIte, Nat.reduceAdd, Int.toNat_natCast, Nat.add_zero, Owes_true, Try.results27, e1, e6, e7, e8, e9, hle8, hfb, hjlt, indexV_eq, a08]
    refine ⟨_, by omega, i + 1, by omega, rfl, rfl, by (simp -dsimp -implicitDefEqProofs (maxSteps := 2000000) (disch := first | assumption | omega | (simp only [nx]; omega) | ((repeat refine Fresh.push ?_ _); assumption) | (simp only [smA]; done) | (simp [oneCell, AW.next_push]; done) | fail) only [go_sem, Nat.reduceEqDiff, reduceIte, Nat.reduceAdd, Int.toNat_natCast, Nat.add_zero, Owes_true, e1]; try rfl), by (simp -dsimp -implicitDefEqProofs (maxSteps := 2000000) (disch := first | assumption | omega | (simp only [nx]; omega) | ((repeat refine Fresh.push ?_ _); assumption) | (simp only [smA]; done) | (simp [oneCell, AW.next_push]; done) | fail) only [go_sem, Nat.reduceEqDiff, reduceIte, Nat.reduceAdd, Int.toNat_natCast, Nat.add_zero, Owes_true, e6]; try rfl), by (simp -dsimp -implicitDefEqProofs (maxSteps := 2000000) (disch := first | assumption | omega | (simp only [nx]; omega) | ((repeat refine Fresh.push ?_ _); assumption) | (simp only [smA]; done) | (simp [oneCell, AW.next_push]; done) | fail) only [go_sem, Nat.reduceEqDiff, reduceIte, Nat.reduceAdd, Int.toNat_natCast, Nat.add_zero, Owes_true, e7]; try rfl), .slice pu T.length cu, (by simp -dsimp -implicitDefEqProofs (maxSteps := 2000000) (disch := first | assumption | omega | (simp only [nx]; omega) | ((repeat refine Fresh.push ?_ _); assumption) | (simp only [smA]; done) | (simp [oneCell, AW.next_push]; done) | fail) only [go_sem, Nat.reduceEqDiff, reduceIte, Nat.reduceAdd, Int.toNat_natCast, Nat.add_zero, Owes_true]), (by rw [hLF]; exact hrow5.grown g58), k8, g8.2, (j : Int) - 1, (by simp -dsimp -implicitDefEqProofs (maxSteps := 2000000) (disch := first | assumption | omega | (simp only [nx]; omega) | ((repeat refine Fresh.push ?_ _); assumption) | (simp only [smA]; done) | (simp [oneCell, AW.next_push]; done) | fail) only [go_sem, Nat.reduceEqDiff, reduceIte, Nat.reduceAdd, Int.toNat_natCast, Nat.add_zero, Owes_true, e9]), (by omega)⟩
end Go.Proofs
