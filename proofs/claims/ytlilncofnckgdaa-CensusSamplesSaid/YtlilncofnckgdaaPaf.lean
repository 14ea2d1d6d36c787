/- This program: its code, contracts, numbers, part 6. -/
import Derived.Test.YtlilncofnckgdaaPae
import Derived.Test.YtlilncofnckgdaaPad
import Derived.Test.YtlilncofnckgdaaPaa
import Derived.Test.YtlilncofnckgdaaNc
import Derived.Test.YtlilncofnckgdaaRows
import Derived.ProofKit
import Derived.SizedLaws
set_option linter.unusedVariables false
set_option linter.unusedSimpArgs false
namespace Go.Proofs
open Go Go.RowKit Go.Sim
set_option maxRecDepth 100000
theorem chs_step {n m j : Nat} (h1 : m ≤ n) (h2 : n < 9) (h3 : j < m) : chs (n - m + j) j * (n - m + j + 1) / (j + 1) = chs (n - m + j + 1) (j + 1) := by
  have : ∀ n, n < 9 → ∀ m, m < 9 → m ≤ n → ∀ j, j < 9 → j < m → chs (n - m + j) j * (n - m + j + 1) / (j + 1) = chs (n - m + j + 1) (j + 1) := by decide +kernel
  exact this n h2 m (by omega) h1 j (by omega) h3
theorem C_ok {n m : Nat} (hn : n < 9) (hm : m < 9) (w : AW) : CallT Try.prog Try.T1 (.fn (.func 107) #[]) #[.int .i64 (n : Int), .int .i64 (m : Int)] w (Ret (.int .i64 (chs n m : Int)) fun w' => w = w') := by
  have hm0 : ¬ (m : Int) < 0 := by omega
  refine callT_code rfl Try.func107 rfl Try.s107_eq rfl ?_
  unfold Try.s107
  by_cases hgt : (m : Int) > (n : Int)
  · simp -dsimp -implicitDefEqProofs (maxSteps := 2000000) (disch := first | assumption | omega | (simp only [nx]; omega) | ((repeat refine Fresh.push ?_ _); assumption) | (simp only [smA]; done) | (simp [oneCell, AW.next_push]; done) | fail) only [go_sem, Nat.reduceEqDiff, reduceIte, Nat.reduceAdd, Int.toNat_natCast, Nat.add_zero, Owes_true, Try.results107, hm0, hgt]
    rw [chs_zero hm (by omega)]
    exact ⟨rfl, rfl⟩
  simp -dsimp -implicitDefEqProofs (maxSteps := 2000000) (disch := first | assumption | omega | (simp only [nx]; omega) | ((repeat refine Fresh.push ?_ _); assumption) | (simp only [smA]; done) | (simp [oneCell, AW.next_push]; done) | fail) only [go_sem, Nat.reduceEqDiff, reduceIte, Nat.reduceAdd, Int.toNat_natCast, Nat.add_zero, Owes_true, Try.results107, hm0, hgt]
  have hc0 : (chs (n - m) 0 : Int) = 1 := by cases (n - m) <;> rfl
  refine loopR (fun k t ds w1 => ∃ j : Nat, j ≤ m ∧ k = m - j ∧ ds = [] ∧ ev t (.tmp 0) = .int .i64 (n : Int) ∧ ev t (.tmp 1) = .int .i64 (m : Int) ∧ ev t (.tmp 5) = .int .i64 (chs (n - m + j) j : Int) ∧ ev t (.tmp 6) = .int .i64 ((j : Int) + 1) ∧ w = w1) (m) ?_ ?_
  · refine ⟨0, by omega, by omega, rfl, ?_, ?_, ?_, ?_, rfl⟩ <;> simp -dsimp -implicitDefEqProofs (maxSteps := 2000000) (disch := first | assumption | omega | (simp only [nx]; omega) | ((repeat refine Fresh.push ?_ _); assumption) | (simp only [smA]; done) | (simp [oneCell, AW.next_push]; done) | fail) only [go_sem, Nat.reduceEqDiff, reduceIte, Nat.reduceAdd, Int.toNat_natCast, Nat.add_zero, Owes_true, hc0] <;> rfl
  rintro k t ds w1 ⟨j, hij, rfl, rfl, e0, e1, e5, e6, hw⟩
  subst hw
  by_cases hlt : (j : Int) + 1 ≤ (m : Int)
  case neg =>
    obtain rfl : j = m := by omega
    have e : n - j + j = n := by omega
    rw [e] at e5
    simp -dsimp -implicitDefEqProofs (maxSteps := 2000000) (disch := first | assumption | omega | (simp only [nx]; omega) | ((repeat refine Fresh.push ?_ _); assumption) | (simp only [smA]; done) | (simp [oneCell, AW.next_push]; done) | fail) only [go_sem, Nat.reduceEqDiff, reduceIte, Nat.reduceAdd, Int.toNat_natCast, Nat.add_zero, Owes_true, Try.results107, e0, e1, e5, e6, hlt]
    exact ⟨rfl, rfl⟩
  have hst := chs_step (n := n) (m := m) (j := j) (by omega) hn (by omega)
  have hb := chs_le (n := n - m + j) (k := j) (by omega) (by omega)
  have hb2 := chs_le (n := n - m + (j + 1)) (k := j + 1) (by omega) (by omega)
  have hj0 : ¬ (j : Int) + 1 = 0 := by omega
  have hq : ((chs (n - m + j) j : Int) * ((n : Int) - (m : Int) + ((j : Int) + 1))).tdiv ((j : Int) + 1) = (chs (n - m + (j + 1)) (j + 1) : Int) := by
    have e1 : (n : Int) - (m : Int) + ((j : Int) + 1) = ((n - m + j + 1 : Nat) : Int) := by omega
    have e2 : (j : Int) + 1 = ((j + 1 : Nat) : Int) := by omega
    rw [e1, e2, ← Int.natCast_mul, ← Int.ofNat_tdiv, hst]
    rfl
  have hmul : (chs (n - m + j) j : Int) * ((n : Int) - (m : Int) + ((j : Int) + 1)) ≤ 70 * 9 := Int.mul_le_mul (by omega) (by omega) (by omega) (by omega)
  have hmul0 : 0 ≤ (chs (n - m + j) j : Int) * ((n : Int) - (m : Int) + ((j : Int) + 1)) := Int.mul_nonneg (by omega) (by omega)
  have hnx : (j : Int) + 1 + 1 = ((j + 1 : Nat) : Int) + 1 := by omega
  simp -dsimp -implicitDefEqProofs (maxSteps := 2000000) (disch := first | assumption | omega | (simp only [nx]; omega) | ((repeat refine Fresh.push ?_ _); assumption) | (simp only [smA]; done) | (simp [oneCell, AW.next_push]; done) | fail) only [go_sem, Nat.reduceEqDiff, reduceIte, Nat.reduceAdd, Int.toNat_natCast, Nat.add_zero, Owes_true, Try.results107, e0, e1, e5, e6, hlt, hj0, hq]
  refine ⟨_, by omega, j + 1, by omega, rfl, rfl, by (simp -dsimp -implicitDefEqProofs (maxSteps := 2000000) (disch := first | assumption | omega | (simp only [nx]; omega) | ((repeat refine Fresh.push ?_ _); assumption) | (simp only [smA]; done) | (simp [oneCell, AW.next_push]; done) | fail) only [go_sem, Nat.reduceEqDiff, reduceIte, Nat.reduceAdd, Int.toNat_natCast, Nat.add_zero, Owes_true, e0, hnx]; try rfl), by (simp -dsimp -implicitDefEqProofs (maxSteps := 2000000) (disch := first | assumption | omega | (simp only [nx]; omega) | ((repeat refine Fresh.push ?_ _); assumption) | (simp only [smA]; done) | (simp [oneCell, AW.next_push]; done) | fail) only [go_sem, Nat.reduceEqDiff, reduceIte, Nat.reduceAdd, Int.toNat_natCast, Nat.add_zero, Owes_true, e1, hnx]; try rfl), by (simp -dsimp -implicitDefEqProofs (maxSteps := 2000000) (disch := first | assumption | omega | (simp only [nx]; omega) | ((repeat refine Fresh.push ?_ _); assumption) | (simp only [smA]; done) | (simp [oneCell, AW.next_push]; done) | fail) only [go_sem, Nat.reduceEqDiff, reduceIte, Nat.reduceAdd, Int.toNat_natCast, Nat.add_zero, Owes_true, e5, hnx]; try rfl), by (simp -dsimp -implicitDefEqProofs (maxSteps := 2000000) (disch := first | assumption | omega | (simp only [nx]; omega) | ((repeat refine Fresh.push ?_ _); assumption) | (simp only [smA]; done) | (simp [oneCell, AW.next_push]; done) | fail) only [go_sem, Nat.reduceEqDiff, reduceIte, Nat.reduceAdd, Int.toNat_natCast, Nat.add_zero, Owes_true, e6, hnx]; try rfl), rfl⟩
def okE (S l : List Int) (i : Nat) : Bool := decide ((l.length : Int) = (S.length : Int)) && fitTo S l i
theorem okE_succ (S l : List Int) (i : Nat) : okE S l (i + 1) = (okE S l i && inR 0 (W l i) (W S i)) := by unfold okE; rw [fitTo_succ, Bool.and_assoc]
theorem okE_bad {S l : List Int} {i : Nat} (hi : i ≤ l.length) (h : okE S l i = false) : fitB S l = false := by
  unfold okE at h
  unfold fitB
  cases hl : decide ((l.length : Int) = (S.length : Int)) with
  | false => rfl
  | true =>
    rw [hl, Bool.true_and] at h
    rw [Bool.true_and]
    unfold fitTo at h ⊢
    rw [List.all_eq_false] at h ⊢
    obtain ⟨j, hj, hb⟩ := h
    exact ⟨j, by rw [List.mem_range] at hj ⊢; omega, hb⟩
set_option maxHeartbeats 8000000 in
theorem each_ok (A : AudN) (l : List Int) (p q : Option Addr) (a c : Nat) (v : Value) (w : AW) (f : Fresh w) (hs : ArrOf w 1 icells (.slice p A.st.length a) A.st) (hv : ArrOf w 1 icells v l) :
    CallT Try.prog Try.T1 (.fn (.func 62) #[]) #[.agg (audC p q a c A).toArray, v] w (Ret (.bool (fitB A.st l)) (Grown w)) := by
  have g1 := (Grown.refl f).push (.cells (audC p q a c A) 24 w.next 0 0)
  have O1 := Own.new f 24 (audC p q a c A)
  have c0 := O1.cell (o := 0) rfl rfl
  obtain ⟨pv, cv, rfl, _, _, hatP⟩ := hv.open
  obtain ⟨_, _, epd, _, _, hat⟩ := hs.open
  injection epd with epd1 epd2 epd3
  subst epd1 epd3
  have hz0 : okE A.st l 0 = decide ((l.length : Int) = (A.st.length : Int)) := by unfold okE fitTo; simp
  refine callT_code rfl Try.func62 rfl Try.s62_eq rfl ?_
  unfold Try.s62
  unfold audC at *
  simp -dsimp -implicitDefEqProofs (maxSteps := 2000000) (disch := first | assumption | omega | (simp only [nx]; omega) | ((repeat refine Fresh.push ?_ _); assumption) | (simp only [smA]; done) | (simp [oneCell, AW.next_push]; done) | fail) only [go_sem, Nat.reduceEqDiff, reduceIte, Nat.reduceAdd, Int.toNat_natCast, Nat.add_zero, Owes_true, Try.results62, c0, Nat.zero_add]
  rw [← hz0]
  generalize w.push (.cells [.slice p A.st.length a, .slice q A.co.length c, .int .i64 A.lost, .int .i64 A.sure] 24 w.next 0 0) = w2 at *
  refine loopR (fun k t ds w3 => ∃ i : Nat, i ≤ l.length ∧ k = l.length - i ∧ ds = [] ∧ ev t (.tmp 1) = .slice pv l.length cv ∧ ev t (.tmp 2) = .pointer (some ⟨w.next, 0, none⟩) ∧ ev t (.tmp 5) = .bool (okE A.st l i) ∧ ev t (.tmp 6) = .int .i64 (i : Int) ∧ w2 = w3) (l.length) ?_ ?_
  · refine ⟨0, by omega, by omega, rfl, ?_, ?_, ?_, ?_, rfl⟩ <;> simp -dsimp -implicitDefEqProofs (maxSteps := 2000000) (disch := first | assumption | omega | (simp only [nx]; omega) | ((repeat refine Fresh.push ?_ _); assumption) | (simp only [smA]; done) | (simp [oneCell, AW.next_push]; done) | fail) only [go_sem, Nat.reduceEqDiff, reduceIte, Nat.reduceAdd, Int.toNat_natCast, Nat.add_zero, Owes_true] <;> rfl
  rintro k t ds w3 ⟨i, hii, rfl, rfl, e1, e2, e5, e6, hw⟩
  subst hw
  cases hok : okE A.st l i with
  | false =>
    rw [hok] at e5
    simp -dsimp -implicitDefEqProofs (maxSteps := 2000000) (disch := first | assumption | omega | (simp only [nx]; omega) | ((repeat refine Fresh.push ?_ _); assumption) | (simp only [smA]; done) | (simp [oneCell, AW.next_push]; done) | fail) only [go_sem, Nat.reduceEqDiff, reduceIte, Nat.reduceAdd, Int.toNat_natCast, Nat.add_zero, Owes_true, Try.results62, e1, e2, e5, e6]
    exact ⟨by rw [okE_bad (by omega) hok], g1⟩
  | true =>
  rw [hok] at e5
  by_cases hlt : (i : Int) < (l.length : Int)
  case neg =>
    obtain rfl : i = l.length := by omega
    simp -dsimp -implicitDefEqProofs (maxSteps := 2000000) (disch := first | assumption | omega | (simp only [nx]; omega) | ((repeat refine Fresh.push ?_ _); assumption) | (simp only [smA]; done) | (simp [oneCell, AW.next_push]; done) | fail) only [go_sem, Nat.reduceEqDiff, reduceIte, Nat.reduceAdd, Int.toNat_natCast, Nat.add_zero, Owes_true, Try.results62, e1, e2, e5, e6, hlt]
    exact ⟨by rw [show fitB A.st l = okE A.st l l.length from rfl, hok], g1⟩
  have hlen : l.length = A.st.length := by
    unfold okE at hok
    rw [Bool.and_eq_true] at hok
    have := of_decide_eq_true hok.1
    omega
  have hlt' : i < l.length := by omega
  have hlt2 : (i : Int) < (A.st.length : Int) := by omega
  obtain ⟨b1, o1, rfl, hb1', hcell⟩ := hat i (by omega)
  obtain ⟨b2, o2, rfl, hb2', hcell2⟩ := hatP i hlt'
  have a0 := hcell w2 g1.1 0 _ rfl
  have a1 := hcell2 w2 g1.1 0 _ rfl
  rw [Nat.add_zero, ← W_at (by omega)] at a0
  rw [Nat.add_zero, ← W_at hlt'] at a1
  have hle : WLe w2 w2 := (Grown.refl g1.2).1.wle g1.2
  have hsu := okE_succ A.st l i
  rw [hok, Bool.true_and] at hsu
  simp -dsimp -implicitDefEqProofs (maxSteps := 2000000) (disch := first | assumption | omega | (simp only [nx]; omega) | ((repeat refine Fresh.push ?_ _); assumption) | (simp only [smA]; done) | (simp [oneCell, AW.next_push]; done) | fail) only [go_sem, Nat.reduceEqDiff, reduceIte, Nat.reduceAdd, Int.toNat_natCast, Nat.add_zero, Owes_true, Try.results62, e1, e2, e5, e6, hlt, hlt2, indexV_eq, a0, a1, c0, Nat.zero_add]
  apply callV_of (e := rfl)
  · exact From_ok _ _ _ _
  rintro _ _ ⟨rfl, rfl⟩
  simp -dsimp -implicitDefEqProofs (maxSteps := 2000000) (disch := first | assumption | omega | (simp only [nx]; omega) | ((repeat refine Fresh.push ?_ _); assumption) | (simp only [smA]; done) | (simp [oneCell, AW.next_push]; done) | fail) only [go_sem, Nat.reduceEqDiff, reduceIte, Nat.reduceAdd, Int.toNat_natCast, Nat.add_zero, Owes_true, Try.results62, e1, e2, e5, e6, hle]
  refine ⟨_, by omega, i + 1, by omega, rfl, rfl, by (simp -dsimp -implicitDefEqProofs (maxSteps := 2000000) (disch := first | assumption | omega | (simp only [nx]; omega) | ((repeat refine Fresh.push ?_ _); assumption) | (simp only [smA]; done) | (simp [oneCell, AW.next_push]; done) | fail) only [go_sem, Nat.reduceEqDiff, reduceIte, Nat.reduceAdd, Int.toNat_natCast, Nat.add_zero, Owes_true, e1, hsu]; try rfl), by (simp -dsimp -implicitDefEqProofs (maxSteps := 2000000) (disch := first | assumption | omega | (simp only [nx]; omega) | ((repeat refine Fresh.push ?_ _); assumption) | (simp only [smA]; done) | (simp [oneCell, AW.next_push]; done) | fail) only [go_sem, Nat.reduceEqDiff, reduceIte, Nat.reduceAdd, Int.toNat_natCast, Nat.add_zero, Owes_true, e2, hsu]; try rfl), by (simp -dsimp -implicitDefEqProofs (maxSteps := 2000000) (disch := first | assumption | omega | (simp only [nx]; omega) | ((repeat refine Fresh.push ?_ _); assumption) | (simp only [smA]; done) | (simp [oneCell, AW.next_push]; done) | fail) only [go_sem, Nat.reduceEqDiff, reduceIte, Nat.reduceAdd, Int.toNat_natCast, Nat.add_zero, Owes_true, e5, hsu]; try rfl), by (simp -dsimp -implicitDefEqProofs (maxSteps := 2000000) (disch := first | assumption | omega | (simp only [nx]; omega) | ((repeat refine Fresh.push ?_ _); assumption) | (simp only [smA]; done) | (simp [oneCell, AW.next_push]; done) | fail) only [go_sem, Nat.reduceEqDiff, reduceIte, Nat.reduceAdd, Int.toNat_natCast, Nat.add_zero, Owes_true, e6, hsu]; try rfl), rfl⟩
def audTo (A : AudN) (i : Nat) : Bool := (inR 1 A.st.length 4 && (decide ((A.co.length : Int) = (A.st.length : Int)) && inR 0 A.sure 1000)) && (List.range i).all fun j => inR 1 (W A.st j) 8 && inR 0 (W A.co j) 1000
theorem audTo_succ (A : AudN) (i : Nat) : audTo A (i + 1) = (audTo A i && (inR 1 (W A.st i) 8 && inR 0 (W A.co i) 1000)) := by
  unfold audTo; rw [List.range_succ, List.all_append, ← Bool.and_assoc]; simp
theorem all_range {L : List Int} (f : Int → Bool) : (List.range L.length).all (fun j => f (W L j)) = L.all f := by
  rw [Bool.eq_iff_iff, List.all_eq_true, List.all_eq_true]
  constructor
  · intro h x hx
    obtain ⟨i, hi, rfl⟩ := List.getElem_of_mem hx
    have := h i (List.mem_range.2 hi)
    rw [W_at hi] at this; exact this
  · intro h i hi
    rw [List.mem_range] at hi
    rw [W_at hi]
    exact h _ (List.getElem_mem hi)
theorem audTo_all (A : AudN) : (audTo A A.st.length && inR 1 A.lost A.st.sum) = audB A := by
  have hsplit : ((List.range A.st.length).all fun j => inR 1 (W A.st j) 8 && inR 0 (W A.co j) 1000) = ((List.range A.st.length).all (fun j => inR 1 (W A.st j) 8) && (List.range A.st.length).all fun j => inR 0 (W A.co j) 1000) := by
    rw [Bool.eq_iff_iff, Bool.and_eq_true, List.all_eq_true, List.all_eq_true, List.all_eq_true]
    constructor
    · intro h
      exact ⟨fun x hx => (Bool.and_eq_true _ _ ▸ h x hx).1, fun x hx => (Bool.and_eq_true _ _ ▸ h x hx).2⟩
    · intro h x hx
      rw [Bool.and_eq_true]; exact ⟨h.1 x hx, h.2 x hx⟩
  unfold audTo audB
  rw [hsplit, all_range (fun n => inR 1 n 8)]
  cases hd : decide ((A.co.length : Int) = (A.st.length : Int)) with
  | false => simp
  | true =>
    have hl : A.co.length = A.st.length := by have := of_decide_eq_true hd; omega
    rw [← hl, all_range (fun n => inR 0 n 1000)]
    cases inR 1 (A.co.length : Int) 4 <;> cases (A.st.all fun n => inR 1 n 8) <;> cases (A.co.all fun n => inR 0 n 1000) <;> cases inR 1 A.lost A.st.sum <;> cases inR 0 A.sure 1000 <;> rfl
theorem audTo_bad {A : AudN} {i : Nat} (hi : i ≤ A.st.length) (h : audTo A i = false) : audTo A A.st.length = false := by
  unfold audTo at h ⊢
  rw [Bool.and_eq_false_iff] at h ⊢
  rcases h with h | h
  · exact .inl h
  · right
    rw [List.all_eq_false] at h ⊢
    obtain ⟨j, hj, hb⟩ := h
    exact ⟨j, by rw [List.mem_range] at hj ⊢; omega, hb⟩
theorem audTo_small {A : AudN} (h : audTo A A.st.length = true) : smallL A.st := by
  unfold audTo at h
  rw [Bool.and_eq_true, Bool.and_eq_true, List.all_eq_true, inR_iff] at h
  refine ⟨fun x hx => ?_, by omega⟩
  obtain ⟨i, hi, rfl⟩ := List.getElem_of_mem hx
  have := h.2 i (List.mem_range.2 hi)
  rw [Bool.and_eq_true, inR_iff, W_at hi] at this
  omega
set_option maxHeartbeats 16000000 in
theorem CheckR_ok (A : AudN) (p q : Option Addr) (a c : Nat) (w : AW) (f : Fresh w) (hs : ArrOf w 1 icells (.slice p A.st.length a) A.st) (hc : ArrOf w 1 icells (.slice q A.co.length c) A.co) :
    CallT Try.prog Try.T1 (.fn (.func 19) #[]) #[.agg (audC p q a c A).toArray] w (Ret (.int .i64 (audE A)) (Grown w)) := by
  have g1 := (Grown.refl f).push (.cells (audC p q a c A) 24 w.next 0 0)
  have O1 := Own.new f 24 (audC p q a c A)
  have c0 := O1.cell (o := 0) rfl rfl
  have c1 := O1.cell (o := 1) rfl rfl
  have c2 := O1.cell (o := 2) rfl rfl
  have c3 := O1.cell (o := 3) rfl rfl
  have hsum := fun (w' : AW) (g' : Grown w w') => Sum_ok A.st _ w' (hs.grown g')
  obtain ⟨_, _, epd, _, _, hat⟩ := hs.open
  injection epd with epd1 epd2 epd3
  subst epd1 epd3
  obtain ⟨_, _, epd, _, _, hat2⟩ := hc.open
  injection epd with epd1 epd2 epd3
  subst epd1 epd3
  have hz : audTo A 0 = (inR 1 A.st.length 4 && (decide ((A.co.length : Int) = (A.st.length : Int)) && inR 0 A.sure 1000)) := by unfold audTo; simp
  refine callT_code rfl Try.func19 rfl Try.s19_eq rfl ?_
  unfold Try.s19
  unfold audC at *
  simp -dsimp -implicitDefEqProofs (maxSteps := 2000000) (disch := first | assumption | omega | (simp only [nx]; omega) | ((repeat refine Fresh.push ?_ _); assumption) | (simp only [smA]; done) | (simp [oneCell, AW.next_push]; done) | fail) only [go_sem, Nat.reduceEqDiff, reduceIte, Nat.reduceAdd, Int.toNat_natCast, Nat.add_zero, Owes_true, Try.results19, c0, Nat.zero_add]
  generalize w.push (.cells [.slice p A.st.length a, .slice q A.co.length c, .int .i64 A.lost, .int .i64 A.sure] 24 w.next 0 0) = w2 at *
  apply callV_of (e := rfl)
  · exact From_ok _ _ _ _
  rintro _ _ ⟨rfl, rfl⟩
  apply joinC (F := fun t => ev t (.tmp 1) = .pointer (some ⟨w.next, 0, none⟩) ∧ ev t (.tmp 3) = .bool (audTo A 0)) (w := w2)
  case mainC =>
    intro go
    cases h1 : inR 1 (A.st.length : Int) 4 with
    | false =>
      have e : audTo A 0 = false := by rw [hz, h1]; rfl
      simp -dsimp -implicitDefEqProofs (maxSteps := 2000000) (disch := first | assumption | omega | (simp only [nx]; omega) | ((repeat refine Fresh.push ?_ _); assumption) | (simp only [smA]; done) | (simp [oneCell, AW.next_push]; done) | fail) only [go_sem, Nat.reduceEqDiff, reduceIte, Nat.reduceAdd, Int.toNat_natCast, Nat.add_zero, Owes_true, Try.results19]
      exact joinC_use go ⟨by (simp -dsimp -implicitDefEqProofs (maxSteps := 2000000) (disch := first | assumption | omega | (simp only [nx]; omega) | ((repeat refine Fresh.push ?_ _); assumption) | (simp only [smA]; done) | (simp [oneCell, AW.next_push]; done) | fail) only [go_sem, Nat.reduceEqDiff, reduceIte, Nat.reduceAdd, Int.toNat_natCast, Nat.add_zero, Owes_true]; try rfl), by (simp -dsimp -implicitDefEqProofs (maxSteps := 2000000) (disch := first | assumption | omega | (simp only [nx]; omega) | ((repeat refine Fresh.push ?_ _); assumption) | (simp only [smA]; done) | (simp [oneCell, AW.next_push]; done) | fail) only [go_sem, Nat.reduceEqDiff, reduceIte, Nat.reduceAdd, Int.toNat_natCast, Nat.add_zero, Owes_true, e]; try rfl)⟩
    | true =>
    by_cases hl : (A.co.length : Int) = (A.st.length : Int)
    case neg =>
      have hd : decide ((A.co.length : Int) = (A.st.length : Int)) = false := decide_eq_false hl
      have e : audTo A 0 = false := by rw [hz, hd]; simp
      simp -dsimp -implicitDefEqProofs (maxSteps := 2000000) (disch := first | assumption | omega | (simp only [nx]; omega) | ((repeat refine Fresh.push ?_ _); assumption) | (simp only [smA]; done) | (simp [oneCell, AW.next_push]; done) | fail) only [go_sem, Nat.reduceEqDiff, reduceIte, Nat.reduceAdd, Int.toNat_natCast, Nat.add_zero, Owes_true, Try.results19, c0, c1, hd, Nat.zero_add]
      exact joinC_use go ⟨by (simp -dsimp -implicitDefEqProofs (maxSteps := 2000000) (disch := first | assumption | omega | (simp only [nx]; omega) | ((repeat refine Fresh.push ?_ _); assumption) | (simp only [smA]; done) | (simp [oneCell, AW.next_push]; done) | fail) only [go_sem, Nat.reduceEqDiff, reduceIte, Nat.reduceAdd, Int.toNat_natCast, Nat.add_zero, Owes_true]; try rfl), by (simp -dsimp -implicitDefEqProofs (maxSteps := 2000000) (disch := first | assumption | omega | (simp only [nx]; omega) | ((repeat refine Fresh.push ?_ _); assumption) | (simp only [smA]; done) | (simp [oneCell, AW.next_push]; done) | fail) only [go_sem, Nat.reduceEqDiff, reduceIte, Nat.reduceAdd, Int.toNat_natCast, Nat.add_zero, Owes_true, e]; try rfl)⟩
    have hd : decide ((A.co.length : Int) = (A.st.length : Int)) = true := decide_eq_true hl
    simp -dsimp -implicitDefEqProofs (maxSteps := 2000000) (disch := first | assumption | omega | (simp only [nx]; omega) | ((repeat refine Fresh.push ?_ _); assumption) | (simp only [smA]; done) | (simp [oneCell, AW.next_push]; done) | fail) only [go_sem, Nat.reduceEqDiff, reduceIte, Nat.reduceAdd, Int.toNat_natCast, Nat.add_zero, Owes_true, Try.results19, c0, c1, c3, hd, Nat.zero_add]
    apply callV_of (e := rfl)
    · exact From_ok _ _ _ _
    rintro _ _ ⟨rfl, rfl⟩
    have e : audTo A 0 = inR 0 A.sure 1000 := by rw [hz, h1, hd]; rfl
    simp -dsimp -implicitDefEqProofs (maxSteps := 2000000) (disch := first | assumption | omega | (simp only [nx]; omega) | ((repeat refine Fresh.push ?_ _); assumption) | (simp only [smA]; done) | (simp [oneCell, AW.next_push]; done) | fail) only [go_sem, Nat.reduceEqDiff, reduceIte, Nat.reduceAdd, Int.toNat_natCast, Nat.add_zero, Owes_true, Try.results19]
    exact joinC_use go ⟨by (simp -dsimp -implicitDefEqProofs (maxSteps := 2000000) (disch := first | assumption | omega | (simp only [nx]; omega) | ((repeat refine Fresh.push ?_ _); assumption) | (simp only [smA]; done) | (simp [oneCell, AW.next_push]; done) | fail) only [go_sem, Nat.reduceEqDiff, reduceIte, Nat.reduceAdd, Int.toNat_natCast, Nat.add_zero, Owes_true]; try rfl), by (simp -dsimp -implicitDefEqProofs (maxSteps := 2000000) (disch := first | assumption | omega | (simp only [nx]; omega) | ((repeat refine Fresh.push ?_ _); assumption) | (simp only [smA]; done) | (simp [oneCell, AW.next_push]; done) | fail) only [go_sem, Nat.reduceEqDiff, reduceIte, Nat.reduceAdd, Int.toNat_natCast, Nat.add_zero, Owes_true, e]; try rfl)⟩
  case restC =>
  rintro t ⟨e1, e3⟩
  unfold Try.s19_c4
  simp -dsimp -implicitDefEqProofs (maxSteps := 2000000) (disch := first | assumption | omega | (simp only [nx]; omega) | ((repeat refine Fresh.push ?_ _); assumption) | (simp only [smA]; done) | (simp [oneCell, AW.next_push]; done) | fail) only [go_sem, Nat.reduceEqDiff, reduceIte, Nat.reduceAdd, Int.toNat_natCast, Nat.add_zero, Owes_true, Try.results19, e1, e3]
  refine loopR (fun k t ds w3 => ∃ i : Nat, i ≤ A.st.length ∧ k = A.st.length - i ∧ ds = [] ∧ ev t (.tmp 1) = .pointer (some ⟨w.next, 0, none⟩) ∧ ev t (.tmp 3) = .bool (audTo A i) ∧ ev t (.tmp 4) = .int .i64 (i : Int) ∧ w2 = w3) (A.st.length) ?_ ?_
  · refine ⟨0, by omega, by omega, rfl, ?_, ?_, ?_, rfl⟩ <;> simp -dsimp -implicitDefEqProofs (maxSteps := 2000000) (disch := first | assumption | omega | (simp only [nx]; omega) | ((repeat refine Fresh.push ?_ _); assumption) | (simp only [smA]; done) | (simp [oneCell, AW.next_push]; done) | fail) only [go_sem, Nat.reduceEqDiff, reduceIte, Nat.reduceAdd, Int.toNat_natCast, Nat.add_zero, Owes_true, e1, e3] <;> rfl
  rintro k t ds w3 ⟨i, hii, rfl, rfl, e1, e3, e4, hw⟩
  subst hw
  cases hok : audTo A i with
  | false =>
    rw [hok] at e3
    have hB : audB A = false := by rw [← audTo_all, audTo_bad (by omega) hok]; rfl
    have hE : audE A = 100 := by unfold audE; rw [hB]; rfl
    rw [hE]
    simp -dsimp -implicitDefEqProofs (maxSteps := 2000000) (disch := first | assumption | omega | (simp only [nx]; omega) | ((repeat refine Fresh.push ?_ _); assumption) | (simp only [smA]; done) | (simp [oneCell, AW.next_push]; done) | fail) only [go_sem, Nat.reduceEqDiff, reduceIte, Nat.reduceAdd, Int.toNat_natCast, Nat.add_zero, Owes_true, Try.results19, e1, e3, e4]
    unfold Try.s19_c47
    simp -dsimp -implicitDefEqProofs (maxSteps := 2000000) (disch := first | assumption | omega | (simp only [nx]; omega) | ((repeat refine Fresh.push ?_ _); assumption) | (simp only [smA]; done) | (simp [oneCell, AW.next_push]; done) | fail) only [go_sem, Nat.reduceEqDiff, reduceIte, Nat.reduceAdd, Int.toNat_natCast, Nat.add_zero, Owes_true, Try.results19, e1, e3, e4]
    exact ⟨rfl, g1⟩
  | true =>
  rw [hok] at e3
  have hle : WLe w2 w2 := (Grown.refl g1.2).1.wle g1.2
  by_cases hlt : (i : Int) < (A.st.length : Int)
  case neg =>
    obtain rfl : i = A.st.length := by omega
    simp -dsimp -implicitDefEqProofs (maxSteps := 2000000) (disch := first | assumption | omega | (simp only [nx]; omega) | ((repeat refine Fresh.push ?_ _); assumption) | (simp only [smA]; done) | (simp [oneCell, AW.next_push]; done) | fail) only [go_sem, Nat.reduceEqDiff, reduceIte, Nat.reduceAdd, Int.toNat_natCast, Nat.add_zero, Owes_true, Try.results19, e1, e3, e4, hlt, c0, Nat.zero_add]
    unfold Try.s19_c47
    simp -dsimp -implicitDefEqProofs (maxSteps := 2000000) (disch := first | assumption | omega | (simp only [nx]; omega) | ((repeat refine Fresh.push ?_ _); assumption) | (simp only [smA]; done) | (simp [oneCell, AW.next_push]; done) | fail) only [go_sem, Nat.reduceEqDiff, reduceIte, Nat.reduceAdd, Int.toNat_natCast, Nat.add_zero, Owes_true, Try.results19, e1, e3, e4, hlt, c0, c2, Nat.zero_add]
    apply callV_of (e := rfl)
    · exact hsum w2 g1
    rintro _ _ ⟨rfl, s, rfl, hsm⟩
    obtain rfl := hsm (audTo_small hok)
    simp -dsimp -implicitDefEqProofs (maxSteps := 2000000) (disch := first | assumption | omega | (simp only [nx]; omega) | ((repeat refine Fresh.push ?_ _); assumption) | (simp only [smA]; done) | (simp [oneCell, AW.next_push]; done) | fail) only [go_sem, Nat.reduceEqDiff, reduceIte, Nat.reduceAdd, Int.toNat_natCast, Nat.add_zero, Owes_true, Try.results19, hle]
    apply callV_of (e := rfl)
    · exact From_ok _ _ _ _
    rintro _ _ ⟨rfl, rfl⟩
    have hB : audB A = inR 1 A.lost A.st.sum := by rw [← audTo_all, hok]; rfl
    cases hin : inR 1 A.lost A.st.sum with
    | false =>
      have hE : audE A = 100 := by unfold audE; rw [hB, hin]; rfl
      rw [hE]
      simp -dsimp -implicitDefEqProofs (maxSteps := 2000000) (disch := first | assumption | omega | (simp only [nx]; omega) | ((repeat refine Fresh.push ?_ _); assumption) | (simp only [smA]; done) | (simp [oneCell, AW.next_push]; done) | fail) only [go_sem, Nat.reduceEqDiff, reduceIte, Nat.reduceAdd, Int.toNat_natCast, Nat.add_zero, Owes_true, Try.results19, hle]
      exact ⟨rfl, g1⟩
    | true =>
      have hE : audE A = 0 := by unfold audE; rw [hB, hin]; rfl
      rw [hE]
      simp -dsimp -implicitDefEqProofs (maxSteps := 2000000) (disch := first | assumption | omega | (simp only [nx]; omega) | ((repeat refine Fresh.push ?_ _); assumption) | (simp only [smA]; done) | (simp [oneCell, AW.next_push]; done) | fail) only [go_sem, Nat.reduceEqDiff, reduceIte, Nat.reduceAdd, Int.toNat_natCast, Nat.add_zero, Owes_true, Try.results19, hle]
      exact ⟨rfl, g1⟩
  have hlen : A.co.length = A.st.length := by
    unfold audTo at hok
    rw [Bool.and_eq_true, Bool.and_eq_true, Bool.and_eq_true] at hok
    have := of_decide_eq_true hok.1.2.1
    omega
  have hlt' : i < A.st.length := by omega
  have hlt2 : (i : Int) < (A.co.length : Int) := by omega
  obtain ⟨b1, o1, rfl, hb1', hcell⟩ := hat i hlt'
  obtain ⟨b2, o2, rfl, hb2', hcell2⟩ := hat2 i (by omega)
  have a0 := hcell w2 g1.1 0 _ rfl
  have a1 := hcell2 w2 g1.1 0 _ rfl
  rw [Nat.add_zero, ← W_at hlt'] at a0
  rw [Nat.add_zero, ← W_at (by omega)] at a1
  have hsu := audTo_succ A i
  rw [hok, Bool.true_and] at hsu
  simp -dsimp -implicitDefEqProofs (maxSteps := 2000000) (disch := first | assumption | omega | (simp only [nx]; omega) | ((repeat refine Fresh.push ?_ _); assumption) | (simp only [smA]; done) | (simp [oneCell, AW.next_push]; done) | fail) only [go_sem, Nat.reduceEqDiff, reduceIte, Nat.reduceAdd, Int.toNat_natCast, Nat.add_zero, Owes_true, Try.results19, e1, e3, e4, hlt, indexV_eq, a0, c0, Nat.zero_add]
  apply callV_of (e := rfl)
  · exact From_ok _ _ _ _
  rintro _ _ ⟨rfl, rfl⟩
  cases hin : inR 1 (W A.st i) 8 with
  | false =>
    rw [hin, Bool.false_and] at hsu
    simp -dsimp -implicitDefEqProofs (maxSteps := 2000000) (disch := first | assumption | omega | (simp only [nx]; omega) | ((repeat refine Fresh.push ?_ _); assumption) | (simp only [smA]; done) | (simp [oneCell, AW.next_push]; done) | fail) only [go_sem, Nat.reduceEqDiff, reduceIte, Nat.reduceAdd, Int.toNat_natCast, Nat.add_zero, Owes_true, Try.results19, e1, e3, e4]
    refine ⟨_, by omega, i + 1, by omega, rfl, rfl, by (simp -dsimp -implicitDefEqProofs (maxSteps := 2000000) (disch := first | assumption | omega | (simp only [nx]; omega) | ((repeat refine Fresh.push ?_ _); assumption) | (simp only [smA]; done) | (simp [oneCell, AW.next_push]; done) | fail) only [go_sem, Nat.reduceEqDiff, reduceIte, Nat.reduceAdd, Int.toNat_natCast, Nat.add_zero, Owes_true, e1, hsu]; try rfl), by (simp -dsimp -implicitDefEqProofs (maxSteps := 2000000) (disch := first | assumption | omega | (simp only [nx]; omega) | ((repeat refine Fresh.push ?_ _); assumption) | (simp only [smA]; done) | (simp [oneCell, AW.next_push]; done) | fail) only [go_sem, Nat.reduceEqDiff, reduceIte, Nat.reduceAdd, Int.toNat_natCast, Nat.add_zero, Owes_true, e3, hsu]; try rfl), by (simp -dsimp -implicitDefEqProofs (maxSteps := 2000000) (disch := first | assumption | omega | (simp only [nx]; omega) | ((repeat refine Fresh.push ?_ _); assumption) | (simp only [smA]; done) | (simp [oneCell, AW.next_push]; done) | fail) only [go_sem, Nat.reduceEqDiff, reduceIte, Nat.reduceAdd, Int.toNat_natCast, Nat.add_zero, Owes_true, e4, hsu]; try rfl), rfl⟩
  | true =>
  rw [hin, Bool.true_and] at hsu
  simp -dsimp -implicitDefEqProofs (maxSteps := 2000000) (disch := first | assumption | omega | (simp only [nx]; omega) | ((repeat refine Fresh.push ?_ _); assumption) | (simp only [smA]; done) | (simp [oneCell, AW.next_push]; done) | fail) only [go_sem, Nat.reduceEqDiff, reduceIte, Nat.reduceAdd, Int.toNat_natCast, Nat.add_zero, Owes_true, Try.results19, e1, e3, e4, hlt2, indexV_eq, a1, c1, Nat.zero_add]
  apply callV_of (e := rfl)
  · exact From_ok _ _ _ _
  rintro _ _ ⟨rfl, rfl⟩
  simp -dsimp -implicitDefEqProofs (maxSteps := 2000000) (disch := first | assumption | omega | (simp only [nx]; omega) | ((repeat refine Fresh.push ?_ _); assumption) | (simp only [smA]; done) | (simp [oneCell, AW.next_push]; done) | fail) only [go_sem, Nat.reduceEqDiff, reduceIte, Nat.reduceAdd, Int.toNat_natCast, Nat.add_zero, Owes_true, Try.results19, e1, e3, e4]
  refine ⟨_, by omega, i + 1, by omega, rfl, rfl, by (simp -dsimp -implicitDefEqProofs (maxSteps := 2000000) (disch := first | assumption | omega | (simp only [nx]; omega) | ((repeat refine Fresh.push ?_ _); assumption) | (simp only [smA]; done) | (simp [oneCell, AW.next_push]; done) | fail) only [go_sem, Nat.reduceEqDiff, reduceIte, Nat.reduceAdd, Int.toNat_natCast, Nat.add_zero, Owes_true, e1, hsu]; try rfl), by (simp -dsimp -implicitDefEqProofs (maxSteps := 2000000) (disch := first | assumption | omega | (simp only [nx]; omega) | ((repeat refine Fresh.push ?_ _); assumption) | (simp only [smA]; done) | (simp [oneCell, AW.next_push]; done) | fail) only [go_sem, Nat.reduceEqDiff, reduceIte, Nat.reduceAdd, Int.toNat_natCast, Nat.add_zero, Owes_true, e3, hsu]; try rfl), by (simp -dsimp -implicitDefEqProofs (maxSteps := 2000000) (disch := first | assumption | omega | (simp only [nx]; omega) | ((repeat refine Fresh.push ?_ _); assumption) | (simp only [smA]; done) | (simp [oneCell, AW.next_push]; done) | fail) only [go_sem, Nat.reduceEqDiff, reduceIte, Nat.reduceAdd, Int.toNat_natCast, Nat.add_zero, Owes_true, e4, hsu]; try rfl), rfl⟩
theorem asked_ok (A : AudN) (P : List Int) (p q : Option Addr) (a c : Nat) (v : Value) (w : AW) (f : Fresh w) (hs : ArrOf w 1 icells (.slice p A.st.length a) A.st) (hc : ArrOf w 1 icells (.slice q A.co.length c) A.co) (hv : ArrOf w 1 icells v P) :
    CallT Try.prog Try.T1 (.fn (.func 61) #[]) #[.agg (audC p q a c A).toArray, v] w (Ret (.int .i64 (samE A P)) (Grown w)) := by
  obtain ⟨pv, cv, rfl, _⟩ := id hv.open
  have g1 := (Grown.refl f).push (.cells (audC p q a c A) 24 w.next 0 0)
  have O1 := Own.new f 24 (audC p q a c A)
  have hck := CheckR_ok A p q a c _ g1.2 (hs.grown g1) (hc.grown g1)
  refine callT_code rfl Try.func61 rfl Try.s61_eq rfl ?_
  unfold Try.s61
  unfold audC at *
  simp -dsimp -implicitDefEqProofs (maxSteps := 2000000) (disch := first | assumption | omega | (simp only [nx]; omega) | ((repeat refine Fresh.push ?_ _); assumption) | (simp only [smA]; done) | (simp [oneCell, AW.next_push]; done) | fail) only [go_sem, Nat.reduceEqDiff, reduceIte, Nat.reduceAdd, Int.toNat_natCast, Nat.add_zero, Owes_true, Try.results61]
  apply callV_of (e := rfl)
  · exact hck
  rintro _ w2 ⟨rfl, g2⟩
  have gg2 := g1.trans g2
  have O2 := O1.keep g2.1
  have c0 := O2.cell (o := 0) rfl rfl
  have c1 := O2.cell (o := 1) rfl rfl
  have c2 := O2.cell (o := 2) rfl rfl
  have c3 := O2.cell (o := 3) rfl rfl
  cases hA : audB A with
  | false =>
    have hE : audE A = 100 := by unfold audE; rw [hA]; rfl
    have hS : samE A P = 100 := by unfold samE; rw [hA]; rfl
    have d1 : decide ((100 : Int) = 0) = false := rfl
    rw [hE, hS]
    simp -dsimp -implicitDefEqProofs (maxSteps := 2000000) (disch := first | assumption | omega | (simp only [nx]; omega) | ((repeat refine Fresh.push ?_ _); assumption) | (simp only [smA]; done) | (simp [oneCell, AW.next_push]; done) | fail) only [go_sem, Nat.reduceEqDiff, reduceIte, Nat.reduceAdd, Int.toNat_natCast, Nat.add_zero, Owes_true, Try.results61, d1]
    exact ⟨rfl, gg2⟩
  | true =>
  have hE : audE A = 0 := by unfold audE; rw [hA]; rfl
  have d0 : decide ((0 : Int) = 0) = true := rfl
  have hea := each_ok A P p q a c _ w2 gg2.2 (hs.grown gg2) (hv.grown gg2)
  unfold audC at hea
  rw [hE]
  simp -dsimp -implicitDefEqProofs (maxSteps := 2000000) (disch := first | assumption | omega | (simp only [nx]; omega) | ((repeat refine Fresh.push ?_ _); assumption) | (simp only [smA]; done) | (simp [oneCell, AW.next_push]; done) | fail) only [go_sem, Nat.reduceEqDiff, reduceIte, Nat.reduceAdd, Int.toNat_natCast, Nat.add_zero, Owes_true, Try.results61, d0, c0, c1, c2, c3, Nat.zero_add]
  apply callV_of (e := rfl)
  · exact hea
  rintro _ w3 ⟨rfl, g3⟩
  cases hF : fitB A.st P with
  | false =>
    have hS : samE A P = 101 := by unfold samE; rw [hA, hF]; rfl
    simp -dsimp -implicitDefEqProofs (maxSteps := 2000000) (disch := first | assumption | omega | (simp only [nx]; omega) | ((repeat refine Fresh.push ?_ _); assumption) | (simp only [smA]; done) | (simp [oneCell, AW.next_push]; done) | fail) only [go_sem, Nat.reduceEqDiff, reduceIte, Nat.reduceAdd, Int.toNat_natCast, Nat.add_zero, Owes_true, Try.results61]
    exact ⟨by rw [hS], gg2.trans g3⟩
  | true =>
    have hS : samE A P = 0 := by unfold samE; rw [hA, hF]; rfl
    simp -dsimp -implicitDefEqProofs (maxSteps := 2000000) (disch := first | assumption | omega | (simp only [nx]; omega) | ((repeat refine Fresh.push ?_ _); assumption) | (simp only [smA]; done) | (simp [oneCell, AW.next_push]; done) | fail) only [go_sem, Nat.reduceEqDiff, reduceIte, Nat.reduceAdd, Int.toNat_natCast, Nat.add_zero, Owes_true, Try.results61]
    exact ⟨by rw [hS], gg2.trans g3⟩
set_option maxHeartbeats 16000000 in
theorem missR_ok {A : AudN} (h : audB A = true) (P L : List Int) (hPl : P.length = A.st.length) (hLl : L.length = A.st.length) (hP : FitS A.st P) (hL : FitS A.st L) (p q : Option Addr) (a c : Nat) (v u : Value) (w : AW) (f : Fresh w) (hs : ArrOf w 1 icells (.slice p A.st.length a) A.st) (hv : ArrOf w 1 icells v P) (hu : ArrOf w 1 icells u L) :
    CallT Try.prog Try.T1 (.fn (.func 63) #[]) #[.agg (audC p q a c A).toArray, v, u] w (Ret (.int .i64 (missI A.st P L : Int)) (Grown w)) := by
  obtain ⟨hS, _⟩ := audB_ok h
  have g1 := (Grown.refl f).push (.cells (audC p q a c A) 24 w.next 0 0)
  have O1 := Own.new f 24 (audC p q a c A)
  have c0 := O1.cell (o := 0) rfl rfl
  obtain ⟨pv, cv, rfl, _, _, hatP⟩ := hv.open
  obtain ⟨pu, cu, rfl, _, _, hatL⟩ := hu.open
  obtain ⟨_, _, epd, _, _, hat⟩ := hs.open
  injection epd with epd1 epd2 epd3
  subst epd1 epd3
  refine callT_code rfl Try.func63 rfl Try.s63_eq rfl ?_
  unfold Try.s63
  unfold audC at *
  simp -dsimp -implicitDefEqProofs (maxSteps := 2000000) (disch := first | assumption | omega | (simp only [nx]; omega) | ((repeat refine Fresh.push ?_ _); assumption) | (simp only [smA]; done) | (simp [oneCell, AW.next_push]; done) | fail) only [go_sem, Nat.reduceEqDiff, reduceIte, Nat.reduceAdd, Int.toNat_natCast, Nat.add_zero, Owes_true, Try.results63]
  generalize w.push (.cells [.slice p A.st.length a, .slice q A.co.length c, .int .i64 A.lost, .int .i64 A.sure] 24 w.next 0 0) = w2 at *
  refine loopR (fun k t ds w3 => ∃ i : Nat, i ≤ P.length ∧ k = P.length - i ∧ ds = [] ∧ ev t (.tmp 1) = .slice pv P.length cv ∧ ev t (.tmp 2) = .slice pu L.length cu ∧ ev t (.tmp 3) = .pointer (some ⟨w.next, 0, none⟩) ∧ ev t (.tmp 7) = .int .i64 (missTo A.st P L i : Int) ∧ ev t (.tmp 8) = .int .i64 (i : Int) ∧ w2 = w3) (P.length) ?_ ?_
  · refine ⟨0, by omega, by omega, rfl, ?_, ?_, ?_, ?_, ?_, rfl⟩ <;> simp -dsimp -implicitDefEqProofs (maxSteps := 2000000) (disch := first | assumption | omega | (simp only [nx]; omega) | ((repeat refine Fresh.push ?_ _); assumption) | (simp only [smA]; done) | (simp [oneCell, AW.next_push]; done) | fail) only [go_sem, Nat.reduceEqDiff, reduceIte, Nat.reduceAdd, Int.toNat_natCast, Nat.add_zero, Owes_true] <;> rfl
  rintro k t ds w3 ⟨i, hii, rfl, rfl, e1, e2, e3, e7, e8, hw⟩
  subst hw
  by_cases hlt : (i : Int) < (P.length : Int)
  case neg =>
    obtain rfl : i = P.length := by omega
    simp -dsimp -implicitDefEqProofs (maxSteps := 2000000) (disch := first | assumption | omega | (simp only [nx]; omega) | ((repeat refine Fresh.push ?_ _); assumption) | (simp only [smA]; done) | (simp [oneCell, AW.next_push]; done) | fail) only [go_sem, Nat.reduceEqDiff, reduceIte, Nat.reduceAdd, Int.toNat_natCast, Nat.add_zero, Owes_true, Try.results63, e1, e2, e3, e7, e8, hlt]
    exact ⟨by unfold missI; rw [hPl], g1⟩
  have hlt' : i < P.length := by omega
  have hltS : (i : Int) < (A.st.length : Int) := by omega
  have hltL : (i : Int) < (L.length : Int) := by omega
  obtain ⟨b1, o1, rfl, hb1', hcell⟩ := hat i (by omega)
  obtain ⟨b2, o2, rfl, hb2', hcell2⟩ := hatP i hlt'
  obtain ⟨b3, o3, rfl, hb3', hcell3⟩ := hatL i (by omega)
  have a0 := hcell w2 g1.1 0 _ rfl
  have a1 := hcell2 w2 g1.1 0 _ rfl
  have a2 := hcell3 w2 g1.1 0 _ rfl
  rw [Nat.add_zero, ← W_at (by omega)] at a0
  rw [Nat.add_zero, ← W_at hlt'] at a1
  rw [Nat.add_zero, ← W_at (by omega)] at a2
  have hle : WLe w2 w2 := (Grown.refl g1.2).1.wle g1.2
  have hSi := hS.2.2 i (by omega)
  have hPi := hP i (by omega)
  have hLi := hL i (by omega)
  obtain ⟨x, hx⟩ : ∃ x : Nat, W A.st i - W L i = (x : Int) := ⟨(W A.st i - W L i).toNat, by omega⟩
  obtain ⟨y, hy⟩ : ∃ y : Nat, W P i = (y : Int) := ⟨(W P i).toNat, by omega⟩
  have hns : missTo A.st P L (i + 1) = missTo A.st P L i * chs x y := by rw [missTo, hx, hy]; rfl
  have hbd := missTo_b hS hP hL (i := i + 1) (by omega)
  have hbd0 := missTo_b hS hP hL (i := i) (by omega)
  have hch := chs_le (n := x) (k := y) (by omega) (by omega)
  rw [hns] at hbd
  have hcast : (missTo A.st P L i : Int) * (chs x y : Int) = ((missTo A.st P L i * chs x y : Nat) : Int) := by push_cast; rfl
  rw [hy] at a1
  generalize hmm : missTo A.st P L i = m at *
  simp -dsimp -implicitDefEqProofs (maxSteps := 2000000) (disch := first | assumption | omega | (simp only [nx]; omega) | ((repeat refine Fresh.push ?_ _); assumption) | (simp only [smA]; done) | (simp [oneCell, AW.next_push]; done) | fail) only [go_sem, Nat.reduceEqDiff, reduceIte, Nat.reduceAdd, Int.toNat_natCast, Nat.add_zero, Owes_true, Try.results63, e1, e2, e3, e7, e8, hlt, hltS, hltL, indexV_eq, a0, a1, a2, c0, hx, Nat.zero_add]
  apply callV_of (e := rfl)
  · exact C_ok (by omega) (by omega) w2
  rintro _ _ ⟨rfl, rfl⟩
  simp -dsimp -implicitDefEqProofs (maxSteps := 2000000) (disch := first | assumption | omega | (simp only [nx]; omega) | ((repeat refine Fresh.push ?_ _); assumption) | (simp only [smA]; done) | (simp [oneCell, AW.next_push]; done) | fail) only [go_sem, Nat.reduceEqDiff, reduceIte, Nat.reduceAdd, Int.toNat_natCast, Nat.add_zero, Owes_true, Try.results63, e1, e2, e3, e7, e8, hle, hcast]
  refine ⟨_, by omega, i + 1, by omega, rfl, rfl, by (simp -dsimp -implicitDefEqProofs (maxSteps := 2000000) (disch := first | assumption | omega | (simp only [nx]; omega) | ((repeat refine Fresh.push ?_ _); assumption) | (simp only [smA]; done) | (simp [oneCell, AW.next_push]; done) | fail) only [go_sem, Nat.reduceEqDiff, reduceIte, Nat.reduceAdd, Int.toNat_natCast, Nat.add_zero, Owes_true, e1, hns, hcast]; try rfl), by (simp -dsimp -implicitDefEqProofs (maxSteps := 2000000) (disch := first | assumption | omega | (simp only [nx]; omega) | ((repeat refine Fresh.push ?_ _); assumption) | (simp only [smA]; done) | (simp [oneCell, AW.next_push]; done) | fail) only [go_sem, Nat.reduceEqDiff, reduceIte, Nat.reduceAdd, Int.toNat_natCast, Nat.add_zero, Owes_true, e2, hns, hcast]; try rfl), by (simp -dsimp -implicitDefEqProofs (maxSteps := 2000000) (disch := first | assumption | omega | (simp only [nx]; omega) | ((repeat refine Fresh.push ?_ _); assumption) | (simp only [smA]; done) | (simp [oneCell, AW.next_push]; done) | fail) only [go_sem, Nat.reduceEqDiff, reduceIte, Nat.reduceAdd, Int.toNat_natCast, Nat.add_zero, Owes_true, e3, hns, hcast]; try rfl), by (simp -dsimp -implicitDefEqProofs (maxSteps := 2000000) (disch := first | assumption | omega | (simp only [nx]; omega) | ((repeat refine Fresh.push ?_ _); assumption) | (simp only [smA]; done) | (simp [oneCell, AW.next_push]; done) | fail) only [go_sem, Nat.reduceEqDiff, reduceIte, Nat.reduceAdd, Int.toNat_natCast, Nat.add_zero, Owes_true, e7, hns, hcast]; try rfl), by (simp -dsimp -implicitDefEqProofs (maxSteps := 2000000) (disch := first | assumption | omega | (simp only [nx]; omega) | ((repeat refine Fresh.push ?_ _); assumption) | (simp only [smA]; done) | (simp [oneCell, AW.next_push]; done) | fail) only [go_sem, Nat.reduceEqDiff, reduceIte, Nat.reduceAdd, Int.toNat_natCast, Nat.add_zero, Owes_true, e8, hns, hcast]; try rfl), rfl⟩
end Go.Proofs

namespace Go.Proofs
open Go Go.RowKit Go.Sim
set_option maxRecDepth 100000
def zeros (n : Nat) : List Int := List.replicate n 0
theorem zeros_at (n i : Nat) : W (zeros n) i = 0 := by
  rcases Nat.lt_or_ge i n with q | q
  · rw [W_at (by simp [zeros]; exact q)]; simp [zeros]
  · exact W_out (by simp [zeros]; exact q)
theorem zeros_fit {S : List Int} (hS : okS S) (n : Nat) : FitS S (zeros n) := fun i hi => by rw [zeros_at]; have := hS.2.2 i hi; omega
theorem miss_zeros (S P : List Int) (n : Nat) : missI S P (zeros n) = allI S P := missTo_ext (fun _ => rfl) (fun i => by rw [zeros_at, W_nil]) _
theorem ms22 (n : Nat) (hn : n ≤ 1048576) : msQ (prg Try.prog) 22 (.int .i64 (n : Int)) (.int .i64 (n : Int)) = some ((zeros n).flatMap icells, 3, fun b => .slice (some ⟨b, 0, none⟩) n n) := by
  rw [msQ_le Try.ty22 Try.ty3 (Nat.le_refl _) hn (by omega) (by omega) rfl]
  have : (List.replicate n ((Value.int .i64 0).cells.toList)).flatten = (zeros n).flatMap icells := flat_rep (enc := icells) (0 : Int) n
  rw [this]
theorem arr_zeros {w : AW} (f : Fresh w) (n : Nat) (hn : n ≤ 1048576) : ArrOf (w.push (.cells ((zeros n).flatMap icells) 3 w.next 0 0)) 1 icells (.slice (some ⟨w.next, 0, none⟩) n n) (zeros n) := by
  have := Own.iarr (Own.new f 3 ((zeros n).flatMap icells)) (by simp [zeros]; omega)
  simpa [zeros] using this
set_option maxHeartbeats 16000000 in
theorem MissR_ok (A : AudN) (P L : List Int) (p q : Option Addr) (a c : Nat) (v u : Value) (w : AW) (f : Fresh w) (hs : ArrOf w 1 icells (.slice p A.st.length a) A.st) (hc : ArrOf w 1 icells (.slice q A.co.length c) A.co) (hv : ArrOf w 1 icells v P) (hu : ArrOf w 1 icells u L) :
    CallT Try.prog Try.T1 (.fn (.func 17) #[]) #[.agg (audC p q a c A).toArray, v, u] w (Ret (.tuple #[.int .i64 (missV A P L), .int .i64 (missW A P L), .int .i64 (missE A P L)]) (Grown w)) := by
  obtain ⟨pv, cv, rfl, _⟩ := id hv.open
  obtain ⟨pu, cu, rfl, _⟩ := id hu.open
  have g1 := (Grown.refl f).push (.cells (audC p q a c A) 24 w.next 0 0)
  have O1 := Own.new f 24 (audC p q a c A)
  have hck := asked_ok A P p q a c (.slice pv P.length cv) _ g1.2 (hs.grown g1) (hc.grown g1) (hv.grown g1)
  have hcn := fun w' (g' : Grown w w') => each_ok A L p q a c (.slice pu L.length cu) w' g'.2 (hs.grown g') (hu.grown g')
  have hsa := same_audV p q a c A
  refine callT_code rfl Try.func17 rfl Try.s17_eq rfl ?_
  unfold Try.s17
  unfold audC at *
  simp -dsimp -implicitDefEqProofs (maxSteps := 2000000) (disch := first | assumption | omega | (simp only [nx]; omega) | ((repeat refine Fresh.push ?_ _); assumption) | (simp only [smA]; done) | (simp [oneCell, AW.next_push]; done) | fail) only [go_sem, Nat.reduceEqDiff, reduceIte, Nat.reduceAdd, Int.toNat_natCast, Nat.add_zero, Owes_true, Try.results17]
  apply callV_of (e := rfl)
  · exact hck
  rintro _ w2 ⟨rfl, g2⟩
  have gg2 := g1.trans g2
  have O2 := O1.keep g2.1
  have c0 := O2.cell (o := 0) rfl rfl
  have c1 := O2.cell (o := 1) rfl rfl
  have c2 := O2.cell (o := 2) rfl rfl
  have c3 := O2.cell (o := 3) rfl rfl
  by_cases hz : samE A P = 0
  case neg =>
    have hd : decide (samE A P = 0) = false := decide_eq_false hz
    have hE : missE A P L = samE A P := by
      unfold samE at hz ⊢
      unfold missE
      split
      · rename_i h1
        rw [if_pos h1] at hz
        split
        · rename_i h2; rw [if_pos h2] at hz; exact absurd rfl hz
        · rfl
      · rfl
    have hV : missV A P L = 0 := by unfold missV; rw [hE, if_neg hz]
    have hW : missW A P L = 0 := by unfold missW; rw [hE, if_neg hz]
    simp -dsimp -implicitDefEqProofs (maxSteps := 2000000) (disch := first | assumption | omega | (simp only [nx]; omega) | ((repeat refine Fresh.push ?_ _); assumption) | (simp only [smA]; done) | (simp [oneCell, AW.next_push]; done) | fail) only [go_sem, Nat.reduceEqDiff, reduceIte, Nat.reduceAdd, Int.toNat_natCast, Nat.add_zero, Owes_true, Try.results17, hd]
    exact ⟨by rw [hE, hV, hW], gg2⟩
  have hd : decide (samE A P = 0) = true := decide_eq_true hz
  have hb := samE_ok hz
  obtain ⟨hS, hco, _⟩ := audB_ok hb.1
  obtain ⟨hPl, hPf⟩ := fitB_iff.1 hb.2
  simp -dsimp -implicitDefEqProofs (maxSteps := 2000000) (disch := first | assumption | omega | (simp only [nx]; omega) | ((repeat refine Fresh.push ?_ _); assumption) | (simp only [smA]; done) | (simp [oneCell, AW.next_push]; done) | fail) only [go_sem, Nat.reduceEqDiff, reduceIte, Nat.reduceAdd, Int.toNat_natCast, Nat.add_zero, Owes_true, Try.results17, hd, c0, c1, c2, c3, Nat.zero_add]
  apply callV_of (e := rfl)
  · exact hcn w2 gg2
  rintro _ w3 ⟨rfl, g3⟩
  have gg3 := gg2.trans g3
  have O3 := O2.keep g3.1
  have f0 := O3.cell (o := 0) rfl rfl
  have f1 := O3.cell (o := 1) rfl rfl
  have f2 := O3.cell (o := 2) rfl rfl
  have f3 := O3.cell (o := 3) rfl rfl
  cases hf : fitB A.st L with
  | false =>
    have hE : missE A P L = 102 := by simp [missE, hb.1, hb.2, hf]
    simp -dsimp -implicitDefEqProofs (maxSteps := 2000000) (disch := first | assumption | omega | (simp only [nx]; omega) | ((repeat refine Fresh.push ?_ _); assumption) | (simp only [smA]; done) | (simp [oneCell, AW.next_push]; done) | fail) only [go_sem, Nat.reduceEqDiff, reduceIte, Nat.reduceAdd, Int.toNat_natCast, Nat.add_zero, Owes_true, Try.results17, hf]
    exact ⟨by rw [hE]; simp [missV, missW, hE], gg3⟩
  | true =>
  have hE : missE A P L = 0 := by simp [missE, hb.1, hb.2, hf]
  have hV : missV A P L = (missI A.st P L : Int) := by simp [missV, hE]
  have hW : missW A P L = (allI A.st P : Int) := by simp [missW, hE]
  obtain ⟨hLl, hLf⟩ := fitB_iff.1 hf
  have h32 : P.length ≤ 1048576 := by have := hS.2.1; omega
  have hf3 : Fresh w3 := gg3.2
  have hzA := arr_zeros gg3.2 P.length h32
  have g4 := gg3.push (.cells ((zeros P.length).flatMap icells) 3 w3.next 0 0)
  have hm22 := ms22 P.length h32
  have hm1 := missR_ok hb.1 P L hPl hLl hPf hLf p q a c _ _ _ g4.2 (hs.grown g4) (hv.grown g4) (hu.grown g4)
  unfold audC at hm1
  simp -dsimp -implicitDefEqProofs (maxSteps := 2000000) (disch := first | assumption | omega | (simp only [nx]; omega) | ((repeat refine Fresh.push ?_ _); assumption) | (simp only [smA]; done) | (simp [oneCell, AW.next_push]; done) | fail) only [go_sem, Nat.reduceEqDiff, reduceIte, Nat.reduceAdd, Int.toNat_natCast, Nat.add_zero, Owes_true, Try.results17, hf, f0, f1, f2, f3, Nat.zero_add, hsa, hm22]
  apply callV_of (e := rfl)
  · exact hm1
  rintro _ w5 ⟨rfl, g5⟩
  have gg5 := g4.trans g5
  have hle5 : WLe _ w5 := g5.1.wle g4.2
  have hm2 := missR_ok hb.1 P (zeros P.length) hPl (by simp [zeros]; exact hPl) hPf (zeros_fit hS _) p q a c _ _ w5 g5.2 (hs.grown gg5) (hv.grown gg5) (hzA.grown g5)
  rw [miss_zeros] at hm2
  unfold audC at hm2
  simp -dsimp -implicitDefEqProofs (maxSteps := 2000000) (disch := first | assumption | omega | (simp only [nx]; omega) | ((repeat refine Fresh.push ?_ _); assumption) | (simp only [smA]; done) | (simp [oneCell, AW.next_push]; done) | fail) only [go_sem, Nat.reduceEqDiff, reduceIte, Nat.reduceAdd, Int.toNat_natCast, Nat.add_zero, Owes_true, Try.results17, hle5]
  apply callV_of (e := rfl)
  · exact hm2
  rintro _ w6 ⟨rfl, g6⟩
  simp -dsimp -implicitDefEqProofs (maxSteps := 2000000) (disch := first | assumption | omega | (simp only [nx]; omega) | ((repeat refine Fresh.push ?_ _); assumption) | (simp only [smA]; done) | (simp [oneCell, AW.next_push]; done) | fail) only [go_sem, Nat.reduceEqDiff, reduceIte, Nat.reduceAdd, Int.toNat_natCast, Nat.add_zero, Owes_true, Try.results17]
  exact ⟨by rw [hE, hV, hW], gg5.trans g6⟩
end Go.Proofs

namespace Go.Proofs
open Go Go.RowKit Go.Sim
set_option maxRecDepth 100000
theorem Try.bs84 (t : Tmps) (l : List (Nat × Operand)) : makes (prg Try.prog) t (.buildSlice 84 1 ⟨l⟩) = bsQ 22 1 1 [.slice none 0 0] (l.map fun p => (p.1, ev t p.2)) := makes_bs Try.ty84 Try.ty22 rfl (by kernel_rfl)
attribute [go_sem] Try.bs84
theorem Apnd.wle {w w' : AW} (h : Apnd w w') (f : Fresh w) : WLe w w' := fun j y hj => by
  by_cases q : j < w.next
  · rw [h.blk j q]; exact hj
  · rw [f.1 j (by omega)] at hj; cases hj
theorem vcells_all (l : List Value) : l.flatMap vcells = l := by
  induction l with
  | nil => rfl
  | cons x l ih => rw [List.flatMap_cons, ih]; rfl
theorem NumRows.first {w : AW} {v : Value} {LL : List (List Int)} (h : NumRows w v LL) (h1 : 1 ≤ LL.length) : ∃ (vs : List Value) (b o c : Nat), vs.length = LL.length ∧ v = .slice (some ⟨b, o, none⟩) LL.length c ∧ aFirst w 1 LL.length v = some vs ∧ (∀ x ∈ vs, oneCell x = true) ∧ ∀ (i : Nat) x L, vs[i]? = some x → LL[i]? = some L → ArrOf w 1 icells x L := by
  obtain ⟨vs, a, b, d⟩ := h
  obtain ⟨p, c, rfl, hc, _, hat⟩ := b.open
  obtain ⟨b1, o1, rfl, _, _⟩ := hat 0 (by omega)
  have hn := arr_new b (fun _ => rfl) (Nat.le_refl 1)
  rw [vcells_all] at hn
  rw [a] at hn ⊢
  refine ⟨vs, b1, o1, c, a, rfl, ?_, fun x hx => ?_, d⟩
  · unfold aNew at hn
    split at hn
    · rename_i l hq; rw [hq, hn]
    · split at hn
      · omega
      · cases hn
  · obtain ⟨i, hi, rfl⟩ := List.getElem_of_mem hx
    obtain ⟨_, _, e, _⟩ := (d i _ _ (List.getElem?_eq_getElem hi) (List.getElem?_eq_getElem (by omega))).open
    rw [e]; rfl
theorem AOwn.sameV {B : Nat} {w : AW} {e : TypeId} {size n : Nat} {v : Value} {cells : List Value} (h : AOwn B w e size v n cells) : same 12 v v = true := by
  rcases h with ⟨rfl, _⟩ | ⟨b, r, rfl, _⟩
  · rfl
  · exact same_slice _ _ _ _
theorem AOwn.len {B : Nat} {w : AW} {e : TypeId} {size n : Nat} {v : Value} {cells : List Value} (h : AOwn B w e size v n cells) : ∃ p c, v = .slice p n c := by
  rcases h with ⟨rfl, rfl, _⟩ | ⟨b, r, rfl, _⟩
  · exact ⟨_, _, rfl⟩
  · exact ⟨_, _, rfl⟩
def RowsR (B : Nat) (w : AW) (v : Value) (LL : List (List Int)) : Prop := ∃ vs : List Value, vs.length = LL.length ∧ AOwn B w 22 1 v LL.length vs ∧ (∀ x ∈ vs, oneCell x = true) ∧ ∀ (i : Nat) x L, vs[i]? = some x → LL[i]? = some L → ArrOf w 1 icells x L
theorem RowsR.nil (B : Nat) (w : AW) : RowsR B w (.slice none 0 0) [] := ⟨[], rfl, .inl ⟨rfl, rfl, rfl⟩, fun x h => (by cases h), fun i x L h => (by simp at h)⟩
theorem RowsR.grown {B : Nat} {w w' : AW} {v : Value} {LL : List (List Int)} (h : RowsR B w v LL) (g : Grown w w') : RowsR B w' v LL := by
  obtain ⟨vs, a, b, c, d⟩ := h
  exact ⟨vs, a, b.keep g.1 (Nat.le_refl _), c, fun i x L h1 h2 => (d i x L h1 h2).grown g⟩
theorem RowsR.weak {B C : Nat} {w : AW} {v : Value} {LL : List (List Int)} (h : RowsR B w v LL) (k : C ≤ B) : RowsR C w v LL := by
  obtain ⟨vs, a, b, c, d⟩ := h
  exact ⟨vs, a, AOwn.weak b k, c, d⟩
theorem RowsR.num {B : Nat} {w : AW} {v : Value} {LL : List (List Int)} (h : RowsR B w v LL) (hl : LL.length ≤ 1048576) : NumRows w v LL := by
  obtain ⟨vs, a, b, c, d⟩ := h
  refine ⟨vs, a, AOwn.arr (B := B) (e := 22) (by rw [vcells_all, a]; exact b) (fun _ => rfl) (by omega), d⟩
theorem RowsR.app {B : Nat} {w : AW} {v x : Value} {LL MM : List (List Int)} (h : RowsR B w v LL) (k : NumRows w x MM) (f : Fresh w) (hB : B ≤ w.next) (h1 : 1 ≤ MM.length) (hr : LL.length + MM.length ≤ 1048576) :
    ∃ v' w', append (prg Try.prog) w 84 84 v x = some (v', w') ∧ RowsR B w' v' (LL ++ MM) ∧ Keep B w w' ∧ Fresh w' ∧ Apnd w w' := by
  obtain ⟨vs, a, b, c, d⟩ := h
  obtain ⟨us, bx, ox, cx, a2, rfl, hfst, c2, d2⟩ := NumRows.first k h1
  obtain ⟨v', w', e1, e2, e3, e4, _, e6⟩ := append_own2 Try.ty84 Try.ty22 rfl (by omega) (by omega) b f hB (x := .slice (some ⟨bx, ox, none⟩) MM.length cx) rfl hfst (by omega) c2 h1 hr
  refine ⟨v', w', e1, ⟨vs ++ us, by rw [List.length_append, List.length_append]; omega, by rw [List.length_append]; exact e2, fun y hy => ?_, fun i y L hy hL => ?_⟩, e3, e4, e6⟩
  · rcases List.mem_append.1 hy with q | q
    · exact c y q
    · exact c2 y q
  · rcases Nat.lt_or_ge i vs.length with q | q
    · rw [List.getElem?_append_left q] at hy
      rw [List.getElem?_append_left (by omega)] at hL
      exact Arr.app (d i y L hy hL) e6
    · rw [List.getElem?_append_right q] at hy
      rw [List.getElem?_append_right (by omega)] at hL
      rw [a] at hy
      exact Arr.app (d2 _ y L hy hL) e6
theorem making_more {B b30 : Nat} {w : AW} {v : Value} {L : List Int} (h : Making B w 3 1 v L.length (L.flatMap icells)) (f : Fresh w) (hB : B ≤ w.next) (x : Int) (o : Own w b30 3 [.int .i64 x]) (hl : L.length ≤ 1000) :
    ∃ v' w', append (prg Try.prog) w 22 22 v (.slice (some ⟨b30, 0, none⟩) 1 1) = some (v', w') ∧ AOwn B w' 3 1 v' (L ++ [x]).length ((L ++ [x]).flatMap icells) ∧ Keep B w w' ∧ Fresh w' ∧ Apnd w w' := by
  have hA : ArrOf w 1 icells (.slice (some ⟨b30, 0, none⟩) 1 1) [x] := Own.iarr (L := [x]) o (by simp)
  rcases h with ⟨h0, hc, b, e', rfl, hb, hblk⟩ | h
  · have hL : L = [] := List.length_eq_zero_iff.1 h0
    subst hL
    have hn := arr_new hA icells_len (Nat.le_refl _)
    obtain ⟨v', w', e1, e2, e3, e4⟩ := append_empty Try.ty22 Try.ty3 rfl (by omega) hblk f (x := .slice (some ⟨b30, 0, none⟩) 1 1) rfl hn rfl (fun y hy => by simp [icells] at hy; subst hy; rfl) (by omega) (by omega)
    refine ⟨v', w', e1, ?_, e2.mono hB, e3, ⟨e2.blk, fun j c e hj hb hf => e2.fam j hj, e2.next⟩⟩
    rcases e4 with ⟨q, _⟩ | q
    · omega
    · exact AOwn.weak q hB
  · obtain ⟨v', w', e1, e2, e3, e4, _, e6⟩ := append_own2 Try.ty22 Try.ty3 rfl (by omega) (by omega) h f hB (x := .slice (some ⟨b30, 0, none⟩) 1 1) rfl (first1 (o.cell (o := 0) rfl rfl)) rfl (fun y hy => by simp at hy; subst hy; rfl) (by omega) (by omega)
    exact ⟨v', w', e1, by rw [List.length_append, List.flatMap_append]; exact e2, e3, e4, e6⟩
def allL : List Int → List (List Int)
  | [] => [[]]
  | s :: S => (fromTo 0 s).flatMap fun n => (allL S).map (n :: ·)
theorem allL_ne : ∀ {S : List Int}, (∀ x ∈ S, 0 ≤ x) → 1 ≤ (allL S).length
  | [], _ => Nat.le_refl _
  | s :: S, h => by
    have ih := allL_ne (S := S) fun x hx => h x (List.mem_cons_of_mem _ hx)
    have hs := h s List.mem_cons_self
    have h0 : (0 : Int) ∈ fromTo 0 s := fromTo_mem.2 ⟨by omega, hs⟩
    obtain ⟨t, ht⟩ : ∃ t, t ∈ allL S := by
      cases hq : allL S with
      | nil => rw [hq] at ih; simp at ih
      | cons t l => exact ⟨t, List.mem_cons_self⟩
    have : (0 :: t) ∈ allL (s :: S) := by
      simp only [allL, List.mem_flatMap, List.mem_map]
      exact ⟨0, h0, t, ht, rfl⟩
    exact List.length_pos_of_mem this
theorem allL_le : ∀ {S : List Int}, (∀ x ∈ S, 0 ≤ x ∧ x ≤ 8) → (allL S).length ≤ 9 ^ S.length
  | [], _ => Nat.le_refl _
  | s :: S, h => by
    have ih := allL_le (S := S) fun x hx => h x (List.mem_cons_of_mem _ hx)
    have hs := h s List.mem_cons_self
    have hfl : ∀ (N : List Int), (N.flatMap fun n => (allL S).map (n :: ·)).length = N.length * (allL S).length := by
      intro N
      induction N with
      | nil => simp
      | cons n N ihn => rw [List.flatMap_cons, List.length_append, ihn, List.length_map, List.length_cons, Nat.succ_mul]; omega
    rw [allL, hfl, fromTo_len, List.length_cons, Nat.pow_succ, Nat.mul_comm (9 ^ S.length)]
    exact Nat.mul_le_mul (by omega) ih
theorem allL_is : ∀ {S : List Int} {lo hi : Int}, (∀ x ∈ S, 0 ≤ x) → lo ≤ 0 → S.sum ≤ hi → allL S = listsL S lo hi
  | [], _, _, _, _, _ => rfl
  | s :: S, lo, hi, h, h1, h2 => by
    have hS : ∀ x ∈ S, 0 ≤ x := fun x hx => h x (List.mem_cons_of_mem _ hx)
    have hs := h s List.mem_cons_self
    have hn := sum_nn hS
    rw [List.sum_cons] at h2
    rw [allL, listsL, show max 0 (lo - S.sum) = 0 from by omega, show min s hi = s from by omega]
    have : ∀ N : List Int, (∀ n ∈ N, 0 ≤ n ∧ n ≤ s) → (N.flatMap fun n => (allL S).map (n :: ·)) = N.flatMap fun n => (listsL S (lo - n) (hi - n)).map (n :: ·) := by
      intro N
      induction N with
      | nil => intro _; rfl
      | cons n N ihn =>
        intro hN
        have hn' := hN n List.mem_cons_self
        rw [List.flatMap_cons, List.flatMap_cons, ihn fun x hx => hN x (List.mem_cons_of_mem _ hx), ← allL_is (lo := lo - n) (hi := hi - n) hS (by omega) (by omega)]
    exact this _ fun n hn => fromTo_mem.1 hn
end Go.Proofs

namespace Go.Proofs
open Go Go.RowKit Go.Sim
set_option maxRecDepth 100000
theorem okS_in {S : List Int} (hS : okS S) : ∀ x ∈ S, 0 ≤ x ∧ x ≤ 8 := fun x hx => by
  obtain ⟨i, hi, rfl⟩ := List.getElem_of_mem hx
  have := hS.2.2 i hi
  rw [W_at hi] at this; omega
theorem allL_b {S : List Int} (hS : okS S) (d : Nat) : (allL (S.drop d)).length ≤ 6561 := by
  have h1 := allL_le (S := S.drop d) fun x hx => okS_in hS x (List.mem_of_mem_drop hx)
  have h2 : (S.drop d).length ≤ 4 := by rw [List.length_drop]; have := hS.2.1; omega
  have h3 : 9 ^ (S.drop d).length ≤ 9 ^ 4 := Nat.pow_le_pow_right (by omega) h2
  omega
theorem same_s12 (p : Option Addr) (n c : Nat) : same 12 (.slice p n c) (.slice p n c) = true := by
  cases p with
  | none => simp [same]
  | some a => obtain ⟨b, o, s⟩ := a; cases s <;> simp [same]
theorem arr_one {w : AW} {b : Nat} {e : TypeId} {x : Value} (h : Own w b e [x]) (h1 : oneCell x = true) : ArrOf w 1 vcells (.slice (some ⟨b, 0, none⟩) 1 1) [x] := by
  refine ⟨_, _, _, rfl, by simp, Nat.le_refl _, by omega, fun _ => ⟨b, 0, rfl, h.lt, fun i j r y hi hx => ?_⟩⟩
  rw [List.getElem?_map] at hi
  obtain ⟨z, hz, rfl⟩ := Option.map_eq_some_iff.mp hi
  cases i with
  | succ i => simp at hz
  | zero =>
    simp at hz; subst hz
    cases j with
    | succ j => simp [vcells] at hx
    | zero =>
      simp [vcells] at hx; subst hx
      exact h.cell (o := 0) rfl h1
def preL (S l : List Int) (i : Nat) : List (List Int) := ((List.range i).map fun (x : Nat) => (x : Int)).flatMap fun n => (allL S).map fun t => l ++ n :: t
theorem preL_succ (S l : List Int) (i : Nat) : preL S l (i + 1) = preL S l i ++ (allL S).map fun t => l ++ (i : Int) :: t := by
  unfold preL; rw [List.range_succ, List.map_append, List.flatMap_append]; simp
theorem preL_len (S l : List Int) (i : Nat) : (preL S l i).length = i * (allL S).length := by
  induction i with
  | zero => simp [preL]
  | succ i ih => rw [preL_succ, List.length_append, ih, List.length_map, Nat.succ_mul]
theorem preL_all {S l : List Int} {s : Int} (h : 0 ≤ s) : preL S l (s.toNat + 1) = (allL (s :: S)).map (l ++ ·) := by
  unfold preL
  rw [allL, List.map_flatMap]
  have : fromTo 0 s = (List.range (s.toNat + 1)).map fun (x : Nat) => (x : Int) := by
    unfold fromTo
    rw [show (s - 0 + 1).toNat = s.toNat + 1 from by omega]
    simp
  rw [this]
  congr 1
  funext n
  rw [List.map_map]; rfl
set_option maxHeartbeats 32000000 in
theorem listsR_ok {A : AudN} (hS : okS A.st) {W1 : AW} {p q : Option Addr} {a c : Nat} (hs : ArrOf W1 1 icells (.slice p A.st.length a) A.st) : ∀ (m : Nat) (l : List Int) (v : Value) (w : AW), l.length + m = A.st.length → ArrOf w 1 icells v l → Fresh w → Keep W1.next W1 w →
    CallT Try.prog Try.T1 (.fn (.func 77) #[]) #[.agg (audC p q a c A).toArray, v] w (fun r w' => Grown w w' ∧ NumRows w' r ((allL (A.st.drop l.length)).map (l ++ ·))) := by
  intro m
  induction m with
  | zero =>
    intro l v w hl hv f hk
    obtain ⟨pv, cv, rfl, _⟩ := id hv.open
    have g1 := (Grown.refl f).push (.cells (audC p q a c A) 24 w.next 0 0)
    have O1 := Own.new f 24 (audC p q a c A)
    have c0 := O1.cell (o := 0) rfl rfl
    have hd : decide ((l.length : Int) = (A.st.length : Int)) = true := decide_eq_true (by omega)
    have nx1 : (w.push (.cells (audC p q a c A) 24 w.next 0 0)).next = w.next + 1 := AW.next_push _ _
    refine callT_code rfl Try.func77 rfl Try.s77_eq rfl ?_
    unfold Try.s77
    unfold audC at *
    simp -dsimp -implicitDefEqProofs (maxSteps := 2000000) (disch := first | assumption | omega | (simp only [nx]; omega) | ((repeat refine Fresh.push ?_ _); assumption) | (simp only [smA]; done) | (simp [oneCell, AW.next_push]; done) | fail) only [go_sem, Nat.reduceEqDiff, reduceIte, Nat.reduceAdd, Int.toNat_natCast, Nat.add_zero, Owes_true, Try.results77, c0, hd, Nat.zero_add]
    generalize w.push (.cells [.slice p A.st.length a, .slice q A.co.length c, .int .i64 A.lost, .int .i64 A.sure] 24 w.next 0 0) = w2 at *
    have g2 := (Grown.refl g1.2).push (.cells [.slice pv l.length cv] 22 w2.next 0 0)
    have O2 := Own.new g1.2 22 [.slice pv l.length cv]
    rw [nx1] at g2 O2
    refine ⟨g1.trans g2, [.slice pv l.length cv], ?_, ?_, ?_⟩
    · rw [List.drop_of_length_le (by omega)]; rfl
    · exact arr_one O2 rfl
    · intro i x L hx hL
      rw [List.drop_of_length_le (by omega)] at hL
      cases i with
      | zero =>
        simp [allL] at hx hL
        subst hx hL
        exact hv.grown (g1.trans g2)
      | succ i => simp at hx
  | succ m ih =>
    intro l v w hl hv f hk
    obtain ⟨pv, cv, rfl, _⟩ := id hv.open
    have hrl : l.length < A.st.length := by omega
    have g1 := (Grown.refl f).push (.cells (audC p q a c A) 24 w.next 0 0)
    have O1 := Own.new f 24 (audC p q a c A)
    have hd : decide ((l.length : Int) = (A.st.length : Int)) = false := decide_eq_false (by omega)
    have c0' := O1.cell (o := 0) rfl rfl
    have nx1 : (w.push (.cells (audC p q a c A) 24 w.next 0 0)).next = w.next + 1 := AW.next_push _ _
    have hdr : A.st.drop l.length = W A.st l.length :: A.st.drop (l.length + 1) := by rw [W_at hrl]; exact List.drop_eq_getElem_cons hrl
    have hSr := hS.2.2 l.length hrl
    have hl4 := hS.2.1
    obtain ⟨s, hse⟩ : ∃ s : Nat, W A.st l.length = (s : Int) := ⟨(W A.st l.length).toNat, by omega⟩
    have hsaud := same_audV p q a c A
    have hsl : same 12 (.slice pv l.length cv) (.slice pv l.length cv) = true := same_s12 _ _ _
    obtain ⟨_, _, epd, _, _, hat⟩ := hs.open
    injection epd with epd1 epd2 epd3
    subst epd1 epd3
    obtain ⟨b1, o1, rfl, hb1, hcell⟩ := hat l.length hrl
    have hrl' : (l.length : Int) < (A.st.length : Int) := by omega
    refine callT_code rfl Try.func77 rfl Try.s77_eq rfl ?_
    unfold Try.s77
    unfold audC at *
    simp -dsimp -implicitDefEqProofs (maxSteps := 2000000) (disch := first | assumption | omega | (simp only [nx]; omega) | ((repeat refine Fresh.push ?_ _); assumption) | (simp only [smA]; done) | (simp [oneCell, AW.next_push]; done) | fail) only [go_sem, Nat.reduceEqDiff, reduceIte, Nat.reduceAdd, Int.toNat_natCast, Nat.add_zero, Owes_true, Try.results77, c0', hd, Nat.zero_add]
    generalize w.push (.cells [.slice (some ⟨b1, o1, none⟩) A.st.length a, .slice q A.co.length c, .int .i64 A.lost, .int .i64 A.sure] 24 w.next 0 0) = w2 at *
    have hB := allL_b hS (l.length + 1)
    refine loopR (fun k t ds w3 => ∃ i : Nat, i ≤ s + 1 ∧ k = s + 1 - i ∧ ds = [] ∧ ev t (.tmp 1) = .slice pv l.length cv ∧ ev t (.tmp 2) = .pointer (some ⟨w.next, 0, none⟩) ∧ ev t (.tmp 6) = .int .i64 (i : Int) ∧ ∃ x : Value, ev t (.tmp 5) = x ∧ RowsR w2.next w3 x (preL (A.st.drop (l.length + 1)) l i) ∧ Keep w2.next w2 w3 ∧ Fresh w3) (s + 1) ?_ ?_
    · refine ⟨0, by omega, by omega, rfl, ?_, ?_, ?_, .slice none 0 0, by simp -dsimp -implicitDefEqProofs (maxSteps := 2000000) (disch := first | assumption | omega | (simp only [nx]; omega) | ((repeat refine Fresh.push ?_ _); assumption) | (simp only [smA]; done) | (simp [oneCell, AW.next_push]; done) | fail) only [go_sem, Nat.reduceEqDiff, reduceIte, Nat.reduceAdd, Int.toNat_natCast, Nat.add_zero, Owes_true], RowsR.nil _ _, .refl _ _, g1.2⟩ <;> simp -dsimp -implicitDefEqProofs (maxSteps := 2000000) (disch := first | assumption | omega | (simp only [nx]; omega) | ((repeat refine Fresh.push ?_ _); assumption) | (simp only [smA]; done) | (simp [oneCell, AW.next_push]; done) | fail) only [go_sem, Nat.reduceEqDiff, reduceIte, Nat.reduceAdd, Int.toNat_natCast, Nat.add_zero, Owes_true] <;> rfl
    rintro k t ds w3 ⟨i, hii, rfl, rfl, e1, e2, e6, x, e5, hR, k3, f3⟩
    have hkW : Keep W1.next W1 w3 := (hk.trans (g1.1.mono hk.next)).trans (k3.mono (by have := hk.next; have := g1.1.next; omega))
    have O3 := O1.keep k3
    have c0 := O3.cell (o := 0) rfl rfl
    have c1 := O3.cell (o := 1) rfl rfl
    have c2 := O3.cell (o := 2) rfl rfl
    have c3 := O3.cell (o := 3) rfl rfl
    have a0 := hcell w3 hkW 0 _ rfl
    rw [Nat.add_zero, ← W_at hrl, hse] at a0
    by_cases hlt : (i : Int) ≤ (s : Int)
    case neg =>
      obtain rfl : i = s + 1 := by omega
      simp -dsimp -implicitDefEqProofs (maxSteps := 2000000) (disch := first | assumption | omega | (simp only [nx]; omega) | ((repeat refine Fresh.push ?_ _); assumption) | (simp only [smA]; done) | (simp [oneCell, AW.next_push]; done) | fail) only [go_sem, Nat.reduceEqDiff, reduceIte, Nat.reduceAdd, Int.toNat_natCast, Nat.add_zero, Owes_true, Try.results77, e1, e2, e5, e6, hlt, c0, hrl', indexV_eq, a0, Nat.zero_add]
      have hfin := preL_all (S := A.st.drop (l.length + 1)) (l := l) (s := (s : Int)) (by omega)
      rw [Int.toNat_natCast, ← hse, ← hdr] at hfin
      rw [hfin] at hR
      exact ⟨⟨g1.1.trans (k3.mono g1.1.next), f3⟩, hR.num (by rw [List.length_map]; have := allL_b hS l.length; omega)⟩
    have hvA := (hv.grown g1).kept k3
    have g4 := (Grown.refl f3).push (.cells [.int .i64 (i : Int)] 3 w3.next 0 0)
    have O4 := Own.new f3 3 [.int .i64 (i : Int)]
    have hxs : same 12 x x = true := by obtain ⟨_, _, h, _⟩ := hR; exact AOwn.sameV h
    simp -dsimp -implicitDefEqProofs (maxSteps := 2000000) (disch := first | assumption | omega | (simp only [nx]; omega) | ((repeat refine Fresh.push ?_ _); assumption) | (simp only [smA]; done) | (simp [oneCell, AW.next_push]; done) | fail) only [go_sem, Nat.reduceEqDiff, reduceIte, Nat.reduceAdd, Int.toNat_natCast, Nat.add_zero, Owes_true, Try.results77, e1, e2, e5, e6, hlt, c0, c1, c2, c3, hrl', indexV_eq, a0, Nat.zero_add, hxs, hsaud, hsl]
    apply callV_of (e := rfl)
    · exact Own_ok l _ _ g4.2 (hvA.grown g4) (by omega)
    rintro y w5 ⟨hmk, g5⟩
    have hle5 : WLe _ w5 := g5.1.wle g4.2
    have O5 := O4.keep g5.1
    have hn4 : (w3.push (.cells [.int .i64 (i : Int)] 3 w3.next 0 0)).next = w3.next + 1 := AW.next_push _ _
    obtain ⟨y2, w6, happ, hrow, k6, f6, ap6⟩ := making_more hmk g5.2 g5.1.next (i : Int) O5 (by omega)
    have hle6 : WLe w5 w6 := Go.Proofs.Apnd.wle ap6 g5.2
    have g36 : Grown w3 w6 := ⟨(g4.1.trans (g5.1.mono g4.1.next)).trans (k6.mono g4.1.next), f6⟩
    have hrA : ArrOf w6 1 icells y2 (l ++ [(i : Int)]) := AOwn.arr hrow icells_len (by simp; omega)
    have hll : (l ++ [(i : Int)]).length = l.length + 1 := by simp
    have hrec := ih (l ++ [(i : Int)]) y2 w6 (by rw [hll]; omega) hrA f6 (hkW.trans (g36.1.mono hkW.next))
    rw [hll] at hrec
    have hmap : (allL (A.st.drop (l.length + 1))).map ((l ++ [(i : Int)]) ++ ·) = (allL (A.st.drop (l.length + 1))).map fun t => l ++ (i : Int) :: t := by
      congr 1; funext t; simp
    rw [hmap] at hrec
    simp -dsimp -implicitDefEqProofs (maxSteps := 2000000) (disch := first | assumption | omega | (simp only [nx]; omega) | ((repeat refine Fresh.push ?_ _); assumption) | (simp only [smA]; done) | (simp [oneCell, AW.next_push]; done) | fail) only [go_sem, Nat.reduceEqDiff, reduceIte, Nat.reduceAdd, Int.toNat_natCast, Nat.add_zero, Owes_true, Try.results77, e1, e2, e5, e6, hle5, happ, hle6]
    apply callV_of (e := rfl)
    · exact hrec
    rintro z w7 ⟨g7, hR7⟩
    have hle7 : WLe w6 w7 := g7.1.wle f6
    have g37 := g36.trans g7
    obtain ⟨z2, w8, happ2, hR8, k8, f8, _⟩ := RowsR.app (hR.grown g37) hR7 g7.2 (by have := k3.next; have := g37.1.next; omega) (by rw [List.length_map]; exact allL_ne fun x hx => (okS_in hS x (List.mem_of_mem_drop hx)).1) (by
      rw [preL_len, List.length_map]
      have : i * (allL (A.st.drop (l.length + 1))).length ≤ 8 * 6561 := Nat.mul_le_mul (by omega) hB
      omega)
    rw [← preL_succ] at hR8
    have hz2 : same 12 z2 z2 = true := by obtain ⟨_, _, h, _⟩ := hR8; exact AOwn.sameV h
    simp -dsimp -implicitDefEqProofs (maxSteps := 2000000) (disch := first | assumption | omega | (simp only [nx]; omega) | ((repeat refine Fresh.push ?_ _); assumption) | (simp only [smA]; done) | (simp [oneCell, AW.next_push]; done) | fail) only [go_sem, Nat.reduceEqDiff, reduceIte, Nat.reduceAdd, Int.toNat_natCast, Nat.add_zero, Owes_true, Try.results77, e1, e2, e5, e6, hle7, happ2, hz2]
    refine ⟨_, by omega, i + 1, by omega, rfl, rfl, by (simp -dsimp -implicitDefEqProofs (maxSteps := 2000000) (disch := first | assumption | omega | (simp only [nx]; omega) | ((repeat refine Fresh.push ?_ _); assumption) | (simp only [smA]; done) | (simp [oneCell, AW.next_push]; done) | fail) only [go_sem, Nat.reduceEqDiff, reduceIte, Nat.reduceAdd, Int.toNat_natCast, Nat.add_zero, Owes_true, e1]; try rfl), by (simp -dsimp -implicitDefEqProofs (maxSteps := 2000000) (disch := first | assumption | omega | (simp only [nx]; omega) | ((repeat refine Fresh.push ?_ _); assumption) | (simp only [smA]; done) | (simp [oneCell, AW.next_push]; done) | fail) only [go_sem, Nat.reduceEqDiff, reduceIte, Nat.reduceAdd, Int.toNat_natCast, Nat.add_zero, Owes_true, e2]; try rfl), by (simp -dsimp -implicitDefEqProofs (maxSteps := 2000000) (disch := first | assumption | omega | (simp only [nx]; omega) | ((repeat refine Fresh.push ?_ _); assumption) | (simp only [smA]; done) | (simp [oneCell, AW.next_push]; done) | fail) only [go_sem, Nat.reduceEqDiff, reduceIte, Nat.reduceAdd, Int.toNat_natCast, Nat.add_zero, Owes_true, e6]; try rfl), z2, (by simp -dsimp -implicitDefEqProofs (maxSteps := 2000000) (disch := first | assumption | omega | (simp only [nx]; omega) | ((repeat refine Fresh.push ?_ _); assumption) | (simp only [smA]; done) | (simp [oneCell, AW.next_push]; done) | fail) only [go_sem, Nat.reduceEqDiff, reduceIte, Nat.reduceAdd, Int.toNat_natCast, Nat.add_zero, Owes_true]), hR8, k3.trans ((g37.1.mono k3.next).trans k8), f8⟩
end Go.Proofs

namespace Go.Proofs
open Go Go.RowKit Go.Sim
set_option maxRecDepth 100000
theorem sorted_same : ∀ {a b : List (List Int)}, (a.Pairwise fun x y => aheadB x y = true) → (b.Pairwise fun x y => aheadB x y = true) → (∀ t, t ∈ a ↔ t ∈ b) → a = b
  | [], [], _, _, _ => rfl
  | [], y :: b, _, _, h => absurd ((h y).2 List.mem_cons_self) (by simp)
  | x :: a, [], _, _, h => absurd ((h x).1 List.mem_cons_self) (by simp)
  | x :: a, y :: b, ha, hb, h => by
    rw [List.pairwise_cons] at ha hb
    have e : x = y := by
      rcases List.mem_cons.1 ((h x).1 List.mem_cons_self) with q | q
      · exact q
      · rcases List.mem_cons.1 ((h y).2 List.mem_cons_self) with r | r
        · exact r.symm
        · have := aheadB_asymm (hb.1 x q); rw [ha.1 y r] at this; cases this
    subst e
    have : a = b := sorted_same ha.2 hb.2 fun t => ⟨fun ht => by
      rcases List.mem_cons.1 ((h t).1 (List.mem_cons_of_mem _ ht)) with q | q
      · subst q; have := ha.1 _ ht; rw [aheadB_refl] at this; cases this
      · exact q, fun ht => by
      rcases List.mem_cons.1 ((h t).2 (List.mem_cons_of_mem _ ht)) with q | q
      · subst q; have := hb.1 _ ht; rw [aheadB_refl] at this; cases this
      · exact q⟩
    rw [this]
theorem allL_samples {A : AudN} (h : audB A = true) : allL A.st = samplesL A := allL_is (okS_nn (audB_ok h).1) (Int.le_refl 0) (Int.le_refl _)
def lostB (A : AudN) (t : List Int) : Bool := decide (t.sum = A.lost)
theorem lost_is {A : AudN} (h : audB A = true) : (allL A.st).filter (lostB A) = lossesL A := by
  refine sorted_same ?_ (listsL_pw _ _ _) fun t => ?_
  · rw [allL_samples h]; exact (listsL_pw _ _ _).filter _
  · rw [List.mem_filter, allL_samples h, samples_mem h, losses_mem h]
    unfold lostB
    rw [decide_eq_true_eq]
    exact ⟨fun ⟨⟨x, y⟩, z⟩ => ⟨x, y, z⟩, fun ⟨x, y, z⟩ => ⟨⟨x, y⟩, z⟩⟩
theorem fit_small {S t : List Int} (hS : okS S) (hl : t.length = S.length) (ht : FitS S t) : smallL t := ⟨fun x hx => by
  obtain ⟨i, hi, rfl⟩ := List.getElem_of_mem hx
  have h1 := ht i (by omega)
  have h2 := hS.2.2 i (by omega)
  rw [W_at hi] at h1; omega, by have := hS.2.1; omega⟩
set_option maxHeartbeats 32000000 in
theorem lossesR_ok {A : AudN} (h : audB A = true) (p q : Option Addr) (a c : Nat) (w : AW) (f : Fresh w) (hs : ArrOf w 1 icells (.slice p A.st.length a) A.st) :
    CallT Try.prog Try.T1 (.fn (.func 72) #[]) #[.agg (audC p q a c A).toArray] w (fun r w' => Grown w w' ∧ NumRows w' r (lossesL A)) := by
  obtain ⟨hS, _⟩ := audB_ok h
  have g1 := (Grown.refl f).push (.cells (audC p q a c A) 24 w.next 0 0)
  have O1 := Own.new f 24 (audC p q a c A)
  have hsa := same_audV p q a c A
  have c0 := O1.cell (o := 0) rfl rfl
  have c1 := O1.cell (o := 1) rfl rfl
  have c2 := O1.cell (o := 2) rfl rfl
  have c3 := O1.cell (o := 3) rfl rfl
  have hall := listsR_ok hS (p := p) (q := q) (a := a) (c := c) (hs.grown g1) A.st.length [] (.slice none 0 0) _ (by simp) (ArrOf.nil _ _ _) g1.2 (.refl _ _)
  rw [show (allL (A.st.drop ([] : List Int).length)).map (([] : List Int) ++ ·) = allL A.st from by simp] at hall
  have hB : (allL A.st).length ≤ 6561 := by have := allL_b hS 0; simpa using this
  refine callT_code rfl Try.func72 rfl Try.s72_eq rfl ?_
  unfold Try.s72
  unfold audC at *
  simp -dsimp -implicitDefEqProofs (maxSteps := 2000000) (disch := first | assumption | omega | (simp only [nx]; omega) | ((repeat refine Fresh.push ?_ _); assumption) | (simp only [smA]; done) | (simp [oneCell, AW.next_push]; done) | fail) only [go_sem, Nat.reduceEqDiff, reduceIte, Nat.reduceAdd, Int.toNat_natCast, Nat.add_zero, Owes_true, Try.results72, c0, c1, c2, c3, Nat.zero_add]
  generalize w.push (.cells [.slice p A.st.length a, .slice q A.co.length c, .int .i64 A.lost, .int .i64 A.sure] 24 w.next 0 0) = w1 at *
  apply callV_of (e := rfl)
  · exact hall
  rintro z w2 ⟨g2, hz⟩
  have hle2 : WLe w1 w2 := g2.1.wle g1.2
  have O2 := O1.keep g2.1
  obtain ⟨pz, cz, rfl, _, _, hat⟩ := hz.open
  simp -dsimp -implicitDefEqProofs (maxSteps := 2000000) (disch := first | assumption | omega | (simp only [nx]; omega) | ((repeat refine Fresh.push ?_ _); assumption) | (simp only [smA]; done) | (simp [oneCell, AW.next_push]; done) | fail) only [go_sem, Nat.reduceEqDiff, reduceIte, Nat.reduceAdd, Int.toNat_natCast, Nat.add_zero, Owes_true, Try.results72, hle2]
  refine loopR (fun k t ds w3 => ∃ i : Nat, i ≤ (allL A.st).length ∧ k = (allL A.st).length - i ∧ ds = [] ∧ ev t (.tmp 1) = .pointer (some ⟨w.next, 0, none⟩) ∧ ev t (.tmp 3) = .slice pz (allL A.st).length cz ∧ ev t (.tmp 5) = .int .i64 (i : Int) ∧ ∃ x : Value, ev t (.tmp 4) = x ∧ RowsR w2.next w3 x (((allL A.st).take i).filter (lostB A)) ∧ Keep w2.next w2 w3 ∧ Fresh w3) ((allL A.st).length) ?_ ?_
  · refine ⟨0, by omega, by omega, rfl, ?_, ?_, ?_, .slice none 0 0, by simp -dsimp -implicitDefEqProofs (maxSteps := 2000000) (disch := first | assumption | omega | (simp only [nx]; omega) | ((repeat refine Fresh.push ?_ _); assumption) | (simp only [smA]; done) | (simp [oneCell, AW.next_push]; done) | fail) only [go_sem, Nat.reduceEqDiff, reduceIte, Nat.reduceAdd, Int.toNat_natCast, Nat.add_zero, Owes_true, hle2], RowsR.nil _ _, .refl _ _, g2.2⟩ <;> simp -dsimp -implicitDefEqProofs (maxSteps := 2000000) (disch := first | assumption | omega | (simp only [nx]; omega) | ((repeat refine Fresh.push ?_ _); assumption) | (simp only [smA]; done) | (simp [oneCell, AW.next_push]; done) | fail) only [go_sem, Nat.reduceEqDiff, reduceIte, Nat.reduceAdd, Int.toNat_natCast, Nat.add_zero, Owes_true] <;> rfl
  rintro k t ds w3 ⟨i, hii, rfl, rfl, e1, e3, e5, x, e4, hR, k3, f3⟩
  by_cases hlt : (i : Int) < ((allL A.st).length : Int)
  case neg =>
    obtain rfl : i = (allL A.st).length := by omega
    simp -dsimp -implicitDefEqProofs (maxSteps := 2000000) (disch := first | assumption | omega | (simp only [nx]; omega) | ((repeat refine Fresh.push ?_ _); assumption) | (simp only [smA]; done) | (simp [oneCell, AW.next_push]; done) | fail) only [go_sem, Nat.reduceEqDiff, reduceIte, Nat.reduceAdd, Int.toNat_natCast, Nat.add_zero, Owes_true, Try.results72, e1, e3, e4, e5, hlt]
    rw [List.take_length, lost_is h] at hR
    exact ⟨⟨(g1.1.trans (g2.1.mono g1.1.next)).trans (k3.mono (g1.trans g2).1.next), f3⟩, hR.num (by
      rw [← lost_is h]; exact Nat.le_trans (List.length_filter_le _ _) (by omega))⟩
  have hlt' : i < (allL A.st).length := by omega
  obtain ⟨b1, o1, v, rfl, hb1, hrow, hcell⟩ := hat i hlt'
  have a0 := hcell w3 k3
  have hti : (allL A.st)[i] ∈ samplesL A := by rw [← allL_samples h]; exact List.getElem_mem hlt'
  obtain ⟨tl, tf⟩ := (samples_mem h _).1 hti
  have hsm := fit_small hS tl tf
  have hrow3 := hrow.kept k3
  have hsum := Sum_ok _ _ w3 hrow3
  have O3 := O2.keep k3
  have d2 := O3.cell (o := 2) rfl rfl
  have hnext : ((allL A.st).take (i + 1)).filter (lostB A) = ((allL A.st).take i).filter (lostB A) ++ [(allL A.st)[i]].filter (lostB A) := by
    rw [List.take_add_one, List.getElem?_eq_getElem hlt', List.filter_append]; rfl
  generalize (allL A.st)[i] = T at *
  obtain ⟨pv, cv, rfl, _⟩ := hrow.open
  have hsv : same 12 (.slice pv T.length cv) (.slice pv T.length cv) = true := same_s12 _ _ _
  simp -dsimp -implicitDefEqProofs (maxSteps := 2000000) (disch := first | assumption | omega | (simp only [nx]; omega) | ((repeat refine Fresh.push ?_ _); assumption) | (simp only [smA]; done) | (simp [oneCell, AW.next_push]; done) | fail) only [go_sem, Nat.reduceEqDiff, reduceIte, Nat.reduceAdd, Int.toNat_natCast, Nat.add_zero, Owes_true, Try.results72, e1, e3, e4, e5, hlt, indexV_eq, a0, d2, Nat.zero_add]
  apply callV_of (e := rfl)
  · exact hsum
  rintro _ _ ⟨rfl, n, rfl, hn⟩
  rw [hn hsm]
  have hxs : same 12 x x = true := by obtain ⟨_, _, hh, _⟩ := hR; exact AOwn.sameV hh
  have hle3 : WLe w3 w3 := (Grown.refl f3).1.wle f3
  cases hd : decide (T.sum = A.lost) with
  | false =>
    simp -dsimp -implicitDefEqProofs (maxSteps := 2000000) (disch := first | assumption | omega | (simp only [nx]; omega) | ((repeat refine Fresh.push ?_ _); assumption) | (simp only [smA]; done) | (simp [oneCell, AW.next_push]; done) | fail) only [go_sem, Nat.reduceEqDiff, reduceIte, Nat.reduceAdd, Int.toNat_natCast, Nat.add_zero, Owes_true, Try.results72, e1, e3, e4, e5, hd, hle3, d2]
    have : [T].filter (lostB A) = [] := by simp [lostB, hd]
    rw [this, List.append_nil] at hnext
    refine ⟨_, by omega, i + 1, by omega, rfl, rfl, by (simp -dsimp -implicitDefEqProofs (maxSteps := 2000000) (disch := first | assumption | omega | (simp only [nx]; omega) | ((repeat refine Fresh.push ?_ _); assumption) | (simp only [smA]; done) | (simp [oneCell, AW.next_push]; done) | fail) only [go_sem, Nat.reduceEqDiff, reduceIte, Nat.reduceAdd, Int.toNat_natCast, Nat.add_zero, Owes_true, e1]; try rfl), by (simp -dsimp -implicitDefEqProofs (maxSteps := 2000000) (disch := first | assumption | omega | (simp only [nx]; omega) | ((repeat refine Fresh.push ?_ _); assumption) | (simp only [smA]; done) | (simp [oneCell, AW.next_push]; done) | fail) only [go_sem, Nat.reduceEqDiff, reduceIte, Nat.reduceAdd, Int.toNat_natCast, Nat.add_zero, Owes_true, e3]; try rfl), by (simp -dsimp -implicitDefEqProofs (maxSteps := 2000000) (disch := first | assumption | omega | (simp only [nx]; omega) | ((repeat refine Fresh.push ?_ _); assumption) | (simp only [smA]; done) | (simp [oneCell, AW.next_push]; done) | fail) only [go_sem, Nat.reduceEqDiff, reduceIte, Nat.reduceAdd, Int.toNat_natCast, Nat.add_zero, Owes_true, e5]; try rfl), x, (by simp -dsimp -implicitDefEqProofs (maxSteps := 2000000) (disch := first | assumption | omega | (simp only [nx]; omega) | ((repeat refine Fresh.push ?_ _); assumption) | (simp only [smA]; done) | (simp [oneCell, AW.next_push]; done) | fail) only [go_sem, Nat.reduceEqDiff, reduceIte, Nat.reduceAdd, Int.toNat_natCast, Nat.add_zero, Owes_true, e4]), (by rw [hnext]; exact hR), k3, f3⟩
  | true =>
    have : [T].filter (lostB A) = [T] := by simp [lostB, hd]
    rw [this] at hnext
    have g4 := (Grown.refl f3).push (.cells [.slice pv T.length cv] 22 w3.next 0 0)
    have O4 := Own.new f3 22 [.slice pv T.length cv]
    have hone : NumRows (w3.push (.cells [.slice pv T.length cv] 22 w3.next 0 0)) (.slice (some ⟨w3.next, 0, none⟩) 1 1) [T] := ⟨[.slice pv T.length cv], rfl, arr_one O4 rfl, fun j y L hy hL => by
      cases j with
      | zero => simp at hy hL; subst hy hL; exact hrow3.grown g4
      | succ j => simp at hy⟩
    obtain ⟨z2, w8, happ2, hR8, k8, f8, _⟩ := RowsR.app (hR.grown g4) hone g4.2 (by have := k3.next; have := g4.1.next; omega) (Nat.le_refl 1) (by
      have : (((allL A.st).take i).filter (lostB A)).length ≤ ((allL A.st).take i).length := List.length_filter_le _ _
      rw [List.length_take] at this
      simp only [List.length_singleton]
      omega)
    rw [← hnext] at hR8
    have hz2 : same 12 z2 z2 = true := by obtain ⟨_, _, hh, _⟩ := hR8; exact AOwn.sameV hh
    simp -dsimp -implicitDefEqProofs (maxSteps := 2000000) (disch := first | assumption | omega | (simp only [nx]; omega) | ((repeat refine Fresh.push ?_ _); assumption) | (simp only [smA]; done) | (simp [oneCell, AW.next_push]; done) | fail) only [go_sem, Nat.reduceEqDiff, reduceIte, Nat.reduceAdd, Int.toNat_natCast, Nat.add_zero, Owes_true, Try.results72, e1, e3, e4, e5, hd, hle3, d2, indexV_eq, a0, hlt, happ2]
    refine ⟨_, by omega, i + 1, by omega, rfl, rfl, by (simp -dsimp -implicitDefEqProofs (maxSteps := 2000000) (disch := first | assumption | omega | (simp only [nx]; omega) | ((repeat refine Fresh.push ?_ _); assumption) | (simp only [smA]; done) | (simp [oneCell, AW.next_push]; done) | fail) only [go_sem, Nat.reduceEqDiff, reduceIte, Nat.reduceAdd, Int.toNat_natCast, Nat.add_zero, Owes_true, e1]; try rfl), by (simp -dsimp -implicitDefEqProofs (maxSteps := 2000000) (disch := first | assumption | omega | (simp only [nx]; omega) | ((repeat refine Fresh.push ?_ _); assumption) | (simp only [smA]; done) | (simp [oneCell, AW.next_push]; done) | fail) only [go_sem, Nat.reduceEqDiff, reduceIte, Nat.reduceAdd, Int.toNat_natCast, Nat.add_zero, Owes_true, e3]; try rfl), by (simp -dsimp -implicitDefEqProofs (maxSteps := 2000000) (disch := first | assumption | omega | (simp only [nx]; omega) | ((repeat refine Fresh.push ?_ _); assumption) | (simp only [smA]; done) | (simp [oneCell, AW.next_push]; done) | fail) only [go_sem, Nat.reduceEqDiff, reduceIte, Nat.reduceAdd, Int.toNat_natCast, Nat.add_zero, Owes_true, e5]; try rfl), z2, (by simp -dsimp -implicitDefEqProofs (maxSteps := 2000000) (disch := first | assumption | omega | (simp only [nx]; omega) | ((repeat refine Fresh.push ?_ _); assumption) | (simp only [smA]; done) | (simp [oneCell, AW.next_push]; done) | fail) only [go_sem, Nat.reduceEqDiff, reduceIte, Nat.reduceAdd, Int.toNat_natCast, Nat.add_zero, Owes_true]), hR8, k3.trans ((g4.1.mono k3.next).trans k8), f8⟩
end Go.Proofs

namespace Go.Proofs
open Go Go.RowKit Go.Sim
set_option maxRecDepth 100000
theorem missI_bS {S P L : List Int} (hS : okS S) (hP : FitS S P) (hL : FitS S L) : missI S P L ≤ 24010000 := missTo_b hS hP hL (Nat.le_refl _)
def headW (S P : List Int) (LL : List (List Int)) (i : Nat) : List Int := (worstF S P (LL.take (max i 1))).2
theorem headW_in {S P : List Int} {LL : List (List Int)} (h1 : 1 ≤ LL.length) (i : Nat) : headW S P LL i ∈ LL ∧ (worstF S P (LL.take (max i 1))).1 = (missI S P (headW S P LL i) : Int) := by
  have hne : LL.take (max i 1) ≠ [] := by
    intro e
    have := congrArg List.length e
    simp only [List.length_take, List.length_nil] at this
    omega
  obtain ⟨_, h2, _⟩ := worstF_is S P (LL.take (max i 1))
  exact ⟨List.mem_of_mem_take (h2 hne).1, (h2 hne).2⟩
theorem headW_zero {S P : List Int} {LL : List (List Int)} (h1 : 1 ≤ LL.length) : headW S P LL 0 = LL[0] := by
  cases LL with
  | nil => simp at h1
  | cons t LL =>
    show (worstF S P [t]).2 = t
    have : (-1 : Int) < (missI S P t : Int) := by omega
    simp [worstF, stepW, this]
theorem headW_one {S P : List Int} {LL : List (List Int)} : headW S P LL 1 = headW S P LL 0 := rfl
theorem headW_succ {S P : List Int} {LL : List (List Int)} (h1 : 1 ≤ LL.length) {i : Nat} (hi : i < LL.length) : headW S P LL (i + 1) = if (missI S P (headW S P LL i) : Int) < (missI S P LL[i] : Int) then LL[i] else headW S P LL i := by
  rcases Nat.eq_zero_or_pos i with q | q
  · subst q
    rw [headW_one, headW_zero h1, if_neg (by omega)]
  · have e1 : max (i + 1) 1 = i + 1 := by omega
    have e2 : max i 1 = i := by omega
    have hx := (headW_in (S := S) (P := P) h1 i).2
    unfold headW at *
    rw [e1, List.take_add_one, List.getElem?_eq_getElem hi, Option.toList_some, worstF_snoc]
    rw [e2] at *
    unfold stepW
    rw [hx]
    split <;> rfl
set_option maxHeartbeats 32000000 in
theorem worstR_ok {A : AudN} (h : audB A = true) (P : List Int) (hPl : P.length = A.st.length) (hP : FitS A.st P) (LL : List (List Int)) (h1 : 1 ≤ LL.length) (hLL : ∀ t ∈ LL, t.length = A.st.length ∧ FitS A.st t) (p q : Option Addr) (a c : Nat) (v z : Value) (w : AW) (f : Fresh w) (hs : ArrOf w 1 icells (.slice p A.st.length a) A.st) (hv : ArrOf w 1 icells v P) (hz : NumRows w z LL) :
    CallT Try.prog Try.T1 (.fn (.func 71) #[]) #[.agg (audC p q a c A).toArray, v, z] w (fun r w' => Grown w w' ∧ ArrOf w' 1 icells r (worstF A.st P LL).2) := by
  obtain ⟨hS, _⟩ := audB_ok h
  have g1 := (Grown.refl f).push (.cells (audC p q a c A) 24 w.next 0 0)
  have O1 := Own.new f 24 (audC p q a c A)
  have hsa := same_audV p q a c A
  have c0 := O1.cell (o := 0) rfl rfl
  have c1 := O1.cell (o := 1) rfl rfl
  have c2 := O1.cell (o := 2) rfl rfl
  have c3 := O1.cell (o := 3) rfl rfl
  obtain ⟨pv, cv, rfl, _⟩ := id hv.open
  obtain ⟨pz, cz, rfl, _, _, hat⟩ := hz.open
  have hsv : same 12 (.slice pv P.length cv) (.slice pv P.length cv) = true := same_s12 _ _ _
  obtain ⟨b0, o0, v0, rfl, _, hrow0, hcell0⟩ := hat 0 h1
  have a00 : w.cell? ⟨b0, o0 + Int.toNat 0 * 1, none⟩ = some v0 := hcell0 w (.refl _ _)
  have hlt0 : (0 : Int) < (LL.length : Int) := by omega
  refine callT_code rfl Try.func71 rfl Try.s71_eq rfl ?_
  unfold Try.s71
  unfold audC at *
  simp -dsimp -implicitDefEqProofs (maxSteps := 2000000) (disch := first | assumption | omega | (simp only [nx]; omega) | ((repeat refine Fresh.push ?_ _); assumption) | (simp only [smA]; done) | (simp [oneCell, AW.next_push]; done) | fail) only [go_sem, Nat.reduceEqDiff, reduceIte, Nat.reduceAdd, Int.toNat_natCast, Nat.add_zero, Owes_true, Try.results71, c0, c1, c2, c3, Nat.zero_add, indexV_eq, hlt0, a00]
  generalize w.push (.cells [.slice p A.st.length a, .slice q A.co.length c, .int .i64 A.lost, .int .i64 A.sure] 24 w.next 0 0) = w1 at *
  refine loopR (fun k t ds w3 => ∃ i : Nat, i ≤ LL.length ∧ k = LL.length - i ∧ ds = [] ∧ ev t (.tmp 1) = .slice pv P.length cv ∧ ev t (.tmp 2) = .slice (some ⟨b0, o0, none⟩) LL.length cz ∧ ev t (.tmp 3) = .pointer (some ⟨w.next, 0, none⟩) ∧ ev t (.tmp 8) = .int .i64 (i : Int) ∧ ∃ x : Value, ev t (.tmp 7) = x ∧ ArrOf w3 1 icells x (headW A.st P LL i) ∧ Keep w1.next w1 w3 ∧ Fresh w3) (LL.length) ?_ ?_
  · refine ⟨0, by omega, by omega, rfl, ?_, ?_, ?_, ?_, v0, by simp -dsimp -implicitDefEqProofs (maxSteps := 2000000) (disch := first | assumption | omega | (simp only [nx]; omega) | ((repeat refine Fresh.push ?_ _); assumption) | (simp only [smA]; done) | (simp [oneCell, AW.next_push]; done) | fail) only [go_sem, Nat.reduceEqDiff, reduceIte, Nat.reduceAdd, Int.toNat_natCast, Nat.add_zero, Owes_true], by rw [headW_zero h1]; exact hrow0.grown g1, .refl _ _, g1.2⟩ <;> simp -dsimp -implicitDefEqProofs (maxSteps := 2000000) (disch := first | assumption | omega | (simp only [nx]; omega) | ((repeat refine Fresh.push ?_ _); assumption) | (simp only [smA]; done) | (simp [oneCell, AW.next_push]; done) | fail) only [go_sem, Nat.reduceEqDiff, reduceIte, Nat.reduceAdd, Int.toNat_natCast, Nat.add_zero, Owes_true] <;> rfl
  rintro k t ds w3 ⟨i, hii, rfl, rfl, e1, e2, e3, e8, x, e7, hR, k3, f3⟩
  by_cases hlt : (i : Int) < (LL.length : Int)
  case neg =>
    obtain rfl : i = LL.length := by omega
    simp -dsimp -implicitDefEqProofs (maxSteps := 2000000) (disch := first | assumption | omega | (simp only [nx]; omega) | ((repeat refine Fresh.push ?_ _); assumption) | (simp only [smA]; done) | (simp [oneCell, AW.next_push]; done) | fail) only [go_sem, Nat.reduceEqDiff, reduceIte, Nat.reduceAdd, Int.toNat_natCast, Nat.add_zero, Owes_true, Try.results71, e1, e2, e3, e7, e8, hlt]
    unfold headW at hR
    rw [show max LL.length 1 = LL.length from by omega, List.take_length] at hR
    exact ⟨⟨g1.1.trans (k3.mono g1.1.next), f3⟩, hR⟩
  have hlt' : i < LL.length := by omega
  obtain ⟨b1, o1, u, epd, hb1, hrow, hcell⟩ := hat i hlt'
  injection epd with epd
  injection epd with epd1 epd2
  subst epd1 epd2
  have gW : Grown w w3 := ⟨g1.1.trans (k3.mono g1.1.next), f3⟩
  have a0 := hcell w3 gW.1
  obtain ⟨tl, tf⟩ := hLL _ (List.getElem_mem hlt')
  obtain ⟨hl, hf⟩ := hLL _ (headW_in (S := A.st) (P := P) h1 i).1
  have hrow3 := hrow.grown gW
  have O3 := O1.keep k3
  have d0 := O3.cell (o := 0) rfl rfl
  have d1 := O3.cell (o := 1) rfl rfl
  have d2 := O3.cell (o := 2) rfl rfl
  have d3 := O3.cell (o := 3) rfl rfl
  have hnx := headW_succ (S := A.st) (P := P) h1 hlt'
  have hb1 := missI_bS hS hP tf
  have hb2 := missI_bS hS hP hf
  generalize LL[i] = T at *
  obtain ⟨pu, cu, rfl, _⟩ := id hrow.open
  obtain ⟨px, cx, rfl, _⟩ := id hR.open
  have hsu : same 12 (.slice pu T.length cu) (.slice pu T.length cu) = true := same_s12 _ _ _
  have hsx : same 12 (.slice px (headW A.st P LL i).length cx) (.slice px (headW A.st P LL i).length cx) = true := same_s12 _ _ _
  have hm1 := missR_ok h P T hPl tl hP tf p q a c _ _ w3 f3 (hs.grown gW) (hv.grown gW) hrow3
  unfold audC at hm1
  simp -dsimp -implicitDefEqProofs (maxSteps := 2000000) (disch := first | assumption | omega | (simp only [nx]; omega) | ((repeat refine Fresh.push ?_ _); assumption) | (simp only [smA]; done) | (simp [oneCell, AW.next_push]; done) | fail) only [go_sem, Nat.reduceEqDiff, reduceIte, Nat.reduceAdd, Int.toNat_natCast, Nat.add_zero, Owes_true, Try.results71, e1, e2, e3, e7, e8, hlt, indexV_eq, a0, d0, d1, d2, d3, Nat.zero_add]
  apply callV_of (e := rfl)
  · exact hm1
  rintro _ w4 ⟨rfl, g4⟩
  have gW4 := gW.trans g4
  have hle4 : WLe w3 w4 := g4.1.wle f3
  have hm2 := missR_ok h P (headW A.st P LL i) hPl hl hP hf p q a c _ _ w4 g4.2 (hs.grown gW4) (hv.grown gW4) (hR.grown g4)
  unfold audC at hm2
  simp -dsimp -implicitDefEqProofs (maxSteps := 2000000) (disch := first | assumption | omega | (simp only [nx]; omega) | ((repeat refine Fresh.push ?_ _); assumption) | (simp only [smA]; done) | (simp [oneCell, AW.next_push]; done) | fail) only [go_sem, Nat.reduceEqDiff, reduceIte, Nat.reduceAdd, Int.toNat_natCast, Nat.add_zero, Owes_true, Try.results71, hle4]
  apply callV_of (e := rfl)
  · exact hm2
  rintro _ w5 ⟨rfl, g5⟩
  have hle5 : WLe w4 w5 := g5.1.wle g4.2
  have g35 := g4.trans g5
  have a05 := hcell w5 (gW.trans g35).1
  have k5 : Keep w1.next w1 w5 := k3.trans (g35.1.mono k3.next)
  by_cases hgt : (missI A.st P T : Int) > (missI A.st P (headW A.st P LL i) : Int)
  · rw [if_pos hgt] at hnx
    simp -dsimp -implicitDefEqProofs (maxSteps := 2000000) (disch := first | assumption | omega | (simp only [nx]; omega) | ((repeat refine Fresh.push ?_ _); assumption) | (simp only [smA]; done) | (simp [oneCell, AW.next_push]; done) | fail) only [go_sem, Nat.reduceEqDiff, reduceIte, Nat.reduceAdd, Int.toNat_natCast, Nat.add_zero, Owes_true, Try.results71, e1, e2, e3, e7, e8, hlt, indexV_eq, a05, hle5, hgt]
    refine ⟨_, by omega, i + 1, by omega, rfl, rfl, by (simp -dsimp -implicitDefEqProofs (maxSteps := 2000000) (disch := first | assumption | omega | (simp only [nx]; omega) | ((repeat refine Fresh.push ?_ _); assumption) | (simp only [smA]; done) | (simp [oneCell, AW.next_push]; done) | fail) only [go_sem, Nat.reduceEqDiff, reduceIte, Nat.reduceAdd, Int.toNat_natCast, Nat.add_zero, Owes_true, e1]; try rfl), by (simp -dsimp -implicitDefEqProofs (maxSteps := 2000000) (disch := first | assumption | omega | (simp only [nx]; omega) | ((repeat refine Fresh.push ?_ _); assumption) | (simp only [smA]; done) | (simp [oneCell, AW.next_push]; done) | fail) only [go_sem, Nat.reduceEqDiff, reduceIte, Nat.reduceAdd, Int.toNat_natCast, Nat.add_zero, Owes_true, e2]; try rfl), by (simp -dsimp -implicitDefEqProofs (maxSteps := 2000000) (disch := first | assumption | omega | (simp only [nx]; omega) | ((repeat refine Fresh.push ?_ _); assumption) | (simp only [smA]; done) | (simp [oneCell, AW.next_push]; done) | fail) only [go_sem, Nat.reduceEqDiff, reduceIte, Nat.reduceAdd, Int.toNat_natCast, Nat.add_zero, Owes_true, e3]; try rfl), by (simp -dsimp -implicitDefEqProofs (maxSteps := 2000000) (disch := first | assumption | omega | (simp only [nx]; omega) | ((repeat refine Fresh.push ?_ _); assumption) | (simp only [smA]; done) | (simp [oneCell, AW.next_push]; done) | fail) only [go_sem, Nat.reduceEqDiff, reduceIte, Nat.reduceAdd, Int.toNat_natCast, Nat.add_zero, Owes_true, e8]; try rfl), .slice pu T.length cu, (by simp -dsimp -implicitDefEqProofs (maxSteps := 2000000) (disch := first | assumption | omega | (simp only [nx]; omega) | ((repeat refine Fresh.push ?_ _); assumption) | (simp only [smA]; done) | (simp [oneCell, AW.next_push]; done) | fail) only [go_sem, Nat.reduceEqDiff, reduceIte, Nat.reduceAdd, Int.toNat_natCast, Nat.add_zero, Owes_true]), (by rw [hnx]; exact hrow3.grown g35), k5, g5.2⟩
  · rw [if_neg hgt] at hnx
    simp -dsimp -implicitDefEqProofs (maxSteps := 2000000) (disch := first | assumption | omega | (simp only [nx]; omega) | ((repeat refine Fresh.push ?_ _); assumption) | (simp only [smA]; done) | (simp [oneCell, AW.next_push]; done) | fail) only [go_sem, Nat.reduceEqDiff, reduceIte, Nat.reduceAdd, Int.toNat_natCast, Nat.add_zero, Owes_true, Try.results71, e1, e2, e3, e7, e8, hlt, hle5, hgt]
    refine ⟨_, by omega, i + 1, by omega, rfl, rfl, by (simp -dsimp -implicitDefEqProofs (maxSteps := 2000000) (disch := first | assumption | omega | (simp only [nx]; omega) | ((repeat refine Fresh.push ?_ _); assumption) | (simp only [smA]; done) | (simp [oneCell, AW.next_push]; done) | fail) only [go_sem, Nat.reduceEqDiff, reduceIte, Nat.reduceAdd, Int.toNat_natCast, Nat.add_zero, Owes_true, e1]; try rfl), by (simp -dsimp -implicitDefEqProofs (maxSteps := 2000000) (disch := first | assumption | omega | (simp only [nx]; omega) | ((repeat refine Fresh.push ?_ _); assumption) | (simp only [smA]; done) | (simp [oneCell, AW.next_push]; done) | fail) only [go_sem, Nat.reduceEqDiff, reduceIte, Nat.reduceAdd, Int.toNat_natCast, Nat.add_zero, Owes_true, e2]; try rfl), by (simp -dsimp -implicitDefEqProofs (maxSteps := 2000000) (disch := first | assumption | omega | (simp only [nx]; omega) | ((repeat refine Fresh.push ?_ _); assumption) | (simp only [smA]; done) | (simp [oneCell, AW.next_push]; done) | fail) only [go_sem, Nat.reduceEqDiff, reduceIte, Nat.reduceAdd, Int.toNat_natCast, Nat.add_zero, Owes_true, e3]; try rfl), by (simp -dsimp -implicitDefEqProofs (maxSteps := 2000000) (disch := first | assumption | omega | (simp only [nx]; omega) | ((repeat refine Fresh.push ?_ _); assumption) | (simp only [smA]; done) | (simp [oneCell, AW.next_push]; done) | fail) only [go_sem, Nat.reduceEqDiff, reduceIte, Nat.reduceAdd, Int.toNat_natCast, Nat.add_zero, Owes_true, e8]; try rfl), .slice px (headW A.st P LL i).length cx, (by simp -dsimp -implicitDefEqProofs (maxSteps := 2000000) (disch := first | assumption | omega | (simp only [nx]; omega) | ((repeat refine Fresh.push ?_ _); assumption) | (simp only [smA]; done) | (simp [oneCell, AW.next_push]; done) | fail) only [go_sem, Nat.reduceEqDiff, reduceIte, Nat.reduceAdd, Int.toNat_natCast, Nat.add_zero, Owes_true, e7]), (by rw [hnx]; exact hR.grown g35), k5, g5.2⟩
end Go.Proofs

namespace Go.Proofs
open Go Go.RowKit Go.Sim
set_option maxRecDepth 100000
theorem losses_pos {A : AudN} (h : audB A = true) : 1 ≤ (lossesL A).length := by
  have := losses_ne h
  cases q : lossesL A with
  | nil => exact absurd q this
  | cons x l => simp
theorem losses_fit {A : AudN} (h : audB A = true) : ∀ t ∈ lossesL A, t.length = A.st.length ∧ FitS A.st t := fun t ht => by
  obtain ⟨x, y, _⟩ := (losses_mem h t).1 ht
  exact ⟨x, y⟩
set_option maxHeartbeats 32000000 in
theorem WorstR_ok (A : AudN) (P : List Int) (p q : Option Addr) (a c : Nat) (v : Value) (w : AW) (f : Fresh w) (hs : ArrOf w 1 icells (.slice p A.st.length a) A.st) (hc : ArrOf w 1 icells (.slice q A.co.length c) A.co) (hv : ArrOf w 1 icells v P) :
    CallT Try.prog Try.T1 (.fn (.func 21) #[]) #[.agg (audC p q a c A).toArray, v] w (fun r w' => Grown w w' ∧ ∃ (pu : Option Addr) (n cu : Nat), r = .tuple #[.slice pu n cu, .int .i64 (wE A P), .int .i64 (wA A P), .int .i64 (samE A P)] ∧ ArrOf w' 1 icells (.slice pu n cu) (wL A P)) := by
  obtain ⟨pv, cv, rfl, _⟩ := id hv.open
  have g1 := (Grown.refl f).push (.cells (audC p q a c A) 24 w.next 0 0)
  have O1 := Own.new f 24 (audC p q a c A)
  have hck := asked_ok A P p q a c (.slice pv P.length cv) _ g1.2 (hs.grown g1) (hc.grown g1) (hv.grown g1)
  have hsa := same_audV p q a c A
  have hsv : same 12 (.slice pv P.length cv) (.slice pv P.length cv) = true := same_s12 _ _ _
  refine callT_code rfl Try.func21 rfl Try.s21_eq rfl ?_
  unfold Try.s21
  unfold audC at *
  simp -dsimp -implicitDefEqProofs (maxSteps := 2000000) (disch := first | assumption | omega | (simp only [nx]; omega) | ((repeat refine Fresh.push ?_ _); assumption) | (simp only [smA]; done) | (simp [oneCell, AW.next_push]; done) | fail) only [go_sem, Nat.reduceEqDiff, reduceIte, Nat.reduceAdd, Int.toNat_natCast, Nat.add_zero, Owes_true, Try.results21]
  apply callV_of (e := rfl)
  · exact hck
  rintro _ w2 ⟨rfl, g2⟩
  have gg2 := g1.trans g2
  have O2 := O1.keep g2.1
  have c0 := O2.cell (o := 0) rfl rfl
  have c1 := O2.cell (o := 1) rfl rfl
  have c2 := O2.cell (o := 2) rfl rfl
  have c3 := O2.cell (o := 3) rfl rfl
  by_cases hz : samE A P = 0
  case neg =>
    have hd : decide (samE A P = 0) = false := decide_eq_false hz
    have h1 : wE A P = 0 := by unfold wE; rw [if_neg hz]
    have h2 : wA A P = 0 := by unfold wA; rw [if_neg hz]
    have h3 : wL A P = [] := by unfold wL; rw [if_neg hz]
    simp -dsimp -implicitDefEqProofs (maxSteps := 2000000) (disch := first | assumption | omega | (simp only [nx]; omega) | ((repeat refine Fresh.push ?_ _); assumption) | (simp only [smA]; done) | (simp [oneCell, AW.next_push]; done) | fail) only [go_sem, Nat.reduceEqDiff, reduceIte, Nat.reduceAdd, Int.toNat_natCast, Nat.add_zero, Owes_true, Try.results21, hd]
    exact ⟨gg2, none, 0, 0, by rw [h1, h2], by rw [h3]; exact ArrOf.nil _ _ _⟩
  have hd : decide (samE A P = 0) = true := decide_eq_true hz
  have hb := samE_ok hz
  obtain ⟨hS, hco, _⟩ := audB_ok hb.1
  obtain ⟨hPl, hPf⟩ := fitB_iff.1 hb.2
  have h1 : wE A P = (worstX A P).1 := by unfold wE; rw [if_pos hz]
  have h2 : wA A P = (allI A.st P : Int) := by unfold wA; rw [if_pos hz]
  have h3 : wL A P = (worstX A P).2 := by unfold wL; rw [if_pos hz]
  have hf2 : Fresh w2 := g2.2
  have hlo := lossesR_ok hb.1 p q a c w2 g2.2 (hs.grown gg2)
  unfold audC at hlo
  simp -dsimp -implicitDefEqProofs (maxSteps := 2000000) (disch := first | assumption | omega | (simp only [nx]; omega) | ((repeat refine Fresh.push ?_ _); assumption) | (simp only [smA]; done) | (simp [oneCell, AW.next_push]; done) | fail) only [go_sem, Nat.reduceEqDiff, reduceIte, Nat.reduceAdd, Int.toNat_natCast, Nat.add_zero, Owes_true, Try.results21, hd, c0, c1, c2, c3, Nat.zero_add]
  apply callV_of (e := rfl)
  · exact hlo
  rintro z w3 ⟨g3, hz3⟩
  have gg3 := gg2.trans g3
  have hle3 : WLe w2 w3 := g3.1.wle g2.2
  have O3 := O2.keep g3.1
  have f0 := O3.cell (o := 0) rfl rfl
  have f1 := O3.cell (o := 1) rfl rfl
  have f2 := O3.cell (o := 2) rfl rfl
  have f3 := O3.cell (o := 3) rfl rfl
  have hw3 := worstR_ok hb.1 P hPl hPf (lossesL A) (losses_pos hb.1) (losses_fit hb.1) p q a c _ z w3 g3.2 (hs.grown gg3) (hv.grown gg3) hz3
  obtain ⟨pz, cz, rfl, _⟩ := hz3.open
  unfold audC at hw3
  simp -dsimp -implicitDefEqProofs (maxSteps := 2000000) (disch := first | assumption | omega | (simp only [nx]; omega) | ((repeat refine Fresh.push ?_ _); assumption) | (simp only [smA]; done) | (simp [oneCell, AW.next_push]; done) | fail) only [go_sem, Nat.reduceEqDiff, reduceIte, Nat.reduceAdd, Int.toNat_natCast, Nat.add_zero, Owes_true, Try.results21, hle3, f0, f1, f2, f3, Nat.zero_add]
  apply callV_of (e := rfl)
  · exact hw3
  rintro y w4 ⟨g4, hy⟩
  have gg4 := gg3.trans g4
  have hle4 : WLe w3 w4 := g4.1.wle g3.2
  have O4 := O3.keep g4.1
  have e0 := O4.cell (o := 0) rfl rfl
  have e1 := O4.cell (o := 1) rfl rfl
  have e2 := O4.cell (o := 2) rfl rfl
  have e3 := O4.cell (o := 3) rfl rfl
  obtain ⟨hwm, hwe, _⟩ := worstX_is hb.1 P
  obtain ⟨hwl, hwf⟩ := losses_fit hb.1 _ hwm
  have hww : (worstF A.st P (lossesL A)).2 = (worstX A P).2 := rfl
  rw [hww] at hy
  obtain ⟨py, cy, rfl, _⟩ := id hy.open
  have hsy : same 12 (.slice py (worstX A P).2.length cy) (.slice py (worstX A P).2.length cy) = true := same_s12 _ _ _
  have h32 : P.length ≤ 1048576 := by have := hS.2.1; omega
  have hf4 : Fresh w4 := g4.2
  have hzA := arr_zeros g4.2 P.length h32
  have g5 := (Grown.refl g4.2).push (.cells ((zeros P.length).flatMap icells) 3 w4.next 0 0)
  have gg5 := gg4.trans g5
  have hm22 := ms22 P.length h32
  have hm1 := missR_ok hb.1 P (worstX A P).2 hPl hwl hPf hwf p q a c _ _ _ g5.2 (hs.grown gg5) (hv.grown gg5) (hy.grown g5)
  unfold audC at hm1
  simp -dsimp -implicitDefEqProofs (maxSteps := 2000000) (disch := first | assumption | omega | (simp only [nx]; omega) | ((repeat refine Fresh.push ?_ _); assumption) | (simp only [smA]; done) | (simp [oneCell, AW.next_push]; done) | fail) only [go_sem, Nat.reduceEqDiff, reduceIte, Nat.reduceAdd, Int.toNat_natCast, Nat.add_zero, Owes_true, Try.results21, hle4, e0, e1, e2, e3, Nat.zero_add, hm22]
  apply callV_of (e := rfl)
  · exact hm1
  rintro _ w6 ⟨rfl, g6⟩
  have gg6 := gg5.trans g6
  have hle6 : WLe _ w6 := g6.1.wle g5.2
  have hm2 := missR_ok hb.1 P (zeros P.length) hPl (by simp [zeros]; exact hPl) hPf (zeros_fit hS _) p q a c _ _ w6 g6.2 (hs.grown gg6) (hv.grown gg6) (hzA.grown g6)
  rw [miss_zeros] at hm2
  unfold audC at hm2
  simp -dsimp -implicitDefEqProofs (maxSteps := 2000000) (disch := first | assumption | omega | (simp only [nx]; omega) | ((repeat refine Fresh.push ?_ _); assumption) | (simp only [smA]; done) | (simp [oneCell, AW.next_push]; done) | fail) only [go_sem, Nat.reduceEqDiff, reduceIte, Nat.reduceAdd, Int.toNat_natCast, Nat.add_zero, Owes_true, Try.results21, hle6]
  apply callV_of (e := rfl)
  · exact hm2
  rintro _ w7 ⟨rfl, g7⟩
  have hle7 : WLe w6 w7 := g7.1.wle g6.2
  simp -dsimp -implicitDefEqProofs (maxSteps := 2000000) (disch := first | assumption | omega | (simp only [nx]; omega) | ((repeat refine Fresh.push ?_ _); assumption) | (simp only [smA]; done) | (simp [oneCell, AW.next_push]; done) | fail) only [go_sem, Nat.reduceEqDiff, reduceIte, Nat.reduceAdd, Int.toNat_natCast, Nat.add_zero, Owes_true, Try.results21, hle7]
  refine ⟨gg6.trans g7, py, _, cy, by rw [h1, h2, hwe, hz], ?_⟩
  rw [h3]
  exact hy.grown ((g5.trans g6).trans g7)
set_option maxHeartbeats 32000000 in
theorem findsR_ok {A : AudN} (h : audB A = true) (P : List Int) (hPl : P.length = A.st.length) (hPf : FitS A.st P) (p q : Option Addr) (a c : Nat) (v z : Value) (w : AW) (f : Fresh w) (hs : ArrOf w 1 icells (.slice p A.st.length a) A.st) (hv : ArrOf w 1 icells v P) (hz : NumRows w z (lossesL A)) :
    CallT Try.prog Try.T1 (.fn (.func 74) #[]) #[.agg (audC p q a c A).toArray, v, z] w (Ret (.bool (findsB A P)) (Grown w)) := by
  obtain ⟨hS, hco, _, _, _, hu1, hu2⟩ := audB_ok h
  obtain ⟨pv, cv, rfl, _⟩ := id hv.open
  obtain ⟨pz, cz, rfl, _⟩ := hz.open
  have g1 := (Grown.refl f).push (.cells (audC p q a c A) 24 w.next 0 0)
  have O1 := Own.new f 24 (audC p q a c A)
  have c0 := O1.cell (o := 0) rfl rfl
  have c1 := O1.cell (o := 1) rfl rfl
  have c2 := O1.cell (o := 2) rfl rfl
  have c3 := O1.cell (o := 3) rfl rfl
  have hsa := same_audV p q a c A
  have hsv : same 12 (.slice pv P.length cv) (.slice pv P.length cv) = true := same_s12 _ _ _
  have hsz : same 12 (.slice pz (lossesL A).length cz) (.slice pz (lossesL A).length cz) = true := same_s12 _ _ _
  have h32 : P.length ≤ 1048576 := by have := hS.2.1; omega
  have hm22 := ms22 P.length h32
  have hf1 : Fresh (w.push (.cells (audC p q a c A) 24 w.next 0 0)) := g1.2
  have nx1 : (w.push (.cells (audC p q a c A) 24 w.next 0 0)).next = w.next + 1 := AW.next_push _ _
  refine callT_code rfl Try.func74 rfl Try.s74_eq rfl ?_
  unfold Try.s74
  unfold audC at *
  simp -dsimp -implicitDefEqProofs (maxSteps := 2000000) (disch := first | assumption | omega | (simp only [nx]; omega) | ((repeat refine Fresh.push ?_ _); assumption) | (simp only [smA]; done) | (simp [oneCell, AW.next_push]; done) | fail) only [go_sem, Nat.reduceEqDiff, reduceIte, Nat.reduceAdd, Int.toNat_natCast, Nat.add_zero, Owes_true, Try.results74]
  generalize w.push (.cells [.slice p A.st.length a, .slice q A.co.length c, .int .i64 A.lost, .int .i64 A.sure] 24 w.next 0 0) = w1 at *
  have hzA := arr_zeros g1.2 P.length h32
  have g2 := (Grown.refl g1.2).push (.cells ((zeros P.length).flatMap icells) 3 w1.next 0 0)
  have gg2 := g1.trans g2
  have hw3 := worstR_ok h P hPl hPf (lossesL A) (losses_pos h) (losses_fit h) p q a c _ _ _ g2.2 (hs.grown gg2) (hv.grown gg2) (hz.grown gg2)
  unfold audC at hw3
  simp -dsimp -implicitDefEqProofs (maxSteps := 2000000) (disch := first | assumption | omega | (simp only [nx]; omega) | ((repeat refine Fresh.push ?_ _); assumption) | (simp only [smA]; done) | (simp [oneCell, AW.next_push]; done) | fail) only [go_sem, Nat.reduceEqDiff, reduceIte, Nat.reduceAdd, Int.toNat_natCast, Nat.add_zero, Owes_true, Try.results74, c0, c1, c2, c3, Nat.zero_add, hm22]
  apply callV_of (e := rfl)
  · exact hw3
  rintro y w3 ⟨g3, hy⟩
  have gg3 := gg2.trans g3
  have hle3 : WLe _ w3 := g3.1.wle g2.2
  obtain ⟨hwm, hwe, _⟩ := worstX_is h P
  obtain ⟨hwl, hwf⟩ := losses_fit h _ hwm
  have hww : (worstF A.st P (lossesL A)).2 = (worstX A P).2 := rfl
  rw [hww] at hy
  obtain ⟨py, cy, rfl, _⟩ := id hy.open
  have hsy : same 12 (.slice py (worstX A P).2.length cy) (.slice py (worstX A P).2.length cy) = true := same_s12 _ _ _
  have hfb : findsB A P = decide (1000 * (worstX A P).1 ≤ (allI A.st P : Int) * (1000 - A.sure)) := rfl
  rw [hfb, hwe]
  have hb1 := missI_bS hS hPf hwf
  have hb2 : allI A.st P ≤ 24010000 := missTo_b hS hPf (fit_nil hS) (i := A.st.length) (Nat.le_refl _)
  have hm1 := missR_ok h P (worstX A P).2 hPl hwl hPf hwf p q a c _ _ w3 g3.2 (hs.grown gg3) (hv.grown gg3) hy
  have hall : missI A.st P (zeros P.length) = allI A.st P := miss_zeros _ _ _
  have hm2 := fun w' (g' : Grown w3 w') => missR_ok h P (zeros P.length) hPl (by simp [zeros]; exact hPl) hPf (zeros_fit hS _) p q a c _ _ w' g'.2 (hs.grown (gg3.trans g')) (hv.grown (gg3.trans g')) (hzA.grown (g3.trans g'))
  rw [hall] at hm2
  generalize missI A.st P (worstX A P).2 = N at *
  generalize allI A.st P = M at *
  have m1 : (0 : Int) ≤ (M : Int) * (1000 - A.sure) := Int.mul_nonneg (by omega) (by omega)
  have m2 : (M : Int) * (1000 - A.sure) ≤ 24010000 * 1000 := Int.mul_le_mul (by omega) (by omega) (by omega) (by omega)
  unfold audC at hm1 hm2
  simp -dsimp -implicitDefEqProofs (maxSteps := 2000000) (disch := first | assumption | omega | (simp only [nx]; omega) | ((repeat refine Fresh.push ?_ _); assumption) | (simp only [smA]; done) | (simp [oneCell, AW.next_push]; done) | fail) only [go_sem, Nat.reduceEqDiff, reduceIte, Nat.reduceAdd, Int.toNat_natCast, Nat.add_zero, Owes_true, Try.results74, hle3]
  apply callV_of (e := rfl)
  · exact hm1
  rintro _ w4 ⟨rfl, g4⟩
  have hle4 : WLe w3 w4 := g4.1.wle g3.2
  simp -dsimp -implicitDefEqProofs (maxSteps := 2000000) (disch := first | assumption | omega | (simp only [nx]; omega) | ((repeat refine Fresh.push ?_ _); assumption) | (simp only [smA]; done) | (simp [oneCell, AW.next_push]; done) | fail) only [go_sem, Nat.reduceEqDiff, reduceIte, Nat.reduceAdd, Int.toNat_natCast, Nat.add_zero, Owes_true, Try.results74, hle4]
  apply callV_of (e := rfl)
  · exact hm2 w4 g4
  rintro _ w5 ⟨rfl, g5⟩
  have hle5 : WLe w4 w5 := g5.1.wle g4.2
  simp -dsimp -implicitDefEqProofs (maxSteps := 2000000) (disch := first | assumption | omega | (simp only [nx]; omega) | ((repeat refine Fresh.push ?_ _); assumption) | (simp only [smA]; done) | (simp [oneCell, AW.next_push]; done) | fail) only [go_sem, Nat.reduceEqDiff, reduceIte, Nat.reduceAdd, Int.toNat_natCast, Nat.add_zero, Owes_true, Try.results74, hle5]
  exact ⟨rfl, (gg3.trans g4).trans g5⟩
set_option maxHeartbeats 32000000 in
theorem FindsR_ok (A : AudN) (P : List Int) (p q : Option Addr) (a c : Nat) (v : Value) (w : AW) (f : Fresh w) (hs : ArrOf w 1 icells (.slice p A.st.length a) A.st) (hc : ArrOf w 1 icells (.slice q A.co.length c) A.co) (hv : ArrOf w 1 icells v P) :
    CallT Try.prog Try.T1 (.fn (.func 24) #[]) #[.agg (audC p q a c A).toArray, v] w (Ret (.tuple #[.bool (fndB A P), .int .i64 (samE A P)]) (Grown w)) := by
  obtain ⟨pv, cv, rfl, _⟩ := id hv.open
  have g1 := (Grown.refl f).push (.cells (audC p q a c A) 24 w.next 0 0)
  have O1 := Own.new f 24 (audC p q a c A)
  have hck := asked_ok A P p q a c (.slice pv P.length cv) _ g1.2 (hs.grown g1) (hc.grown g1) (hv.grown g1)
  have hsa := same_audV p q a c A
  have hsv : same 12 (.slice pv P.length cv) (.slice pv P.length cv) = true := same_s12 _ _ _
  refine callT_code rfl Try.func24 rfl Try.s24_eq rfl ?_
  unfold Try.s24
  unfold audC at *
  simp -dsimp -implicitDefEqProofs (maxSteps := 2000000) (disch := first | assumption | omega | (simp only [nx]; omega) | ((repeat refine Fresh.push ?_ _); assumption) | (simp only [smA]; done) | (simp [oneCell, AW.next_push]; done) | fail) only [go_sem, Nat.reduceEqDiff, reduceIte, Nat.reduceAdd, Int.toNat_natCast, Nat.add_zero, Owes_true, Try.results24]
  apply callV_of (e := rfl)
  · exact hck
  rintro _ w2 ⟨rfl, g2⟩
  have gg2 := g1.trans g2
  have O2 := O1.keep g2.1
  have c0 := O2.cell (o := 0) rfl rfl
  have c1 := O2.cell (o := 1) rfl rfl
  have c2 := O2.cell (o := 2) rfl rfl
  have c3 := O2.cell (o := 3) rfl rfl
  by_cases hz : samE A P = 0
  case neg =>
    have hd : decide (samE A P = 0) = false := decide_eq_false hz
    simp -dsimp -implicitDefEqProofs (maxSteps := 2000000) (disch := first | assumption | omega | (simp only [nx]; omega) | ((repeat refine Fresh.push ?_ _); assumption) | (simp only [smA]; done) | (simp [oneCell, AW.next_push]; done) | fail) only [go_sem, Nat.reduceEqDiff, reduceIte, Nat.reduceAdd, Int.toNat_natCast, Nat.add_zero, Owes_true, Try.results24, hd]
    exact ⟨by simp [fndB, hz], gg2⟩
  have hd : decide (samE A P = 0) = true := decide_eq_true hz
  have hb := samE_ok hz
  obtain ⟨hPl, hPf⟩ := fitB_iff.1 hb.2
  have hF : fndB A P = findsB A P := by unfold fndB; rw [if_pos hz]
  have hlo := lossesR_ok hb.1 p q a c w2 g2.2 (hs.grown gg2)
  unfold audC at hlo
  rw [hF, hz]
  simp -dsimp -implicitDefEqProofs (maxSteps := 2000000) (disch := first | assumption | omega | (simp only [nx]; omega) | ((repeat refine Fresh.push ?_ _); assumption) | (simp only [smA]; done) | (simp [oneCell, AW.next_push]; done) | fail) only [go_sem, Nat.reduceEqDiff, reduceIte, Nat.reduceAdd, Int.toNat_natCast, Nat.add_zero, Owes_true, Try.results24, hd, c0, c1, c2, c3, Nat.zero_add]
  apply callV_of (e := rfl)
  · exact hlo
  rintro z w3 ⟨g3, hz3⟩
  have gg3 := gg2.trans g3
  have hle3 : WLe w2 w3 := g3.1.wle g2.2
  have hfi := findsR_ok hb.1 P hPl hPf p q a c _ z w3 g3.2 (hs.grown gg3) (hv.grown gg3) hz3
  obtain ⟨pz, cz, rfl, _⟩ := hz3.open
  unfold audC at hfi
  simp -dsimp -implicitDefEqProofs (maxSteps := 2000000) (disch := first | assumption | omega | (simp only [nx]; omega) | ((repeat refine Fresh.push ?_ _); assumption) | (simp only [smA]; done) | (simp [oneCell, AW.next_push]; done) | fail) only [go_sem, Nat.reduceEqDiff, reduceIte, Nat.reduceAdd, Int.toNat_natCast, Nat.add_zero, Owes_true, Try.results24, hle3]
  apply callV_of (e := rfl)
  · exact hfi
  rintro _ w4 ⟨rfl, g4⟩
  have hle4 : WLe w3 w4 := g4.1.wle g3.2
  simp -dsimp -implicitDefEqProofs (maxSteps := 2000000) (disch := first | assumption | omega | (simp only [nx]; omega) | ((repeat refine Fresh.push ?_ _); assumption) | (simp only [smA]; done) | (simp [oneCell, AW.next_push]; done) | fail) only [go_sem, Nat.reduceEqDiff, reduceIte, Nat.reduceAdd, Int.toNat_natCast, Nat.add_zero, Owes_true, Try.results24, hle4]
  exact ⟨rfl, gg3.trans g4⟩
end Go.Proofs

namespace Go.Proofs
open Go Go.RowKit Go.Sim
set_option maxRecDepth 100000
end Go.Proofs

namespace Go.Proofs
open Go Go.RowKit Go.Sim
set_option maxRecDepth 100000
theorem Try.und22 : Try.prog.underlying 22 = some (.slice 3) := by kernel_rfl
theorem Try.und4 : Try.prog.underlying 4 = some .bool := by kernel_rfl
theorem Try.cells3 : Try.prog.cellsOf 3 = 1 := by kernel_rfl
theorem given_int {w : AW} {n : Nat} {cs : List Value} (h : Hd Try.prog w n 3 cs) : ∃ x : Int, cs = icells x ∧ -9223372036854775808 ≤ x ∧ x ≤ 9223372036854775807 := by
  cases n with
  | zero => exact h.elim
  | succ n =>
    simp only [Hd, Try.und3] at h
    obtain ⟨i, rfl, h1, h2⟩ := h
    exact ⟨i, rfl, h1, h2⟩
theorem rows_ofR {R : Int → Prop} {rows : List (List Value)} (h : ∀ r ∈ rows, ∃ x : Int, r = icells x ∧ R x) : ∃ xs : List Int, rows = xs.map icells ∧ ∀ x ∈ xs, R x := by
  induction rows with
  | nil => exact ⟨[], rfl, fun _ h => by cases h⟩
  | cons r rows ih =>
    obtain ⟨x, hx, hr⟩ := h r List.mem_cons_self
    obtain ⟨xs, hxs, hr2⟩ := ih fun q hq => h q (List.mem_cons_of_mem _ hq)
    exact ⟨x :: xs, by rw [hx, hxs]; rfl, fun y hy => by
      rcases List.mem_cons.1 hy with rfl | hy
      · exact hr
      · exact hr2 y hy⟩
def I64 (x : Int) : Prop := -9223372036854775808 ≤ x ∧ x ≤ 9223372036854775807
theorem given_ints {w : AW} {n : Nat} {cs : List Value} (h : Hd Try.prog w n 22 cs) : ∃ v, cs = [v] ∧ ∃ xs, ArrOf w 1 icells v xs ∧ ∀ x ∈ xs, I64 x := by
  cases n with
  | zero => exact h.elim
  | succ n =>
    simp only [Hd, Try.und22, Try.cells3] at h
    obtain ⟨v, rows, rfl, ha, hr, hgv⟩ := h
    obtain ⟨xs, rfl, hI⟩ := rows_ofR (R := I64) fun r hq => by obtain ⟨x, hx, h1, h2⟩ := given_int (hr r hq); exact ⟨x, hx, h1, h2⟩
    exact ⟨v, rfl, xs, ha, hI⟩
theorem given_intsV {w : AW} {n : Nat} {v : Value} (h : HdV Try.prog w n 22 v) : ∃ xs, ArrOf w 1 icells v xs ∧ ∀ x ∈ xs, I64 x := by
  simp only [HdV, Try.und22] at h
  obtain ⟨u, e, xs, hx⟩ := given_ints h
  injection e with e
  subst e
  exact ⟨xs, hx⟩
end Go.Proofs

namespace Go.Proofs
open Go Go.RowKit Go.Sim
set_option maxRecDepth 100000
end Go.Proofs

namespace Go.Proofs
open Go Go.RowKit Go.Sim
set_option maxRecDepth 100000
theorem given_intsD {w : AW} {n : Nat} {cs : List Value} (h : Hd Try.prog w n 22 cs) : ∃ v, cs = [v] ∧ ∃ xs, ArrOf w 1 icells v xs ∧ (∀ x ∈ xs, I64 x) ∧ Cutt w v xs.length := by
  cases n with
  | zero => exact h.elim
  | succ n =>
    simp only [Hd, Try.und22, Try.cells3] at h
    obtain ⟨v, rows, rfl, ha, hr, hgv⟩ := h
    obtain ⟨xs, rfl, hI⟩ := rows_ofR (R := I64) fun r hq => by obtain ⟨x, hx, h1, h2⟩ := given_int (hr r hq); exact ⟨x, hx, h1, h2⟩
    have hA : ArrOf w 1 icells v xs := ha
    refine ⟨v, rfl, xs, hA, hI, ?_⟩
    obtain ⟨p, cap, rfl, hc, _, hat⟩ := hA.open
    rcases Nat.eq_zero_or_pos xs.length with q | q
    · exact .inl q
    · obtain ⟨b, o, rfl, hb, _⟩ := hat 0 q
      obtain ⟨g1, cs, g2⟩ := hgv.1 b o none _ _ rfl q
      exact .inr ⟨b, o, cap, rfl, hc, g1, .inl ⟨cs, g2⟩⟩
theorem given_audit {w : AW} {n : Nat} {v : Value} (h : HdV Try.prog w n 24 v) : ∃ (A : AudN) (p q : Option Addr) (a c : Nat), v = .agg (audC p q a c A).toArray ∧ ArrOf w 1 icells (.slice p A.st.length a) A.st ∧ Cutt w (.slice p A.st.length a) A.st.length ∧ ArrOf w 1 icells (.slice q A.co.length c) A.co ∧ I64 A.lost ∧ I64 A.sure ∧ (∀ x ∈ A.st, I64 x) ∧ ∀ x ∈ A.co, I64 x := by
  simp only [HdV, Try.underlying24] at h
  obtain ⟨cs, rfl, h⟩ := h
  cases n with
  | zero => exact h.elim
  | succ n =>
    simp only [Hd, Try.underlying24] at h
    obtain ⟨parts, hc, hl, hp⟩ := h
    match parts, hl with
    | [p0, p1, p2, p3], _ =>
      obtain ⟨u, rfl, xs, hx, hxi, hxc⟩ := given_intsD (hp 0 _ p0 rfl rfl)
      obtain ⟨z, rfl, ys, hy, hyi, _⟩ := given_intsD (hp 1 _ p1 rfl rfl)
      obtain ⟨k, rfl, hk⟩ := given_int (hp 2 _ p2 rfl rfl)
      obtain ⟨s, rfl, hs⟩ := given_int (hp 3 _ p3 rfl rfl)
      obtain ⟨p, a, rfl, _⟩ := id hx.open
      obtain ⟨q, c, rfl, _⟩ := id hy.open
      refine ⟨⟨xs, ys, k, s⟩, p, q, a, c, ?_, hx, hxc, hy, hk, hs, hxi, hyi⟩
      rw [show cs = cs.toList.toArray from rfl, hc]; rfl
end Go.Proofs

namespace Go.Proofs
open Go Go.RowKit Go.Sim
set_option maxRecDepth 100000
theorem Try.eqb4 (a b : Bool) : eqQ Try.prog .eql 4 (.bool a) (.bool b) = some (.bool (a == b)) := by cases a <;> cases b <;> kernel_rfl
set_option maxHeartbeats 64000000 in
theorem samples_law (w : AW) (xs : List Value) (f : Fresh w) (h : HdAll Try.prog w [24, 22, 22] xs) : CallT Try.prog Try.T1 (.fn (.func 3) #[]) xs.toArray w fun v _ => v = .bool true := by
  cases h with
  | cons n1 h1 h =>
  cases h with
  | cons n2 h2 h =>
  cases h with
  | cons n3 h3 h =>
  cases h
  rename_i v1 v2 v3
  obtain ⟨A, p, q, a, c, rfl, hs, hcut, hc, _, _, _, _⟩ := given_audit h1
  obtain ⟨P, hPa, _⟩ := given_intsV h2
  obtain ⟨L, hLa, _⟩ := given_intsV h3
  obtain ⟨pP, cP, rfl, _⟩ := id hPa.open
  obtain ⟨pL, cL, rfl, _⟩ := id hLa.open
  clear h1 h2 h3
  show CallT Try.prog Try.T1 (.fn (.func 3) #[]) #[.agg (audC p q a c A).toArray, .slice pP P.length cP, .slice pL L.length cL] w _
  have g1 := (Grown.refl f).push (.cells (audC p q a c A) 24 w.next 0 0)
  have O1 := Own.new f 24 (audC p q a c A)
  have hmiss := fun (w' : AW) (g' : Grown w w') => Miss_ok A P L p q a c _ _ w' g'.2 (hs.grown g') (hc.grown g') (hPa.grown g') (hLa.grown g')
  have hmissR := fun (w' : AW) (g' : Grown w w') => MissR_ok A P L p q a c _ _ w' g'.2 (hs.grown g') (hc.grown g') (hPa.grown g') (hLa.grown g')
  have hchk := fun (w' : AW) (g' : Grown w w') => Check_ok A p q a c w' g'.2 (hs.grown g') (hc.grown g')
  have hchkR := fun (w' : AW) (g' : Grown w w') => CheckR_ok A p q a c w' g'.2 (hs.grown g') (hc.grown g')
  have hwst := fun (w' : AW) (g' : Grown w w') => Worst_ok A P p q a c _ w' g'.2 (hs.grown g') (hcut.grown g'.1) (hc.grown g') (hPa.grown g')
  have hwstR := fun (w' : AW) (g' : Grown w w') => WorstR_ok A P p q a c _ w' g'.2 (hs.grown g') (hc.grown g') (hPa.grown g')
  have hfnd := fun (w' : AW) (g' : Grown w w') => Finds_ok A P p q a c _ w' g'.2 (hs.grown g') (hcut.grown g'.1) (hc.grown g') (hPa.grown g')
  have hfndR := fun (w' : AW) (g' : Grown w w') => FindsR_ok A P p q a c _ w' g'.2 (hs.grown g') (hc.grown g') (hPa.grown g')
  have hsa := same_audV p q a c A
  refine callT_code rfl Try.func3 rfl Try.s3_eq rfl ?_
  unfold Try.s3
  unfold audC at *
  simp -dsimp -implicitDefEqProofs (maxSteps := 2000000) (disch := first | assumption | omega | (simp only [nx]; omega) | ((repeat refine Fresh.push ?_ _); assumption) | (simp only [smA]; done) | (simp [oneCell, AW.next_push]; done) | fail) only [go_sem, Nat.reduceEqDiff, reduceIte, Nat.reduceAdd, Int.toNat_natCast, Nat.add_zero, Owes_true, Try.results3]
  generalize w.push (.cells [.slice p A.st.length a, .slice q A.co.length c, .int .i64 A.lost, .int .i64 A.sure] 24 w.next 0 0) = w1 at *
  have a0 := O1.cell (o := 0) rfl rfl
  have a1 := O1.cell (o := 1) rfl rfl
  have a2 := O1.cell (o := 2) rfl rfl
  have a3 := O1.cell (o := 3) rfl rfl
  try simp -dsimp -implicitDefEqProofs (maxSteps := 2000000) (disch := first | assumption | omega | (simp only [nx]; omega) | ((repeat refine Fresh.push ?_ _); assumption) | (simp only [smA]; done) | (simp [oneCell, AW.next_push]; done) | fail) only [go_sem, Nat.reduceEqDiff, reduceIte, Nat.reduceAdd, Int.toNat_natCast, Nat.add_zero, Owes_true, Try.results3, a0, a1, a2, a3, Nat.zero_add]
  apply callV_of (e := rfl)
  · exact hmiss w1 g1
  rintro _ w2 ⟨rfl, g2⟩
  have gg2 := g1.trans g2
  have O2 := O1.keep g2.1
  have b0 := O2.cell (o := 0) rfl rfl
  have b1 := O2.cell (o := 1) rfl rfl
  have b2 := O2.cell (o := 2) rfl rfl
  have b3 := O2.cell (o := 3) rfl rfl
  simp -dsimp -implicitDefEqProofs (maxSteps := 2000000) (disch := first | assumption | omega | (simp only [nx]; omega) | ((repeat refine Fresh.push ?_ _); assumption) | (simp only [smA]; done) | (simp [oneCell, AW.next_push]; done) | fail) only [go_sem, Nat.reduceEqDiff, reduceIte, Nat.reduceAdd, Int.toNat_natCast, Nat.add_zero, Owes_true, Try.results3, b0, b1, b2, b3, Nat.zero_add]
  apply callV_of (e := rfl)
  · exact hmissR w2 gg2
  rintro _ w3 ⟨rfl, g3⟩
  have gg3 := gg2.trans g3
  have O3 := O2.keep g3.1
  have c0 := O3.cell (o := 0) rfl rfl
  have c1 := O3.cell (o := 1) rfl rfl
  have c2 := O3.cell (o := 2) rfl rfl
  have c3 := O3.cell (o := 3) rfl rfl
  have dV : decide (missV A P L = missV A P L) = true := decide_eq_true rfl
  have dW : decide (missW A P L = missW A P L) = true := decide_eq_true rfl
  have dE : decide (missE A P L = missE A P L) = true := decide_eq_true rfl
  have dA : decide (audE A = audE A) = true := decide_eq_true rfl
  simp -dsimp -implicitDefEqProofs (maxSteps := 2000000) (disch := first | assumption | omega | (simp only [nx]; omega) | ((repeat refine Fresh.push ?_ _); assumption) | (simp only [smA]; done) | (simp [oneCell, AW.next_push]; done) | fail) only [go_sem, Nat.reduceEqDiff, reduceIte, Nat.reduceAdd, Int.toNat_natCast, Nat.add_zero, Owes_true, Try.results3, c0, c1, c2, c3, Nat.zero_add, dV, dW, dE]
  apply callV_of (e := rfl)
  · exact hchk w3 gg3
  rintro _ w4 ⟨rfl, g4⟩
  have gg4 := gg3.trans g4
  have hle4 : WLe w3 w4 := g4.1.wle g3.2
  have O4 := O3.keep g4.1
  simp -dsimp -implicitDefEqProofs (maxSteps := 2000000) (disch := first | assumption | omega | (simp only [nx]; omega) | ((repeat refine Fresh.push ?_ _); assumption) | (simp only [smA]; done) | (simp [oneCell, AW.next_push]; done) | fail) only [go_sem, Nat.reduceEqDiff, reduceIte, Nat.reduceAdd, Int.toNat_natCast, Nat.add_zero, Owes_true, Try.results3, hle4]
  apply callV_of (e := rfl)
  · exact hchkR w4 gg4
  rintro _ w5 ⟨rfl, g5⟩
  have gg5 := gg4.trans g5
  have hle5 : WLe w4 w5 := g5.1.wle g4.2
  have O5 := O4.keep g5.1
  have d0 := O5.cell (o := 0) rfl rfl
  have d1 := O5.cell (o := 1) rfl rfl
  have d2 := O5.cell (o := 2) rfl rfl
  have d3 := O5.cell (o := 3) rfl rfl
  simp -dsimp -implicitDefEqProofs (maxSteps := 2000000) (disch := first | assumption | omega | (simp only [nx]; omega) | ((repeat refine Fresh.push ?_ _); assumption) | (simp only [smA]; done) | (simp [oneCell, AW.next_push]; done) | fail) only [go_sem, Nat.reduceEqDiff, reduceIte, Nat.reduceAdd, Int.toNat_natCast, Nat.add_zero, Owes_true, Try.results3, hle5, dA, dV, dW, dE, d0, d1, d2, d3, Nat.zero_add]
  apply callV_of (e := rfl)
  · exact hwst w5 gg5
  rintro _ w6 ⟨g6, pu, nu, cu, rfl, hwA⟩
  have gg6 := gg5.trans g6
  have O6 := O5.keep g6.1
  have e0 := O6.cell (o := 0) rfl rfl
  have e1 := O6.cell (o := 1) rfl rfl
  have e2 := O6.cell (o := 2) rfl rfl
  have e3 := O6.cell (o := 3) rfl rfl
  simp -dsimp -implicitDefEqProofs (maxSteps := 2000000) (disch := first | assumption | omega | (simp only [nx]; omega) | ((repeat refine Fresh.push ?_ _); assumption) | (simp only [smA]; done) | (simp [oneCell, AW.next_push]; done) | fail) only [go_sem, Nat.reduceEqDiff, reduceIte, Nat.reduceAdd, Int.toNat_natCast, Nat.add_zero, Owes_true, Try.results3, e0, e1, e2, e3, Nat.zero_add]
  apply callV_of (e := rfl)
  · exact hwstR w6 gg6
  rintro _ w7 ⟨g7, pu', nu', cu', rfl, hwB⟩
  have gg7 := gg6.trans g7
  have O7 := O6.keep g7.1
  have f0 := O7.cell (o := 0) rfl rfl
  have f1 := O7.cell (o := 1) rfl rfl
  have f2 := O7.cell (o := 2) rfl rfl
  have f3 := O7.cell (o := 3) rfl rfl
  simp -dsimp -implicitDefEqProofs (maxSteps := 2000000) (disch := first | assumption | omega | (simp only [nx]; omega) | ((repeat refine Fresh.push ?_ _); assumption) | (simp only [smA]; done) | (simp [oneCell, AW.next_push]; done) | fail) only [go_sem, Nat.reduceEqDiff, reduceIte, Nat.reduceAdd, Int.toNat_natCast, Nat.add_zero, Owes_true, Try.results3]
  apply callV_of (e := rfl)
  · exact Same_ok (wL A P) (wL A P) _ _ w7 (hwA.grown g7) hwB
  rintro _ _ ⟨rfl, rfl⟩
  have d1' : decide (wL A P = wL A P) = true := decide_eq_true rfl
  have d2' : decide (wE A P = wE A P) = true := decide_eq_true rfl
  have d3' : decide (wA A P = wA A P) = true := decide_eq_true rfl
  have d4' : decide (samE A P = samE A P) = true := decide_eq_true rfl
  simp -dsimp -implicitDefEqProofs (maxSteps := 2000000) (disch := first | assumption | omega | (simp only [nx]; omega) | ((repeat refine Fresh.push ?_ _); assumption) | (simp only [smA]; done) | (simp [oneCell, AW.next_push]; done) | fail) only [go_sem, Nat.reduceEqDiff, reduceIte, Nat.reduceAdd, Int.toNat_natCast, Nat.add_zero, Owes_true, Try.results3, d1', d2', d3', d4', f0, f1, f2, f3, Nat.zero_add]
  apply callV_of (e := rfl)
  · exact hfnd w7 gg7
  rintro _ w8 ⟨rfl, g8⟩
  have gg8 := gg7.trans g8
  have O8 := O7.keep g8.1
  have h0 := O8.cell (o := 0) rfl rfl
  have h1 := O8.cell (o := 1) rfl rfl
  have h2 := O8.cell (o := 2) rfl rfl
  have h3 := O8.cell (o := 3) rfl rfl
  simp -dsimp -implicitDefEqProofs (maxSteps := 2000000) (disch := first | assumption | omega | (simp only [nx]; omega) | ((repeat refine Fresh.push ?_ _); assumption) | (simp only [smA]; done) | (simp [oneCell, AW.next_push]; done) | fail) only [go_sem, Nat.reduceEqDiff, reduceIte, Nat.reduceAdd, Int.toNat_natCast, Nat.add_zero, Owes_true, Try.results3, h0, h1, h2, h3, Nat.zero_add]
  apply callV_of (e := rfl)
  · exact hfndR w8 gg8
  rintro _ w9 ⟨rfl, g9⟩
  cases hb : fndB A P with
  | true =>
    simp -dsimp -implicitDefEqProofs (maxSteps := 2000000) (disch := first | assumption | omega | (simp only [nx]; omega) | ((repeat refine Fresh.push ?_ _); assumption) | (simp only [smA]; done) | (simp [oneCell, AW.next_push]; done) | fail) only [go_sem, Nat.reduceEqDiff, reduceIte, Nat.reduceAdd, Int.toNat_natCast, Nat.add_zero, Owes_true, Try.results3, hb, d4', Try.eqb4]
    apply callV_of (e := rfl)
    · exact callT_told (Q := fun v w' => v = .bool true ∧ w9 = w') (v := .bool true) (w' := w9) rfl ⟨rfl, rfl⟩
    rintro _ _ ⟨rfl, rfl⟩
    simp -dsimp -implicitDefEqProofs (maxSteps := 2000000) (disch := first | assumption | omega | (simp only [nx]; omega) | ((repeat refine Fresh.push ?_ _); assumption) | (simp only [smA]; done) | (simp [oneCell, AW.next_push]; done) | fail) only [go_sem, Nat.reduceEqDiff, reduceIte, Nat.reduceAdd, Int.toNat_natCast, Nat.add_zero, Owes_true, Try.results3]
  | false =>
    simp -dsimp -implicitDefEqProofs (maxSteps := 2000000) (disch := first | assumption | omega | (simp only [nx]; omega) | ((repeat refine Fresh.push ?_ _); assumption) | (simp only [smA]; done) | (simp [oneCell, AW.next_push]; done) | fail) only [go_sem, Nat.reduceEqDiff, reduceIte, Nat.reduceAdd, Int.toNat_natCast, Nat.add_zero, Owes_true, Try.results3, hb, d4', Try.eqb4]
    apply callV_of (e := rfl)
    · exact callT_told (Q := fun v w' => v = .bool true ∧ w9 = w') (v := .bool true) (w' := w9) rfl ⟨rfl, rfl⟩
    rintro _ _ ⟨rfl, rfl⟩
    simp -dsimp -implicitDefEqProofs (maxSteps := 2000000) (disch := first | assumption | omega | (simp only [nx]; omega) | ((repeat refine Fresh.push ?_ _); assumption) | (simp only [smA]; done) | (simp [oneCell, AW.next_push]; done) | fail) only [go_sem, Nat.reduceEqDiff, reduceIte, Nat.reduceAdd, Int.toNat_natCast, Nat.add_zero, Owes_true, Try.results3]
end Go.Proofs

namespace Go.Proofs
open Go Go.RowKit Go.Sim Go.ChangeShapes Go.WideShapes Go.ChangeAt
set_option maxRecDepth 100000
theorem Try.own : ownKnob Try.prog.godebug = none := by kernel_rfl
theorem Try.laidOut : laidOutB Try.prog = true := by kernel_rfl
end Go.Proofs
