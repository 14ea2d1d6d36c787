/- Deals: contracts of what is in range. -/
import Derived.Test.YtdbeiefgokocnaaTb
import Derived.Test.YtdbeiefgokocnaaNb
set_option linter.unusedVariables false
set_option linter.unusedSimpArgs false
/- Deals: what is valid, and the last day of an age. -/
namespace Go.Proofs
open Go Go.RowKit Go.Sim
set_option maxRecDepth 100000
structure DealN where
  (r c a fr fe tm gr st sm : Int)
theorem within_ok (n a b : Int) (w : AW) : CallT Try.prog Try.T1 (.fn (.func 50) #[]) #[.int .i64 n, .int .i64 a, .int .i64 b] w (Ret (.bool (inR a n b)) fun w' => w = w') := by
  refine callT_code rfl Try.func50 rfl Try.s50_eq rfl ?_
  unfold Try.s50
  by_cases h : a ≤ n
  all_goals
    simp -dsimp -implicitDefEqProofs (maxSteps := 2000000) (disch := first | assumption | omega | (simp only [AW.next_push, AW.next_put]; omega) | ((repeat refine Fresh.push ?_ _); assumption) | (simp only [same_int, same_bool, same_ptr, same_slice, same_sliceP, same_nil, same_agg2, same_string]; done) | (simp [oneCell, AW.next_push]; done) | fail) only [go_sem, Nat.reduceEqDiff, reduceIte, Nat.reduceAdd, Int.toNat_natCast, Nat.add_zero, Owes_true, Try.results50, h]
    exact ⟨by simp [inR, h], rfl⟩
theorem From_ok (a n b : Int) (w : AW) : CallT Try.prog Try.T1 (.fn (.func 32) #[]) #[.int .i64 a, .int .i64 n, .int .i64 b] w (Ret (.bool (inR a n b)) fun w' => w = w') := by
  refine callT_code rfl Try.func32 rfl Try.s32_eq rfl ?_
  unfold Try.s32
  by_cases h : a ≤ n
  all_goals
    simp -dsimp -implicitDefEqProofs (maxSteps := 2000000) (disch := first | assumption | omega | (simp only [AW.next_push, AW.next_put]; omega) | ((repeat refine Fresh.push ?_ _); assumption) | (simp only [same_int, same_bool, same_ptr, same_slice, same_sliceP, same_nil, same_agg2, same_string]; done) | (simp [oneCell, AW.next_push]; done) | fail) only [go_sem, Nat.reduceEqDiff, reduceIte, Nat.reduceAdd, Int.toNat_natCast, Nat.add_zero, Owes_true, Try.results32, h]
    exact ⟨by simp [inR, h], rfl⟩
theorem isDay_ok (n : Int) (w : AW) : CallT Try.prog Try.T1 (.fn (.func 51) #[]) #[.int .i64 n] w (Ret (.bool (inR 0 n 36500)) fun w' => w = w') := by
  refine callT_code rfl Try.func51 rfl Try.s51_eq rfl ?_
  unfold Try.s51
  simp -dsimp -implicitDefEqProofs (maxSteps := 2000000) (disch := first | assumption | omega | (simp only [AW.next_push, AW.next_put]; omega) | ((repeat refine Fresh.push ?_ _); assumption) | (simp only [same_int, same_bool, same_ptr, same_slice, same_sliceP, same_nil, same_agg2, same_string]; done) | (simp [oneCell, AW.next_push]; done) | fail) only [go_sem, Nat.reduceEqDiff, reduceIte, Nat.reduceAdd, Int.toNat_natCast, Nat.add_zero, Owes_true, Try.results51]
  apply callV_of (e := rfl)
  · exact within_ok _ _ _ _
  rintro _ _ ⟨rfl, rfl⟩
  simp -dsimp -implicitDefEqProofs (maxSteps := 2000000) (disch := first | assumption | omega | (simp only [AW.next_push, AW.next_put]; omega) | ((repeat refine Fresh.push ?_ _); assumption) | (simp only [same_int, same_bool, same_ptr, same_slice, same_sliceP, same_nil, same_agg2, same_string]; done) | (simp [oneCell, AW.next_push]; done) | fail) only [go_sem, Nat.reduceEqDiff, reduceIte, Nat.reduceAdd, Int.toNat_natCast, Nat.add_zero, Owes_true, Try.results51]
  exact ⟨rfl, rfl⟩
theorem isLaw_ok (r c : Int) (w : AW) (f : Fresh w) : CallT Try.prog Try.T1 (.fn (.func 63) #[]) #[.agg #[.int .i64 r, .int .i64 c]] w (Ret (.bool (inR 0 r 10000 && inR 0 c 64)) (Grown w)) := by
  have g := (Grown.refl f).push (.cells [.int .i64 r, .int .i64 c] 52 w.next 0 0)
  refine callT_code rfl Try.func63 rfl Try.s63_eq rfl ?_
  unfold Try.s63
  simp -dsimp -implicitDefEqProofs (maxSteps := 2000000) (disch := first | assumption | omega | (simp only [AW.next_push, AW.next_put]; omega) | ((repeat refine Fresh.push ?_ _); assumption) | (simp only [same_int, same_bool, same_ptr, same_slice, same_sliceP, same_nil, same_agg2, same_string]; done) | (simp [oneCell, AW.next_push]; done) | fail) only [go_sem, Nat.reduceEqDiff, reduceIte, Nat.reduceAdd, Int.toNat_natCast, Nat.add_zero, Owes_true, Try.results63]
  apply callV_of (e := rfl)
  · exact within_ok _ _ _ _
  rintro _ _ ⟨rfl, rfl⟩
  cases h1 : inR 0 r 10000 with
  | false =>
    simp -dsimp -implicitDefEqProofs (maxSteps := 2000000) (disch := first | assumption | omega | (simp only [AW.next_push, AW.next_put]; omega) | ((repeat refine Fresh.push ?_ _); assumption) | (simp only [same_int, same_bool, same_ptr, same_slice, same_sliceP, same_nil, same_agg2, same_string]; done) | (simp [oneCell, AW.next_push]; done) | fail) only [go_sem, Nat.reduceEqDiff, reduceIte, Nat.reduceAdd, Int.toNat_natCast, Nat.add_zero, Owes_true, Try.results63]
    exact ⟨rfl, g⟩
  | true =>
    simp -dsimp -implicitDefEqProofs (maxSteps := 2000000) (disch := first | assumption | omega | (simp only [AW.next_push, AW.next_put]; omega) | ((repeat refine Fresh.push ?_ _); assumption) | (simp only [same_int, same_bool, same_ptr, same_slice, same_sliceP, same_nil, same_agg2, same_string]; done) | (simp [oneCell, AW.next_push]; done) | fail) only [go_sem, Nat.reduceEqDiff, reduceIte, Nat.reduceAdd, Int.toNat_natCast, Nat.add_zero, Owes_true, Try.results63]
    apply callV_of (e := rfl)
    · exact within_ok _ _ _ _
    rintro _ _ ⟨rfl, rfl⟩
    simp -dsimp -implicitDefEqProofs (maxSteps := 2000000) (disch := first | assumption | omega | (simp only [AW.next_push, AW.next_put]; omega) | ((repeat refine Fresh.push ?_ _); assumption) | (simp only [same_int, same_bool, same_ptr, same_slice, same_sliceP, same_nil, same_agg2, same_string]; done) | (simp [oneCell, AW.next_push]; done) | fail) only [go_sem, Nat.reduceEqDiff, reduceIte, Nat.reduceAdd, Int.toNat_natCast, Nat.add_zero, Owes_true, Try.results63]
    exact ⟨rfl, g⟩
def tarB (a fr fe tm gr : Int) : Bool := inR 0 a 10000 && inR 0 fr 31 && inR 0 fe 10000 && inR 1 tm 366 && inR 0 gr 60
theorem isTariff_ok (a fr fe tm gr : Int) (w : AW) (f : Fresh w) : CallT Try.prog Try.T1 (.fn (.func 64) #[]) #[.agg #[.int .i64 a, .int .i64 fr, .int .i64 fe, .int .i64 tm, .int .i64 gr]] w (Ret (.bool (tarB a fr fe tm gr)) (Grown w)) := by
  have g := (Grown.refl f).push (.cells [.int .i64 a, .int .i64 fr, .int .i64 fe, .int .i64 tm, .int .i64 gr] 54 w.next 0 0)
  refine callT_code rfl Try.func64 rfl Try.s64_eq rfl ?_
  unfold Try.s64
  simp -dsimp -implicitDefEqProofs (maxSteps := 2000000) (disch := first | assumption | omega | (simp only [AW.next_push, AW.next_put]; omega) | ((repeat refine Fresh.push ?_ _); assumption) | (simp only [same_int, same_bool, same_ptr, same_slice, same_sliceP, same_nil, same_agg2, same_string]; done) | (simp [oneCell, AW.next_push]; done) | fail) only [go_sem, Nat.reduceEqDiff, reduceIte, Nat.reduceAdd, Int.toNat_natCast, Nat.add_zero, Owes_true, Try.results64]
  apply callV_of (e := rfl)
  · exact within_ok _ _ _ _
  rintro _ _ ⟨rfl, rfl⟩
  cases h1 : inR 0 a 10000 with
  | false =>
    simp -dsimp -implicitDefEqProofs (maxSteps := 2000000) (disch := first | assumption | omega | (simp only [AW.next_push, AW.next_put]; omega) | ((repeat refine Fresh.push ?_ _); assumption) | (simp only [same_int, same_bool, same_ptr, same_slice, same_sliceP, same_nil, same_agg2, same_string]; done) | (simp [oneCell, AW.next_push]; done) | fail) only [go_sem, Nat.reduceEqDiff, reduceIte, Nat.reduceAdd, Int.toNat_natCast, Nat.add_zero, Owes_true, Try.results64]
    exact ⟨by simp [tarB, h1], g⟩
  | true =>
  simp -dsimp -implicitDefEqProofs (maxSteps := 2000000) (disch := first | assumption | omega | (simp only [AW.next_push, AW.next_put]; omega) | ((repeat refine Fresh.push ?_ _); assumption) | (simp only [same_int, same_bool, same_ptr, same_slice, same_sliceP, same_nil, same_agg2, same_string]; done) | (simp [oneCell, AW.next_push]; done) | fail) only [go_sem, Nat.reduceEqDiff, reduceIte, Nat.reduceAdd, Int.toNat_natCast, Nat.add_zero, Owes_true, Try.results64]
  apply callV_of (e := rfl)
  · exact within_ok _ _ _ _
  rintro _ _ ⟨rfl, rfl⟩
  cases h2 : inR 0 fr 31 with
  | false =>
    simp -dsimp -implicitDefEqProofs (maxSteps := 2000000) (disch := first | assumption | omega | (simp only [AW.next_push, AW.next_put]; omega) | ((repeat refine Fresh.push ?_ _); assumption) | (simp only [same_int, same_bool, same_ptr, same_slice, same_sliceP, same_nil, same_agg2, same_string]; done) | (simp [oneCell, AW.next_push]; done) | fail) only [go_sem, Nat.reduceEqDiff, reduceIte, Nat.reduceAdd, Int.toNat_natCast, Nat.add_zero, Owes_true, Try.results64]
    exact ⟨by simp [tarB, h2], g⟩
  | true =>
  simp -dsimp -implicitDefEqProofs (maxSteps := 2000000) (disch := first | assumption | omega | (simp only [AW.next_push, AW.next_put]; omega) | ((repeat refine Fresh.push ?_ _); assumption) | (simp only [same_int, same_bool, same_ptr, same_slice, same_sliceP, same_nil, same_agg2, same_string]; done) | (simp [oneCell, AW.next_push]; done) | fail) only [go_sem, Nat.reduceEqDiff, reduceIte, Nat.reduceAdd, Int.toNat_natCast, Nat.add_zero, Owes_true, Try.results64]
  apply callV_of (e := rfl)
  · exact within_ok _ _ _ _
  rintro _ _ ⟨rfl, rfl⟩
  cases h3 : inR 0 fe 10000 with
  | false =>
    simp -dsimp -implicitDefEqProofs (maxSteps := 2000000) (disch := first | assumption | omega | (simp only [AW.next_push, AW.next_put]; omega) | ((repeat refine Fresh.push ?_ _); assumption) | (simp only [same_int, same_bool, same_ptr, same_slice, same_sliceP, same_nil, same_agg2, same_string]; done) | (simp [oneCell, AW.next_push]; done) | fail) only [go_sem, Nat.reduceEqDiff, reduceIte, Nat.reduceAdd, Int.toNat_natCast, Nat.add_zero, Owes_true, Try.results64]
    exact ⟨by simp [tarB, h3], g⟩
  | true =>
  simp -dsimp -implicitDefEqProofs (maxSteps := 2000000) (disch := first | assumption | omega | (simp only [AW.next_push, AW.next_put]; omega) | ((repeat refine Fresh.push ?_ _); assumption) | (simp only [same_int, same_bool, same_ptr, same_slice, same_sliceP, same_nil, same_agg2, same_string]; done) | (simp [oneCell, AW.next_push]; done) | fail) only [go_sem, Nat.reduceEqDiff, reduceIte, Nat.reduceAdd, Int.toNat_natCast, Nat.add_zero, Owes_true, Try.results64]
  apply callV_of (e := rfl)
  · exact within_ok _ _ _ _
  rintro _ _ ⟨rfl, rfl⟩
  cases h4 : inR 1 tm 366 with
  | false =>
    simp -dsimp -implicitDefEqProofs (maxSteps := 2000000) (disch := first | assumption | omega | (simp only [AW.next_push, AW.next_put]; omega) | ((repeat refine Fresh.push ?_ _); assumption) | (simp only [same_int, same_bool, same_ptr, same_slice, same_sliceP, same_nil, same_agg2, same_string]; done) | (simp [oneCell, AW.next_push]; done) | fail) only [go_sem, Nat.reduceEqDiff, reduceIte, Nat.reduceAdd, Int.toNat_natCast, Nat.add_zero, Owes_true, Try.results64]
    exact ⟨by simp [tarB, h4], g⟩
  | true =>
  simp -dsimp -implicitDefEqProofs (maxSteps := 2000000) (disch := first | assumption | omega | (simp only [AW.next_push, AW.next_put]; omega) | ((repeat refine Fresh.push ?_ _); assumption) | (simp only [same_int, same_bool, same_ptr, same_slice, same_sliceP, same_nil, same_agg2, same_string]; done) | (simp [oneCell, AW.next_push]; done) | fail) only [go_sem, Nat.reduceEqDiff, reduceIte, Nat.reduceAdd, Int.toNat_natCast, Nat.add_zero, Owes_true, Try.results64]
  apply callV_of (e := rfl)
  · exact within_ok _ _ _ _
  rintro _ _ ⟨rfl, rfl⟩
  simp -dsimp -implicitDefEqProofs (maxSteps := 2000000) (disch := first | assumption | omega | (simp only [AW.next_push, AW.next_put]; omega) | ((repeat refine Fresh.push ?_ _); assumption) | (simp only [same_int, same_bool, same_ptr, same_slice, same_sliceP, same_nil, same_agg2, same_string]; done) | (simp [oneCell, AW.next_push]; done) | fail) only [go_sem, Nat.reduceEqDiff, reduceIte, Nat.reduceAdd, Int.toNat_natCast, Nat.add_zero, Owes_true, Try.results64]
  exact ⟨by simp [tarB, h1, h2, h3, h4], g⟩
/- Closed days. -/
def nx (cl : List Int) (k : Nat) : Int := if k = 0 then 0 else cl.getD (k - 1) 0 + 1
def clTo (cl : List Int) (n : Nat) : Bool := (List.range n).all fun k => inR (nx cl k) (cl.getD k 0) 36500
def closedB (cl : List Int) : Bool := decide (cl.length ≤ 64) && clTo cl cl.length
theorem clTo_succ (cl : List Int) (n : Nat) : clTo cl (n + 1) = (clTo cl n && inR (nx cl n) (cl.getD n 0) 36500) := by simp [clTo, List.range_succ]
theorem clTo_bad {cl : List Int} {n m : Nat} (hn : n < m) (hb : inR (nx cl n) (cl.getD n 0) 36500 = false) : clTo cl m = false := by
  rw [clTo, List.all_eq_false]; exact ⟨n, List.mem_range.mpr hn, by rw [hb]; simp⟩
theorem clTo_at {cl : List Int} {m : Nat} (h : clTo cl m = true) {k : Nat} (hk : k < m) : nx cl k ≤ cl.getD k 0 ∧ cl.getD k 0 ≤ 36500 := by
  rw [clTo, List.all_eq_true] at h
  exact (inR_iff _ _ _).1 (h k (List.mem_range.mpr hk))
theorem clTo_pos {cl : List Int} : ∀ {m : Nat}, clTo cl m = true → ∀ k, k < m → 0 ≤ cl.getD k 0
  | m, h, 0, hk => by have := (clTo_at h hk).1; rw [nx, if_pos rfl] at this; exact this
  | m, h, k + 1, hk => by
    have h1 := clTo_pos h k (by omega)
    have := (clTo_at h hk).1
    rw [nx, if_neg (by omega), Nat.add_sub_cancel] at this
    omega
theorem clTo_inc {cl : List Int} {m : Nat} (h : clTo cl m = true) {k : Nat} (hk : k + 1 < m) : cl.getD k 0 < cl.getD (k + 1) 0 := by
  have := (clTo_at h hk).1
  rw [nx, if_neg (by omega), Nat.add_sub_cancel] at this
  omega
theorem areClosed_ok (cl : List Int) (v : Value) (w : AW) (hs : ArrOf w 1 icells v cl) : CallT Try.prog Try.T1 (.fn (.func 65) #[]) #[v] w (Ret (.bool (closedB cl)) fun w' => w = w') := by
  obtain ⟨p, cap, rfl, hcap, hmax, hat⟩ := hs.open
  refine callT_code rfl Try.func65 rfl Try.s65_eq rfl ?_
  unfold Try.s65
  by_cases h1 : 64 < (cl.length : Int)
  · simp -dsimp -implicitDefEqProofs (maxSteps := 2000000) (disch := first | assumption | omega | (simp only [AW.next_push, AW.next_put]; omega) | ((repeat refine Fresh.push ?_ _); assumption) | (simp only [same_int, same_bool, same_ptr, same_slice, same_sliceP, same_nil, same_agg2, same_string]; done) | (simp [oneCell, AW.next_push]; done) | fail) only [go_sem, Nat.reduceEqDiff, reduceIte, Nat.reduceAdd, Int.toNat_natCast, Nat.add_zero, Owes_true, Try.results65, h1]
    exact ⟨by rw [closedB, decide_eq_false (by omega)]; rfl, rfl⟩
  simp -dsimp -implicitDefEqProofs (maxSteps := 2000000) (disch := first | assumption | omega | (simp only [AW.next_push, AW.next_put]; omega) | ((repeat refine Fresh.push ?_ _); assumption) | (simp only [same_int, same_bool, same_ptr, same_slice, same_sliceP, same_nil, same_agg2, same_string]; done) | (simp [oneCell, AW.next_push]; done) | fail) only [go_sem, Nat.reduceEqDiff, reduceIte, Nat.reduceAdd, Int.toNat_natCast, Nat.add_zero, Owes_true, Try.results65, h1]
  refine loopR (fun k t ds w1 => ∃ i : Nat, i ≤ cl.length ∧ k = cl.length - i ∧ ds = [] ∧ ev t (.tmp 3) = .int .i64 (nx cl i) ∧ ev t (.tmp 9) = .slice p cl.length cap ∧ ev t (.tmp 10) = .int .i64 (cl.length : Int) ∧ ev t (.tmp 11) = .int .i64 (i : Int) ∧ w = w1 ∧ clTo cl i = true) (cl.length) ?_ ?_
  · refine ⟨0, by omega, by omega, rfl, ?_, ?_, ?_, ?_, rfl, rfl⟩ <;> simp -dsimp -implicitDefEqProofs (maxSteps := 2000000) (disch := first | assumption | omega | (simp only [AW.next_push, AW.next_put]; omega) | ((repeat refine Fresh.push ?_ _); assumption) | (simp only [same_int, same_bool, same_ptr, same_slice, same_sliceP, same_nil, same_agg2, same_string]; done) | (simp [oneCell, AW.next_push]; done) | fail) only [go_sem, Nat.reduceEqDiff, reduceIte, Nat.reduceAdd, Int.toNat_natCast, Nat.add_zero, Owes_true] <;> rfl
  rintro k t ds w1 ⟨i, hii, rfl, rfl, e3, e9, e10, e11, hw, hall⟩
  subst hw
  by_cases hlt : (i : Int) < (cl.length : Int)
  case neg =>
    obtain rfl : i = cl.length := by omega
    simp -dsimp -implicitDefEqProofs (maxSteps := 2000000) (disch := first | assumption | omega | (simp only [AW.next_push, AW.next_put]; omega) | ((repeat refine Fresh.push ?_ _); assumption) | (simp only [same_int, same_bool, same_ptr, same_slice, same_sliceP, same_nil, same_agg2, same_string]; done) | (simp [oneCell, AW.next_push]; done) | fail) only [go_sem, Nat.reduceEqDiff, reduceIte, Nat.reduceAdd, Int.toNat_natCast, Nat.add_zero, Owes_true, Try.results65, e3, e9, e10, e11, hlt]
    exact ⟨by rw [closedB, hall, decide_eq_true (by omega)]; rfl, rfl⟩
  have hlt' : i < cl.length := by omega
  obtain ⟨b1, o1, rfl, hb1, hcell⟩ := hat i hlt'
  have hc0 := hcell w (.refl _ _) 0 _ rfl
  rw [Nat.add_zero] at hc0
  have hgd : cl.getD i 0 = cl[i] := getD_at hlt'
  simp -dsimp -implicitDefEqProofs (maxSteps := 2000000) (disch := first | assumption | omega | (simp only [AW.next_push, AW.next_put]; omega) | ((repeat refine Fresh.push ?_ _); assumption) | (simp only [same_int, same_bool, same_ptr, same_slice, same_sliceP, same_nil, same_agg2, same_string]; done) | (simp [oneCell, AW.next_push]; done) | fail) only [go_sem, Nat.reduceEqDiff, reduceIte, Nat.reduceAdd, Int.toNat_natCast, Nat.add_zero, Owes_true, Try.results65, e3, e9, e10, e11, hlt, indexV_eq, hc0]
  apply callV_of (e := rfl)
  · exact within_ok _ _ _ _
  rintro _ _ ⟨rfl, rfl⟩
  cases hA : inR (nx cl i) cl[i] 36500 with
  | true =>
    have hr := (inR_iff _ _ _).1 hA
    have h0 : 0 ≤ nx cl i := by
      rw [nx]; split
      · omega
      · have := clTo_pos hall (i - 1) (by omega); omega
    have hnx : nx cl (i + 1) = cl[i] + 1 := by rw [nx, if_neg (by omega), Nat.add_sub_cancel, hgd]
    simp -dsimp -implicitDefEqProofs (maxSteps := 2000000) (disch := first | assumption | omega | (simp only [AW.next_push, AW.next_put]; omega) | ((repeat refine Fresh.push ?_ _); assumption) | (simp only [same_int, same_bool, same_ptr, same_slice, same_sliceP, same_nil, same_agg2, same_string]; done) | (simp [oneCell, AW.next_push]; done) | fail) only [go_sem, Nat.reduceEqDiff, reduceIte, Nat.reduceAdd, Int.toNat_natCast, Nat.add_zero, Owes_true, Try.results65, e3, e9, e10, e11]
    refine ⟨_, by omega, i + 1, by omega, rfl, rfl, by (simp -dsimp -implicitDefEqProofs (maxSteps := 2000000) (disch := first | assumption | omega | (simp only [AW.next_push, AW.next_put]; omega) | ((repeat refine Fresh.push ?_ _); assumption) | (simp only [same_int, same_bool, same_ptr, same_slice, same_sliceP, same_nil, same_agg2, same_string]; done) | (simp [oneCell, AW.next_push]; done) | fail) only [go_sem, Nat.reduceEqDiff, reduceIte, Nat.reduceAdd, Int.toNat_natCast, Nat.add_zero, Owes_true, e3, hnx]; try rfl), by (simp -dsimp -implicitDefEqProofs (maxSteps := 2000000) (disch := first | assumption | omega | (simp only [AW.next_push, AW.next_put]; omega) | ((repeat refine Fresh.push ?_ _); assumption) | (simp only [same_int, same_bool, same_ptr, same_slice, same_sliceP, same_nil, same_agg2, same_string]; done) | (simp [oneCell, AW.next_push]; done) | fail) only [go_sem, Nat.reduceEqDiff, reduceIte, Nat.reduceAdd, Int.toNat_natCast, Nat.add_zero, Owes_true, e9, hnx]; try rfl), by (simp -dsimp -implicitDefEqProofs (maxSteps := 2000000) (disch := first | assumption | omega | (simp only [AW.next_push, AW.next_put]; omega) | ((repeat refine Fresh.push ?_ _); assumption) | (simp only [same_int, same_bool, same_ptr, same_slice, same_sliceP, same_nil, same_agg2, same_string]; done) | (simp [oneCell, AW.next_push]; done) | fail) only [go_sem, Nat.reduceEqDiff, reduceIte, Nat.reduceAdd, Int.toNat_natCast, Nat.add_zero, Owes_true, e10, hnx]; try rfl), by (simp -dsimp -implicitDefEqProofs (maxSteps := 2000000) (disch := first | assumption | omega | (simp only [AW.next_push, AW.next_put]; omega) | ((repeat refine Fresh.push ?_ _); assumption) | (simp only [same_int, same_bool, same_ptr, same_slice, same_sliceP, same_nil, same_agg2, same_string]; done) | (simp [oneCell, AW.next_push]; done) | fail) only [go_sem, Nat.reduceEqDiff, reduceIte, Nat.reduceAdd, Int.toNat_natCast, Nat.add_zero, Owes_true, e11, hnx]; try rfl), rfl, by rw [clTo_succ, hall, hgd, hA]; rfl⟩
  | false =>
    simp -dsimp -implicitDefEqProofs (maxSteps := 2000000) (disch := first | assumption | omega | (simp only [AW.next_push, AW.next_put]; omega) | ((repeat refine Fresh.push ?_ _); assumption) | (simp only [same_int, same_bool, same_ptr, same_slice, same_sliceP, same_nil, same_agg2, same_string]; done) | (simp [oneCell, AW.next_push]; done) | fail) only [go_sem, Nat.reduceEqDiff, reduceIte, Nat.reduceAdd, Int.toNat_natCast, Nat.add_zero, Owes_true, Try.results65]
    exact ⟨by rw [closedB, clTo_bad hlt' (by rw [hgd]; exact hA), Bool.and_false], rfl⟩
theorem oldest_ok (a fr fe tm gr : Int) (h : tarB a fr fe tm gr = true) (w : AW) (f : Fresh w) : CallT Try.prog Try.T1 (.fn (.func 72) #[]) #[.agg #[.int .i64 a, .int .i64 fr, .int .i64 fe, .int .i64 tm, .int .i64 gr]] w (Ret (.int .i64 (tm + gr)) (Grown w)) := by
  have g := (Grown.refl f).push (.cells [.int .i64 a, .int .i64 fr, .int .i64 fe, .int .i64 tm, .int .i64 gr] 54 w.next 0 0)
  simp only [tarB, Bool.and_eq_true, inR_iff] at h
  refine callT_code rfl Try.func72 rfl Try.s72_eq rfl ?_
  unfold Try.s72
  simp -dsimp -implicitDefEqProofs (maxSteps := 2000000) (disch := first | assumption | omega | (simp only [AW.next_push, AW.next_put]; omega) | ((repeat refine Fresh.push ?_ _); assumption) | (simp only [same_int, same_bool, same_ptr, same_slice, same_sliceP, same_nil, same_agg2, same_string]; done) | (simp [oneCell, AW.next_push]; done) | fail) only [go_sem, Nat.reduceEqDiff, reduceIte, Nat.reduceAdd, Int.toNat_natCast, Nat.add_zero, Owes_true, Try.results72]
  exact ⟨rfl, g⟩
end Go.Proofs
