/- Contracts of what reads measures: CheckMeasures, Narrow and Agree, of the program and of the papers, and the law on the machine. -/
import Derived.Test.YteeheldahpoppaaGreatTb
import Derived.Test.YteeheldahpoppaaGreatNb
import Derived.Test.YteeheldahpoppaaGreatTa
set_option linter.unusedVariables false
set_option linter.unusedSimpArgs false
/- Measures and readings: small functions. -/
namespace Go.Proofs
open Go Go.RowKit Go.Sim
set_option maxRecDepth 100000
def inR (a n b : Int) : Bool := decide (a ≤ n) && decide (n ≤ b)
theorem inR_iff (a n b : Int) : inR a n b = true ↔ a ≤ n ∧ n ≤ b := by simp [inR]
theorem within_ok (n a b : Int) (w : AW) : CallT Tryz.prog Tryz.T (.fn (.func 36) #[]) #[.int .i64 n, .int .i64 a, .int .i64 b] w (Ret (.bool (inR a n b)) fun w' => w = w') := by
  refine callT_code rfl Tryz.func36 rfl Tryz.s36_eq rfl ?_
  unfold Tryz.s36
  by_cases h : a ≤ n
  all_goals
    simp -dsimp -implicitDefEqProofs (maxSteps := 2000000) (disch := first | assumption | omega | (simp only [AW.next_push, AW.next_put]; omega) | ((repeat refine Fresh.push ?_ _); assumption) | (simp only [same_int, same_bool, same_ptr, same_slice, same_sliceP, same_nil, same_agg2, same_string]; done) | (simp [oneCell, AW.next_push]; done) | fail) only [go_sem, Nat.reduceEqDiff, reduceIte, Nat.reduceAdd, Int.toNat_natCast, Nat.add_zero, Owes_true, Tryz.results36, h]
    exact ⟨by simp [inR, h], rfl⟩
theorem From_ok (a n b : Int) (w : AW) : CallT Tryz.prog Tryz.T (.fn (.func 29) #[]) #[.int .i64 a, .int .i64 n, .int .i64 b] w (Ret (.bool (inR a n b)) fun w' => w = w') := by
  refine callT_code rfl Tryz.func29 rfl Tryz.s29_eq rfl ?_
  unfold Tryz.s29
  by_cases h : a ≤ n
  all_goals
    simp -dsimp -implicitDefEqProofs (maxSteps := 2000000) (disch := first | assumption | omega | (simp only [AW.next_push, AW.next_put]; omega) | ((repeat refine Fresh.push ?_ _); assumption) | (simp only [same_int, same_bool, same_ptr, same_slice, same_sliceP, same_nil, same_agg2, same_string]; done) | (simp [oneCell, AW.next_push]; done) | fail) only [go_sem, Nat.reduceEqDiff, reduceIte, Nat.reduceAdd, Int.toNat_natCast, Nat.add_zero, Owes_true, Tryz.results29, h]
    exact ⟨by simp [inR, h], rfl⟩
theorem Size_ok (n : Int) (h1 : -1000000000000 ≤ n) (h2 : n ≤ 1000000000000) (w : AW) : CallT Tryz.prog Tryz.T (.fn (.func 37) #[]) #[.int .i64 n] w (Ret (.int .i64 (max n (-n))) fun w' => w = w') := by
  refine callT_code rfl Tryz.func37 rfl Tryz.s37_eq rfl ?_
  unfold Tryz.s37
  simp -dsimp -implicitDefEqProofs (maxSteps := 2000000) (disch := first | assumption | omega | (simp only [AW.next_push, AW.next_put]; omega) | ((repeat refine Fresh.push ?_ _); assumption) | (simp only [same_int, same_bool, same_ptr, same_slice, same_sliceP, same_nil, same_agg2, same_string]; done) | (simp [oneCell, AW.next_push]; done) | fail) only [go_sem, Nat.reduceEqDiff, reduceIte, Nat.reduceAdd, Int.toNat_natCast, Nat.add_zero, Owes_true, Tryz.results37]
  exact ⟨by simp, rfl⟩
def Grown (w w' : AW) : Prop := Keep w.next w w' ∧ Fresh w'
theorem Grown.refl {w : AW} (f : Fresh w) : Grown w w := ⟨.refl _ _, f⟩
theorem Grown.trans {a b c : AW} (h : Grown a b) (k : Grown b c) : Grown a c := ⟨h.1.trans (k.1.mono h.1.next), k.2⟩
theorem Grown.push {a b : AW} (h : Grown a b) (k : Blk) : Grown a (b.push k) := ⟨h.1.push (by have := h.1.next; omega) k, h.2.push k⟩
theorem meet_ok (a b c d : Int) (w : AW) (f : Fresh w) : CallT Tryz.prog Tryz.T (.fn (.func 32) #[]) #[.agg #[.int .i64 a, .int .i64 b], .agg #[.int .i64 c, .int .i64 d]] w (Ret (.agg #[.int .i64 (max a c), .int .i64 (min b d)]) (Grown w)) := by
  refine callT_code rfl Tryz.func32 rfl Tryz.s32_eq rfl ?_
  unfold Tryz.s32
  simp -dsimp -implicitDefEqProofs (maxSteps := 2000000) (disch := first | assumption | omega | (simp only [AW.next_push, AW.next_put]; omega) | ((repeat refine Fresh.push ?_ _); assumption) | (simp only [same_int, same_bool, same_ptr, same_slice, same_sliceP, same_nil, same_agg2, same_string]; done) | (simp [oneCell, AW.next_push]; done) | fail) only [go_sem, Nat.reduceEqDiff, reduceIte, Nat.reduceAdd, Int.toNat_natCast, Nat.add_zero, Owes_true, Tryz.results32]
  exact ⟨rfl, (((Grown.refl f).push _).push _).push _⟩
theorem around_ok (n k : Int) (h1 : 0 ≤ n ∧ n ≤ 1000000) (h2 : 0 ≤ k ∧ k ≤ 1000000) (w : AW) (f : Fresh w) : CallT Tryz.prog Tryz.T (.fn (.func 33) #[]) #[.int .i64 n, .int .i64 k] w (Ret (.agg #[.int .i64 (n - k), .int .i64 (n + k)]) (Grown w)) := by
  refine callT_code rfl Tryz.func33 rfl Tryz.s33_eq rfl ?_
  unfold Tryz.s33
  simp -dsimp -implicitDefEqProofs (maxSteps := 2000000) (disch := first | assumption | omega | (simp only [AW.next_push, AW.next_put]; omega) | ((repeat refine Fresh.push ?_ _); assumption) | (simp only [same_int, same_bool, same_ptr, same_slice, same_sliceP, same_nil, same_agg2, same_string]; done) | (simp [oneCell, AW.next_push]; done) | fail) only [go_sem, Nat.reduceEqDiff, reduceIte, Nat.reduceAdd, Int.toNat_natCast, Nat.add_zero, Owes_true, Tryz.results33]
  exact ⟨rfl, (Grown.refl f).push _⟩
theorem isEmpty_ok (a b : Int) (w : AW) (f : Fresh w) : CallT Tryz.prog Tryz.T (.fn (.func 34) #[]) #[.agg #[.int .i64 a, .int .i64 b]] w (Ret (.bool (decide (b < a))) (Grown w)) := by
  refine callT_code rfl Tryz.func34 rfl Tryz.s34_eq rfl ?_
  unfold Tryz.s34
  simp -dsimp -implicitDefEqProofs (maxSteps := 2000000) (disch := first | assumption | omega | (simp only [AW.next_push, AW.next_put]; omega) | ((repeat refine Fresh.push ?_ _); assumption) | (simp only [same_int, same_bool, same_ptr, same_slice, same_sliceP, same_nil, same_agg2, same_string]; done) | (simp [oneCell, AW.next_push]; done) | fail) only [go_sem, Nat.reduceEqDiff, reduceIte, Nat.reduceAdd, Int.toNat_natCast, Nat.add_zero, Owes_true, Tryz.results34]
  exact ⟨rfl, (Grown.refl f).push _⟩
end Go.Proofs

/- Measures and readings: lists. -/
namespace Go.Proofs
open Go Go.RowKit Go.Sim
set_option maxRecDepth 100000
def mcells (m : Int × Int) : List Value := [.int .i64 m.1, .int .i64 m.2]
def icells (n : Int) : List Value := [.int .i64 n]
def okM (m : Int × Int) : Bool := inR 0 m.1 1000 && inR 1 m.2 1000
def okMs (ms : List (Int × Int)) : Bool := decide (1 ≤ ms.length) && decide (ms.length ≤ 8) && ms.all okM
/-- The elements of a slice, one by one. -/
theorem Arr.get {B z cap : Nat} {w : AW} {p : Option Addr} {rows : List (List Value)} (hat : 0 < rows.length → ∃ b o, p = some ⟨b, o, none⟩ ∧ b < B ∧ ∀ (i j : Nat) r x, rows[i]? = some r → r[j]? = some x → w.cell? ⟨b, o + i * z + j, none⟩ = some x) : True := trivial
/-- A slice of things that are some cells each. -/
def ArrOf {α : Type} (w : AW) (z : Nat) (enc : α → List Value) (v : Value) (xs : List α) : Prop := Arr w.next w z v (xs.map enc)
theorem ArrOf.open {α : Type} {w : AW} {z : Nat} {enc : α → List Value} {v : Value} {xs : List α} (h : ArrOf w z enc v xs) :
    ∃ p cap, v = .slice p xs.length cap ∧ xs.length ≤ cap ∧ (cap : Int) ≤ 140737488355328 ∧
      ∀ i (hi : i < xs.length), ∃ b o, p = some ⟨b, o, none⟩ ∧ b < w.next ∧ ∀ w', Keep w.next w w' → ∀ (j : Nat) x, (enc xs[i])[j]? = some x → w'.cell? ⟨b, o + i * z + j, none⟩ = some x := by
  obtain ⟨p, n, cap, rfl, hn, hc, hm, hat⟩ := h
  obtain rfl : xs.length = n := by simpa using hn
  refine ⟨p, cap, rfl, hc, hm, fun i hi => ?_⟩
  obtain ⟨b, o, rfl, hb, hcell⟩ := hat (by omega)
  exact ⟨b, o, rfl, hb, fun w' hk j x hx => by rw [hk.cell hb]; exact hcell i j (enc xs[i]) x (by simp [hi]) hx⟩
theorem ArrOf.grown {α : Type} {w w' : AW} {z : Nat} {enc : α → List Value} {v : Value} {xs : List α} (h : ArrOf w z enc v xs) (k : Grown w w') : ArrOf w' z enc v xs := (Arr.keep h k.1 (Nat.le_refl _)).mono k.1.next

theorem checkMeasures_ok (ms : List (Int × Int)) (v : Value) (w : AW) (f : Fresh w) (hs : ArrOf w 2 mcells v ms) :
    CallT Tryz.prog Tryz.T (.fn (.func 12) #[]) #[v] w (Ret (.int .i64 (if okMs ms = true then 0 else 12)) (Grown w)) := by
  obtain ⟨p, cap, rfl, hcap, hmax, hat⟩ := hs.open
  refine callT_code rfl Tryz.func12 rfl Tryz.s12_eq rfl ?_
  unfold Tryz.s12
  by_cases h1 : (ms.length : Int) < 1
  · simp -dsimp -implicitDefEqProofs (maxSteps := 2000000) (disch := first | assumption | omega | (simp only [AW.next_push, AW.next_put]; omega) | ((repeat refine Fresh.push ?_ _); assumption) | (simp only [same_int, same_bool, same_ptr, same_slice, same_sliceP, same_nil, same_agg2, same_string]; done) | (simp [oneCell, AW.next_push]; done) | fail) only [go_sem, Nat.reduceEqDiff, reduceIte, Nat.reduceAdd, Int.toNat_natCast, Nat.add_zero, Owes_true, Tryz.results12, h1]
    refine ⟨?_, .refl f⟩
    rw [if_neg (by simp [okMs]; omega)]
  by_cases h2 : 8 < (ms.length : Int)
  · simp -dsimp -implicitDefEqProofs (maxSteps := 2000000) (disch := first | assumption | omega | (simp only [AW.next_push, AW.next_put]; omega) | ((repeat refine Fresh.push ?_ _); assumption) | (simp only [same_int, same_bool, same_ptr, same_slice, same_sliceP, same_nil, same_agg2, same_string]; done) | (simp [oneCell, AW.next_push]; done) | fail) only [go_sem, Nat.reduceEqDiff, reduceIte, Nat.reduceAdd, Int.toNat_natCast, Nat.add_zero, Owes_true, Tryz.results12, h1, h2]
    refine ⟨?_, .refl f⟩
    rw [if_neg (by simp [okMs]; omega)]
  simp -dsimp -implicitDefEqProofs (maxSteps := 2000000) (disch := first | assumption | omega | (simp only [AW.next_push, AW.next_put]; omega) | ((repeat refine Fresh.push ?_ _); assumption) | (simp only [same_int, same_bool, same_ptr, same_slice, same_sliceP, same_nil, same_agg2, same_string]; done) | (simp [oneCell, AW.next_push]; done) | fail) only [go_sem, Nat.reduceEqDiff, reduceIte, Nat.reduceAdd, Int.toNat_natCast, Nat.add_zero, Owes_true, Tryz.results12, h1, h2]
  refine loopR (fun k t ds w1 => ∃ i : Nat, i ≤ ms.length ∧ k = ms.length - i ∧ ds = [] ∧ ev t (.tmp 13) = .slice p ms.length cap ∧ ev t (.tmp 14) = .int .i64 (ms.length : Int) ∧ ev t (.tmp 15) = .int .i64 (i : Int) ∧
    Grown w w1 ∧ (ms.take i).all okM = true) ms.length ?_ ?_
  · refine ⟨0, by omega, by omega, rfl, ?_, ?_, ?_, .refl f, rfl⟩ <;> simp -dsimp -implicitDefEqProofs (maxSteps := 2000000) (disch := first | assumption | omega | (simp only [AW.next_push, AW.next_put]; omega) | ((repeat refine Fresh.push ?_ _); assumption) | (simp only [same_int, same_bool, same_ptr, same_slice, same_sliceP, same_nil, same_agg2, same_string]; done) | (simp [oneCell, AW.next_push]; done) | fail) only [go_sem, Nat.reduceEqDiff, reduceIte, Nat.reduceAdd, Int.toNat_natCast, Nat.add_zero, Owes_true] <;> rfl
  · rintro k t ds w1 ⟨i, hi, rfl, rfl, e13, e14, e15, hg, hall⟩
    obtain ⟨hk, hf⟩ := id hg
    by_cases hlt : (i : Int) < (ms.length : Int)
    · have hlt' : i < ms.length := by omega
      obtain ⟨b, o, rfl, hb, hcell⟩ := hat i hlt'
      have hc0 := hcell w1 hk 0 _ rfl
      have hc1 := hcell w1 hk 1 _ rfl
      rw [Nat.add_zero] at hc0
      have htake : ms.take (i + 1) = ms.take i ++ [ms[i]] := by rw [List.take_succ_eq_append_getElem hlt']
      simp -dsimp -implicitDefEqProofs (maxSteps := 2000000) (disch := first | assumption | omega | (simp only [AW.next_push, AW.next_put]; omega) | ((repeat refine Fresh.push ?_ _); assumption) | (simp only [same_int, same_bool, same_ptr, same_slice, same_sliceP, same_nil, same_agg2, same_string]; done) | (simp [oneCell, AW.next_push]; done) | fail) only [go_sem, Nat.reduceEqDiff, reduceIte, Nat.reduceAdd, Int.toNat_natCast, Nat.add_zero, Owes_true, Tryz.results12, e13, e14, e15, hlt, indexV_eq, hc0, hc1]
      apply callV_of (e := rfl)
      · exact within_ok _ _ _ _
      rintro _ _ ⟨rfl, rfl⟩
      by_cases hA : inR 0 ms[i].1 1000 = true
      · simp -dsimp -implicitDefEqProofs (maxSteps := 2000000) (disch := first | assumption | omega | (simp only [AW.next_push, AW.next_put]; omega) | ((repeat refine Fresh.push ?_ _); assumption) | (simp only [same_int, same_bool, same_ptr, same_slice, same_sliceP, same_nil, same_agg2, same_string]; done) | (simp [oneCell, AW.next_push]; done) | fail) only [go_sem, Nat.reduceEqDiff, reduceIte, Nat.reduceAdd, Int.toNat_natCast, Nat.add_zero, Owes_true, Tryz.results12, hA]
        apply callV_of (e := rfl)
        · exact within_ok _ _ _ _
        rintro _ _ ⟨rfl, rfl⟩
        by_cases hB : inR 1 ms[i].2 1000 = true
        · simp -dsimp -implicitDefEqProofs (maxSteps := 2000000) (disch := first | assumption | omega | (simp only [AW.next_push, AW.next_put]; omega) | ((repeat refine Fresh.push ?_ _); assumption) | (simp only [same_int, same_bool, same_ptr, same_slice, same_sliceP, same_nil, same_agg2, same_string]; done) | (simp [oneCell, AW.next_push]; done) | fail) only [go_sem, Nat.reduceEqDiff, reduceIte, Nat.reduceAdd, Int.toNat_natCast, Nat.add_zero, Owes_true, Tryz.results12, hB, e13, e14, e15]
          refine ⟨_, ?_, i + 1, by omega, rfl, rfl, ?_, ?_, ?_, hg.push _, ?_⟩
          · omega
          iterate 3 (· simp -dsimp -implicitDefEqProofs (maxSteps := 2000000) (disch := first | assumption | omega | (simp only [AW.next_push, AW.next_put]; omega) | ((repeat refine Fresh.push ?_ _); assumption) | (simp only [same_int, same_bool, same_ptr, same_slice, same_sliceP, same_nil, same_agg2, same_string]; done) | (simp [oneCell, AW.next_push]; done) | fail) only [go_sem, Nat.reduceEqDiff, reduceIte, Nat.reduceAdd, Int.toNat_natCast, Nat.add_zero, Owes_true, e13, e14, e15]; try rfl)
          · rw [htake, List.all_append, hall]; simp [okM, hA, hB]
        · simp -dsimp -implicitDefEqProofs (maxSteps := 2000000) (disch := first | assumption | omega | (simp only [AW.next_push, AW.next_put]; omega) | ((repeat refine Fresh.push ?_ _); assumption) | (simp only [same_int, same_bool, same_ptr, same_slice, same_sliceP, same_nil, same_agg2, same_string]; done) | (simp [oneCell, AW.next_push]; done) | fail) only [go_sem, Nat.reduceEqDiff, reduceIte, Nat.reduceAdd, Int.toNat_natCast, Nat.add_zero, Owes_true, Tryz.results12, hB]
          refine ⟨?_, hg.push _⟩
          rw [if_neg]
          intro h; simp only [okMs, Bool.and_eq_true, List.all_eq_true] at h
          have := h.2 ms[i] (List.getElem_mem hlt'); simp [okM, hA, hB] at this
      · simp -dsimp -implicitDefEqProofs (maxSteps := 2000000) (disch := first | assumption | omega | (simp only [AW.next_push, AW.next_put]; omega) | ((repeat refine Fresh.push ?_ _); assumption) | (simp only [same_int, same_bool, same_ptr, same_slice, same_sliceP, same_nil, same_agg2, same_string]; done) | (simp [oneCell, AW.next_push]; done) | fail) only [go_sem, Nat.reduceEqDiff, reduceIte, Nat.reduceAdd, Int.toNat_natCast, Nat.add_zero, Owes_true, Tryz.results12, hA]
        refine ⟨?_, hg.push _⟩
        rw [if_neg]
        intro h; simp only [okMs, Bool.and_eq_true, List.all_eq_true] at h
        have := h.2 ms[i] (List.getElem_mem hlt'); simp [okM, hA] at this
    · simp -dsimp -implicitDefEqProofs (maxSteps := 2000000) (disch := first | assumption | omega | (simp only [AW.next_push, AW.next_put]; omega) | ((repeat refine Fresh.push ?_ _); assumption) | (simp only [same_int, same_bool, same_ptr, same_slice, same_sliceP, same_nil, same_agg2, same_string]; done) | (simp [oneCell, AW.next_push]; done) | fail) only [go_sem, Nat.reduceEqDiff, reduceIte, Nat.reduceAdd, Int.toNat_natCast, Nat.add_zero, Owes_true, Tryz.results12, e13, e14, e15, hlt]
      refine ⟨?_, hg⟩
      obtain rfl : i = ms.length := by omega
      rw [List.take_length] at hall
      rw [if_pos]
      simp [okMs, hall]; omega

theorem refCheckMeasures_ok (ms : List (Int × Int)) (v : Value) (w : AW) (f : Fresh w) (hs : ArrOf w 2 mcells v ms) :
    CallT Tryz.prog Tryz.T (.fn (.func 13) #[]) #[v] w (Ret (.int .i64 (if okMs ms = true then 0 else 12)) (Grown w)) := by
  obtain ⟨p, cap, rfl, hcap, hmax, hat⟩ := hs.open
  refine callT_code rfl Tryz.func13 rfl Tryz.s13_eq rfl ?_
  unfold Tryz.s13
  simp -dsimp -implicitDefEqProofs (maxSteps := 2000000) (disch := first | assumption | omega | (simp only [AW.next_push, AW.next_put]; omega) | ((repeat refine Fresh.push ?_ _); assumption) | (simp only [same_int, same_bool, same_ptr, same_slice, same_sliceP, same_nil, same_agg2, same_string]; done) | (simp [oneCell, AW.next_push]; done) | fail) only [go_sem, Nat.reduceEqDiff, reduceIte, Nat.reduceAdd, Int.toNat_natCast, Nat.add_zero, Owes_true, Tryz.results13]
  apply callV_of (e := rfl)
  · exact From_ok _ _ _ _
  rintro _ _ ⟨rfl, rfl⟩
  simp -dsimp -implicitDefEqProofs (maxSteps := 2000000) (disch := first | assumption | omega | (simp only [AW.next_push, AW.next_put]; omega) | ((repeat refine Fresh.push ?_ _); assumption) | (simp only [same_int, same_bool, same_ptr, same_slice, same_sliceP, same_nil, same_agg2, same_string]; done) | (simp [oneCell, AW.next_push]; done) | fail) only [go_sem, Nat.reduceEqDiff, reduceIte, Nat.reduceAdd, Int.toNat_natCast, Nat.add_zero, Owes_true, Tryz.results13]
  refine loopR (fun k t ds w1 => ∃ i : Nat, i ≤ ms.length ∧ k = ms.length - i ∧ ds = [] ∧ ev t (.tmp 0) = .slice p ms.length cap ∧ ev t (.tmp 3) = .bool (inR 1 (ms.length : Int) 8 && (ms.take i).all okM) ∧ ev t (.tmp 4) = .int .i64 (i : Int) ∧ w1 = w) ms.length ?_ ?_
  · refine ⟨0, by omega, by omega, rfl, ?_, ?_, ?_, rfl⟩ <;> simp -dsimp -implicitDefEqProofs (maxSteps := 2000000) (disch := first | assumption | omega | (simp only [AW.next_push, AW.next_put]; omega) | ((repeat refine Fresh.push ?_ _); assumption) | (simp only [same_int, same_bool, same_ptr, same_slice, same_sliceP, same_nil, same_agg2, same_string]; done) | (simp [oneCell, AW.next_push]; done) | fail) only [go_sem, Nat.reduceEqDiff, reduceIte, Nat.reduceAdd, Int.toNat_natCast, Nat.add_zero, Owes_true] <;> simp
  · rintro k t ds w1 ⟨i, hi, rfl, rfl, e0, e3, e4, rfl⟩
    by_cases hlt : (i : Int) < (ms.length : Int)
    · have hlt' : i < ms.length := by omega
      obtain ⟨b, o, rfl, hb, hcell⟩ := hat i hlt'
      have hc0 := hcell w1 (.refl _ _) 0 _ rfl
      have hc1 := hcell w1 (.refl _ _) 1 _ rfl
      rw [Nat.add_zero] at hc0
      have htake : ms.take (i + 1) = ms.take i ++ [ms[i]] := by rw [List.take_succ_eq_append_getElem hlt']
      have next : (inR 1 (ms.length : Int) 8 && (ms.take (i + 1)).all okM) = ((inR 1 (ms.length : Int) 8 && (ms.take i).all okM) && okM ms[i]) := by
        rw [htake, List.all_append]; simp [Bool.and_assoc]
      generalize hB : (inR 1 (ms.length : Int) 8 && (ms.take i).all okM) = B at e3 next
      have fin : ∀ (t : Tmps) (K : Bool), K = (B && okM ms[i]) → ev t (.tmp 0) = .slice (some ⟨b, o, none⟩) ms.length cap → ev t (.tmp 3) = .bool K → ev t (.tmp 4) = .int .i64 ((i : Int) + 1) →
          ∃ j, j < ms.length - i ∧ ∃ i : Nat, i ≤ ms.length ∧ j = ms.length - i ∧ ([] : List Nat) = [] ∧ ev t (.tmp 0) = .slice (some ⟨b, o, none⟩) ms.length cap ∧ ev t (.tmp 3) = .bool (inR 1 (ms.length : Int) 8 && (ms.take i).all okM) ∧ ev t (.tmp 4) = .int .i64 (i : Int) ∧ w1 = w1 := by
        intro t K hK a1 a2 a3
        exact ⟨_, by omega, i + 1, by omega, rfl, rfl, a1, by rw [a2, next, hK], a3, rfl⟩
      cases B with
      | false =>
        simp -dsimp -implicitDefEqProofs (maxSteps := 2000000) (disch := first | assumption | omega | (simp only [AW.next_push, AW.next_put]; omega) | ((repeat refine Fresh.push ?_ _); assumption) | (simp only [same_int, same_bool, same_ptr, same_slice, same_sliceP, same_nil, same_agg2, same_string]; done) | (simp [oneCell, AW.next_push]; done) | fail) only [go_sem, Nat.reduceEqDiff, reduceIte, Nat.reduceAdd, Int.toNat_natCast, Nat.add_zero, Owes_true, Tryz.results13, e0, e3, e4, hlt, indexV_eq, hc0, hc1]
        exact fin _ false rfl (by simp -dsimp -implicitDefEqProofs (maxSteps := 2000000) (disch := first | assumption | omega | (simp only [AW.next_push, AW.next_put]; omega) | ((repeat refine Fresh.push ?_ _); assumption) | (simp only [same_int, same_bool, same_ptr, same_slice, same_sliceP, same_nil, same_agg2, same_string]; done) | (simp [oneCell, AW.next_push]; done) | fail) only [go_sem, Nat.reduceEqDiff, reduceIte, Nat.reduceAdd, Int.toNat_natCast, Nat.add_zero, Owes_true, e0]) (by simp -dsimp -implicitDefEqProofs (maxSteps := 2000000) (disch := first | assumption | omega | (simp only [AW.next_push, AW.next_put]; omega) | ((repeat refine Fresh.push ?_ _); assumption) | (simp only [same_int, same_bool, same_ptr, same_slice, same_sliceP, same_nil, same_agg2, same_string]; done) | (simp [oneCell, AW.next_push]; done) | fail) only [go_sem, Nat.reduceEqDiff, reduceIte, Nat.reduceAdd, Int.toNat_natCast, Nat.add_zero, Owes_true]) (by simp -dsimp -implicitDefEqProofs (maxSteps := 2000000) (disch := first | assumption | omega | (simp only [AW.next_push, AW.next_put]; omega) | ((repeat refine Fresh.push ?_ _); assumption) | (simp only [same_int, same_bool, same_ptr, same_slice, same_sliceP, same_nil, same_agg2, same_string]; done) | (simp [oneCell, AW.next_push]; done) | fail) only [go_sem, Nat.reduceEqDiff, reduceIte, Nat.reduceAdd, Int.toNat_natCast, Nat.add_zero, Owes_true])
      | true =>
        simp -dsimp -implicitDefEqProofs (maxSteps := 2000000) (disch := first | assumption | omega | (simp only [AW.next_push, AW.next_put]; omega) | ((repeat refine Fresh.push ?_ _); assumption) | (simp only [same_int, same_bool, same_ptr, same_slice, same_sliceP, same_nil, same_agg2, same_string]; done) | (simp [oneCell, AW.next_push]; done) | fail) only [go_sem, Nat.reduceEqDiff, reduceIte, Nat.reduceAdd, Int.toNat_natCast, Nat.add_zero, Owes_true, Tryz.results13, e0, e3, e4, hlt, indexV_eq, hc0, hc1]
        apply callV_of (e := rfl)
        · exact From_ok _ _ _ _
        rintro _ _ ⟨rfl, rfl⟩
        cases hA : inR 0 ms[i].1 1000 with
        | false =>
          simp -dsimp -implicitDefEqProofs (maxSteps := 2000000) (disch := first | assumption | omega | (simp only [AW.next_push, AW.next_put]; omega) | ((repeat refine Fresh.push ?_ _); assumption) | (simp only [same_int, same_bool, same_ptr, same_slice, same_sliceP, same_nil, same_agg2, same_string]; done) | (simp [oneCell, AW.next_push]; done) | fail) only [go_sem, Nat.reduceEqDiff, reduceIte, Nat.reduceAdd, Int.toNat_natCast, Nat.add_zero, Owes_true, Tryz.results13, e0, e4]
          exact fin _ false (by simp [okM, hA]) (by simp -dsimp -implicitDefEqProofs (maxSteps := 2000000) (disch := first | assumption | omega | (simp only [AW.next_push, AW.next_put]; omega) | ((repeat refine Fresh.push ?_ _); assumption) | (simp only [same_int, same_bool, same_ptr, same_slice, same_sliceP, same_nil, same_agg2, same_string]; done) | (simp [oneCell, AW.next_push]; done) | fail) only [go_sem, Nat.reduceEqDiff, reduceIte, Nat.reduceAdd, Int.toNat_natCast, Nat.add_zero, Owes_true, e0]) (by simp -dsimp -implicitDefEqProofs (maxSteps := 2000000) (disch := first | assumption | omega | (simp only [AW.next_push, AW.next_put]; omega) | ((repeat refine Fresh.push ?_ _); assumption) | (simp only [same_int, same_bool, same_ptr, same_slice, same_sliceP, same_nil, same_agg2, same_string]; done) | (simp [oneCell, AW.next_push]; done) | fail) only [go_sem, Nat.reduceEqDiff, reduceIte, Nat.reduceAdd, Int.toNat_natCast, Nat.add_zero, Owes_true]) (by simp -dsimp -implicitDefEqProofs (maxSteps := 2000000) (disch := first | assumption | omega | (simp only [AW.next_push, AW.next_put]; omega) | ((repeat refine Fresh.push ?_ _); assumption) | (simp only [same_int, same_bool, same_ptr, same_slice, same_sliceP, same_nil, same_agg2, same_string]; done) | (simp [oneCell, AW.next_push]; done) | fail) only [go_sem, Nat.reduceEqDiff, reduceIte, Nat.reduceAdd, Int.toNat_natCast, Nat.add_zero, Owes_true])
        | true =>
          simp -dsimp -implicitDefEqProofs (maxSteps := 2000000) (disch := first | assumption | omega | (simp only [AW.next_push, AW.next_put]; omega) | ((repeat refine Fresh.push ?_ _); assumption) | (simp only [same_int, same_bool, same_ptr, same_slice, same_sliceP, same_nil, same_agg2, same_string]; done) | (simp [oneCell, AW.next_push]; done) | fail) only [go_sem, Nat.reduceEqDiff, reduceIte, Nat.reduceAdd, Int.toNat_natCast, Nat.add_zero, Owes_true, Tryz.results13, e0, e4, indexV_eq, hc0, hc1]
          apply callV_of (e := rfl)
          · exact From_ok _ _ _ _
          rintro _ _ ⟨rfl, rfl⟩
          simp -dsimp -implicitDefEqProofs (maxSteps := 2000000) (disch := first | assumption | omega | (simp only [AW.next_push, AW.next_put]; omega) | ((repeat refine Fresh.push ?_ _); assumption) | (simp only [same_int, same_bool, same_ptr, same_slice, same_sliceP, same_nil, same_agg2, same_string]; done) | (simp [oneCell, AW.next_push]; done) | fail) only [go_sem, Nat.reduceEqDiff, reduceIte, Nat.reduceAdd, Int.toNat_natCast, Nat.add_zero, Owes_true, Tryz.results13, e0, e4]
          exact fin _ (inR 1 ms[i].2 1000) (by simp [okM, hA]) (by simp -dsimp -implicitDefEqProofs (maxSteps := 2000000) (disch := first | assumption | omega | (simp only [AW.next_push, AW.next_put]; omega) | ((repeat refine Fresh.push ?_ _); assumption) | (simp only [same_int, same_bool, same_ptr, same_slice, same_sliceP, same_nil, same_agg2, same_string]; done) | (simp [oneCell, AW.next_push]; done) | fail) only [go_sem, Nat.reduceEqDiff, reduceIte, Nat.reduceAdd, Int.toNat_natCast, Nat.add_zero, Owes_true, e0]) (by simp -dsimp -implicitDefEqProofs (maxSteps := 2000000) (disch := first | assumption | omega | (simp only [AW.next_push, AW.next_put]; omega) | ((repeat refine Fresh.push ?_ _); assumption) | (simp only [same_int, same_bool, same_ptr, same_slice, same_sliceP, same_nil, same_agg2, same_string]; done) | (simp [oneCell, AW.next_push]; done) | fail) only [go_sem, Nat.reduceEqDiff, reduceIte, Nat.reduceAdd, Int.toNat_natCast, Nat.add_zero, Owes_true]) (by simp -dsimp -implicitDefEqProofs (maxSteps := 2000000) (disch := first | assumption | omega | (simp only [AW.next_push, AW.next_put]; omega) | ((repeat refine Fresh.push ?_ _); assumption) | (simp only [same_int, same_bool, same_ptr, same_slice, same_sliceP, same_nil, same_agg2, same_string]; done) | (simp [oneCell, AW.next_push]; done) | fail) only [go_sem, Nat.reduceEqDiff, reduceIte, Nat.reduceAdd, Int.toNat_natCast, Nat.add_zero, Owes_true])
    · obtain rfl : i = ms.length := by omega
      rw [List.take_length] at e3
      have hok : okMs ms = (inR 1 (ms.length : Int) 8 && ms.all okM) := by
        rw [okMs]; congr 1
        rw [Bool.eq_iff_iff, inR_iff]; simp; omega
      generalize hB : (inR 1 (ms.length : Int) 8 && ms.all okM) = B at e3 hok
      cases B with
      | false =>
        simp -dsimp -implicitDefEqProofs (maxSteps := 2000000) (disch := first | assumption | omega | (simp only [AW.next_push, AW.next_put]; omega) | ((repeat refine Fresh.push ?_ _); assumption) | (simp only [same_int, same_bool, same_ptr, same_slice, same_sliceP, same_nil, same_agg2, same_string]; done) | (simp [oneCell, AW.next_push]; done) | fail) only [go_sem, Nat.reduceEqDiff, reduceIte, Nat.reduceAdd, Int.toNat_natCast, Nat.add_zero, Owes_true, Tryz.results13, e0, e3, e4, hlt]
        exact ⟨by rw [hok]; rfl, .refl f⟩
      | true =>
        simp -dsimp -implicitDefEqProofs (maxSteps := 2000000) (disch := first | assumption | omega | (simp only [AW.next_push, AW.next_put]; omega) | ((repeat refine Fresh.push ?_ _); assumption) | (simp only [same_int, same_bool, same_ptr, same_slice, same_sliceP, same_nil, same_agg2, same_string]; done) | (simp [oneCell, AW.next_push]; done) | fail) only [go_sem, Nat.reduceEqDiff, reduceIte, Nat.reduceAdd, Int.toNat_natCast, Nat.add_zero, Owes_true, Tryz.results13, e0, e3, e4, hlt]
        exact ⟨by rw [hok]; rfl, .refl f⟩

def okRs (n : Nat) (rs : List Int) : Bool := decide (rs.length = n) && rs.all fun r => inR (-1) r 100000
theorem areReadings_ok (ms : List (Int × Int)) (rs : List Int) (v u : Value) (w : AW) (f : Fresh w) (hs : ArrOf w 2 mcells v ms) (hr : ArrOf w 1 icells u rs) :
    CallT Tryz.prog Tryz.T (.fn (.func 62) #[]) #[v, u] w (Ret (.bool (okRs ms.length rs)) (Grown w)) := by
  obtain ⟨p, cap, rfl, hcap, hmax, hat⟩ := hs.open
  obtain ⟨q, cap2, rfl, hcap2, hmax2, hat2⟩ := hr.open
  refine callT_code rfl Tryz.func62 rfl Tryz.s62_eq rfl ?_
  unfold Tryz.s62
  by_cases h1 : (rs.length : Int) = (ms.length : Int)
  case neg =>
    simp -dsimp -implicitDefEqProofs (maxSteps := 2000000) (disch := first | assumption | omega | (simp only [AW.next_push, AW.next_put]; omega) | ((repeat refine Fresh.push ?_ _); assumption) | (simp only [same_int, same_bool, same_ptr, same_slice, same_sliceP, same_nil, same_agg2, same_string]; done) | (simp [oneCell, AW.next_push]; done) | fail) only [go_sem, Nat.reduceEqDiff, reduceIte, Nat.reduceAdd, Int.toNat_natCast, Nat.add_zero, Owes_true, Tryz.results62, h1]
    refine ⟨?_, .refl f⟩
    have : ¬ rs.length = ms.length := by omega
    simp [okRs, this]
  have h1' : rs.length = ms.length := by omega
  simp -dsimp -implicitDefEqProofs (maxSteps := 2000000) (disch := first | assumption | omega | (simp only [AW.next_push, AW.next_put]; omega) | ((repeat refine Fresh.push ?_ _); assumption) | (simp only [same_int, same_bool, same_ptr, same_slice, same_sliceP, same_nil, same_agg2, same_string]; done) | (simp [oneCell, AW.next_push]; done) | fail) only [go_sem, Nat.reduceEqDiff, reduceIte, Nat.reduceAdd, Int.toNat_natCast, Nat.add_zero, Owes_true, Tryz.results62, h1]
  refine loopR (fun k t ds w1 => ∃ i : Nat, i ≤ rs.length ∧ k = rs.length - i ∧ ds = [] ∧ ev t (.tmp 12) = .slice q rs.length cap2 ∧ ev t (.tmp 13) = .int .i64 (rs.length : Int) ∧ ev t (.tmp 14) = .int .i64 (i : Int) ∧
    w1 = w ∧ ((rs.take i).all fun r => inR (-1) r 100000) = true) rs.length ?_ ?_
  · refine ⟨0, by omega, by omega, rfl, ?_, ?_, ?_, rfl, rfl⟩ <;> simp -dsimp -implicitDefEqProofs (maxSteps := 2000000) (disch := first | assumption | omega | (simp only [AW.next_push, AW.next_put]; omega) | ((repeat refine Fresh.push ?_ _); assumption) | (simp only [same_int, same_bool, same_ptr, same_slice, same_sliceP, same_nil, same_agg2, same_string]; done) | (simp [oneCell, AW.next_push]; done) | fail) only [go_sem, Nat.reduceEqDiff, reduceIte, Nat.reduceAdd, Int.toNat_natCast, Nat.add_zero, Owes_true, h1] <;> rfl
  · rintro k t ds w1 ⟨i, hi, rfl, rfl, e12, e13, e14, rfl, hall⟩
    by_cases hlt : (i : Int) < (rs.length : Int)
    · have hlt' : i < rs.length := by omega
      obtain ⟨b, o, rfl, hb, hcell⟩ := hat2 i hlt'
      have hc0 := hcell w1 (.refl _ _) 0 _ rfl
      rw [Nat.add_zero] at hc0
      have htake : rs.take (i + 1) = rs.take i ++ [rs[i]] := by rw [List.take_succ_eq_append_getElem hlt']
      have fin : ∀ t : Tmps, inR (-1) rs[i] 100000 = true → ev t (.tmp 12) = .slice (some ⟨b, o, none⟩) rs.length cap2 → ev t (.tmp 13) = .int .i64 (rs.length : Int) → ev t (.tmp 14) = .int .i64 ((i : Int) + 1) →
          ∃ j, j < rs.length - i ∧ ∃ i : Nat, i ≤ rs.length ∧ j = rs.length - i ∧ ([] : List Nat) = [] ∧ ev t (.tmp 12) = .slice (some ⟨b, o, none⟩) rs.length cap2 ∧ ev t (.tmp 13) = .int .i64 (rs.length : Int) ∧ ev t (.tmp 14) = .int .i64 (i : Int) ∧ w1 = w1 ∧ ((rs.take i).all fun r => inR (-1) r 100000) = true := by
        intro t h a1 a2 a3
        exact ⟨_, by omega, i + 1, by omega, rfl, rfl, a1, a2, a3, rfl, by rw [htake, List.all_append, hall]; simp [h]⟩
      by_cases hu : rs[i] = -1
      · simp -dsimp -implicitDefEqProofs (maxSteps := 2000000) (disch := first | assumption | omega | (simp only [AW.next_push, AW.next_put]; omega) | ((repeat refine Fresh.push ?_ _); assumption) | (simp only [same_int, same_bool, same_ptr, same_slice, same_sliceP, same_nil, same_agg2, same_string]; done) | (simp [oneCell, AW.next_push]; done) | fail) only [go_sem, Nat.reduceEqDiff, reduceIte, Nat.reduceAdd, Int.toNat_natCast, Nat.add_zero, Owes_true, Tryz.results62, e12, e13, e14, hlt, indexV_eq, hc0, hu]
        exact fin _ (by rw [hu]; rfl) (by simp -dsimp -implicitDefEqProofs (maxSteps := 2000000) (disch := first | assumption | omega | (simp only [AW.next_push, AW.next_put]; omega) | ((repeat refine Fresh.push ?_ _); assumption) | (simp only [same_int, same_bool, same_ptr, same_slice, same_sliceP, same_nil, same_agg2, same_string]; done) | (simp [oneCell, AW.next_push]; done) | fail) only [go_sem, Nat.reduceEqDiff, reduceIte, Nat.reduceAdd, Int.toNat_natCast, Nat.add_zero, Owes_true, e12]) (by simp -dsimp -implicitDefEqProofs (maxSteps := 2000000) (disch := first | assumption | omega | (simp only [AW.next_push, AW.next_put]; omega) | ((repeat refine Fresh.push ?_ _); assumption) | (simp only [same_int, same_bool, same_ptr, same_slice, same_sliceP, same_nil, same_agg2, same_string]; done) | (simp [oneCell, AW.next_push]; done) | fail) only [go_sem, Nat.reduceEqDiff, reduceIte, Nat.reduceAdd, Int.toNat_natCast, Nat.add_zero, Owes_true, e13]) (by simp -dsimp -implicitDefEqProofs (maxSteps := 2000000) (disch := first | assumption | omega | (simp only [AW.next_push, AW.next_put]; omega) | ((repeat refine Fresh.push ?_ _); assumption) | (simp only [same_int, same_bool, same_ptr, same_slice, same_sliceP, same_nil, same_agg2, same_string]; done) | (simp [oneCell, AW.next_push]; done) | fail) only [go_sem, Nat.reduceEqDiff, reduceIte, Nat.reduceAdd, Int.toNat_natCast, Nat.add_zero, Owes_true])
      · simp -dsimp -implicitDefEqProofs (maxSteps := 2000000) (disch := first | assumption | omega | (simp only [AW.next_push, AW.next_put]; omega) | ((repeat refine Fresh.push ?_ _); assumption) | (simp only [same_int, same_bool, same_ptr, same_slice, same_sliceP, same_nil, same_agg2, same_string]; done) | (simp [oneCell, AW.next_push]; done) | fail) only [go_sem, Nat.reduceEqDiff, reduceIte, Nat.reduceAdd, Int.toNat_natCast, Nat.add_zero, Owes_true, Tryz.results62, e12, e13, e14, hlt, indexV_eq, hc0, hu]
        apply callV_of (e := rfl)
        · exact within_ok _ _ _ _
        rintro _ _ ⟨rfl, rfl⟩
        have hAB : inR (-1) rs[i] 100000 = inR 0 rs[i] 100000 := by rw [Bool.eq_iff_iff, inR_iff, inR_iff]; omega
        cases hA : inR 0 rs[i] 100000 with
        | true =>
          simp -dsimp -implicitDefEqProofs (maxSteps := 2000000) (disch := first | assumption | omega | (simp only [AW.next_push, AW.next_put]; omega) | ((repeat refine Fresh.push ?_ _); assumption) | (simp only [same_int, same_bool, same_ptr, same_slice, same_sliceP, same_nil, same_agg2, same_string]; done) | (simp [oneCell, AW.next_push]; done) | fail) only [go_sem, Nat.reduceEqDiff, reduceIte, Nat.reduceAdd, Int.toNat_natCast, Nat.add_zero, Owes_true, Tryz.results62, e12, e13, e14]
          exact fin _ (by rw [hAB, hA]) (by simp -dsimp -implicitDefEqProofs (maxSteps := 2000000) (disch := first | assumption | omega | (simp only [AW.next_push, AW.next_put]; omega) | ((repeat refine Fresh.push ?_ _); assumption) | (simp only [same_int, same_bool, same_ptr, same_slice, same_sliceP, same_nil, same_agg2, same_string]; done) | (simp [oneCell, AW.next_push]; done) | fail) only [go_sem, Nat.reduceEqDiff, reduceIte, Nat.reduceAdd, Int.toNat_natCast, Nat.add_zero, Owes_true, e12]) (by simp -dsimp -implicitDefEqProofs (maxSteps := 2000000) (disch := first | assumption | omega | (simp only [AW.next_push, AW.next_put]; omega) | ((repeat refine Fresh.push ?_ _); assumption) | (simp only [same_int, same_bool, same_ptr, same_slice, same_sliceP, same_nil, same_agg2, same_string]; done) | (simp [oneCell, AW.next_push]; done) | fail) only [go_sem, Nat.reduceEqDiff, reduceIte, Nat.reduceAdd, Int.toNat_natCast, Nat.add_zero, Owes_true, e13]) (by simp -dsimp -implicitDefEqProofs (maxSteps := 2000000) (disch := first | assumption | omega | (simp only [AW.next_push, AW.next_put]; omega) | ((repeat refine Fresh.push ?_ _); assumption) | (simp only [same_int, same_bool, same_ptr, same_slice, same_sliceP, same_nil, same_agg2, same_string]; done) | (simp [oneCell, AW.next_push]; done) | fail) only [go_sem, Nat.reduceEqDiff, reduceIte, Nat.reduceAdd, Int.toNat_natCast, Nat.add_zero, Owes_true])
        | false =>
          simp -dsimp -implicitDefEqProofs (maxSteps := 2000000) (disch := first | assumption | omega | (simp only [AW.next_push, AW.next_put]; omega) | ((repeat refine Fresh.push ?_ _); assumption) | (simp only [same_int, same_bool, same_ptr, same_slice, same_sliceP, same_nil, same_agg2, same_string]; done) | (simp [oneCell, AW.next_push]; done) | fail) only [go_sem, Nat.reduceEqDiff, reduceIte, Nat.reduceAdd, Int.toNat_natCast, Nat.add_zero, Owes_true, Tryz.results62]
          refine ⟨?_, .refl f⟩
          have : (rs.all fun r => inR (-1) r 100000) = false := by
            rw [List.all_eq_false]; exact ⟨rs[i], List.getElem_mem hlt', by rw [hAB, hA]; simp⟩
          simp [okRs, this]
    · simp -dsimp -implicitDefEqProofs (maxSteps := 2000000) (disch := first | assumption | omega | (simp only [AW.next_push, AW.next_put]; omega) | ((repeat refine Fresh.push ?_ _); assumption) | (simp only [same_int, same_bool, same_ptr, same_slice, same_sliceP, same_nil, same_agg2, same_string]; done) | (simp [oneCell, AW.next_push]; done) | fail) only [go_sem, Nat.reduceEqDiff, reduceIte, Nat.reduceAdd, Int.toNat_natCast, Nat.add_zero, Owes_true, Tryz.results62, e12, e13, e14, hlt]
      refine ⟨?_, .refl f⟩
      obtain rfl : i = rs.length := by omega
      rw [List.take_length] at hall
      simp [okRs, hall, h1']

theorem readings_ok (n : Nat) (rs : List Int) (u : Value) (w : AW) (f : Fresh w) (hr : ArrOf w 1 icells u rs) :
    CallT Tryz.prog Tryz.T (.fn (.func 35) #[]) #[u, .int .i64 (n : Int)] w (Ret (.bool (okRs n rs)) (Grown w)) := by
  obtain ⟨q, cap2, rfl, hcap2, hmax2, hat2⟩ := hr.open
  refine callT_code rfl Tryz.func35 rfl Tryz.s35_eq rfl ?_
  unfold Tryz.s35
  simp -dsimp -implicitDefEqProofs (maxSteps := 2000000) (disch := first | assumption | omega | (simp only [AW.next_push, AW.next_put]; omega) | ((repeat refine Fresh.push ?_ _); assumption) | (simp only [same_int, same_bool, same_ptr, same_slice, same_sliceP, same_nil, same_agg2, same_string]; done) | (simp [oneCell, AW.next_push]; done) | fail) only [go_sem, Nat.reduceEqDiff, reduceIte, Nat.reduceAdd, Int.toNat_natCast, Nat.add_zero, Owes_true, Tryz.results35]
  refine loopR (fun k t ds w1 => ∃ i : Nat, i ≤ rs.length ∧ k = rs.length - i ∧ ds = [] ∧ ev t (.tmp 0) = .slice q rs.length cap2 ∧ ev t (.tmp 1) = .int .i64 (n : Int) ∧ ev t (.tmp 5) = .int .i64 (i : Int) ∧
    w1 = w ∧ ((rs.take i).all fun r => inR (-1) r 100000) = true) rs.length ?_ ?_
  · refine ⟨0, by omega, by omega, rfl, ?_, ?_, ?_, rfl, rfl⟩ <;> simp -dsimp -implicitDefEqProofs (maxSteps := 2000000) (disch := first | assumption | omega | (simp only [AW.next_push, AW.next_put]; omega) | ((repeat refine Fresh.push ?_ _); assumption) | (simp only [same_int, same_bool, same_ptr, same_slice, same_sliceP, same_nil, same_agg2, same_string]; done) | (simp [oneCell, AW.next_push]; done) | fail) only [go_sem, Nat.reduceEqDiff, reduceIte, Nat.reduceAdd, Int.toNat_natCast, Nat.add_zero, Owes_true] <;> rfl
  · rintro k t ds w1 ⟨i, hi, rfl, rfl, e0, e1, e5, rfl, hall⟩
    by_cases hlt : (i : Int) < (rs.length : Int)
    · have hlt' : i < rs.length := by omega
      obtain ⟨b, o, rfl, hb, hcell⟩ := hat2 i hlt'
      have hc0 := hcell w1 (.refl _ _) 0 _ rfl
      rw [Nat.add_zero] at hc0
      have htake : rs.take (i + 1) = rs.take i ++ [rs[i]] := by rw [List.take_succ_eq_append_getElem hlt']
      simp -dsimp -implicitDefEqProofs (maxSteps := 2000000) (disch := first | assumption | omega | (simp only [AW.next_push, AW.next_put]; omega) | ((repeat refine Fresh.push ?_ _); assumption) | (simp only [same_int, same_bool, same_ptr, same_slice, same_sliceP, same_nil, same_agg2, same_string]; done) | (simp [oneCell, AW.next_push]; done) | fail) only [go_sem, Nat.reduceEqDiff, reduceIte, Nat.reduceAdd, Int.toNat_natCast, Nat.add_zero, Owes_true, Tryz.results35, e0, e1, e5, hlt, indexV_eq, hc0]
      apply callV_of (e := rfl)
      · exact From_ok _ _ _ _
      rintro _ _ ⟨rfl, rfl⟩
      cases hA : inR (-1) rs[i] 100000 with
      | true =>
        simp -dsimp -implicitDefEqProofs (maxSteps := 2000000) (disch := first | assumption | omega | (simp only [AW.next_push, AW.next_put]; omega) | ((repeat refine Fresh.push ?_ _); assumption) | (simp only [same_int, same_bool, same_ptr, same_slice, same_sliceP, same_nil, same_agg2, same_string]; done) | (simp [oneCell, AW.next_push]; done) | fail) only [go_sem, Nat.reduceEqDiff, reduceIte, Nat.reduceAdd, Int.toNat_natCast, Nat.add_zero, Owes_true, Tryz.results35, e0, e1, e5]
        exact ⟨_, by omega, i + 1, by omega, rfl, rfl, by simp -dsimp -implicitDefEqProofs (maxSteps := 2000000) (disch := first | assumption | omega | (simp only [AW.next_push, AW.next_put]; omega) | ((repeat refine Fresh.push ?_ _); assumption) | (simp only [same_int, same_bool, same_ptr, same_slice, same_sliceP, same_nil, same_agg2, same_string]; done) | (simp [oneCell, AW.next_push]; done) | fail) only [go_sem, Nat.reduceEqDiff, reduceIte, Nat.reduceAdd, Int.toNat_natCast, Nat.add_zero, Owes_true, e0], by simp -dsimp -implicitDefEqProofs (maxSteps := 2000000) (disch := first | assumption | omega | (simp only [AW.next_push, AW.next_put]; omega) | ((repeat refine Fresh.push ?_ _); assumption) | (simp only [same_int, same_bool, same_ptr, same_slice, same_sliceP, same_nil, same_agg2, same_string]; done) | (simp [oneCell, AW.next_push]; done) | fail) only [go_sem, Nat.reduceEqDiff, reduceIte, Nat.reduceAdd, Int.toNat_natCast, Nat.add_zero, Owes_true, e1], by simp -dsimp -implicitDefEqProofs (maxSteps := 2000000) (disch := first | assumption | omega | (simp only [AW.next_push, AW.next_put]; omega) | ((repeat refine Fresh.push ?_ _); assumption) | (simp only [same_int, same_bool, same_ptr, same_slice, same_sliceP, same_nil, same_agg2, same_string]; done) | (simp [oneCell, AW.next_push]; done) | fail) only [go_sem, Nat.reduceEqDiff, reduceIte, Nat.reduceAdd, Int.toNat_natCast, Nat.add_zero, Owes_true]; rfl, rfl, by rw [htake, List.all_append, hall]; simp [hA]⟩
      | false =>
        simp -dsimp -implicitDefEqProofs (maxSteps := 2000000) (disch := first | assumption | omega | (simp only [AW.next_push, AW.next_put]; omega) | ((repeat refine Fresh.push ?_ _); assumption) | (simp only [same_int, same_bool, same_ptr, same_slice, same_sliceP, same_nil, same_agg2, same_string]; done) | (simp [oneCell, AW.next_push]; done) | fail) only [go_sem, Nat.reduceEqDiff, reduceIte, Nat.reduceAdd, Int.toNat_natCast, Nat.add_zero, Owes_true, Tryz.results35]
        refine ⟨?_, .refl f⟩
        have : (rs.all fun r => inR (-1) r 100000) = false := by
          rw [List.all_eq_false]; exact ⟨rs[i], List.getElem_mem hlt', by rw [hA]; simp⟩
        simp [okRs, this]
    · obtain rfl : i = rs.length := by omega
      rw [List.take_length] at hall
      simp -dsimp -implicitDefEqProofs (maxSteps := 2000000) (disch := first | assumption | omega | (simp only [AW.next_push, AW.next_put]; omega) | ((repeat refine Fresh.push ?_ _); assumption) | (simp only [same_int, same_bool, same_ptr, same_slice, same_sliceP, same_nil, same_agg2, same_string]; done) | (simp [oneCell, AW.next_push]; done) | fail) only [go_sem, Nat.reduceEqDiff, reduceIte, Nat.reduceAdd, Int.toNat_natCast, Nat.add_zero, Owes_true, Tryz.results35, e0, e1, e5, hlt]
      refine ⟨?_, .refl f⟩
      simp only [okRs, hall, Bool.and_true]
      congr 1
      exact decide_eq_decide.2 (by omega)
end Go.Proofs

/- Measures and readings: sessions of readings, spans. -/
namespace Go.Proofs
open Go Go.RowKit Go.Sim
set_option maxRecDepth 100000
def vcells (v : Value) : List Value := [v]
/-- A slice of lists of numbers. -/
def Rows (w : AW) (u : Value) (rss : List (List Int)) : Prop := ∃ vs : List Value, vs.length = rss.length ∧ ArrOf w 1 vcells u vs ∧ ∀ (i : Nat) v rs, vs[i]? = some v → rss[i]? = some rs → ArrOf w 1 icells v rs
theorem Rows.grown {w w' : AW} {u : Value} {rss : List (List Int)} (h : Rows w u rss) (k : Grown w w') : Rows w' u rss := by
  obtain ⟨vs, a, b, c⟩ := h
  exact ⟨vs, a, b.grown k, fun i v rs h1 h2 => (c i v rs h1 h2).grown k⟩
theorem ArrOf.nil {α : Type} (w : AW) (z : Nat) (enc : α → List Value) : ArrOf w z enc (.slice none 0 0) [] := ⟨none, 0, 0, rfl, rfl, Nat.le_refl _, by omega, fun h => by omega⟩

theorem areFakesNil_ok (ms : List (Int × Int)) (v : Value) (w : AW) (f : Fresh w) (hs : ArrOf w 2 mcells v ms) :
    CallT Tryz.prog Tryz.T (.fn (.func 63) #[]) #[v, .slice none 0 0] w (Ret (.bool true) (Grown w)) := by
  obtain ⟨p, cap, rfl, hcap, hmax, hat⟩ := hs.open
  refine callT_code rfl Tryz.func63 rfl Tryz.s63_eq rfl ?_
  unfold Tryz.s63
  have e0 : ((0 : Nat) : Int) = 0 := rfl
  have e1 : decide ((10 : Int) < 0) = false := rfl
  have e2 : decide ((0 : Int) < 0) = false := rfl
  simp -dsimp -implicitDefEqProofs (maxSteps := 2000000) (disch := first | assumption | omega | (simp only [AW.next_push, AW.next_put]; omega) | ((repeat refine Fresh.push ?_ _); assumption) | (simp only [same_int, same_bool, same_ptr, same_slice, same_sliceP, same_nil, same_agg2, same_string]; done) | (simp [oneCell, AW.next_push]; done) | fail) only [go_sem, Nat.reduceEqDiff, reduceIte, Nat.reduceAdd, Int.toNat_natCast, Nat.add_zero, Owes_true, Tryz.results63, e0, e1]
  refine loopR (fun k t ds w1 => ds = [] ∧ ev t (.tmp 13) = .int .i64 0 ∧ ev t (.tmp 14) = .int .i64 0 ∧ w1 = w) 0 ?_ ?_
  · refine ⟨rfl, ?_, ?_, rfl⟩ <;> simp -dsimp -implicitDefEqProofs (maxSteps := 2000000) (disch := first | assumption | omega | (simp only [AW.next_push, AW.next_put]; omega) | ((repeat refine Fresh.push ?_ _); assumption) | (simp only [same_int, same_bool, same_ptr, same_slice, same_sliceP, same_nil, same_agg2, same_string]; done) | (simp [oneCell, AW.next_push]; done) | fail) only [go_sem, Nat.reduceEqDiff, reduceIte, Nat.reduceAdd, Int.toNat_natCast, Nat.add_zero, Owes_true, e0] <;> rfl
  · rintro k t ds w1 ⟨rfl, e13, e14, rfl⟩
    simp -dsimp -implicitDefEqProofs (maxSteps := 2000000) (disch := first | assumption | omega | (simp only [AW.next_push, AW.next_put]; omega) | ((repeat refine Fresh.push ?_ _); assumption) | (simp only [same_int, same_bool, same_ptr, same_slice, same_sliceP, same_nil, same_agg2, same_string]; done) | (simp [oneCell, AW.next_push]; done) | fail) only [go_sem, Nat.reduceEqDiff, reduceIte, Nat.reduceAdd, Int.toNat_natCast, Nat.add_zero, Owes_true, Tryz.results63, e13, e14, e2]
    exact ⟨rfl, .refl f⟩

def checkE (ms : List (Int × Int)) (rss : List (List Int)) : Int := if okMs ms = true then (if rss.all (okRs ms.length) = true then 0 else 13) else 12
theorem check_ok (ms : List (Int × Int)) (rss : List (List Int)) (v u : Value) (w : AW) (f : Fresh w) (hs : ArrOf w 2 mcells v ms) (hr : Rows w u rss) :
    CallT Tryz.prog Tryz.T (.fn (.func 31) #[]) #[v, .slice none 0 0, u] w (Ret (.int .i64 (checkE ms rss)) (Grown w)) := by
  obtain ⟨vs, hvl, hvs, hrow⟩ := id hr
  obtain ⟨q, cap2, rfl, hcap2, hmax2, hat2⟩ := hvs.open
  refine callT_code rfl Tryz.func31 rfl Tryz.s31_eq rfl ?_
  unfold Tryz.s31
  simp -dsimp -implicitDefEqProofs (maxSteps := 2000000) (disch := first | assumption | omega | (simp only [AW.next_push, AW.next_put]; omega) | ((repeat refine Fresh.push ?_ _); assumption) | (simp only [same_int, same_bool, same_ptr, same_slice, same_sliceP, same_nil, same_agg2, same_string]; done) | (simp [oneCell, AW.next_push]; done) | fail) only [go_sem, Nat.reduceEqDiff, reduceIte, Nat.reduceAdd, Int.toNat_natCast, Nat.add_zero, Owes_true, Tryz.results31]
  apply callV_of (e := rfl)
  · exact checkMeasures_ok ms v w f hs
  rintro _ w1 ⟨rfl, hg1⟩
  by_cases hM : okMs ms = true
  case neg =>
    have e : (if okMs ms = true then (0 : Int) else 12) = 12 := by rw [if_neg hM]
    have d : ¬ (12 : Int) = 0 := by omega
    simp -dsimp -implicitDefEqProofs (maxSteps := 2000000) (disch := first | assumption | omega | (simp only [AW.next_push, AW.next_put]; omega) | ((repeat refine Fresh.push ?_ _); assumption) | (simp only [same_int, same_bool, same_ptr, same_slice, same_sliceP, same_nil, same_agg2, same_string]; done) | (simp [oneCell, AW.next_push]; done) | fail) only [go_sem, Nat.reduceEqDiff, reduceIte, Nat.reduceAdd, Int.toNat_natCast, Nat.add_zero, Owes_true, Tryz.results31, e, d]
    exact ⟨by simp [checkE, hM], hg1⟩
  have e : (if okMs ms = true then (0 : Int) else 12) = 0 := by rw [if_pos hM]
  simp -dsimp -implicitDefEqProofs (maxSteps := 2000000) (disch := first | assumption | omega | (simp only [AW.next_push, AW.next_put]; omega) | ((repeat refine Fresh.push ?_ _); assumption) | (simp only [same_int, same_bool, same_ptr, same_slice, same_sliceP, same_nil, same_agg2, same_string]; done) | (simp [oneCell, AW.next_push]; done) | fail) only [go_sem, Nat.reduceEqDiff, reduceIte, Nat.reduceAdd, Int.toNat_natCast, Nat.add_zero, Owes_true, Tryz.results31, e]
  refine loopR (fun k t ds w2 => ∃ i : Nat, i ≤ vs.length ∧ k = vs.length - i ∧ ds = [] ∧ ev t (.tmp 0) = v ∧ ev t (.tmp 1) = .slice none 0 0 ∧ ev t (.tmp 15) = .slice q vs.length cap2 ∧ ev t (.tmp 16) = .int .i64 (vs.length : Int) ∧ ev t (.tmp 17) = .int .i64 (i : Int) ∧
    Grown w w2 ∧ (rss.take i).all (okRs ms.length) = true) vs.length ?_ ?_
  · refine ⟨0, by omega, by omega, rfl, ?_, ?_, ?_, ?_, ?_, hg1, rfl⟩ <;> simp -dsimp -implicitDefEqProofs (maxSteps := 2000000) (disch := first | assumption | omega | (simp only [AW.next_push, AW.next_put]; omega) | ((repeat refine Fresh.push ?_ _); assumption) | (simp only [same_int, same_bool, same_ptr, same_slice, same_sliceP, same_nil, same_agg2, same_string]; done) | (simp [oneCell, AW.next_push]; done) | fail) only [go_sem, Nat.reduceEqDiff, reduceIte, Nat.reduceAdd, Int.toNat_natCast, Nat.add_zero, Owes_true] <;> rfl
  · rintro k t ds w2 ⟨i, hi, rfl, rfl, e0, e1, e15, e16, e17, hg, hall⟩
    obtain ⟨hk, hf⟩ := id hg
    by_cases hlt : (i : Int) < (vs.length : Int)
    · have hlt' : i < vs.length := by omega
      obtain ⟨b, o, rfl, hb, hcell⟩ := hat2 i hlt'
      have hc0 := hcell w2 hk 0 _ rfl
      rw [Nat.add_zero] at hc0
      have hri : i < rss.length := by omega
      have hone : oneCell vs[i] = true := by
        obtain ⟨pp, nn, cc, hh, _⟩ := hrow i vs[i] rss[i] (by simp [hlt']) (by simp [hri])
        rw [hh]; rfl
      have htake : rss.take (i + 1) = rss.take i ++ [rss[i]] := by rw [List.take_succ_eq_append_getElem hri]
      simp -dsimp -implicitDefEqProofs (maxSteps := 2000000) (disch := first | assumption | omega | (simp only [AW.next_push, AW.next_put]; omega) | ((repeat refine Fresh.push ?_ _); assumption) | (simp only [same_int, same_bool, same_ptr, same_slice, same_sliceP, same_nil, same_agg2, same_string]; done) | (simp [oneCell, AW.next_push]; done) | fail) only [go_sem, Nat.reduceEqDiff, reduceIte, Nat.reduceAdd, Int.toNat_natCast, Nat.add_zero, Owes_true, Tryz.results31, e0, e1, e15, e16, e17, hlt, indexV_eq, hc0]
      apply callV_of (e := rfl)
      · exact areReadings_ok ms rss[i] v vs[i] w2 hf (hs.grown hg) ((hrow i _ _ (by simp [hlt']) (by simp [hri])).grown hg)
      rintro _ w3 ⟨rfl, hg3⟩
      cases hA : okRs ms.length rss[i] with
      | true =>
        simp -dsimp -implicitDefEqProofs (maxSteps := 2000000) (disch := first | assumption | omega | (simp only [AW.next_push, AW.next_put]; omega) | ((repeat refine Fresh.push ?_ _); assumption) | (simp only [same_int, same_bool, same_ptr, same_slice, same_sliceP, same_nil, same_agg2, same_string]; done) | (simp [oneCell, AW.next_push]; done) | fail) only [go_sem, Nat.reduceEqDiff, reduceIte, Nat.reduceAdd, Int.toNat_natCast, Nat.add_zero, Owes_true, Tryz.results31, e0, e1, e15, e16, e17]
        exact ⟨_, by omega, i + 1, by omega, rfl, rfl, by simp -dsimp -implicitDefEqProofs (maxSteps := 2000000) (disch := first | assumption | omega | (simp only [AW.next_push, AW.next_put]; omega) | ((repeat refine Fresh.push ?_ _); assumption) | (simp only [same_int, same_bool, same_ptr, same_slice, same_sliceP, same_nil, same_agg2, same_string]; done) | (simp [oneCell, AW.next_push]; done) | fail) only [go_sem, Nat.reduceEqDiff, reduceIte, Nat.reduceAdd, Int.toNat_natCast, Nat.add_zero, Owes_true, e0], by simp -dsimp -implicitDefEqProofs (maxSteps := 2000000) (disch := first | assumption | omega | (simp only [AW.next_push, AW.next_put]; omega) | ((repeat refine Fresh.push ?_ _); assumption) | (simp only [same_int, same_bool, same_ptr, same_slice, same_sliceP, same_nil, same_agg2, same_string]; done) | (simp [oneCell, AW.next_push]; done) | fail) only [go_sem, Nat.reduceEqDiff, reduceIte, Nat.reduceAdd, Int.toNat_natCast, Nat.add_zero, Owes_true, e1], by simp -dsimp -implicitDefEqProofs (maxSteps := 2000000) (disch := first | assumption | omega | (simp only [AW.next_push, AW.next_put]; omega) | ((repeat refine Fresh.push ?_ _); assumption) | (simp only [same_int, same_bool, same_ptr, same_slice, same_sliceP, same_nil, same_agg2, same_string]; done) | (simp [oneCell, AW.next_push]; done) | fail) only [go_sem, Nat.reduceEqDiff, reduceIte, Nat.reduceAdd, Int.toNat_natCast, Nat.add_zero, Owes_true, e15], by simp -dsimp -implicitDefEqProofs (maxSteps := 2000000) (disch := first | assumption | omega | (simp only [AW.next_push, AW.next_put]; omega) | ((repeat refine Fresh.push ?_ _); assumption) | (simp only [same_int, same_bool, same_ptr, same_slice, same_sliceP, same_nil, same_agg2, same_string]; done) | (simp [oneCell, AW.next_push]; done) | fail) only [go_sem, Nat.reduceEqDiff, reduceIte, Nat.reduceAdd, Int.toNat_natCast, Nat.add_zero, Owes_true, e16], by simp -dsimp -implicitDefEqProofs (maxSteps := 2000000) (disch := first | assumption | omega | (simp only [AW.next_push, AW.next_put]; omega) | ((repeat refine Fresh.push ?_ _); assumption) | (simp only [same_int, same_bool, same_ptr, same_slice, same_sliceP, same_nil, same_agg2, same_string]; done) | (simp [oneCell, AW.next_push]; done) | fail) only [go_sem, Nat.reduceEqDiff, reduceIte, Nat.reduceAdd, Int.toNat_natCast, Nat.add_zero, Owes_true]; rfl, hg.trans hg3, by rw [htake, List.all_append, hall]; simp [hA]⟩
      | false =>
        simp -dsimp -implicitDefEqProofs (maxSteps := 2000000) (disch := first | assumption | omega | (simp only [AW.next_push, AW.next_put]; omega) | ((repeat refine Fresh.push ?_ _); assumption) | (simp only [same_int, same_bool, same_ptr, same_slice, same_sliceP, same_nil, same_agg2, same_string]; done) | (simp [oneCell, AW.next_push]; done) | fail) only [go_sem, Nat.reduceEqDiff, reduceIte, Nat.reduceAdd, Int.toNat_natCast, Nat.add_zero, Owes_true, Tryz.results31]
        refine ⟨?_, hg.trans hg3⟩
        have : rss.all (okRs ms.length) = false := by
          rw [List.all_eq_false]; exact ⟨rss[i], List.getElem_mem hri, by rw [hA]; simp⟩
        simp [checkE, hM, this]
    · simp -dsimp -implicitDefEqProofs (maxSteps := 2000000) (disch := first | assumption | omega | (simp only [AW.next_push, AW.next_put]; omega) | ((repeat refine Fresh.push ?_ _); assumption) | (simp only [same_int, same_bool, same_ptr, same_slice, same_sliceP, same_nil, same_agg2, same_string]; done) | (simp [oneCell, AW.next_push]; done) | fail) only [go_sem, Nat.reduceEqDiff, reduceIte, Nat.reduceAdd, Int.toNat_natCast, Nat.add_zero, Owes_true, Tryz.results31, e0, e1, e15, e16, e17, hlt]
      apply callV_of (e := rfl)
      · exact areFakesNil_ok ms v w2 hf (hs.grown hg)
      rintro _ w3 ⟨rfl, hg3⟩
      simp -dsimp -implicitDefEqProofs (maxSteps := 2000000) (disch := first | assumption | omega | (simp only [AW.next_push, AW.next_put]; omega) | ((repeat refine Fresh.push ?_ _); assumption) | (simp only [same_int, same_bool, same_ptr, same_slice, same_sliceP, same_nil, same_agg2, same_string]; done) | (simp [oneCell, AW.next_push]; done) | fail) only [go_sem, Nat.reduceEqDiff, reduceIte, Nat.reduceAdd, Int.toNat_natCast, Nat.add_zero, Owes_true, Tryz.results31]
      refine ⟨?_, hg.trans hg3⟩
      have : rss.take i = rss := List.take_of_length_le (by omega)
      rw [this] at hall
      simp [checkE, hM, hall]

theorem sameSpans_ok (xs ys : List (Int × Int)) (v u : Value) (w : AW) (f : Fresh w) (hx : ArrOf w 2 mcells v xs) (hy : ArrOf w 2 mcells u ys) :
    CallT Tryz.prog Tryz.T (.fn (.func 11) #[]) #[v, u] w (Ret (.bool (decide (xs = ys))) (Grown w)) := by
  obtain ⟨p, cap, rfl, hcap, hmax, hat⟩ := hx.open
  obtain ⟨q, cap2, rfl, hcap2, hmax2, hat2⟩ := hy.open
  refine callT_code rfl Tryz.func11 rfl Tryz.s11_eq rfl ?_
  unfold Tryz.s11
  by_cases h1 : (xs.length : Int) = (ys.length : Int)
  case neg =>
    simp -dsimp -implicitDefEqProofs (maxSteps := 2000000) (disch := first | assumption | omega | (simp only [AW.next_push, AW.next_put]; omega) | ((repeat refine Fresh.push ?_ _); assumption) | (simp only [same_int, same_bool, same_ptr, same_slice, same_sliceP, same_nil, same_agg2, same_string]; done) | (simp [oneCell, AW.next_push]; done) | fail) only [go_sem, Nat.reduceEqDiff, reduceIte, Nat.reduceAdd, Int.toNat_natCast, Nat.add_zero, Owes_true, Tryz.results11, h1]
    refine ⟨?_, .refl f⟩
    have : ¬ xs = ys := fun e => h1 (by rw [e])
    simp [this]
  have h1' : xs.length = ys.length := by omega
  simp -dsimp -implicitDefEqProofs (maxSteps := 2000000) (disch := first | assumption | omega | (simp only [AW.next_push, AW.next_put]; omega) | ((repeat refine Fresh.push ?_ _); assumption) | (simp only [same_int, same_bool, same_ptr, same_slice, same_sliceP, same_nil, same_agg2, same_string]; done) | (simp [oneCell, AW.next_push]; done) | fail) only [go_sem, Nat.reduceEqDiff, reduceIte, Nat.reduceAdd, Int.toNat_natCast, Nat.add_zero, Owes_true, Tryz.results11, h1]
  refine loopR (fun k t ds w1 => ∃ i : Nat, i ≤ xs.length ∧ k = xs.length - i ∧ ds = [] ∧ ev t (.tmp 0) = .slice p xs.length cap ∧ ev t (.tmp 1) = .slice q ys.length cap2 ∧ ev t (.tmp 5) = .int .i64 (i : Int) ∧ w1 = w ∧ xs.take i = ys.take i) xs.length ?_ ?_
  · refine ⟨0, by omega, by omega, rfl, ?_, ?_, ?_, rfl, by simp⟩ <;> simp -dsimp -implicitDefEqProofs (maxSteps := 2000000) (disch := first | assumption | omega | (simp only [AW.next_push, AW.next_put]; omega) | ((repeat refine Fresh.push ?_ _); assumption) | (simp only [same_int, same_bool, same_ptr, same_slice, same_sliceP, same_nil, same_agg2, same_string]; done) | (simp [oneCell, AW.next_push]; done) | fail) only [go_sem, Nat.reduceEqDiff, reduceIte, Nat.reduceAdd, Int.toNat_natCast, Nat.add_zero, Owes_true, h1] <;> rfl
  · rintro k t ds w1 ⟨i, hi, rfl, rfl, e0, e1, e5, rfl, heq⟩
    by_cases hlt : (i : Int) < (xs.length : Int)
    · have hlt' : i < xs.length := by omega
      have hlt2 : i < ys.length := by omega
      have hlt3 : (i : Int) < (ys.length : Int) := by omega
      obtain ⟨b, o, rfl, hb, hcell⟩ := hat i hlt'
      obtain ⟨b2, o2, rfl, hb2, hcell2⟩ := hat2 i hlt2
      have hc0 := hcell w1 (.refl _ _) 0 _ rfl
      have hc1 := hcell w1 (.refl _ _) 1 _ rfl
      have hd0 := hcell2 w1 (.refl _ _) 0 _ rfl
      have hd1 := hcell2 w1 (.refl _ _) 1 _ rfl
      rw [Nat.add_zero] at hc0 hd0
      cases hA : (xs[i].1 == ys[i].1) && (xs[i].2 == ys[i].2) with
      | true =>
        simp -dsimp -implicitDefEqProofs (maxSteps := 2000000) (disch := first | assumption | omega | (simp only [AW.next_push, AW.next_put]; omega) | ((repeat refine Fresh.push ?_ _); assumption) | (simp only [same_int, same_bool, same_ptr, same_slice, same_sliceP, same_nil, same_agg2, same_string]; done) | (simp [oneCell, AW.next_push]; done) | fail) only [go_sem, Nat.reduceEqDiff, reduceIte, Nat.reduceAdd, Int.toNat_natCast, Nat.add_zero, Owes_true, Tryz.results11, e0, e1, e5, hlt, indexV_eq, hc0, hc1, hd0, hd1, binQ_agg, hA]
        refine ⟨_, ?_, i + 1, by omega, rfl, rfl, by simp -dsimp -implicitDefEqProofs (maxSteps := 2000000) (disch := first | assumption | omega | (simp only [AW.next_push, AW.next_put]; omega) | ((repeat refine Fresh.push ?_ _); assumption) | (simp only [same_int, same_bool, same_ptr, same_slice, same_sliceP, same_nil, same_agg2, same_string]; done) | (simp [oneCell, AW.next_push]; done) | fail) only [go_sem, Nat.reduceEqDiff, reduceIte, Nat.reduceAdd, Int.toNat_natCast, Nat.add_zero, Owes_true, e0], by simp -dsimp -implicitDefEqProofs (maxSteps := 2000000) (disch := first | assumption | omega | (simp only [AW.next_push, AW.next_put]; omega) | ((repeat refine Fresh.push ?_ _); assumption) | (simp only [same_int, same_bool, same_ptr, same_slice, same_sliceP, same_nil, same_agg2, same_string]; done) | (simp [oneCell, AW.next_push]; done) | fail) only [go_sem, Nat.reduceEqDiff, reduceIte, Nat.reduceAdd, Int.toNat_natCast, Nat.add_zero, Owes_true, e1], by simp -dsimp -implicitDefEqProofs (maxSteps := 2000000) (disch := first | assumption | omega | (simp only [AW.next_push, AW.next_put]; omega) | ((repeat refine Fresh.push ?_ _); assumption) | (simp only [same_int, same_bool, same_ptr, same_slice, same_sliceP, same_nil, same_agg2, same_string]; done) | (simp [oneCell, AW.next_push]; done) | fail) only [go_sem, Nat.reduceEqDiff, reduceIte, Nat.reduceAdd, Int.toNat_natCast, Nat.add_zero, Owes_true]; rfl, rfl, ?_⟩
        · omega
        · rw [List.take_succ_eq_append_getElem hlt', List.take_succ_eq_append_getElem hlt2, heq]
          simp only [Bool.and_eq_true, beq_iff_eq] at hA
          rw [Prod.ext hA.1 hA.2]
      | false =>
        simp -dsimp -implicitDefEqProofs (maxSteps := 2000000) (disch := first | assumption | omega | (simp only [AW.next_push, AW.next_put]; omega) | ((repeat refine Fresh.push ?_ _); assumption) | (simp only [same_int, same_bool, same_ptr, same_slice, same_sliceP, same_nil, same_agg2, same_string]; done) | (simp [oneCell, AW.next_push]; done) | fail) only [go_sem, Nat.reduceEqDiff, reduceIte, Nat.reduceAdd, Int.toNat_natCast, Nat.add_zero, Owes_true, Tryz.results11, e0, e1, e5, hlt, indexV_eq, hc0, hc1, hd0, hd1, binQ_agg, hA]
        refine ⟨?_, .refl f⟩
        have : ¬ xs = ys := fun e => by subst e; simp at hA
        simp [this]
    · obtain rfl : i = xs.length := by omega
      simp -dsimp -implicitDefEqProofs (maxSteps := 2000000) (disch := first | assumption | omega | (simp only [AW.next_push, AW.next_put]; omega) | ((repeat refine Fresh.push ?_ _); assumption) | (simp only [same_int, same_bool, same_ptr, same_slice, same_sliceP, same_nil, same_agg2, same_string]; done) | (simp [oneCell, AW.next_push]; done) | fail) only [go_sem, Nat.reduceEqDiff, reduceIte, Nat.reduceAdd, Int.toNat_natCast, Nat.add_zero, Owes_true, Tryz.results11, e0, e1, e5, hlt]
      refine ⟨?_, .refl f⟩
      rw [List.take_length, h1', List.take_length] at heq
      simp [heq]
end Go.Proofs

/- Narrow, as the program does it. -/
namespace Go.Proofs
open Go Go.RowKit Go.Sim
set_option maxRecDepth 100000
end Go.Proofs
namespace Go.Sim
open Go.Proofs
theorem Own.put_ne {w : AW} {a b : Nat} {e : TypeId} {c : List Value} (h : Own w a e c) (hab : a ≠ b) (k : Blk) : Own (w.put b k) a e c :=
  ⟨by rw [AW.blk_put _ _ _ _ (Trie.in_ _) (Trie.in_ _), if_neg hab]; exact h.blk, by rw [AW.family_put]; exact h.fam, by rw [AW.next_put]; exact h.lt⟩
end Go.Sim
namespace Go.Proofs
open Go Go.RowKit Go.Sim
set_option maxRecDepth 100000
theorem Grown.put {w w' : AW} (h : Grown w w') {b : Nat} (h1 : w.next ≤ b) (h2 : b < w'.next) (k : Blk) : Grown w (w'.put b k) := ⟨h.1.put h1 k, h.2.put h2 k⟩
end Go.Proofs
namespace Go.Sim
open Go.Proofs
theorem Own.arr {α : Type} {w : AW} {b : Nat} {e : TypeId} {enc : α → List Value} {z : Nat} {L : List α} (h : Own w b e (L.flatMap enc)) (hz : ∀ x, (enc x).length = z) (h1 : ∀ x, ∀ v ∈ enc x, oneCell v = true) (hl : L.length ≤ 1048576) : ArrOf w z enc (.slice (some ⟨b, 0, none⟩) L.length L.length) L := by
  refine ⟨_, _, _, rfl, by simp, Nat.le_refl _, by omega, fun _ => ⟨b, 0, rfl, h.lt, fun i j r x hi hx => ?_⟩⟩
  rw [List.getElem?_map] at hi
  obtain ⟨y, hy, rfl⟩ := Option.map_eq_some_iff.mp hi
  have hj : j < z := by
    rw [← hz y]
    rcases Nat.lt_or_ge j (enc y).length with q | q
    · exact q
    · rw [List.getElem?_eq_none q] at hx; cases hx
  rw [Nat.zero_add]
  exact h.cell (by rw [flatMap_get hz L i j y hy hj]; exact hx) (h1 y x (List.mem_of_getElem? hx))
end Go.Sim
namespace Go.Proofs
open Go Go.RowKit Go.Sim
set_option maxRecDepth 100000
theorem mcells_len (x : Int × Int) : (mcells x).length = 2 := rfl
theorem mcells_one (x : Int × Int) : ∀ v ∈ mcells x, oneCell v = true := by intro v hv; simp [mcells] at hv; rcases hv with rfl | rfl <;> rfl

/-- The sizes of which a reading is true, met with others. -/
def upd (tol : Int) (s : Int × Int) (r : Int) : Int × Int := if r = -1 then s else (max s.1 (r - tol), min s.2 (r + tol))
def narrow1 (tol : Int) (col : List Int) : Int × Int := col.foldl (upd tol) (0, 100000)
def col (rss : List (List Int)) (k : Nat) : List Int := rss.map fun rs => rs.getD k 0
def sp (ms : List (Int × Int)) (rss : List (List Int)) (k : Nat) : Int × Int := narrow1 (ms.getD k (0, 0)).1 (col rss k)
def spansTo (ms : List (Int × Int)) (rss : List (List Int)) (n : Nat) : List (Int × Int) := (List.range n).map (sp ms rss)
def bad (s : Int × Int) : Bool := decide (s.2 < s.1)
def narrowE (ms : List (Int × Int)) (rss : List (List Int)) : Int :=
  if okMs ms = true then (if 16 < rss.length then 3 else if rss.all (okRs ms.length) = true then (if (spansTo ms rss ms.length).any bad = true then 15 else 0) else 13) else 12
def narrowR (ms : List (Int × Int)) (rss : List (List Int)) : List (Int × Int) := if narrowE ms rss = 0 then spansTo ms rss ms.length else []
theorem spansTo_succ (ms : List (Int × Int)) (rss : List (List Int)) (n : Nat) : spansTo ms rss (n + 1) = spansTo ms rss n ++ [sp ms rss n] := by simp [spansTo, List.range_succ]
theorem spansTo_len (ms : List (Int × Int)) (rss : List (List Int)) (n : Nat) : (spansTo ms rss n).length = n := by simp [spansTo]
theorem bad_any {ms : List (Int × Int)} {rss : List (List Int)} {i n : Nat} (h : i < n) (hb : bad (sp ms rss i) = true) : (spansTo ms rss n).any bad = true := by
  rw [List.any_eq_true]
  exact ⟨sp ms rss i, List.mem_map.mpr ⟨i, by simpa using h, rfl⟩, hb⟩

/-- What both Narrows come to. -/
def NarrowPost (ms : List (Int × Int)) (rss : List (List Int)) (w : AW) (v : Value) (w' : AW) : Prop :=
  ∃ s, v = .tuple #[s, .int .i64 (narrowE ms rss)] ∧ ArrOf w' 2 mcells s (narrowR ms rss) ∧ Grown w w'
theorem NarrowPost.err {ms : List (Int × Int)} {rss : List (List Int)} {w w' : AW} {e : Int} (h : narrowE ms rss = e) (h0 : e ≠ 0) (g : Grown w w') : NarrowPost ms rss w (.tuple #[.slice none 0 0, .int .i64 e]) w' := by
  refine ⟨_, by rw [h], ?_, g⟩
  rw [narrowR, h, if_neg h0]
  exact ArrOf.nil _ _ _

set_option maxHeartbeats 1000000 in
theorem narrow_ok (ms : List (Int × Int)) (rss : List (List Int)) (v u : Value) (w : AW) (f : Fresh w) (hs : ArrOf w 2 mcells v ms) (hr : Rows w u rss) :
    CallT Tryz.prog Tryz.T (.fn (.func 9) #[]) #[v, u] w (NarrowPost ms rss w) := by
  obtain ⟨vs, hvl, hvs, hrow⟩ := id hr
  obtain ⟨p, cap, rfl, hcap, hmax, hat⟩ := hs.open
  obtain ⟨q, cap2, rfl, hcap2, hmax2, hat2⟩ := hvs.open
  refine callT_code rfl Tryz.func9 rfl Tryz.s9_eq rfl ?_
  unfold Tryz.s9
  simp -dsimp -implicitDefEqProofs (maxSteps := 2000000) (disch := first | assumption | omega | (simp only [AW.next_push, AW.next_put]; omega) | ((repeat refine Fresh.push ?_ _); assumption) | (simp only [same_int, same_bool, same_ptr, same_slice, same_sliceP, same_nil, same_agg2, same_string]; done) | (simp [oneCell, AW.next_push]; done) | fail) only [go_sem, Nat.reduceEqDiff, reduceIte, Nat.reduceAdd, Int.toNat_natCast, Nat.add_zero, Owes_true, Tryz.results9]
  apply callV_of (e := rfl)
  · exact checkMeasures_ok ms _ w f hs
  rintro _ w1 ⟨rfl, hg1⟩
  by_cases hM : okMs ms = true
  case neg =>
    have e : (if okMs ms = true then (0 : Int) else 12) = 12 := by rw [if_neg hM]
    have d : ¬ (12 : Int) = 0 := by omega
    simp -dsimp -implicitDefEqProofs (maxSteps := 2000000) (disch := first | assumption | omega | (simp only [AW.next_push, AW.next_put]; omega) | ((repeat refine Fresh.push ?_ _); assumption) | (simp only [same_int, same_bool, same_ptr, same_slice, same_sliceP, same_nil, same_agg2, same_string]; done) | (simp [oneCell, AW.next_push]; done) | fail) only [go_sem, Nat.reduceEqDiff, reduceIte, Nat.reduceAdd, Int.toNat_natCast, Nat.add_zero, Owes_true, Tryz.results9, e, d]
    exact NarrowPost.err (by simp [narrowE, hM]) d hg1
  have e : (if okMs ms = true then (0 : Int) else 12) = 0 := by rw [if_pos hM]
  by_cases h16 : 16 < (vs.length : Int)
  · simp -dsimp -implicitDefEqProofs (maxSteps := 2000000) (disch := first | assumption | omega | (simp only [AW.next_push, AW.next_put]; omega) | ((repeat refine Fresh.push ?_ _); assumption) | (simp only [same_int, same_bool, same_ptr, same_slice, same_sliceP, same_nil, same_agg2, same_string]; done) | (simp [oneCell, AW.next_push]; done) | fail) only [go_sem, Nat.reduceEqDiff, reduceIte, Nat.reduceAdd, Int.toNat_natCast, Nat.add_zero, Owes_true, Tryz.results9, e, h16]
    exact NarrowPost.err (by have : 16 < rss.length := by omega
                             simp [narrowE, hM, this]) (by omega) hg1
  have h16' : ¬ 16 < rss.length := by omega
  simp -dsimp -implicitDefEqProofs (maxSteps := 2000000) (disch := first | assumption | omega | (simp only [AW.next_push, AW.next_put]; omega) | ((repeat refine Fresh.push ?_ _); assumption) | (simp only [same_int, same_bool, same_ptr, same_slice, same_sliceP, same_nil, same_agg2, same_string]; done) | (simp [oneCell, AW.next_push]; done) | fail) only [go_sem, Nat.reduceEqDiff, reduceIte, Nat.reduceAdd, Int.toNat_natCast, Nat.add_zero, Owes_true, Tryz.results9, e, h16]
  apply callV_of (e := rfl)
  · exact check_ok ms rss _ _ w1 hg1.2 (hs.grown hg1) (hr.grown hg1)
  rintro _ w2 ⟨rfl, hg2⟩
  by_cases hR : rss.all (okRs ms.length) = true
  case neg =>
    have e : checkE ms rss = 13 := by simp [checkE, hM, hR]
    have d : ¬ (13 : Int) = 0 := by omega
    simp -dsimp -implicitDefEqProofs (maxSteps := 2000000) (disch := first | assumption | omega | (simp only [AW.next_push, AW.next_put]; omega) | ((repeat refine Fresh.push ?_ _); assumption) | (simp only [same_int, same_bool, same_ptr, same_slice, same_sliceP, same_nil, same_agg2, same_string]; done) | (simp [oneCell, AW.next_push]; done) | fail) only [go_sem, Nat.reduceEqDiff, reduceIte, Nat.reduceAdd, Int.toNat_natCast, Nat.add_zero, Owes_true, Tryz.results9, e, d]
    exact NarrowPost.err (by simp only [narrowE, hM, if_true, h16', if_false]; rw [if_neg hR]) d (hg1.trans hg2)
  have e : checkE ms rss = 0 := by simp [checkE, hM, hR]
  have hrs : ∀ rs ∈ rss, rs.length = ms.length ∧ ∀ r ∈ rs, -1 ≤ r ∧ r ≤ 100000 := by
    intro rs hrs
    have := List.all_eq_true.mp hR rs hrs
    simp only [okRs, Bool.and_eq_true, decide_eq_true_eq, List.all_eq_true] at this
    exact ⟨this.1, fun r hr => (inR_iff _ _ _).1 (this.2 r hr)⟩
  have hms : ms.length ≤ 8 ∧ ∀ m ∈ ms, 0 ≤ m.1 ∧ m.1 ≤ 1000 := by
    simp only [okMs, Bool.and_eq_true, decide_eq_true_eq, List.all_eq_true] at hM
    refine ⟨hM.1.2, fun m hm => ?_⟩
    have := hM.2 m hm
    simp only [okM, Bool.and_eq_true] at this
    exact (inR_iff _ _ _).1 this.1
  have g2 := hg1.trans hg2
  have hmk : makeSliceV (prg Tryz.prog) w2 26 (.int .i64 (ms.length : Int)) (.int .i64 (ms.length : Int)) = some (.slice (some ⟨w2.next, 0, none⟩) ms.length ms.length, w2.push (.cells ((List.replicate ms.length ((0, 0) : Int × Int)).flatMap mcells) 58 w2.next 0 0)) := by
    rw [makeSliceV_eq Tryz.ty26 Tryz.ty58 (by omega) (by omega) (by omega) rfl, ← flat_rep]; rfl
  simp -dsimp -implicitDefEqProofs (maxSteps := 2000000) (disch := first | assumption | omega | (simp only [AW.next_push, AW.next_put]; omega) | ((repeat refine Fresh.push ?_ _); assumption) | (simp only [same_int, same_bool, same_ptr, same_slice, same_sliceP, same_nil, same_agg2, same_string]; done) | (simp [oneCell, AW.next_push]; done) | fail) only [go_sem, Nat.reduceEqDiff, reduceIte, Nat.reduceAdd, Int.toNat_natCast, Nat.add_zero, Owes_true, Tryz.results9, e, hmk]
  have hb0 : w.next ≤ w2.next := g2.1.next
  generalize hb : w2.next = b0 at *
  refine loopR (fun k t ds w3 => ∃ (i : Nat) (L : List (Int × Int)), i ≤ ms.length ∧ k = ms.length - i ∧ ds = [] ∧ ev t (.tmp 0) = .slice p ms.length cap ∧ ev t (.tmp 1) = .slice q vs.length cap2 ∧ ev t (.tmp 8) = .slice (some ⟨b0, 0, none⟩) ms.length ms.length ∧
    ev t (.tmp 30) = .slice p ms.length cap ∧ ev t (.tmp 31) = .int .i64 (ms.length : Int) ∧ ev t (.tmp 32) = .int .i64 (i : Int) ∧ L.length = ms.length ∧ Own w3 b0 58 (L.flatMap mcells) ∧ Grown w w3 ∧ L.take i = spansTo ms rss i ∧ (spansTo ms rss i).any bad = false) ms.length ?_ ?_
  · refine ⟨0, List.replicate ms.length (0, 0), by omega, by omega, rfl, ?_, ?_, ?_, ?_, ?_, ?_, by simp, by rw [← hb]; exact Own.new hg2.2 _ _, by rw [← hb]; exact g2.push _, rfl, rfl⟩ <;> simp -dsimp -implicitDefEqProofs (maxSteps := 2000000) (disch := first | assumption | omega | (simp only [AW.next_push, AW.next_put]; omega) | ((repeat refine Fresh.push ?_ _); assumption) | (simp only [same_int, same_bool, same_ptr, same_slice, same_sliceP, same_nil, same_agg2, same_string]; done) | (simp [oneCell, AW.next_push]; done) | fail) only [go_sem, Nat.reduceEqDiff, reduceIte, Nat.reduceAdd, Int.toNat_natCast, Nat.add_zero, Owes_true] <;> rfl
  rintro k t ds w3 ⟨i, L, hi, rfl, rfl, e0, e1, e8, e30, e31, e32, hL, hO, hg, hpre, hgood⟩
  obtain ⟨hk, hf⟩ := id hg
  by_cases hlt : (i : Int) < (ms.length : Int)
  case neg =>
    obtain rfl : i = ms.length := by omega
    simp -dsimp -implicitDefEqProofs (maxSteps := 2000000) (disch := first | assumption | omega | (simp only [AW.next_push, AW.next_put]; omega) | ((repeat refine Fresh.push ?_ _); assumption) | (simp only [same_int, same_bool, same_ptr, same_slice, same_sliceP, same_nil, same_agg2, same_string]; done) | (simp [oneCell, AW.next_push]; done) | fail) only [go_sem, Nat.reduceEqDiff, reduceIte, Nat.reduceAdd, Int.toNat_natCast, Nat.add_zero, Owes_true, Tryz.results9, e0, e1, e8, e30, e31, e32, hlt]
    have hE : narrowE ms rss = 0 := by
      simp only [narrowE, hM, if_true, h16', if_false, hR, hgood]; rfl
    rw [← hL, List.take_length] at hpre
    refine ⟨_, by rw [hE], ?_, hg⟩
    have := hO.arr mcells_len mcells_one (by omega)
    rw [hL, hpre, hL] at this
    rw [narrowR, if_pos hE]; exact this
  have hlt' : i < ms.length := by omega
  obtain ⟨b, o, rfl, hbn, hcell⟩ := hat i hlt'
  have hc0 := hcell w3 hk 0 _ rfl
  have hc1 := hcell w3 hk 1 _ rfl
  rw [Nat.add_zero] at hc0
  have htol := hms.2 ms[i] (List.getElem_mem hlt')
  have hO1 := hO.push (.cells [.int .i64 ms[i].1, .int .i64 ms[i].2] 53 w3.next 0 0)
  have hst : storeV (w3.push (.cells [.int .i64 ms[i].1, .int .i64 ms[i].2] 53 w3.next 0 0)) true 2 (.pointer (some ⟨b0, i * 2, none⟩)) (.agg #[.int .i64 0, .int .i64 100000]) =
      some ((w3.push (.cells [.int .i64 ms[i].1, .int .i64 ms[i].2] 53 w3.next 0 0)).put b0 (.cells ((L.set i (0, 100000)).flatMap mcells) 58 b0 0 0)) := by
    rw [show (Value.agg #[.int .i64 0, .int .i64 100000]) = .agg (mcells (0, 100000)).toArray from rfl, storeV_own (size := 2) (o := i * 2) (l := mcells (0, 100000)) hO1 rfl (by omega) (by rw [flatMap_len mcells_len, hL]; omega) rfl, setsL_set mcells_len _ _ _ (by omega)]
  simp -dsimp -implicitDefEqProofs (maxSteps := 2000000) (disch := first | assumption | omega | (simp only [AW.next_push, AW.next_put]; omega) | ((repeat refine Fresh.push ?_ _); assumption) | (simp only [same_int, same_bool, same_ptr, same_slice, same_sliceP, same_nil, same_agg2, same_string]; done) | (simp [oneCell, AW.next_push]; done) | fail) only [go_sem, Nat.reduceEqDiff, reduceIte, Nat.reduceAdd, Int.toNat_natCast, Nat.add_zero, Owes_true, Tryz.results9, e0, e1, e8, e30, e31, e32, hlt, indexV_eq, hc0, hc1, Nat.zero_add, hst]
  have hrow2 : ∀ {w4 : AW} {x : Int × Int}, Own w4 b0 58 ((L.set i x).flatMap mcells) → w4.cell? ⟨b0, i * 2, none⟩ = some (.int .i64 x.1) ∧ w4.cell? ⟨b0, i * 2 + 1, none⟩ = some (.int .i64 x.2) := by
    intro w4 x h
    have hx : (L.set i x)[i]? = some x := by rw [List.getElem?_set_self (by omega)]
    exact ⟨h.cell (o := i * 2) (by rw [← Nat.add_zero (i * 2), flatMap_get mcells_len _ i 0 x hx (by decide)]; rfl) rfl, h.cell (by rw [flatMap_get mcells_len _ i 1 x hx (by decide)]; rfl) rfl⟩
  refine loopR (fun k t ds w4 => ∃ (j : Nat), j ≤ vs.length ∧ k = vs.length - j ∧ ds = [] ∧ ev t (.tmp 0) = .slice (some ⟨b, o, none⟩) ms.length cap ∧ ev t (.tmp 1) = .slice q vs.length cap2 ∧ ev t (.tmp 8) = .slice (some ⟨b0, 0, none⟩) ms.length ms.length ∧
    ev t (.tmp 9) = .int .i64 (i : Int) ∧ ev t (.tmp 10) = .pointer (some ⟨w3.next, 0, none⟩) ∧
    ev t (.tmp 30) = .slice (some ⟨b, o, none⟩) ms.length cap ∧ ev t (.tmp 31) = .int .i64 (ms.length : Int) ∧ ev t (.tmp 32) = .int .i64 (i : Int) ∧
    ev t (.tmp 41) = .slice q vs.length cap2 ∧ ev t (.tmp 42) = .int .i64 (vs.length : Int) ∧ ev t (.tmp 43) = .int .i64 (j : Int) ∧
    Own w4 w3.next 53 [.int .i64 ms[i].1, .int .i64 ms[i].2] ∧ Own w4 b0 58 ((L.set i (((col rss i).take j).foldl (upd ms[i].1) (0, 100000))).flatMap mcells) ∧ Grown w w4) vs.length ?_ ?_
  · refine ⟨0, by omega, by omega, rfl, ?_, ?_, ?_, ?_, ?_, ?_, ?_, ?_, ?_, ?_, ?_, (Own.new hf _ _).put_ne (by have := hO.lt; omega) _, hO1.put _, (hg.push _).put (by omega) (by have := hO1.lt; omega) _⟩ <;> simp -dsimp -implicitDefEqProofs (maxSteps := 2000000) (disch := first | assumption | omega | (simp only [AW.next_push, AW.next_put]; omega) | ((repeat refine Fresh.push ?_ _); assumption) | (simp only [same_int, same_bool, same_ptr, same_slice, same_sliceP, same_nil, same_agg2, same_string]; done) | (simp [oneCell, AW.next_push]; done) | fail) only [go_sem, Nat.reduceEqDiff, reduceIte, Nat.reduceAdd, Int.toNat_natCast, Nat.add_zero, Owes_true, e0, e1, e8, e30, e31, e32] <;> rfl
  rintro k t ds w4 ⟨j, hj, rfl, rfl, f0, f1, f8, f9, f10, f30, f31, f32, f41, f42, f43, hX, hO4, hg4⟩
  obtain ⟨hk4, hf4⟩ := id hg4
  have hx0 := hX.cell (o := 0) rfl rfl
  obtain ⟨hy0, hy1⟩ := hrow2 hO4
  by_cases hjt : (j : Int) < (vs.length : Int)
  case neg =>
    obtain rfl : j = vs.length := by omega
    have hsp : ((col rss i).take vs.length).foldl (upd ms[i].1) (0, 100000) = sp ms rss i := by
      rw [List.take_of_length_le (by simp [col]; omega), sp, narrow1, List.getD_eq_getElem?_getD, List.getElem?_eq_getElem hlt', Option.getD_some]
    rw [hsp] at hO4 hy0 hy1
    simp -dsimp -implicitDefEqProofs (maxSteps := 2000000) (disch := first | assumption | omega | (simp only [AW.next_push, AW.next_put]; omega) | ((repeat refine Fresh.push ?_ _); assumption) | (simp only [same_int, same_bool, same_ptr, same_slice, same_sliceP, same_nil, same_agg2, same_string]; done) | (simp [oneCell, AW.next_push]; done) | fail) only [go_sem, Nat.reduceEqDiff, reduceIte, Nat.reduceAdd, Int.toNat_natCast, Nat.add_zero, Owes_true, Tryz.results9, f0, f1, f8, f9, f10, f30, f31, f32, f41, f42, f43, hjt, indexV_eq, Nat.zero_add, hy0, hy1]
    apply callV_of (e := rfl)
    · exact isEmpty_ok _ _ w4 hf4
    rintro _ w5 ⟨rfl, hg5⟩
    cases hB : decide ((sp ms rss i).2 < (sp ms rss i).1) with
    | true =>
      simp -dsimp -implicitDefEqProofs (maxSteps := 2000000) (disch := first | assumption | omega | (simp only [AW.next_push, AW.next_put]; omega) | ((repeat refine Fresh.push ?_ _); assumption) | (simp only [same_int, same_bool, same_ptr, same_slice, same_sliceP, same_nil, same_agg2, same_string]; done) | (simp [oneCell, AW.next_push]; done) | fail) only [go_sem, Nat.reduceEqDiff, reduceIte, Nat.reduceAdd, Int.toNat_natCast, Nat.add_zero, Owes_true, Tryz.results9]
      refine NarrowPost.err ?_ (by omega) (hg4.trans hg5)
      have : (spansTo ms rss ms.length).any bad = true := bad_any hlt' hB
      simp only [narrowE, hM, if_true, h16', if_false, hR, this]
    | false =>
      simp -dsimp -implicitDefEqProofs (maxSteps := 2000000) (disch := first | assumption | omega | (simp only [AW.next_push, AW.next_put]; omega) | ((repeat refine Fresh.push ?_ _); assumption) | (simp only [same_int, same_bool, same_ptr, same_slice, same_sliceP, same_nil, same_agg2, same_string]; done) | (simp [oneCell, AW.next_push]; done) | fail) only [go_sem, Nat.reduceEqDiff, reduceIte, Nat.reduceAdd, Int.toNat_natCast, Nat.add_zero, Owes_true, Tryz.results9, f0, f1, f8, f9, f10, f30, f31, f32, f41, f42, f43]
      refine ⟨_, by omega, i + 1, L.set i (sp ms rss i), by omega, rfl, rfl, by simp -dsimp -implicitDefEqProofs (maxSteps := 2000000) (disch := first | assumption | omega | (simp only [AW.next_push, AW.next_put]; omega) | ((repeat refine Fresh.push ?_ _); assumption) | (simp only [same_int, same_bool, same_ptr, same_slice, same_sliceP, same_nil, same_agg2, same_string]; done) | (simp [oneCell, AW.next_push]; done) | fail) only [go_sem, Nat.reduceEqDiff, reduceIte, Nat.reduceAdd, Int.toNat_natCast, Nat.add_zero, Owes_true, f0], by simp -dsimp -implicitDefEqProofs (maxSteps := 2000000) (disch := first | assumption | omega | (simp only [AW.next_push, AW.next_put]; omega) | ((repeat refine Fresh.push ?_ _); assumption) | (simp only [same_int, same_bool, same_ptr, same_slice, same_sliceP, same_nil, same_agg2, same_string]; done) | (simp [oneCell, AW.next_push]; done) | fail) only [go_sem, Nat.reduceEqDiff, reduceIte, Nat.reduceAdd, Int.toNat_natCast, Nat.add_zero, Owes_true, f1], by simp -dsimp -implicitDefEqProofs (maxSteps := 2000000) (disch := first | assumption | omega | (simp only [AW.next_push, AW.next_put]; omega) | ((repeat refine Fresh.push ?_ _); assumption) | (simp only [same_int, same_bool, same_ptr, same_slice, same_sliceP, same_nil, same_agg2, same_string]; done) | (simp [oneCell, AW.next_push]; done) | fail) only [go_sem, Nat.reduceEqDiff, reduceIte, Nat.reduceAdd, Int.toNat_natCast, Nat.add_zero, Owes_true, f8], by simp -dsimp -implicitDefEqProofs (maxSteps := 2000000) (disch := first | assumption | omega | (simp only [AW.next_push, AW.next_put]; omega) | ((repeat refine Fresh.push ?_ _); assumption) | (simp only [same_int, same_bool, same_ptr, same_slice, same_sliceP, same_nil, same_agg2, same_string]; done) | (simp [oneCell, AW.next_push]; done) | fail) only [go_sem, Nat.reduceEqDiff, reduceIte, Nat.reduceAdd, Int.toNat_natCast, Nat.add_zero, Owes_true, f30], by simp -dsimp -implicitDefEqProofs (maxSteps := 2000000) (disch := first | assumption | omega | (simp only [AW.next_push, AW.next_put]; omega) | ((repeat refine Fresh.push ?_ _); assumption) | (simp only [same_int, same_bool, same_ptr, same_slice, same_sliceP, same_nil, same_agg2, same_string]; done) | (simp [oneCell, AW.next_push]; done) | fail) only [go_sem, Nat.reduceEqDiff, reduceIte, Nat.reduceAdd, Int.toNat_natCast, Nat.add_zero, Owes_true, f31], by simp -dsimp -implicitDefEqProofs (maxSteps := 2000000) (disch := first | assumption | omega | (simp only [AW.next_push, AW.next_put]; omega) | ((repeat refine Fresh.push ?_ _); assumption) | (simp only [same_int, same_bool, same_ptr, same_slice, same_sliceP, same_nil, same_agg2, same_string]; done) | (simp [oneCell, AW.next_push]; done) | fail) only [go_sem, Nat.reduceEqDiff, reduceIte, Nat.reduceAdd, Int.toNat_natCast, Nat.add_zero, Owes_true]; rfl, by simp [hL], hO4.keep hg5.1, hg4.trans hg5, ?_, ?_⟩
      · rw [spansTo_succ, List.take_succ_eq_append_getElem (by simp; omega), List.take_set_of_le (by omega), hpre, List.getElem_set_self]
      · rw [spansTo_succ, List.any_append, hgood]; simp [bad, hB]
  have hjt' : j < vs.length := by omega
  have hri : j < rss.length := by omega
  obtain ⟨b2, o2, rfl, hbn2, hcell2⟩ := hat2 j hjt'
  have hd0 := hcell2 w4 hk4 0 _ rfl
  rw [Nat.add_zero] at hd0
  obtain ⟨hl3, hr3⟩ := hrs rss[j] (List.getElem_mem hri)
  obtain ⟨p3, cap3, hv3, hcap3, hmax3, hat3⟩ := (hrow j vs[j] rss[j] (by simp [hjt']) (by simp [hri])).open
  obtain ⟨b3, o3, rfl, hbn3, hcell3⟩ := hat3 i (by omega)
  have hu0 := hcell3 w4 hk4 0 _ rfl
  rw [Nat.add_zero] at hu0
  rw [hv3, hl3] at hd0
  have hcol : (col rss i).take (j + 1) = (col rss i).take j ++ [rss[j][i]] := by
    rw [List.take_succ_eq_append_getElem (by simp [col]; omega)]
    congr 2
    simp [col, List.getD_eq_getElem?_getD, List.getElem?_eq_getElem (show i < rss[j].length by omega)]
  have hhi := hr3 rss[j][i] (List.getElem_mem _)
  by_cases hun : rss[j][i] = -1
  · simp -dsimp -implicitDefEqProofs (maxSteps := 2000000) (disch := first | assumption | omega | (simp only [AW.next_push, AW.next_put]; omega) | ((repeat refine Fresh.push ?_ _); assumption) | (simp only [same_int, same_bool, same_ptr, same_slice, same_sliceP, same_nil, same_agg2, same_string]; done) | (simp [oneCell, AW.next_push]; done) | fail) only [go_sem, Nat.reduceEqDiff, reduceIte, Nat.reduceAdd, Int.toNat_natCast, Nat.add_zero, Owes_true, Tryz.results9, f0, f1, f8, f9, f10, f30, f31, f32, f41, f42, f43, hjt, indexV_eq, hd0, hu0, hun]
    refine ⟨_, by omega, j + 1, by omega, rfl, rfl, by simp -dsimp -implicitDefEqProofs (maxSteps := 2000000) (disch := first | assumption | omega | (simp only [AW.next_push, AW.next_put]; omega) | ((repeat refine Fresh.push ?_ _); assumption) | (simp only [same_int, same_bool, same_ptr, same_slice, same_sliceP, same_nil, same_agg2, same_string]; done) | (simp [oneCell, AW.next_push]; done) | fail) only [go_sem, Nat.reduceEqDiff, reduceIte, Nat.reduceAdd, Int.toNat_natCast, Nat.add_zero, Owes_true, f0], by simp -dsimp -implicitDefEqProofs (maxSteps := 2000000) (disch := first | assumption | omega | (simp only [AW.next_push, AW.next_put]; omega) | ((repeat refine Fresh.push ?_ _); assumption) | (simp only [same_int, same_bool, same_ptr, same_slice, same_sliceP, same_nil, same_agg2, same_string]; done) | (simp [oneCell, AW.next_push]; done) | fail) only [go_sem, Nat.reduceEqDiff, reduceIte, Nat.reduceAdd, Int.toNat_natCast, Nat.add_zero, Owes_true, f1], by simp -dsimp -implicitDefEqProofs (maxSteps := 2000000) (disch := first | assumption | omega | (simp only [AW.next_push, AW.next_put]; omega) | ((repeat refine Fresh.push ?_ _); assumption) | (simp only [same_int, same_bool, same_ptr, same_slice, same_sliceP, same_nil, same_agg2, same_string]; done) | (simp [oneCell, AW.next_push]; done) | fail) only [go_sem, Nat.reduceEqDiff, reduceIte, Nat.reduceAdd, Int.toNat_natCast, Nat.add_zero, Owes_true, f8], by simp -dsimp -implicitDefEqProofs (maxSteps := 2000000) (disch := first | assumption | omega | (simp only [AW.next_push, AW.next_put]; omega) | ((repeat refine Fresh.push ?_ _); assumption) | (simp only [same_int, same_bool, same_ptr, same_slice, same_sliceP, same_nil, same_agg2, same_string]; done) | (simp [oneCell, AW.next_push]; done) | fail) only [go_sem, Nat.reduceEqDiff, reduceIte, Nat.reduceAdd, Int.toNat_natCast, Nat.add_zero, Owes_true, f9], by simp -dsimp -implicitDefEqProofs (maxSteps := 2000000) (disch := first | assumption | omega | (simp only [AW.next_push, AW.next_put]; omega) | ((repeat refine Fresh.push ?_ _); assumption) | (simp only [same_int, same_bool, same_ptr, same_slice, same_sliceP, same_nil, same_agg2, same_string]; done) | (simp [oneCell, AW.next_push]; done) | fail) only [go_sem, Nat.reduceEqDiff, reduceIte, Nat.reduceAdd, Int.toNat_natCast, Nat.add_zero, Owes_true, f10], by simp -dsimp -implicitDefEqProofs (maxSteps := 2000000) (disch := first | assumption | omega | (simp only [AW.next_push, AW.next_put]; omega) | ((repeat refine Fresh.push ?_ _); assumption) | (simp only [same_int, same_bool, same_ptr, same_slice, same_sliceP, same_nil, same_agg2, same_string]; done) | (simp [oneCell, AW.next_push]; done) | fail) only [go_sem, Nat.reduceEqDiff, reduceIte, Nat.reduceAdd, Int.toNat_natCast, Nat.add_zero, Owes_true, f30], by simp -dsimp -implicitDefEqProofs (maxSteps := 2000000) (disch := first | assumption | omega | (simp only [AW.next_push, AW.next_put]; omega) | ((repeat refine Fresh.push ?_ _); assumption) | (simp only [same_int, same_bool, same_ptr, same_slice, same_sliceP, same_nil, same_agg2, same_string]; done) | (simp [oneCell, AW.next_push]; done) | fail) only [go_sem, Nat.reduceEqDiff, reduceIte, Nat.reduceAdd, Int.toNat_natCast, Nat.add_zero, Owes_true, f31], by simp -dsimp -implicitDefEqProofs (maxSteps := 2000000) (disch := first | assumption | omega | (simp only [AW.next_push, AW.next_put]; omega) | ((repeat refine Fresh.push ?_ _); assumption) | (simp only [same_int, same_bool, same_ptr, same_slice, same_sliceP, same_nil, same_agg2, same_string]; done) | (simp [oneCell, AW.next_push]; done) | fail) only [go_sem, Nat.reduceEqDiff, reduceIte, Nat.reduceAdd, Int.toNat_natCast, Nat.add_zero, Owes_true, f32], by simp -dsimp -implicitDefEqProofs (maxSteps := 2000000) (disch := first | assumption | omega | (simp only [AW.next_push, AW.next_put]; omega) | ((repeat refine Fresh.push ?_ _); assumption) | (simp only [same_int, same_bool, same_ptr, same_slice, same_sliceP, same_nil, same_agg2, same_string]; done) | (simp [oneCell, AW.next_push]; done) | fail) only [go_sem, Nat.reduceEqDiff, reduceIte, Nat.reduceAdd, Int.toNat_natCast, Nat.add_zero, Owes_true, f41], by simp -dsimp -implicitDefEqProofs (maxSteps := 2000000) (disch := first | assumption | omega | (simp only [AW.next_push, AW.next_put]; omega) | ((repeat refine Fresh.push ?_ _); assumption) | (simp only [same_int, same_bool, same_ptr, same_slice, same_sliceP, same_nil, same_agg2, same_string]; done) | (simp [oneCell, AW.next_push]; done) | fail) only [go_sem, Nat.reduceEqDiff, reduceIte, Nat.reduceAdd, Int.toNat_natCast, Nat.add_zero, Owes_true, f42], by simp -dsimp -implicitDefEqProofs (maxSteps := 2000000) (disch := first | assumption | omega | (simp only [AW.next_push, AW.next_put]; omega) | ((repeat refine Fresh.push ?_ _); assumption) | (simp only [same_int, same_bool, same_ptr, same_slice, same_sliceP, same_nil, same_agg2, same_string]; done) | (simp [oneCell, AW.next_push]; done) | fail) only [go_sem, Nat.reduceEqDiff, reduceIte, Nat.reduceAdd, Int.toNat_natCast, Nat.add_zero, Owes_true]; rfl, hX, ?_, hg4⟩
    rw [hcol, List.foldl_append]
    simp only [List.foldl_cons, List.foldl_nil]
    rw [upd, if_pos hun]; exact hO4
  simp -dsimp -implicitDefEqProofs (maxSteps := 2000000) (disch := first | assumption | omega | (simp only [AW.next_push, AW.next_put]; omega) | ((repeat refine Fresh.push ?_ _); assumption) | (simp only [same_int, same_bool, same_ptr, same_slice, same_sliceP, same_nil, same_agg2, same_string]; done) | (simp [oneCell, AW.next_push]; done) | fail) only [go_sem, Nat.reduceEqDiff, reduceIte, Nat.reduceAdd, Int.toNat_natCast, Nat.add_zero, Owes_true, Tryz.results9, f0, f1, f8, f9, f10, f30, f31, f32, f41, f42, f43, hjt, indexV_eq, hd0, hu0, hun, Nat.zero_add, hy0, hy1, hx0]
  apply callV_of (e := rfl)
  · exact around_ok _ _ (by omega) (by omega) w4 hf4
  rintro _ w5 ⟨rfl, hg5⟩
  have hle5 := hg5.1.wle hf4
  simp -dsimp -implicitDefEqProofs (maxSteps := 2000000) (disch := first | assumption | omega | (simp only [AW.next_push, AW.next_put]; omega) | ((repeat refine Fresh.push ?_ _); assumption) | (simp only [same_int, same_bool, same_ptr, same_slice, same_sliceP, same_nil, same_agg2, same_string]; done) | (simp [oneCell, AW.next_push]; done) | fail) only [go_sem, Nat.reduceEqDiff, reduceIte, Nat.reduceAdd, Int.toNat_natCast, Nat.add_zero, Owes_true, Tryz.results9, f0, f1, f8, f9, f10, f30, f31, f32, f41, f42, f43]
  apply callV_of (e := rfl)
  · exact meet_ok _ _ _ _ w5 hg5.2
  rintro _ w6 ⟨rfl, hg6⟩
  have hle6 := hg6.1.wle hg5.2
  have hO6 := (hO4.keep hg5.1).keep hg6.1
  have hst6 := storeV_own (size := 2) (o := i * 2) (l := mcells (max (((col rss i).take j).foldl (upd ms[i].1) (0, 100000)).1 (rss[j][i] - ms[i].1), min (((col rss i).take j).foldl (upd ms[i].1) (0, 100000)).2 (rss[j][i] + ms[i].1))) hO6 rfl (by omega) (by rw [flatMap_len mcells_len, List.length_set, hL]; omega) rfl
  rw [setsL_set mcells_len _ _ _ (by rw [List.length_set]; omega), List.set_set] at hst6
  simp only [mcells] at hst6
  simp -dsimp -implicitDefEqProofs (maxSteps := 2000000) (disch := first | assumption | omega | (simp only [AW.next_push, AW.next_put]; omega) | ((repeat refine Fresh.push ?_ _); assumption) | (simp only [same_int, same_bool, same_ptr, same_slice, same_sliceP, same_nil, same_agg2, same_string]; done) | (simp [oneCell, AW.next_push]; done) | fail) only [go_sem, Nat.reduceEqDiff, reduceIte, Nat.reduceAdd, Int.toNat_natCast, Nat.add_zero, Owes_true, Tryz.results9, f0, f1, f8, f9, f10, f30, f31, f32, f41, f42, f43, indexV_eq, Nat.zero_add, hst6]
  refine ⟨_, by omega, j + 1, by omega, rfl, rfl, by simp -dsimp -implicitDefEqProofs (maxSteps := 2000000) (disch := first | assumption | omega | (simp only [AW.next_push, AW.next_put]; omega) | ((repeat refine Fresh.push ?_ _); assumption) | (simp only [same_int, same_bool, same_ptr, same_slice, same_sliceP, same_nil, same_agg2, same_string]; done) | (simp [oneCell, AW.next_push]; done) | fail) only [go_sem, Nat.reduceEqDiff, reduceIte, Nat.reduceAdd, Int.toNat_natCast, Nat.add_zero, Owes_true, f0], by simp -dsimp -implicitDefEqProofs (maxSteps := 2000000) (disch := first | assumption | omega | (simp only [AW.next_push, AW.next_put]; omega) | ((repeat refine Fresh.push ?_ _); assumption) | (simp only [same_int, same_bool, same_ptr, same_slice, same_sliceP, same_nil, same_agg2, same_string]; done) | (simp [oneCell, AW.next_push]; done) | fail) only [go_sem, Nat.reduceEqDiff, reduceIte, Nat.reduceAdd, Int.toNat_natCast, Nat.add_zero, Owes_true, f1], by simp -dsimp -implicitDefEqProofs (maxSteps := 2000000) (disch := first | assumption | omega | (simp only [AW.next_push, AW.next_put]; omega) | ((repeat refine Fresh.push ?_ _); assumption) | (simp only [same_int, same_bool, same_ptr, same_slice, same_sliceP, same_nil, same_agg2, same_string]; done) | (simp [oneCell, AW.next_push]; done) | fail) only [go_sem, Nat.reduceEqDiff, reduceIte, Nat.reduceAdd, Int.toNat_natCast, Nat.add_zero, Owes_true, f8], by simp -dsimp -implicitDefEqProofs (maxSteps := 2000000) (disch := first | assumption | omega | (simp only [AW.next_push, AW.next_put]; omega) | ((repeat refine Fresh.push ?_ _); assumption) | (simp only [same_int, same_bool, same_ptr, same_slice, same_sliceP, same_nil, same_agg2, same_string]; done) | (simp [oneCell, AW.next_push]; done) | fail) only [go_sem, Nat.reduceEqDiff, reduceIte, Nat.reduceAdd, Int.toNat_natCast, Nat.add_zero, Owes_true, f9], by simp -dsimp -implicitDefEqProofs (maxSteps := 2000000) (disch := first | assumption | omega | (simp only [AW.next_push, AW.next_put]; omega) | ((repeat refine Fresh.push ?_ _); assumption) | (simp only [same_int, same_bool, same_ptr, same_slice, same_sliceP, same_nil, same_agg2, same_string]; done) | (simp [oneCell, AW.next_push]; done) | fail) only [go_sem, Nat.reduceEqDiff, reduceIte, Nat.reduceAdd, Int.toNat_natCast, Nat.add_zero, Owes_true, f10], by simp -dsimp -implicitDefEqProofs (maxSteps := 2000000) (disch := first | assumption | omega | (simp only [AW.next_push, AW.next_put]; omega) | ((repeat refine Fresh.push ?_ _); assumption) | (simp only [same_int, same_bool, same_ptr, same_slice, same_sliceP, same_nil, same_agg2, same_string]; done) | (simp [oneCell, AW.next_push]; done) | fail) only [go_sem, Nat.reduceEqDiff, reduceIte, Nat.reduceAdd, Int.toNat_natCast, Nat.add_zero, Owes_true, f30], by simp -dsimp -implicitDefEqProofs (maxSteps := 2000000) (disch := first | assumption | omega | (simp only [AW.next_push, AW.next_put]; omega) | ((repeat refine Fresh.push ?_ _); assumption) | (simp only [same_int, same_bool, same_ptr, same_slice, same_sliceP, same_nil, same_agg2, same_string]; done) | (simp [oneCell, AW.next_push]; done) | fail) only [go_sem, Nat.reduceEqDiff, reduceIte, Nat.reduceAdd, Int.toNat_natCast, Nat.add_zero, Owes_true, f31], by simp -dsimp -implicitDefEqProofs (maxSteps := 2000000) (disch := first | assumption | omega | (simp only [AW.next_push, AW.next_put]; omega) | ((repeat refine Fresh.push ?_ _); assumption) | (simp only [same_int, same_bool, same_ptr, same_slice, same_sliceP, same_nil, same_agg2, same_string]; done) | (simp [oneCell, AW.next_push]; done) | fail) only [go_sem, Nat.reduceEqDiff, reduceIte, Nat.reduceAdd, Int.toNat_natCast, Nat.add_zero, Owes_true, f32], by simp -dsimp -implicitDefEqProofs (maxSteps := 2000000) (disch := first | assumption | omega | (simp only [AW.next_push, AW.next_put]; omega) | ((repeat refine Fresh.push ?_ _); assumption) | (simp only [same_int, same_bool, same_ptr, same_slice, same_sliceP, same_nil, same_agg2, same_string]; done) | (simp [oneCell, AW.next_push]; done) | fail) only [go_sem, Nat.reduceEqDiff, reduceIte, Nat.reduceAdd, Int.toNat_natCast, Nat.add_zero, Owes_true, f41], by simp -dsimp -implicitDefEqProofs (maxSteps := 2000000) (disch := first | assumption | omega | (simp only [AW.next_push, AW.next_put]; omega) | ((repeat refine Fresh.push ?_ _); assumption) | (simp only [same_int, same_bool, same_ptr, same_slice, same_sliceP, same_nil, same_agg2, same_string]; done) | (simp [oneCell, AW.next_push]; done) | fail) only [go_sem, Nat.reduceEqDiff, reduceIte, Nat.reduceAdd, Int.toNat_natCast, Nat.add_zero, Owes_true, f42], by simp -dsimp -implicitDefEqProofs (maxSteps := 2000000) (disch := first | assumption | omega | (simp only [AW.next_push, AW.next_put]; omega) | ((repeat refine Fresh.push ?_ _); assumption) | (simp only [same_int, same_bool, same_ptr, same_slice, same_sliceP, same_nil, same_agg2, same_string]; done) | (simp [oneCell, AW.next_push]; done) | fail) only [go_sem, Nat.reduceEqDiff, reduceIte, Nat.reduceAdd, Int.toNat_natCast, Nat.add_zero, Owes_true]; rfl, ((hX.keep hg5.1).keep hg6.1).put_ne (by have := hO.lt; omega) _, ?_, ((hg4.trans hg5).trans hg6).put hb0 hO6.lt _⟩
  rw [hcol, List.foldl_append]
  simp only [List.foldl_cons, List.foldl_nil]
  rw [upd, if_neg hun]; exact hO6.put _
end Go.Proofs

/- Narrow, as the papers have it. -/
namespace Go.Proofs
open Go Go.RowKit Go.Sim
set_option maxRecDepth 100000
end Go.Proofs
namespace Go.Sim
open Go.Proofs
theorem AOwn.arr {α : Type} {B : Nat} {w : AW} {e : TypeId} {enc : α → List Value} {z : Nat} {v : Value} {L : List α} (h : AOwn B w e z v L.length (L.flatMap enc)) (hz : ∀ x, (enc x).length = z) (hl : L.length ≤ 1048576) : ArrOf w z enc v L := by
  rcases h with ⟨rfl, h2, _⟩ | ⟨b, r, rfl, q1, q2, q3, q4, q5, q6, q8, q7⟩
  · obtain rfl : L = [] := List.length_eq_zero_iff.mp h2
    exact ArrOf.nil _ _ _
  · refine ⟨_, _, _, rfl, by simp, Nat.le_refl _, by omega, fun _ => ⟨b, 0, rfl, q2, fun i j r x hi hx => ?_⟩⟩
    rw [List.getElem?_map] at hi
    obtain ⟨y, hy, rfl⟩ := Option.map_eq_some_iff.mp hi
    have hj : j < z := by
      rw [← hz y]
      rcases Nat.lt_or_ge j (enc y).length with q | q
      · exact q
      · rw [List.getElem?_eq_none q] at hx; cases hx
    rw [Nat.zero_add]
    have hx' : (L.flatMap enc)[i * z + j]? = some x := by rw [flatMap_get hz L i j y hy hj]; exact hx
    simp only [AW.cell?, q5, getL_eq, hx', q8 x (List.mem_of_getElem? hx')]

end Go.Sim
namespace Go.Proofs
open Go Go.RowKit Go.Sim
set_option maxRecDepth 100000
set_option maxHeartbeats 1000000 in
theorem refNarrow_ok (ms : List (Int × Int)) (rss : List (List Int)) (v u : Value) (w : AW) (f : Fresh w) (hs : ArrOf w 2 mcells v ms) (hr : Rows w u rss) :
    CallT Tryz.prog Tryz.T (.fn (.func 10) #[]) #[v, u] w (NarrowPost ms rss w) := by
  obtain ⟨vs, hvl, hvs, hrow⟩ := id hr
  obtain ⟨p, cap, rfl, hcap, hmax, hat⟩ := hs.open
  obtain ⟨q, cap2, rfl, hcap2, hmax2, hat2⟩ := hvs.open
  refine callT_code rfl Tryz.func10 rfl Tryz.s10_eq rfl ?_
  unfold Tryz.s10
  simp -dsimp -implicitDefEqProofs (maxSteps := 2000000) (disch := first | assumption | omega | (simp only [AW.next_push, AW.next_put]; omega) | ((repeat refine Fresh.push ?_ _); assumption) | (simp only [same_int, same_bool, same_ptr, same_slice, same_sliceP, same_nil, same_agg2, same_string]; done) | (simp [oneCell, AW.next_push]; done) | fail) only [go_sem, Nat.reduceEqDiff, reduceIte, Nat.reduceAdd, Int.toNat_natCast, Nat.add_zero, Owes_true, Tryz.results10]
  apply callV_of (e := rfl)
  · exact refCheckMeasures_ok ms _ w f hs
  rintro _ w1 ⟨rfl, hg1⟩
  by_cases hM : okMs ms = true
  case neg =>
    have e : (if okMs ms = true then (0 : Int) else 12) = 12 := by rw [if_neg hM]
    have d : ¬ (12 : Int) = 0 := by omega
    simp -dsimp -implicitDefEqProofs (maxSteps := 2000000) (disch := first | assumption | omega | (simp only [AW.next_push, AW.next_put]; omega) | ((repeat refine Fresh.push ?_ _); assumption) | (simp only [same_int, same_bool, same_ptr, same_slice, same_sliceP, same_nil, same_agg2, same_string]; done) | (simp [oneCell, AW.next_push]; done) | fail) only [go_sem, Nat.reduceEqDiff, reduceIte, Nat.reduceAdd, Int.toNat_natCast, Nat.add_zero, Owes_true, Tryz.results10, e, d]
    exact NarrowPost.err (by simp [narrowE, hM]) d hg1
  have e : (if okMs ms = true then (0 : Int) else 12) = 0 := by rw [if_pos hM]
  by_cases h16 : 16 < (vs.length : Int)
  · simp -dsimp -implicitDefEqProofs (maxSteps := 2000000) (disch := first | assumption | omega | (simp only [AW.next_push, AW.next_put]; omega) | ((repeat refine Fresh.push ?_ _); assumption) | (simp only [same_int, same_bool, same_ptr, same_slice, same_sliceP, same_nil, same_agg2, same_string]; done) | (simp [oneCell, AW.next_push]; done) | fail) only [go_sem, Nat.reduceEqDiff, reduceIte, Nat.reduceAdd, Int.toNat_natCast, Nat.add_zero, Owes_true, Tryz.results10, e, h16]
    exact NarrowPost.err (by have : 16 < rss.length := by omega
                             simp [narrowE, hM, this]) (by omega) hg1
  have h16' : ¬ 16 < rss.length := by omega
  have hms : ms.length ≤ 8 ∧ ∀ m ∈ ms, 0 ≤ m.1 ∧ m.1 ≤ 1000 := by
    simp only [okMs, Bool.and_eq_true, decide_eq_true_eq, List.all_eq_true] at hM
    refine ⟨hM.1.2, fun m hm => ?_⟩
    have := hM.2 m hm
    simp only [okM, Bool.and_eq_true] at this
    exact (inR_iff _ _ _).1 this.1
  simp -dsimp -implicitDefEqProofs (maxSteps := 2000000) (disch := first | assumption | omega | (simp only [AW.next_push, AW.next_put]; omega) | ((repeat refine Fresh.push ?_ _); assumption) | (simp only [same_int, same_bool, same_ptr, same_slice, same_sliceP, same_nil, same_agg2, same_string]; done) | (simp [oneCell, AW.next_push]; done) | fail) only [go_sem, Nat.reduceEqDiff, reduceIte, Nat.reduceAdd, Int.toNat_natCast, Nat.add_zero, Owes_true, Tryz.results10, e, h16]
  refine loopR (fun k t ds w2 => ∃ i : Nat, i ≤ vs.length ∧ k = vs.length - i ∧ ds = [] ∧ ev t (.tmp 0) = .slice p ms.length cap ∧ ev t (.tmp 1) = .slice q vs.length cap2 ∧ ev t (.tmp 7) = .int .i64 (i : Int) ∧ Grown w w2 ∧ (rss.take i).all (okRs ms.length) = true) vs.length ?_ ?_
  · refine ⟨0, by omega, by omega, rfl, ?_, ?_, ?_, hg1, rfl⟩ <;> simp -dsimp -implicitDefEqProofs (maxSteps := 2000000) (disch := first | assumption | omega | (simp only [AW.next_push, AW.next_put]; omega) | ((repeat refine Fresh.push ?_ _); assumption) | (simp only [same_int, same_bool, same_ptr, same_slice, same_sliceP, same_nil, same_agg2, same_string]; done) | (simp [oneCell, AW.next_push]; done) | fail) only [go_sem, Nat.reduceEqDiff, reduceIte, Nat.reduceAdd, Int.toNat_natCast, Nat.add_zero, Owes_true] <;> rfl
  rintro k t ds w2 ⟨i, hi, rfl, rfl, e0, e1, e7, hg2, hall⟩
  obtain ⟨hk2, hf2⟩ := id hg2
  by_cases hlt : (i : Int) < (vs.length : Int)
  case pos =>
    have hlt' : i < vs.length := by omega
    obtain ⟨b, o, rfl, hb, hcell⟩ := hat2 i hlt'
    have hc0 := hcell w2 hk2 0 _ rfl
    rw [Nat.add_zero] at hc0
    have hri : i < rss.length := by omega
    have hone : oneCell vs[i] = true := by
      obtain ⟨pp, nn, cc, hh, _⟩ := hrow i vs[i] rss[i] (by simp [hlt']) (by simp [hri])
      rw [hh]; rfl
    have htake : rss.take (i + 1) = rss.take i ++ [rss[i]] := by rw [List.take_succ_eq_append_getElem hri]
    simp -dsimp -implicitDefEqProofs (maxSteps := 2000000) (disch := first | assumption | omega | (simp only [AW.next_push, AW.next_put]; omega) | ((repeat refine Fresh.push ?_ _); assumption) | (simp only [same_int, same_bool, same_ptr, same_slice, same_sliceP, same_nil, same_agg2, same_string]; done) | (simp [oneCell, AW.next_push]; done) | fail) only [go_sem, Nat.reduceEqDiff, reduceIte, Nat.reduceAdd, Int.toNat_natCast, Nat.add_zero, Owes_true, Tryz.results10, e0, e1, e7, hlt, indexV_eq, hc0]
    apply callV_of (e := rfl)
    · exact readings_ok ms.length rss[i] vs[i] w2 hf2 ((hrow i _ _ (by simp [hlt']) (by simp [hri])).grown hg2)
    rintro _ w3 ⟨rfl, hg3⟩
    cases hA : okRs ms.length rss[i] with
    | true =>
      simp -dsimp -implicitDefEqProofs (maxSteps := 2000000) (disch := first | assumption | omega | (simp only [AW.next_push, AW.next_put]; omega) | ((repeat refine Fresh.push ?_ _); assumption) | (simp only [same_int, same_bool, same_ptr, same_slice, same_sliceP, same_nil, same_agg2, same_string]; done) | (simp [oneCell, AW.next_push]; done) | fail) only [go_sem, Nat.reduceEqDiff, reduceIte, Nat.reduceAdd, Int.toNat_natCast, Nat.add_zero, Owes_true, Tryz.results10, e0, e1, e7]
      exact ⟨_, by omega, i + 1, by omega, rfl, rfl, by simp -dsimp -implicitDefEqProofs (maxSteps := 2000000) (disch := first | assumption | omega | (simp only [AW.next_push, AW.next_put]; omega) | ((repeat refine Fresh.push ?_ _); assumption) | (simp only [same_int, same_bool, same_ptr, same_slice, same_sliceP, same_nil, same_agg2, same_string]; done) | (simp [oneCell, AW.next_push]; done) | fail) only [go_sem, Nat.reduceEqDiff, reduceIte, Nat.reduceAdd, Int.toNat_natCast, Nat.add_zero, Owes_true, e0], by simp -dsimp -implicitDefEqProofs (maxSteps := 2000000) (disch := first | assumption | omega | (simp only [AW.next_push, AW.next_put]; omega) | ((repeat refine Fresh.push ?_ _); assumption) | (simp only [same_int, same_bool, same_ptr, same_slice, same_sliceP, same_nil, same_agg2, same_string]; done) | (simp [oneCell, AW.next_push]; done) | fail) only [go_sem, Nat.reduceEqDiff, reduceIte, Nat.reduceAdd, Int.toNat_natCast, Nat.add_zero, Owes_true, e1], by simp -dsimp -implicitDefEqProofs (maxSteps := 2000000) (disch := first | assumption | omega | (simp only [AW.next_push, AW.next_put]; omega) | ((repeat refine Fresh.push ?_ _); assumption) | (simp only [same_int, same_bool, same_ptr, same_slice, same_sliceP, same_nil, same_agg2, same_string]; done) | (simp [oneCell, AW.next_push]; done) | fail) only [go_sem, Nat.reduceEqDiff, reduceIte, Nat.reduceAdd, Int.toNat_natCast, Nat.add_zero, Owes_true]; rfl, hg2.trans hg3, by rw [htake, List.all_append, hall]; simp [hA]⟩
    | false =>
      simp -dsimp -implicitDefEqProofs (maxSteps := 2000000) (disch := first | assumption | omega | (simp only [AW.next_push, AW.next_put]; omega) | ((repeat refine Fresh.push ?_ _); assumption) | (simp only [same_int, same_bool, same_ptr, same_slice, same_sliceP, same_nil, same_agg2, same_string]; done) | (simp [oneCell, AW.next_push]; done) | fail) only [go_sem, Nat.reduceEqDiff, reduceIte, Nat.reduceAdd, Int.toNat_natCast, Nat.add_zero, Owes_true, Tryz.results10]
      refine NarrowPost.err ?_ (by omega) (hg2.trans hg3)
      have : rss.all (okRs ms.length) = false := by
        rw [List.all_eq_false]; exact ⟨rss[i], List.getElem_mem hri, by rw [hA]; simp⟩
      simp [narrowE, hM, h16', this]
  have hR : rss.all (okRs ms.length) = true := by
    have : rss.take i = rss := List.take_of_length_le (by omega)
    rwa [this] at hall
  have hrs : ∀ rs ∈ rss, rs.length = ms.length ∧ ∀ r ∈ rs, -1 ≤ r ∧ r ≤ 100000 := by
    intro rs hrs
    have := List.all_eq_true.mp hR rs hrs
    simp only [okRs, Bool.and_eq_true, decide_eq_true_eq, List.all_eq_true] at this
    exact ⟨this.1, fun r hr => (inR_iff _ _ _).1 (this.2 r hr)⟩
  simp -dsimp -implicitDefEqProofs (maxSteps := 2000000) (disch := first | assumption | omega | (simp only [AW.next_push, AW.next_put]; omega) | ((repeat refine Fresh.push ?_ _); assumption) | (simp only [same_int, same_bool, same_ptr, same_slice, same_sliceP, same_nil, same_agg2, same_string]; done) | (simp [oneCell, AW.next_push]; done) | fail) only [go_sem, Nat.reduceEqDiff, reduceIte, Nat.reduceAdd, Int.toNat_natCast, Nat.add_zero, Owes_true, Tryz.results10, e0, e1, e7, hlt]
  refine loopR (fun k t ds w3 => ∃ (i : Nat) (s : Value), i ≤ ms.length ∧ k = ms.length - i ∧ ds = [] ∧ ev t (.tmp 0) = .slice p ms.length cap ∧ ev t (.tmp 1) = .slice q vs.length cap2 ∧ ev t (.tmp 8) = s ∧ ev t (.tmp 9) = .int .i64 (i : Int) ∧
    AOwn w.next w3 58 2 s i ((spansTo ms rss i).flatMap mcells) ∧ Grown w w3 ∧ (spansTo ms rss i).any bad = false) ms.length ?_ ?_
  · refine ⟨0, .slice none 0 0, by omega, by omega, rfl, ?_, ?_, ?_, ?_, .inl ⟨rfl, rfl, rfl⟩, hg2, rfl⟩ <;> simp -dsimp -implicitDefEqProofs (maxSteps := 2000000) (disch := first | assumption | omega | (simp only [AW.next_push, AW.next_put]; omega) | ((repeat refine Fresh.push ?_ _); assumption) | (simp only [same_int, same_bool, same_ptr, same_slice, same_sliceP, same_nil, same_agg2, same_string]; done) | (simp [oneCell, AW.next_push]; done) | fail) only [go_sem, Nat.reduceEqDiff, reduceIte, Nat.reduceAdd, Int.toNat_natCast, Nat.add_zero, Owes_true, e0, e1] <;> rfl
  clear hlt e0 e1 e7 hall hg2 hk2 hf2 hi t i w2
  rintro k t ds w3 ⟨i, s, hi, rfl, rfl, e0, e1, e8, e9, hA, hg, hgood⟩
  obtain ⟨hk, hf⟩ := id hg
  by_cases hlt : (i : Int) < (ms.length : Int)
  case neg =>
    obtain rfl : i = ms.length := by omega
    simp -dsimp -implicitDefEqProofs (maxSteps := 2000000) (disch := first | assumption | omega | (simp only [AW.next_push, AW.next_put]; omega) | ((repeat refine Fresh.push ?_ _); assumption) | (simp only [same_int, same_bool, same_ptr, same_slice, same_sliceP, same_nil, same_agg2, same_string]; done) | (simp [oneCell, AW.next_push]; done) | fail) only [go_sem, Nat.reduceEqDiff, reduceIte, Nat.reduceAdd, Int.toNat_natCast, Nat.add_zero, Owes_true, Tryz.results10, e0, e1, e8, e9, hlt]
    have hE : narrowE ms rss = 0 := by
      simp only [narrowE, hM, if_true, h16', if_false, hR, hgood]; rfl
    refine ⟨_, by rw [hE], ?_, hg⟩
    rw [narrowR, if_pos hE]
    have hn := spansTo_len ms rss ms.length
    rw [← hn] at hA
    have := AOwn.arr (L := spansTo ms rss ms.length) (enc := mcells) (by rw [hn] at hA ⊢; exact hA) mcells_len (by omega)
    exact this
  have hlt' : i < ms.length := by omega
  obtain ⟨b, o, rfl, hbn, hcell⟩ := hat i hlt'
  have htol := hms.2 ms[i] (List.getElem_mem hlt')
  simp -dsimp -implicitDefEqProofs (maxSteps := 2000000) (disch := first | assumption | omega | (simp only [AW.next_push, AW.next_put]; omega) | ((repeat refine Fresh.push ?_ _); assumption) | (simp only [same_int, same_bool, same_ptr, same_slice, same_sliceP, same_nil, same_agg2, same_string]; done) | (simp [oneCell, AW.next_push]; done) | fail) only [go_sem, Nat.reduceEqDiff, reduceIte, Nat.reduceAdd, Int.toNat_natCast, Nat.add_zero, Owes_true, Tryz.results10, e0, e1, e8, e9, hlt]
  have hsn : oneCell s = true := by
    rcases hA with ⟨rfl, _⟩ | ⟨_, _, rfl, _⟩ <;> rfl
  refine loopR (fun k t ds w4 => ∃ (j : Nat), j ≤ vs.length ∧ k = vs.length - j ∧ ds = [] ∧ ev t (.tmp 0) = .slice (some ⟨b, o, none⟩) ms.length cap ∧ ev t (.tmp 1) = .slice q vs.length cap2 ∧ ev t (.tmp 8) = s ∧
    ev t (.tmp 9) = .int .i64 (i : Int) ∧ ev t (.tmp 10) = .pointer (some ⟨w3.next, 0, none⟩) ∧ ev t (.tmp 11) = .int .i64 (j : Int) ∧
    Own w4 w3.next 58 (mcells (((col rss i).take j).foldl (upd ms[i].1) (0, 100000))) ∧ Keep w3.next w3 w4 ∧ Fresh w4) vs.length ?_ ?_
  · refine ⟨0, by omega, by omega, rfl, ?_, ?_, ?_, ?_, ?_, ?_, Own.new hf _ _, (Keep.refl _ _).push (by omega) _, hf.push _⟩ <;> simp -dsimp -implicitDefEqProofs (maxSteps := 2000000) (disch := first | assumption | omega | (simp only [AW.next_push, AW.next_put]; omega) | ((repeat refine Fresh.push ?_ _); assumption) | (simp only [same_int, same_bool, same_ptr, same_slice, same_sliceP, same_nil, same_agg2, same_string]; done) | (simp [oneCell, AW.next_push]; done) | fail) only [go_sem, Nat.reduceEqDiff, reduceIte, Nat.reduceAdd, Int.toNat_natCast, Nat.add_zero, Owes_true, e0, e1, e8, e9] <;> rfl
  rintro k t ds w4 ⟨j, hj, rfl, rfl, f0, f1, f8, f9, f10, f11, hO, hk4, hf4⟩
  have hg4 : Grown w w4 := hg.trans ⟨hk4, hf4⟩
  have hkw := hg4.1
  have hy0 := hO.cell (o := 0) rfl rfl
  have hy1 := hO.cell (o := 1) rfl rfl
  by_cases hjt : (j : Int) < (vs.length : Int)
  case neg =>
    obtain rfl : j = vs.length := by omega
    have hsp : ((col rss i).take vs.length).foldl (upd ms[i].1) (0, 100000) = sp ms rss i := by
      rw [List.take_of_length_le (by simp [col]; omega), sp, narrow1, List.getD_eq_getElem?_getD, List.getElem?_eq_getElem hlt', Option.getD_some]
    rw [hsp] at hO hy0 hy1
    by_cases hB : (sp ms rss i).2 < (sp ms rss i).1
    · simp -dsimp -implicitDefEqProofs (maxSteps := 2000000) (disch := first | assumption | omega | (simp only [AW.next_push, AW.next_put]; omega) | ((repeat refine Fresh.push ?_ _); assumption) | (simp only [same_int, same_bool, same_ptr, same_slice, same_sliceP, same_nil, same_agg2, same_string]; done) | (simp [oneCell, AW.next_push]; done) | fail) only [go_sem, Nat.reduceEqDiff, reduceIte, Nat.reduceAdd, Int.toNat_natCast, Nat.add_zero, Owes_true, Tryz.results10, f0, f1, f8, f9, f10, f11, hjt, Nat.zero_add, hy0, hy1, hB]
      refine NarrowPost.err ?_ (by omega) hg4
      have : (spansTo ms rss ms.length).any bad = true := bad_any hlt' (by simp [bad, hB])
      simp only [narrowE, hM, if_true, h16', if_false, hR, this]
    have hsl : (spansTo ms rss i).length = i := spansTo_len ms rss i
    have hA4 : AOwn w.next (w4.push (.cells [.int .i64 (sp ms rss i).1, .int .i64 (sp ms rss i).2] 58 w4.next 0 0)) 58 2 s i ((spansTo ms rss i).flatMap mcells) :=
      (hA.keep hk4 (Nat.le_refl _)).keep ((Keep.refl w4.next w4).push (Nat.le_refl _) _) (Nat.le_refl _)
    obtain ⟨s', w5, happ, hA5, hk5, hf5, hn5⟩ := append_own (ty := 26) (m := 1) (cap := 1) (p := some ⟨w4.next, 0, none⟩) (new := mcells (sp ms rss i)) Tryz.ty26 Tryz.ty58 rfl (by omega) (by omega) hA4 (hf4.push _) (by have := hkw.next; rw [AW.next_push]; omega) rfl
      (by show aCells _ w4.next 0 (1 * 2) = _
          exact aCells_of (mcells (sp ms rss i)) 0 fun k v hv => by
            have := Own.new hf4 58 (mcells (sp ms rss i))
            rw [Nat.zero_add]
            exact this.cell hv (mcells_one _ v (List.mem_of_getElem? hv)))
      rfl (mcells_one _) (by omega) (by omega)
    simp -dsimp -implicitDefEqProofs (maxSteps := 2000000) (disch := first | assumption | omega | (simp only [AW.next_push, AW.next_put]; omega) | ((repeat refine Fresh.push ?_ _); assumption) | (simp only [same_int, same_bool, same_ptr, same_slice, same_sliceP, same_nil, same_agg2, same_string]; done) | (simp [oneCell, AW.next_push]; done) | fail) only [go_sem, Nat.reduceEqDiff, reduceIte, Nat.reduceAdd, Int.toNat_natCast, Nat.add_zero, Owes_true, Tryz.results10, f0, f1, f8, f9, f10, f11, hjt, Nat.zero_add, hy0, hy1, hB, happ]
    refine ⟨_, by omega, i + 1, s', by omega, rfl, rfl, by simp -dsimp -implicitDefEqProofs (maxSteps := 2000000) (disch := first | assumption | omega | (simp only [AW.next_push, AW.next_put]; omega) | ((repeat refine Fresh.push ?_ _); assumption) | (simp only [same_int, same_bool, same_ptr, same_slice, same_sliceP, same_nil, same_agg2, same_string]; done) | (simp [oneCell, AW.next_push]; done) | fail) only [go_sem, Nat.reduceEqDiff, reduceIte, Nat.reduceAdd, Int.toNat_natCast, Nat.add_zero, Owes_true, f0], by simp -dsimp -implicitDefEqProofs (maxSteps := 2000000) (disch := first | assumption | omega | (simp only [AW.next_push, AW.next_put]; omega) | ((repeat refine Fresh.push ?_ _); assumption) | (simp only [same_int, same_bool, same_ptr, same_slice, same_sliceP, same_nil, same_agg2, same_string]; done) | (simp [oneCell, AW.next_push]; done) | fail) only [go_sem, Nat.reduceEqDiff, reduceIte, Nat.reduceAdd, Int.toNat_natCast, Nat.add_zero, Owes_true, f1], by simp -dsimp -implicitDefEqProofs (maxSteps := 2000000) (disch := first | assumption | omega | (simp only [AW.next_push, AW.next_put]; omega) | ((repeat refine Fresh.push ?_ _); assumption) | (simp only [same_int, same_bool, same_ptr, same_slice, same_sliceP, same_nil, same_agg2, same_string]; done) | (simp [oneCell, AW.next_push]; done) | fail) only [go_sem, Nat.reduceEqDiff, reduceIte, Nat.reduceAdd, Int.toNat_natCast, Nat.add_zero, Owes_true], by simp -dsimp -implicitDefEqProofs (maxSteps := 2000000) (disch := first | assumption | omega | (simp only [AW.next_push, AW.next_put]; omega) | ((repeat refine Fresh.push ?_ _); assumption) | (simp only [same_int, same_bool, same_ptr, same_slice, same_sliceP, same_nil, same_agg2, same_string]; done) | (simp [oneCell, AW.next_push]; done) | fail) only [go_sem, Nat.reduceEqDiff, reduceIte, Nat.reduceAdd, Int.toNat_natCast, Nat.add_zero, Owes_true, f9]; rfl, ?_, ⟨?_, hf5⟩, ?_⟩
    · rw [spansTo_succ, List.flatMap_append]; simpa using hA5
    · exact (hkw.push hkw.next _).trans hk5
    · rw [spansTo_succ, List.any_append, hgood]; simp [bad]; omega
  have hjt' : j < vs.length := by omega
  have hri : j < rss.length := by omega
  obtain ⟨b2, o2, rfl, hbn2, hcell2⟩ := hat2 j hjt'
  have hd0 := hcell2 w4 hkw 0 _ rfl
  rw [Nat.add_zero] at hd0
  obtain ⟨hl3, hr3⟩ := hrs rss[j] (List.getElem_mem hri)
  obtain ⟨p3, cap3, hv3, hcap3, hmax3, hat3⟩ := (hrow j vs[j] rss[j] (by simp [hjt']) (by simp [hri])).open
  obtain ⟨b3, o3, rfl, hbn3, hcell3⟩ := hat3 i (by omega)
  have hu0 := hcell3 w4 hkw 0 _ rfl
  rw [Nat.add_zero] at hu0
  rw [hv3, hl3] at hd0
  have hc0 := hcell w4 hkw 0 _ rfl
  rw [Nat.add_zero] at hc0
  have hcol : (col rss i).take (j + 1) = (col rss i).take j ++ [rss[j][i]] := by
    rw [List.take_succ_eq_append_getElem (by simp [col]; omega)]
    congr 2
    simp [col, List.getD_eq_getElem?_getD, List.getElem?_eq_getElem (show i < rss[j].length by omega)]
  have hhi := hr3 rss[j][i] (List.getElem_mem _)
  by_cases hun : 0 ≤ rss[j][i]
  case neg =>
    simp -dsimp -implicitDefEqProofs (maxSteps := 2000000) (disch := first | assumption | omega | (simp only [AW.next_push, AW.next_put]; omega) | ((repeat refine Fresh.push ?_ _); assumption) | (simp only [same_int, same_bool, same_ptr, same_slice, same_sliceP, same_nil, same_agg2, same_string]; done) | (simp [oneCell, AW.next_push]; done) | fail) only [go_sem, Nat.reduceEqDiff, reduceIte, Nat.reduceAdd, Int.toNat_natCast, Nat.add_zero, Owes_true, Tryz.results10, f0, f1, f8, f9, f10, f11, hjt, indexV_eq, hd0, hu0, hun]
    refine ⟨_, by omega, j + 1, by omega, rfl, rfl, by simp -dsimp -implicitDefEqProofs (maxSteps := 2000000) (disch := first | assumption | omega | (simp only [AW.next_push, AW.next_put]; omega) | ((repeat refine Fresh.push ?_ _); assumption) | (simp only [same_int, same_bool, same_ptr, same_slice, same_sliceP, same_nil, same_agg2, same_string]; done) | (simp [oneCell, AW.next_push]; done) | fail) only [go_sem, Nat.reduceEqDiff, reduceIte, Nat.reduceAdd, Int.toNat_natCast, Nat.add_zero, Owes_true, f0], by simp -dsimp -implicitDefEqProofs (maxSteps := 2000000) (disch := first | assumption | omega | (simp only [AW.next_push, AW.next_put]; omega) | ((repeat refine Fresh.push ?_ _); assumption) | (simp only [same_int, same_bool, same_ptr, same_slice, same_sliceP, same_nil, same_agg2, same_string]; done) | (simp [oneCell, AW.next_push]; done) | fail) only [go_sem, Nat.reduceEqDiff, reduceIte, Nat.reduceAdd, Int.toNat_natCast, Nat.add_zero, Owes_true, f1], by simp -dsimp -implicitDefEqProofs (maxSteps := 2000000) (disch := first | assumption | omega | (simp only [AW.next_push, AW.next_put]; omega) | ((repeat refine Fresh.push ?_ _); assumption) | (simp only [same_int, same_bool, same_ptr, same_slice, same_sliceP, same_nil, same_agg2, same_string]; done) | (simp [oneCell, AW.next_push]; done) | fail) only [go_sem, Nat.reduceEqDiff, reduceIte, Nat.reduceAdd, Int.toNat_natCast, Nat.add_zero, Owes_true, f8], by simp -dsimp -implicitDefEqProofs (maxSteps := 2000000) (disch := first | assumption | omega | (simp only [AW.next_push, AW.next_put]; omega) | ((repeat refine Fresh.push ?_ _); assumption) | (simp only [same_int, same_bool, same_ptr, same_slice, same_sliceP, same_nil, same_agg2, same_string]; done) | (simp [oneCell, AW.next_push]; done) | fail) only [go_sem, Nat.reduceEqDiff, reduceIte, Nat.reduceAdd, Int.toNat_natCast, Nat.add_zero, Owes_true, f9], by simp -dsimp -implicitDefEqProofs (maxSteps := 2000000) (disch := first | assumption | omega | (simp only [AW.next_push, AW.next_put]; omega) | ((repeat refine Fresh.push ?_ _); assumption) | (simp only [same_int, same_bool, same_ptr, same_slice, same_sliceP, same_nil, same_agg2, same_string]; done) | (simp [oneCell, AW.next_push]; done) | fail) only [go_sem, Nat.reduceEqDiff, reduceIte, Nat.reduceAdd, Int.toNat_natCast, Nat.add_zero, Owes_true, f10], by simp -dsimp -implicitDefEqProofs (maxSteps := 2000000) (disch := first | assumption | omega | (simp only [AW.next_push, AW.next_put]; omega) | ((repeat refine Fresh.push ?_ _); assumption) | (simp only [same_int, same_bool, same_ptr, same_slice, same_sliceP, same_nil, same_agg2, same_string]; done) | (simp [oneCell, AW.next_push]; done) | fail) only [go_sem, Nat.reduceEqDiff, reduceIte, Nat.reduceAdd, Int.toNat_natCast, Nat.add_zero, Owes_true]; rfl, ?_, hk4, hf4⟩
    rw [hcol, List.foldl_append]
    simp only [List.foldl_cons, List.foldl_nil]
    rw [upd, if_pos (by omega)]; exact hO
  have hst := storeV_own (size := 2) (o := 0) (l := mcells (max (((col rss i).take j).foldl (upd ms[i].1) (0, 100000)).1 (rss[j][i] - ms[i].1), min (((col rss i).take j).foldl (upd ms[i].1) (0, 100000)).2 (rss[j][i] + ms[i].1))) hO rfl (by omega) (by simp [mcells]) rfl
  have hset : ∀ x y : Int × Int, setsL (mcells x) 0 (mcells y) = mcells y := fun _ _ => rfl
  rw [hset] at hst
  have hst' := hst
  simp only [mcells] at hst
  simp -dsimp -implicitDefEqProofs (maxSteps := 2000000) (disch := first | assumption | omega | (simp only [AW.next_push, AW.next_put]; omega) | ((repeat refine Fresh.push ?_ _); assumption) | (simp only [same_int, same_bool, same_ptr, same_slice, same_sliceP, same_nil, same_agg2, same_string]; done) | (simp [oneCell, AW.next_push]; done) | fail) only [go_sem, Nat.reduceEqDiff, reduceIte, Nat.reduceAdd, Int.toNat_natCast, Nat.add_zero, Owes_true, Tryz.results10, f0, f1, f8, f9, f10, f11, hjt, indexV_eq, hd0, hu0, hun, hc0, Nat.zero_add, hy0, hy1, hst]
  refine ⟨_, by omega, j + 1, by omega, rfl, rfl, by simp -dsimp -implicitDefEqProofs (maxSteps := 2000000) (disch := first | assumption | omega | (simp only [AW.next_push, AW.next_put]; omega) | ((repeat refine Fresh.push ?_ _); assumption) | (simp only [same_int, same_bool, same_ptr, same_slice, same_sliceP, same_nil, same_agg2, same_string]; done) | (simp [oneCell, AW.next_push]; done) | fail) only [go_sem, Nat.reduceEqDiff, reduceIte, Nat.reduceAdd, Int.toNat_natCast, Nat.add_zero, Owes_true, f0], by simp -dsimp -implicitDefEqProofs (maxSteps := 2000000) (disch := first | assumption | omega | (simp only [AW.next_push, AW.next_put]; omega) | ((repeat refine Fresh.push ?_ _); assumption) | (simp only [same_int, same_bool, same_ptr, same_slice, same_sliceP, same_nil, same_agg2, same_string]; done) | (simp [oneCell, AW.next_push]; done) | fail) only [go_sem, Nat.reduceEqDiff, reduceIte, Nat.reduceAdd, Int.toNat_natCast, Nat.add_zero, Owes_true, f1], by simp -dsimp -implicitDefEqProofs (maxSteps := 2000000) (disch := first | assumption | omega | (simp only [AW.next_push, AW.next_put]; omega) | ((repeat refine Fresh.push ?_ _); assumption) | (simp only [same_int, same_bool, same_ptr, same_slice, same_sliceP, same_nil, same_agg2, same_string]; done) | (simp [oneCell, AW.next_push]; done) | fail) only [go_sem, Nat.reduceEqDiff, reduceIte, Nat.reduceAdd, Int.toNat_natCast, Nat.add_zero, Owes_true, f8], by simp -dsimp -implicitDefEqProofs (maxSteps := 2000000) (disch := first | assumption | omega | (simp only [AW.next_push, AW.next_put]; omega) | ((repeat refine Fresh.push ?_ _); assumption) | (simp only [same_int, same_bool, same_ptr, same_slice, same_sliceP, same_nil, same_agg2, same_string]; done) | (simp [oneCell, AW.next_push]; done) | fail) only [go_sem, Nat.reduceEqDiff, reduceIte, Nat.reduceAdd, Int.toNat_natCast, Nat.add_zero, Owes_true, f9], by simp -dsimp -implicitDefEqProofs (maxSteps := 2000000) (disch := first | assumption | omega | (simp only [AW.next_push, AW.next_put]; omega) | ((repeat refine Fresh.push ?_ _); assumption) | (simp only [same_int, same_bool, same_ptr, same_slice, same_sliceP, same_nil, same_agg2, same_string]; done) | (simp [oneCell, AW.next_push]; done) | fail) only [go_sem, Nat.reduceEqDiff, reduceIte, Nat.reduceAdd, Int.toNat_natCast, Nat.add_zero, Owes_true, f10], by simp -dsimp -implicitDefEqProofs (maxSteps := 2000000) (disch := first | assumption | omega | (simp only [AW.next_push, AW.next_put]; omega) | ((repeat refine Fresh.push ?_ _); assumption) | (simp only [same_int, same_bool, same_ptr, same_slice, same_sliceP, same_nil, same_agg2, same_string]; done) | (simp [oneCell, AW.next_push]; done) | fail) only [go_sem, Nat.reduceEqDiff, reduceIte, Nat.reduceAdd, Int.toNat_natCast, Nat.add_zero, Owes_true]; rfl, ?_, hk4.put (Nat.le_refl _) _, hf4.put hO.lt _⟩
  rw [hcol, List.foldl_append]
  simp only [List.foldl_cons, List.foldl_nil]
  rw [upd, if_neg (by omega)]
  exact hO.put (mcells (max (((col rss i).take j).foldl (upd ms[i].1) (0, 100000)).1 (rss[j][i] - ms[i].1), min (((col rss i).take j).foldl (upd ms[i].1) (0, 100000)).2 (rss[j][i] + ms[i].1)))
end Go.Proofs

/- Agree, in both versions. -/
namespace Go.Proofs
open Go Go.RowKit Go.Sim
set_option maxRecDepth 100000
/-- Two readings of one measure that do not agree. -/
def dis1 (tol x y : Int) : Bool := decide (x ≠ -1) && decide (y ≠ -1) && decide (2 * tol < max (x - y) (y - x))
def dis (ms : List (Int × Int)) (xs ys : List Int) (i : Nat) : Bool := dis1 (ms.getD i (0, 0)).1 (xs.getD i 0) (ys.getD i 0)
def agreeTo (ms : List (Int × Int)) (xs ys : List Int) (n : Nat) : Bool := (List.range n).all fun i => !dis ms xs ys i
def agreeB (ms : List (Int × Int)) (xs ys : List Int) : Bool := if checkE ms [xs, ys] = 0 then agreeTo ms xs ys ms.length else false
theorem agreeTo_succ (ms : List (Int × Int)) (xs ys : List Int) (n : Nat) : agreeTo ms xs ys (n + 1) = (agreeTo ms xs ys n && !dis ms xs ys n) := by simp [agreeTo, List.range_succ]
theorem agreeTo_not {ms : List (Int × Int)} {xs ys : List Int} {i n : Nat} (h : i < n) (hb : dis ms xs ys i = true) : agreeTo ms xs ys n = false := by
  rw [agreeTo, List.all_eq_false]
  exact ⟨i, by simpa using h, by simp [hb]⟩
def AgreePost (ms : List (Int × Int)) (xs ys : List Int) (w : AW) : Value → AW → Prop := Ret (.tuple #[.bool (agreeB ms xs ys), .int .i64 (checkE ms [xs, ys])]) (Grown w)

theorem rows2 {w : AW} {xs ys : List Int} {t u : Value} (f : Fresh w) (ht : ArrOf w 1 icells t xs) (hu : ArrOf w 1 icells u ys) : Rows (w.push (.cells [t, u] 24 w.next 0 0)) (.slice (some ⟨w.next, 0, none⟩) 2 2) [xs, ys] := by
  have hg : Grown w (w.push (.cells [t, u] 24 w.next 0 0)) := (Grown.refl f).push _
  have hO := Own.new f 24 [t, u]
  have h1 : oneCell t = true := by obtain ⟨_, _, _, rfl, _⟩ := ht; rfl
  have h2 : oneCell u = true := by obtain ⟨_, _, _, rfl, _⟩ := hu; rfl
  refine ⟨[t, u], rfl, ?_, ?_⟩
  · refine ⟨_, 2, 2, rfl, rfl, Nat.le_refl _, by omega, fun _ => ⟨w.next, 0, rfl, hO.lt, fun i j row x hi hx => ?_⟩⟩
    match i, j with
    | 0, 0 => simp [vcells] at hi; subst hi; simp at hx; subst hx; exact hO.cell rfl h1
    | 1, 0 => simp [vcells] at hi; subst hi; simp at hx; subst hx; exact hO.cell rfl h2
    | 0, j + 1 => simp [vcells] at hi; subst hi; simp at hx
    | 1, j + 1 => simp [vcells] at hi; subst hi; simp at hx
    | i + 2, j => simp at hi
  · intro i v rs hv hr
    match i with
    | 0 => simp at hv hr; subst hv hr; exact ht.grown hg
    | 1 => simp at hv hr; subst hv hr; exact hu.grown hg
    | (i + 2) => simp at hv

theorem checkE_two {ms : List (Int × Int)} {xs ys : List Int} (h : checkE ms [xs, ys] = 0) :
    (ms.length ≤ 8 ∧ ∀ m ∈ ms, 0 ≤ m.1 ∧ m.1 ≤ 1000) ∧ (xs.length = ms.length ∧ ∀ r ∈ xs, -1 ≤ r ∧ r ≤ 100000) ∧ (ys.length = ms.length ∧ ∀ r ∈ ys, -1 ≤ r ∧ r ≤ 100000) := by
  have hR : ∀ rs : List Int, okRs ms.length rs = true → rs.length = ms.length ∧ ∀ r ∈ rs, -1 ≤ r ∧ r ≤ 100000 := by
    intro rs q
    simp only [okRs, Bool.and_eq_true, decide_eq_true_eq, List.all_eq_true] at q
    exact ⟨q.1, fun r hr => (inR_iff _ _ _).1 (q.2 r hr)⟩
  by_cases hM : okMs ms = true
  case neg => simp [checkE, hM] at h
  by_cases hx : okRs ms.length xs = true
  case neg => simp [checkE, hM, hx] at h
  by_cases hy : okRs ms.length ys = true
  case neg => simp [checkE, hM, hx, hy] at h
  refine ⟨?_, hR _ hx, hR _ hy⟩
  simp only [okMs, Bool.and_eq_true, decide_eq_true_eq, List.all_eq_true] at hM
  refine ⟨hM.1.2, fun m hm => ?_⟩
  have := hM.2 m hm
  simp only [okM, Bool.and_eq_true] at this
  exact (inR_iff _ _ _).1 this.1
theorem dis_at {ms : List (Int × Int)} {xs ys : List Int} {i : Nat} (h : i < ms.length) (hx : i < xs.length) (hy : i < ys.length) : dis ms xs ys i = dis1 ms[i].1 xs[i] ys[i] := by
  simp only [dis, List.getD_eq_getElem?_getD, List.getElem?_eq_getElem h, List.getElem?_eq_getElem hx, List.getElem?_eq_getElem hy, Option.getD_some]

set_option maxHeartbeats 1000000 in
theorem agree_ok (ms : List (Int × Int)) (xs ys : List Int) (v a b : Value) (w : AW) (f : Fresh w) (hs : ArrOf w 2 mcells v ms) (ha : ArrOf w 1 icells a xs) (hb : ArrOf w 1 icells b ys) :
    CallT Tryz.prog Tryz.T (.fn (.func 14) #[]) #[v, a, b] w (AgreePost ms xs ys w) := by
  have hrows := rows2 f ha hb
  obtain ⟨p, cap, rfl, hcap, hmax, hat⟩ := hs.open
  obtain ⟨q, cap2, rfl, hcap2, hmax2, hat2⟩ := ha.open
  obtain ⟨r, cap3, rfl, hcap3, hmax3, hat3⟩ := hb.open
  refine callT_code rfl Tryz.func14 rfl Tryz.s14_eq rfl ?_
  unfold Tryz.s14
  simp -dsimp -implicitDefEqProofs (maxSteps := 2000000) (disch := first | assumption | omega | (simp only [AW.next_push, AW.next_put]; omega) | ((repeat refine Fresh.push ?_ _); assumption) | (simp only [same_int, same_bool, same_ptr, same_slice, same_sliceP, same_nil, same_agg2, same_string]; done) | (simp [oneCell, AW.next_push]; done) | fail) only [go_sem, Nat.reduceEqDiff, reduceIte, Nat.reduceAdd, Int.toNat_natCast, Nat.add_zero, Owes_true, Tryz.results14]
  have hgp := (Grown.refl f).push (.cells [.slice q xs.length cap2, .slice r ys.length cap3] 24 w.next 0 0)
  apply callV_of (e := rfl)
  · exact check_ok ms [xs, ys] _ _ _ (f.push _) (hs.grown hgp) hrows
  rintro _ w1 ⟨rfl, hg1⟩
  by_cases hE : checkE ms [xs, ys] = 0
  case neg =>
    simp -dsimp -implicitDefEqProofs (maxSteps := 2000000) (disch := first | assumption | omega | (simp only [AW.next_push, AW.next_put]; omega) | ((repeat refine Fresh.push ?_ _); assumption) | (simp only [same_int, same_bool, same_ptr, same_slice, same_sliceP, same_nil, same_agg2, same_string]; done) | (simp [oneCell, AW.next_push]; done) | fail) only [go_sem, Nat.reduceEqDiff, reduceIte, Nat.reduceAdd, Int.toNat_natCast, Nat.add_zero, Owes_true, Tryz.results14, hE]
    refine ⟨?_, hgp.trans hg1⟩
    rw [agreeB, if_neg hE]
  obtain ⟨hms, hx, hy⟩ := checkE_two hE
  have g1 := hgp.trans hg1
  simp -dsimp -implicitDefEqProofs (maxSteps := 2000000) (disch := first | assumption | omega | (simp only [AW.next_push, AW.next_put]; omega) | ((repeat refine Fresh.push ?_ _); assumption) | (simp only [same_int, same_bool, same_ptr, same_slice, same_sliceP, same_nil, same_agg2, same_string]; done) | (simp [oneCell, AW.next_push]; done) | fail) only [go_sem, Nat.reduceEqDiff, reduceIte, Nat.reduceAdd, Int.toNat_natCast, Nat.add_zero, Owes_true, Tryz.results14, hE]
  refine loopR (fun k t ds w2 => ∃ i : Nat, i ≤ ms.length ∧ k = ms.length - i ∧ ds = [] ∧ ev t (.tmp 1) = .slice q xs.length cap2 ∧ ev t (.tmp 2) = .slice r ys.length cap3 ∧ ev t (.tmp 21) = .slice p ms.length cap ∧ ev t (.tmp 22) = .int .i64 (ms.length : Int) ∧ ev t (.tmp 23) = .int .i64 (i : Int) ∧
    Grown w w2 ∧ agreeTo ms xs ys i = true) ms.length ?_ ?_
  · refine ⟨0, by omega, by omega, rfl, ?_, ?_, ?_, ?_, ?_, g1, rfl⟩ <;> simp -dsimp -implicitDefEqProofs (maxSteps := 2000000) (disch := first | assumption | omega | (simp only [AW.next_push, AW.next_put]; omega) | ((repeat refine Fresh.push ?_ _); assumption) | (simp only [same_int, same_bool, same_ptr, same_slice, same_sliceP, same_nil, same_agg2, same_string]; done) | (simp [oneCell, AW.next_push]; done) | fail) only [go_sem, Nat.reduceEqDiff, reduceIte, Nat.reduceAdd, Int.toNat_natCast, Nat.add_zero, Owes_true] <;> rfl
  rintro k t ds w2 ⟨i, hi, rfl, rfl, e1, e2, e21, e22, e23, hg, hag⟩
  obtain ⟨hk, hf⟩ := id hg
  by_cases hlt : (i : Int) < (ms.length : Int)
  case neg =>
    obtain rfl : i = ms.length := by omega
    simp -dsimp -implicitDefEqProofs (maxSteps := 2000000) (disch := first | assumption | omega | (simp only [AW.next_push, AW.next_put]; omega) | ((repeat refine Fresh.push ?_ _); assumption) | (simp only [same_int, same_bool, same_ptr, same_slice, same_sliceP, same_nil, same_agg2, same_string]; done) | (simp [oneCell, AW.next_push]; done) | fail) only [go_sem, Nat.reduceEqDiff, reduceIte, Nat.reduceAdd, Int.toNat_natCast, Nat.add_zero, Owes_true, Tryz.results14, e1, e2, e21, e22, e23, hlt]
    refine ⟨?_, hg⟩
    rw [agreeB, if_pos hE, hag, hE]
  have hlt' : i < ms.length := by omega
  have hltx : i < xs.length := by omega
  have hlty : i < ys.length := by omega
  have hltx' : (i : Int) < (xs.length : Int) := by omega
  have hlty' : (i : Int) < (ys.length : Int) := by omega
  obtain ⟨b1, o1, rfl, hb1, hcell⟩ := hat i hlt'
  obtain ⟨b2, o2, rfl, hb2, hcell2⟩ := hat2 i hltx
  obtain ⟨b3, o3, rfl, hb3, hcell3⟩ := hat3 i hlty
  have hc0 := hcell w2 hk 0 _ rfl
  have hc1 := hcell w2 hk 1 _ rfl
  have hkp := hk.push hk.next (.cells [.int .i64 ms[i].1, .int .i64 ms[i].2] 53 w2.next 0 0)
  have hx0 := hcell2 _ hkp 0 _ rfl
  have hy0 := hcell3 _ hkp 0 _ rfl
  have ht0 := (Own.new hf 53 [.int .i64 ms[i].1, .int .i64 ms[i].2]).cell (o := 0) rfl rfl
  rw [Nat.add_zero] at hc0 hx0 hy0
  have htol := hms.2 ms[i] (List.getElem_mem hlt')
  have hxi := hx.2 xs[i] (List.getElem_mem hltx)
  have hyi := hy.2 ys[i] (List.getElem_mem hlty)
  have hd := dis_at hlt' hltx hlty
  by_cases h1 : xs[i] = -1
  · simp -dsimp -implicitDefEqProofs (maxSteps := 2000000) (disch := first | assumption | omega | (simp only [AW.next_push, AW.next_put]; omega) | ((repeat refine Fresh.push ?_ _); assumption) | (simp only [same_int, same_bool, same_ptr, same_slice, same_sliceP, same_nil, same_agg2, same_string]; done) | (simp [oneCell, AW.next_push]; done) | fail) only [go_sem, Nat.reduceEqDiff, reduceIte, Nat.reduceAdd, Int.toNat_natCast, Nat.add_zero, Owes_true, Tryz.results14, e1, e2, e21, e22, e23, hlt, hltx', hlty', indexV_eq, Nat.zero_add, hc0, hc1, hx0, hy0, ht0, h1]
    refine ⟨_, by omega, i + 1, by omega, rfl, rfl, by simp -dsimp -implicitDefEqProofs (maxSteps := 2000000) (disch := first | assumption | omega | (simp only [AW.next_push, AW.next_put]; omega) | ((repeat refine Fresh.push ?_ _); assumption) | (simp only [same_int, same_bool, same_ptr, same_slice, same_sliceP, same_nil, same_agg2, same_string]; done) | (simp [oneCell, AW.next_push]; done) | fail) only [go_sem, Nat.reduceEqDiff, reduceIte, Nat.reduceAdd, Int.toNat_natCast, Nat.add_zero, Owes_true, e1], by simp -dsimp -implicitDefEqProofs (maxSteps := 2000000) (disch := first | assumption | omega | (simp only [AW.next_push, AW.next_put]; omega) | ((repeat refine Fresh.push ?_ _); assumption) | (simp only [same_int, same_bool, same_ptr, same_slice, same_sliceP, same_nil, same_agg2, same_string]; done) | (simp [oneCell, AW.next_push]; done) | fail) only [go_sem, Nat.reduceEqDiff, reduceIte, Nat.reduceAdd, Int.toNat_natCast, Nat.add_zero, Owes_true, e2], by simp -dsimp -implicitDefEqProofs (maxSteps := 2000000) (disch := first | assumption | omega | (simp only [AW.next_push, AW.next_put]; omega) | ((repeat refine Fresh.push ?_ _); assumption) | (simp only [same_int, same_bool, same_ptr, same_slice, same_sliceP, same_nil, same_agg2, same_string]; done) | (simp [oneCell, AW.next_push]; done) | fail) only [go_sem, Nat.reduceEqDiff, reduceIte, Nat.reduceAdd, Int.toNat_natCast, Nat.add_zero, Owes_true, e21], by simp -dsimp -implicitDefEqProofs (maxSteps := 2000000) (disch := first | assumption | omega | (simp only [AW.next_push, AW.next_put]; omega) | ((repeat refine Fresh.push ?_ _); assumption) | (simp only [same_int, same_bool, same_ptr, same_slice, same_sliceP, same_nil, same_agg2, same_string]; done) | (simp [oneCell, AW.next_push]; done) | fail) only [go_sem, Nat.reduceEqDiff, reduceIte, Nat.reduceAdd, Int.toNat_natCast, Nat.add_zero, Owes_true, e22], by simp -dsimp -implicitDefEqProofs (maxSteps := 2000000) (disch := first | assumption | omega | (simp only [AW.next_push, AW.next_put]; omega) | ((repeat refine Fresh.push ?_ _); assumption) | (simp only [same_int, same_bool, same_ptr, same_slice, same_sliceP, same_nil, same_agg2, same_string]; done) | (simp [oneCell, AW.next_push]; done) | fail) only [go_sem, Nat.reduceEqDiff, reduceIte, Nat.reduceAdd, Int.toNat_natCast, Nat.add_zero, Owes_true]; rfl, hg.trans ⟨(Keep.refl _ _).push (Nat.le_refl _) _, hf.push _⟩, ?_⟩
    rw [agreeTo_succ, hag, hd]; simp [dis1, h1]
  by_cases h2 : ys[i] = -1
  · simp -dsimp -implicitDefEqProofs (maxSteps := 2000000) (disch := first | assumption | omega | (simp only [AW.next_push, AW.next_put]; omega) | ((repeat refine Fresh.push ?_ _); assumption) | (simp only [same_int, same_bool, same_ptr, same_slice, same_sliceP, same_nil, same_agg2, same_string]; done) | (simp [oneCell, AW.next_push]; done) | fail) only [go_sem, Nat.reduceEqDiff, reduceIte, Nat.reduceAdd, Int.toNat_natCast, Nat.add_zero, Owes_true, Tryz.results14, e1, e2, e21, e22, e23, hlt, hltx', hlty', indexV_eq, Nat.zero_add, hc0, hc1, hx0, hy0, ht0, h1, h2]
    refine ⟨_, by omega, i + 1, by omega, rfl, rfl, by simp -dsimp -implicitDefEqProofs (maxSteps := 2000000) (disch := first | assumption | omega | (simp only [AW.next_push, AW.next_put]; omega) | ((repeat refine Fresh.push ?_ _); assumption) | (simp only [same_int, same_bool, same_ptr, same_slice, same_sliceP, same_nil, same_agg2, same_string]; done) | (simp [oneCell, AW.next_push]; done) | fail) only [go_sem, Nat.reduceEqDiff, reduceIte, Nat.reduceAdd, Int.toNat_natCast, Nat.add_zero, Owes_true, e1], by simp -dsimp -implicitDefEqProofs (maxSteps := 2000000) (disch := first | assumption | omega | (simp only [AW.next_push, AW.next_put]; omega) | ((repeat refine Fresh.push ?_ _); assumption) | (simp only [same_int, same_bool, same_ptr, same_slice, same_sliceP, same_nil, same_agg2, same_string]; done) | (simp [oneCell, AW.next_push]; done) | fail) only [go_sem, Nat.reduceEqDiff, reduceIte, Nat.reduceAdd, Int.toNat_natCast, Nat.add_zero, Owes_true, e2], by simp -dsimp -implicitDefEqProofs (maxSteps := 2000000) (disch := first | assumption | omega | (simp only [AW.next_push, AW.next_put]; omega) | ((repeat refine Fresh.push ?_ _); assumption) | (simp only [same_int, same_bool, same_ptr, same_slice, same_sliceP, same_nil, same_agg2, same_string]; done) | (simp [oneCell, AW.next_push]; done) | fail) only [go_sem, Nat.reduceEqDiff, reduceIte, Nat.reduceAdd, Int.toNat_natCast, Nat.add_zero, Owes_true, e21], by simp -dsimp -implicitDefEqProofs (maxSteps := 2000000) (disch := first | assumption | omega | (simp only [AW.next_push, AW.next_put]; omega) | ((repeat refine Fresh.push ?_ _); assumption) | (simp only [same_int, same_bool, same_ptr, same_slice, same_sliceP, same_nil, same_agg2, same_string]; done) | (simp [oneCell, AW.next_push]; done) | fail) only [go_sem, Nat.reduceEqDiff, reduceIte, Nat.reduceAdd, Int.toNat_natCast, Nat.add_zero, Owes_true, e22], by simp -dsimp -implicitDefEqProofs (maxSteps := 2000000) (disch := first | assumption | omega | (simp only [AW.next_push, AW.next_put]; omega) | ((repeat refine Fresh.push ?_ _); assumption) | (simp only [same_int, same_bool, same_ptr, same_slice, same_sliceP, same_nil, same_agg2, same_string]; done) | (simp [oneCell, AW.next_push]; done) | fail) only [go_sem, Nat.reduceEqDiff, reduceIte, Nat.reduceAdd, Int.toNat_natCast, Nat.add_zero, Owes_true]; rfl, hg.trans ⟨(Keep.refl _ _).push (Nat.le_refl _) _, hf.push _⟩, ?_⟩
    rw [agreeTo_succ, hag, hd]; simp [dis1, h2]
  by_cases h3 : 2 * ms[i].1 < max (xs[i] - ys[i]) (ys[i] - xs[i])
  · simp -dsimp -implicitDefEqProofs (maxSteps := 2000000) (disch := first | assumption | omega | (simp only [AW.next_push, AW.next_put]; omega) | ((repeat refine Fresh.push ?_ _); assumption) | (simp only [same_int, same_bool, same_ptr, same_slice, same_sliceP, same_nil, same_agg2, same_string]; done) | (simp [oneCell, AW.next_push]; done) | fail) only [go_sem, Nat.reduceEqDiff, reduceIte, Nat.reduceAdd, Int.toNat_natCast, Nat.add_zero, Owes_true, Tryz.results14, e1, e2, e21, e22, e23, hlt, hltx', hlty', indexV_eq, Nat.zero_add, hc0, hc1, hx0, hy0, ht0, h1, h2, h3]
    refine ⟨?_, hg.trans ⟨(Keep.refl _ _).push (Nat.le_refl _) _, hf.push _⟩⟩
    rw [agreeB, if_pos hE, hE, agreeTo_not hlt' (by rw [hd]; simp [dis1, h1, h2]; omega)]
  simp -dsimp -implicitDefEqProofs (maxSteps := 2000000) (disch := first | assumption | omega | (simp only [AW.next_push, AW.next_put]; omega) | ((repeat refine Fresh.push ?_ _); assumption) | (simp only [same_int, same_bool, same_ptr, same_slice, same_sliceP, same_nil, same_agg2, same_string]; done) | (simp [oneCell, AW.next_push]; done) | fail) only [go_sem, Nat.reduceEqDiff, reduceIte, Nat.reduceAdd, Int.toNat_natCast, Nat.add_zero, Owes_true, Tryz.results14, e1, e2, e21, e22, e23, hlt, hltx', hlty', indexV_eq, Nat.zero_add, hc0, hc1, hx0, hy0, ht0, h1, h2, h3]
  refine ⟨_, by omega, i + 1, by omega, rfl, rfl, by simp -dsimp -implicitDefEqProofs (maxSteps := 2000000) (disch := first | assumption | omega | (simp only [AW.next_push, AW.next_put]; omega) | ((repeat refine Fresh.push ?_ _); assumption) | (simp only [same_int, same_bool, same_ptr, same_slice, same_sliceP, same_nil, same_agg2, same_string]; done) | (simp [oneCell, AW.next_push]; done) | fail) only [go_sem, Nat.reduceEqDiff, reduceIte, Nat.reduceAdd, Int.toNat_natCast, Nat.add_zero, Owes_true, e1], by simp -dsimp -implicitDefEqProofs (maxSteps := 2000000) (disch := first | assumption | omega | (simp only [AW.next_push, AW.next_put]; omega) | ((repeat refine Fresh.push ?_ _); assumption) | (simp only [same_int, same_bool, same_ptr, same_slice, same_sliceP, same_nil, same_agg2, same_string]; done) | (simp [oneCell, AW.next_push]; done) | fail) only [go_sem, Nat.reduceEqDiff, reduceIte, Nat.reduceAdd, Int.toNat_natCast, Nat.add_zero, Owes_true, e2], by simp -dsimp -implicitDefEqProofs (maxSteps := 2000000) (disch := first | assumption | omega | (simp only [AW.next_push, AW.next_put]; omega) | ((repeat refine Fresh.push ?_ _); assumption) | (simp only [same_int, same_bool, same_ptr, same_slice, same_sliceP, same_nil, same_agg2, same_string]; done) | (simp [oneCell, AW.next_push]; done) | fail) only [go_sem, Nat.reduceEqDiff, reduceIte, Nat.reduceAdd, Int.toNat_natCast, Nat.add_zero, Owes_true, e21], by simp -dsimp -implicitDefEqProofs (maxSteps := 2000000) (disch := first | assumption | omega | (simp only [AW.next_push, AW.next_put]; omega) | ((repeat refine Fresh.push ?_ _); assumption) | (simp only [same_int, same_bool, same_ptr, same_slice, same_sliceP, same_nil, same_agg2, same_string]; done) | (simp [oneCell, AW.next_push]; done) | fail) only [go_sem, Nat.reduceEqDiff, reduceIte, Nat.reduceAdd, Int.toNat_natCast, Nat.add_zero, Owes_true, e22], by simp -dsimp -implicitDefEqProofs (maxSteps := 2000000) (disch := first | assumption | omega | (simp only [AW.next_push, AW.next_put]; omega) | ((repeat refine Fresh.push ?_ _); assumption) | (simp only [same_int, same_bool, same_ptr, same_slice, same_sliceP, same_nil, same_agg2, same_string]; done) | (simp [oneCell, AW.next_push]; done) | fail) only [go_sem, Nat.reduceEqDiff, reduceIte, Nat.reduceAdd, Int.toNat_natCast, Nat.add_zero, Owes_true]; rfl, hg.trans ⟨(Keep.refl _ _).push (Nat.le_refl _) _, hf.push _⟩, ?_⟩
  rw [agreeTo_succ, hag, hd]; simp [dis1]; omega
end Go.Proofs

/- Agree, as the papers have it. -/
namespace Go.Proofs
open Go Go.RowKit Go.Sim
set_option maxRecDepth 100000
set_option maxHeartbeats 1000000 in
theorem refAgree_ok (ms : List (Int × Int)) (xs ys : List Int) (v a b : Value) (w : AW) (f : Fresh w) (hs : ArrOf w 2 mcells v ms) (ha : ArrOf w 1 icells a xs) (hb : ArrOf w 1 icells b ys) :
    CallT Tryz.prog Tryz.T (.fn (.func 15) #[]) #[v, a, b] w (AgreePost ms xs ys w) := by
  obtain ⟨p, cap, rfl, hcap, hmax, hat⟩ := hs.open
  obtain ⟨q, cap2, rfl, hcap2, hmax2, hat2⟩ := ha.open
  obtain ⟨r, cap3, rfl, hcap3, hmax3, hat3⟩ := hb.open
  refine callT_code rfl Tryz.func15 rfl Tryz.s15_eq rfl ?_
  unfold Tryz.s15
  simp -dsimp -implicitDefEqProofs (maxSteps := 2000000) (disch := first | assumption | omega | (simp only [AW.next_push, AW.next_put]; omega) | ((repeat refine Fresh.push ?_ _); assumption) | (simp only [same_int, same_bool, same_ptr, same_slice, same_sliceP, same_nil, same_agg2, same_string]; done) | (simp [oneCell, AW.next_push]; done) | fail) only [go_sem, Nat.reduceEqDiff, reduceIte, Nat.reduceAdd, Int.toNat_natCast, Nat.add_zero, Owes_true, Tryz.results15]
  apply callV_of (e := rfl)
  · exact refCheckMeasures_ok ms _ w f hs
  rintro _ w1 ⟨rfl, hg1⟩
  by_cases hM : okMs ms = true
  case neg =>
    have e : (if okMs ms = true then (0 : Int) else 12) = 12 := by rw [if_neg hM]
    have d : ¬ (12 : Int) = 0 := by omega
    simp -dsimp -implicitDefEqProofs (maxSteps := 2000000) (disch := first | assumption | omega | (simp only [AW.next_push, AW.next_put]; omega) | ((repeat refine Fresh.push ?_ _); assumption) | (simp only [same_int, same_bool, same_ptr, same_slice, same_sliceP, same_nil, same_agg2, same_string]; done) | (simp [oneCell, AW.next_push]; done) | fail) only [go_sem, Nat.reduceEqDiff, reduceIte, Nat.reduceAdd, Int.toNat_natCast, Nat.add_zero, Owes_true, Tryz.results15, e, d]
    have hE : checkE ms [xs, ys] = 12 := by simp [checkE, hM]
    refine ⟨?_, hg1⟩
    rw [agreeB, hE, if_neg d]
  have e : (if okMs ms = true then (0 : Int) else 12) = 0 := by rw [if_pos hM]
  simp -dsimp -implicitDefEqProofs (maxSteps := 2000000) (disch := first | assumption | omega | (simp only [AW.next_push, AW.next_put]; omega) | ((repeat refine Fresh.push ?_ _); assumption) | (simp only [same_int, same_bool, same_ptr, same_slice, same_sliceP, same_nil, same_agg2, same_string]; done) | (simp [oneCell, AW.next_push]; done) | fail) only [go_sem, Nat.reduceEqDiff, reduceIte, Nat.reduceAdd, Int.toNat_natCast, Nat.add_zero, Owes_true, Tryz.results15, e]
  apply callV_of (e := rfl)
  · exact readings_ok ms.length xs _ w1 hg1.2 (ha.grown hg1)
  rintro _ w2 ⟨rfl, hg2⟩
  have g2 := hg1.trans hg2
  cases hA : okRs ms.length xs with
  | false =>
    simp -dsimp -implicitDefEqProofs (maxSteps := 2000000) (disch := first | assumption | omega | (simp only [AW.next_push, AW.next_put]; omega) | ((repeat refine Fresh.push ?_ _); assumption) | (simp only [same_int, same_bool, same_ptr, same_slice, same_sliceP, same_nil, same_agg2, same_string]; done) | (simp [oneCell, AW.next_push]; done) | fail) only [go_sem, Nat.reduceEqDiff, reduceIte, Nat.reduceAdd, Int.toNat_natCast, Nat.add_zero, Owes_true, Tryz.results15]
    have hE : checkE ms [xs, ys] = 13 := by simp [checkE, hM, hA]
    refine ⟨?_, g2⟩
    rw [agreeB, hE, if_neg (by omega)]
  | true =>
  simp -dsimp -implicitDefEqProofs (maxSteps := 2000000) (disch := first | assumption | omega | (simp only [AW.next_push, AW.next_put]; omega) | ((repeat refine Fresh.push ?_ _); assumption) | (simp only [same_int, same_bool, same_ptr, same_slice, same_sliceP, same_nil, same_agg2, same_string]; done) | (simp [oneCell, AW.next_push]; done) | fail) only [go_sem, Nat.reduceEqDiff, reduceIte, Nat.reduceAdd, Int.toNat_natCast, Nat.add_zero, Owes_true, Tryz.results15]
  apply callV_of (e := rfl)
  · exact readings_ok ms.length ys _ w2 g2.2 (hb.grown g2)
  rintro _ w3 ⟨rfl, hg3⟩
  have g3 := g2.trans hg3
  cases hB : okRs ms.length ys with
  | false =>
    simp -dsimp -implicitDefEqProofs (maxSteps := 2000000) (disch := first | assumption | omega | (simp only [AW.next_push, AW.next_put]; omega) | ((repeat refine Fresh.push ?_ _); assumption) | (simp only [same_int, same_bool, same_ptr, same_slice, same_sliceP, same_nil, same_agg2, same_string]; done) | (simp [oneCell, AW.next_push]; done) | fail) only [go_sem, Nat.reduceEqDiff, reduceIte, Nat.reduceAdd, Int.toNat_natCast, Nat.add_zero, Owes_true, Tryz.results15]
    have hE : checkE ms [xs, ys] = 13 := by simp [checkE, hM, hA, hB]
    refine ⟨?_, g3⟩
    rw [agreeB, hE, if_neg (by omega)]
  | true =>
  simp -dsimp -implicitDefEqProofs (maxSteps := 2000000) (disch := first | assumption | omega | (simp only [AW.next_push, AW.next_put]; omega) | ((repeat refine Fresh.push ?_ _); assumption) | (simp only [same_int, same_bool, same_ptr, same_slice, same_sliceP, same_nil, same_agg2, same_string]; done) | (simp [oneCell, AW.next_push]; done) | fail) only [go_sem, Nat.reduceEqDiff, reduceIte, Nat.reduceAdd, Int.toNat_natCast, Nat.add_zero, Owes_true, Tryz.results15]
  have hE : checkE ms [xs, ys] = 0 := by simp [checkE, hM, hA, hB]
  obtain ⟨hms, hx, hy⟩ := checkE_two hE
  refine loopR (fun k t ds w4 => ∃ i : Nat, i ≤ ms.length ∧ k = ms.length - i ∧ ds = [] ∧ ev t (.tmp 0) = .slice p ms.length cap ∧ ev t (.tmp 1) = .slice q xs.length cap2 ∧ ev t (.tmp 2) = .slice r ys.length cap3 ∧ ev t (.tmp 9) = .int .i64 (i : Int) ∧
    w3 = w4 ∧ agreeTo ms xs ys i = true) ms.length ?_ ?_
  · refine ⟨0, by omega, by omega, rfl, ?_, ?_, ?_, ?_, rfl, rfl⟩ <;> simp -dsimp -implicitDefEqProofs (maxSteps := 2000000) (disch := first | assumption | omega | (simp only [AW.next_push, AW.next_put]; omega) | ((repeat refine Fresh.push ?_ _); assumption) | (simp only [same_int, same_bool, same_ptr, same_slice, same_sliceP, same_nil, same_agg2, same_string]; done) | (simp [oneCell, AW.next_push]; done) | fail) only [go_sem, Nat.reduceEqDiff, reduceIte, Nat.reduceAdd, Int.toNat_natCast, Nat.add_zero, Owes_true] <;> rfl
  rintro k t ds w4 ⟨i, hi, rfl, rfl, e0, e1, e2, e9, rfl, hag⟩
  obtain ⟨hk, hf⟩ := id g3
  by_cases hlt : (i : Int) < (ms.length : Int)
  case neg =>
    obtain rfl : i = ms.length := by omega
    simp -dsimp -implicitDefEqProofs (maxSteps := 2000000) (disch := first | assumption | omega | (simp only [AW.next_push, AW.next_put]; omega) | ((repeat refine Fresh.push ?_ _); assumption) | (simp only [same_int, same_bool, same_ptr, same_slice, same_sliceP, same_nil, same_agg2, same_string]; done) | (simp [oneCell, AW.next_push]; done) | fail) only [go_sem, Nat.reduceEqDiff, reduceIte, Nat.reduceAdd, Int.toNat_natCast, Nat.add_zero, Owes_true, Tryz.results15, e0, e1, e2, e9, hlt]
    refine ⟨?_, g3⟩
    rw [agreeB, if_pos hE, hag, hE]
  have hlt' : i < ms.length := by omega
  have hltx : i < xs.length := by omega
  have hlty : i < ys.length := by omega
  have hltx' : (i : Int) < (xs.length : Int) := by omega
  have hlty' : (i : Int) < (ys.length : Int) := by omega
  obtain ⟨b1, o1, rfl, hb1, hcell⟩ := hat i hlt'
  obtain ⟨b2, o2, rfl, hb2, hcell2⟩ := hat2 i hltx
  obtain ⟨b3, o3, rfl, hb3, hcell3⟩ := hat3 i hlty
  have hc0 := hcell w3 hk 0 _ rfl
  have hx0 := hcell2 w3 hk 0 _ rfl
  have hy0 := hcell3 w3 hk 0 _ rfl
  rw [Nat.add_zero] at hc0 hx0 hy0
  have htol := hms.2 ms[i] (List.getElem_mem hlt')
  have hxi := hx.2 xs[i] (List.getElem_mem hltx)
  have hyi := hy.2 ys[i] (List.getElem_mem hlty)
  have hd := dis_at hlt' hltx hlty
  by_cases h1 : 0 ≤ xs[i]
  case neg =>
    simp -dsimp -implicitDefEqProofs (maxSteps := 2000000) (disch := first | assumption | omega | (simp only [AW.next_push, AW.next_put]; omega) | ((repeat refine Fresh.push ?_ _); assumption) | (simp only [same_int, same_bool, same_ptr, same_slice, same_sliceP, same_nil, same_agg2, same_string]; done) | (simp [oneCell, AW.next_push]; done) | fail) only [go_sem, Nat.reduceEqDiff, reduceIte, Nat.reduceAdd, Int.toNat_natCast, Nat.add_zero, Owes_true, Tryz.results15, e0, e1, e2, e9, hlt, hltx', hlty', indexV_eq, hc0, hx0, hy0, h1]
    refine ⟨_, by omega, i + 1, by omega, rfl, rfl, by simp -dsimp -implicitDefEqProofs (maxSteps := 2000000) (disch := first | assumption | omega | (simp only [AW.next_push, AW.next_put]; omega) | ((repeat refine Fresh.push ?_ _); assumption) | (simp only [same_int, same_bool, same_ptr, same_slice, same_sliceP, same_nil, same_agg2, same_string]; done) | (simp [oneCell, AW.next_push]; done) | fail) only [go_sem, Nat.reduceEqDiff, reduceIte, Nat.reduceAdd, Int.toNat_natCast, Nat.add_zero, Owes_true, e0], by simp -dsimp -implicitDefEqProofs (maxSteps := 2000000) (disch := first | assumption | omega | (simp only [AW.next_push, AW.next_put]; omega) | ((repeat refine Fresh.push ?_ _); assumption) | (simp only [same_int, same_bool, same_ptr, same_slice, same_sliceP, same_nil, same_agg2, same_string]; done) | (simp [oneCell, AW.next_push]; done) | fail) only [go_sem, Nat.reduceEqDiff, reduceIte, Nat.reduceAdd, Int.toNat_natCast, Nat.add_zero, Owes_true, e1], by simp -dsimp -implicitDefEqProofs (maxSteps := 2000000) (disch := first | assumption | omega | (simp only [AW.next_push, AW.next_put]; omega) | ((repeat refine Fresh.push ?_ _); assumption) | (simp only [same_int, same_bool, same_ptr, same_slice, same_sliceP, same_nil, same_agg2, same_string]; done) | (simp [oneCell, AW.next_push]; done) | fail) only [go_sem, Nat.reduceEqDiff, reduceIte, Nat.reduceAdd, Int.toNat_natCast, Nat.add_zero, Owes_true, e2], by simp -dsimp -implicitDefEqProofs (maxSteps := 2000000) (disch := first | assumption | omega | (simp only [AW.next_push, AW.next_put]; omega) | ((repeat refine Fresh.push ?_ _); assumption) | (simp only [same_int, same_bool, same_ptr, same_slice, same_sliceP, same_nil, same_agg2, same_string]; done) | (simp [oneCell, AW.next_push]; done) | fail) only [go_sem, Nat.reduceEqDiff, reduceIte, Nat.reduceAdd, Int.toNat_natCast, Nat.add_zero, Owes_true]; rfl, rfl, ?_⟩
    rw [agreeTo_succ, hag, hd]; simp [dis1]; omega
  by_cases h2 : 0 ≤ ys[i]
  case neg =>
    simp -dsimp -implicitDefEqProofs (maxSteps := 2000000) (disch := first | assumption | omega | (simp only [AW.next_push, AW.next_put]; omega) | ((repeat refine Fresh.push ?_ _); assumption) | (simp only [same_int, same_bool, same_ptr, same_slice, same_sliceP, same_nil, same_agg2, same_string]; done) | (simp [oneCell, AW.next_push]; done) | fail) only [go_sem, Nat.reduceEqDiff, reduceIte, Nat.reduceAdd, Int.toNat_natCast, Nat.add_zero, Owes_true, Tryz.results15, e0, e1, e2, e9, hlt, hltx', hlty', indexV_eq, hc0, hx0, hy0, h1, h2]
    refine ⟨_, by omega, i + 1, by omega, rfl, rfl, by simp -dsimp -implicitDefEqProofs (maxSteps := 2000000) (disch := first | assumption | omega | (simp only [AW.next_push, AW.next_put]; omega) | ((repeat refine Fresh.push ?_ _); assumption) | (simp only [same_int, same_bool, same_ptr, same_slice, same_sliceP, same_nil, same_agg2, same_string]; done) | (simp [oneCell, AW.next_push]; done) | fail) only [go_sem, Nat.reduceEqDiff, reduceIte, Nat.reduceAdd, Int.toNat_natCast, Nat.add_zero, Owes_true, e0], by simp -dsimp -implicitDefEqProofs (maxSteps := 2000000) (disch := first | assumption | omega | (simp only [AW.next_push, AW.next_put]; omega) | ((repeat refine Fresh.push ?_ _); assumption) | (simp only [same_int, same_bool, same_ptr, same_slice, same_sliceP, same_nil, same_agg2, same_string]; done) | (simp [oneCell, AW.next_push]; done) | fail) only [go_sem, Nat.reduceEqDiff, reduceIte, Nat.reduceAdd, Int.toNat_natCast, Nat.add_zero, Owes_true, e1], by simp -dsimp -implicitDefEqProofs (maxSteps := 2000000) (disch := first | assumption | omega | (simp only [AW.next_push, AW.next_put]; omega) | ((repeat refine Fresh.push ?_ _); assumption) | (simp only [same_int, same_bool, same_ptr, same_slice, same_sliceP, same_nil, same_agg2, same_string]; done) | (simp [oneCell, AW.next_push]; done) | fail) only [go_sem, Nat.reduceEqDiff, reduceIte, Nat.reduceAdd, Int.toNat_natCast, Nat.add_zero, Owes_true, e2], by simp -dsimp -implicitDefEqProofs (maxSteps := 2000000) (disch := first | assumption | omega | (simp only [AW.next_push, AW.next_put]; omega) | ((repeat refine Fresh.push ?_ _); assumption) | (simp only [same_int, same_bool, same_ptr, same_slice, same_sliceP, same_nil, same_agg2, same_string]; done) | (simp [oneCell, AW.next_push]; done) | fail) only [go_sem, Nat.reduceEqDiff, reduceIte, Nat.reduceAdd, Int.toNat_natCast, Nat.add_zero, Owes_true]; rfl, rfl, ?_⟩
    rw [agreeTo_succ, hag, hd]; simp [dis1]; omega
  simp -dsimp -implicitDefEqProofs (maxSteps := 2000000) (disch := first | assumption | omega | (simp only [AW.next_push, AW.next_put]; omega) | ((repeat refine Fresh.push ?_ _); assumption) | (simp only [same_int, same_bool, same_ptr, same_slice, same_sliceP, same_nil, same_agg2, same_string]; done) | (simp [oneCell, AW.next_push]; done) | fail) only [go_sem, Nat.reduceEqDiff, reduceIte, Nat.reduceAdd, Int.toNat_natCast, Nat.add_zero, Owes_true, Tryz.results15, e0, e1, e2, e9, hlt, hltx', hlty', indexV_eq, hc0, hx0, hy0, h1, h2]
  apply callV_of (e := rfl)
  · exact Size_ok _ (by omega) (by omega) w3
  rintro _ w5 ⟨rfl, rfl⟩
  have hle : WLe w3 w3 := (Keep.refl _ _).wle hf
  by_cases h3 : 2 * ms[i].1 < max (xs[i] - ys[i]) (-(xs[i] - ys[i]))
  · simp -dsimp -implicitDefEqProofs (maxSteps := 2000000) (disch := first | assumption | omega | (simp only [AW.next_push, AW.next_put]; omega) | ((repeat refine Fresh.push ?_ _); assumption) | (simp only [same_int, same_bool, same_ptr, same_slice, same_sliceP, same_nil, same_agg2, same_string]; done) | (simp [oneCell, AW.next_push]; done) | fail) only [go_sem, Nat.reduceEqDiff, reduceIte, Nat.reduceAdd, Int.toNat_natCast, Nat.add_zero, Owes_true, Tryz.results15, e0, e1, e2, e9, h3]
    refine ⟨?_, g3⟩
    rw [agreeB, if_pos hE, hE, agreeTo_not hlt' (by rw [hd]; simp [dis1]; omega)]
  simp -dsimp -implicitDefEqProofs (maxSteps := 2000000) (disch := first | assumption | omega | (simp only [AW.next_push, AW.next_put]; omega) | ((repeat refine Fresh.push ?_ _); assumption) | (simp only [same_int, same_bool, same_ptr, same_slice, same_sliceP, same_nil, same_agg2, same_string]; done) | (simp [oneCell, AW.next_push]; done) | fail) only [go_sem, Nat.reduceEqDiff, reduceIte, Nat.reduceAdd, Int.toNat_natCast, Nat.add_zero, Owes_true, Tryz.results15, e0, e1, e2, e9, h3]
  refine ⟨_, by omega, i + 1, by omega, rfl, rfl, by simp -dsimp -implicitDefEqProofs (maxSteps := 2000000) (disch := first | assumption | omega | (simp only [AW.next_push, AW.next_put]; omega) | ((repeat refine Fresh.push ?_ _); assumption) | (simp only [same_int, same_bool, same_ptr, same_slice, same_sliceP, same_nil, same_agg2, same_string]; done) | (simp [oneCell, AW.next_push]; done) | fail) only [go_sem, Nat.reduceEqDiff, reduceIte, Nat.reduceAdd, Int.toNat_natCast, Nat.add_zero, Owes_true, e0], by simp -dsimp -implicitDefEqProofs (maxSteps := 2000000) (disch := first | assumption | omega | (simp only [AW.next_push, AW.next_put]; omega) | ((repeat refine Fresh.push ?_ _); assumption) | (simp only [same_int, same_bool, same_ptr, same_slice, same_sliceP, same_nil, same_agg2, same_string]; done) | (simp [oneCell, AW.next_push]; done) | fail) only [go_sem, Nat.reduceEqDiff, reduceIte, Nat.reduceAdd, Int.toNat_natCast, Nat.add_zero, Owes_true, e1], by simp -dsimp -implicitDefEqProofs (maxSteps := 2000000) (disch := first | assumption | omega | (simp only [AW.next_push, AW.next_put]; omega) | ((repeat refine Fresh.push ?_ _); assumption) | (simp only [same_int, same_bool, same_ptr, same_slice, same_sliceP, same_nil, same_agg2, same_string]; done) | (simp [oneCell, AW.next_push]; done) | fail) only [go_sem, Nat.reduceEqDiff, reduceIte, Nat.reduceAdd, Int.toNat_natCast, Nat.add_zero, Owes_true, e2], by simp -dsimp -implicitDefEqProofs (maxSteps := 2000000) (disch := first | assumption | omega | (simp only [AW.next_push, AW.next_put]; omega) | ((repeat refine Fresh.push ?_ _); assumption) | (simp only [same_int, same_bool, same_ptr, same_slice, same_sliceP, same_nil, same_agg2, same_string]; done) | (simp [oneCell, AW.next_push]; done) | fail) only [go_sem, Nat.reduceEqDiff, reduceIte, Nat.reduceAdd, Int.toNat_natCast, Nat.add_zero, Owes_true]; rfl, rfl, ?_⟩
  rw [agreeTo_succ, hag, hd]; simp [dis1]; omega
end Go.Proofs

/- What is given, and the law itself. -/
namespace Go.Proofs
open Go Go.RowKit Go.Sim
set_option maxRecDepth 100000
theorem Tryz.und22 : Tryz.prog.underlying 22 = some (.slice 53) := by kernel_rfl
theorem Tryz.und23 : Tryz.prog.underlying 23 = some (.slice 24) := by kernel_rfl
theorem Tryz.und24 : Tryz.prog.underlying 24 = some (.slice 3) := by kernel_rfl
theorem Tryz.und25 : Tryz.prog.underlying 25 = some (.array 2 24) := by kernel_rfl
theorem Tryz.und53 : Tryz.prog.underlying 53 = some (.struct #[{ name := "Tol", type := 3, offset := 0, embedded := false, tag := "", pkgPath := "", byteOffset := 0 }, { name := "Labour", type := 3, offset := 1, embedded := false, tag := "", pkgPath := "", byteOffset := 8 }]) := by kernel_rfl
theorem Tryz.cells3 : Tryz.prog.cellsOf 3 = 1 := by kernel_rfl
theorem Tryz.cells24 : Tryz.prog.cellsOf 24 = 1 := by kernel_rfl
theorem Tryz.cells53 : Tryz.prog.cellsOf 53 = 2 := by kernel_rfl
theorem rows_of {α : Type} {enc : α → List Value} : ∀ {rows : List (List Value)}, (∀ r ∈ rows, ∃ x, r = enc x) → ∃ xs : List α, rows = xs.map enc
  | [], _ => ⟨[], rfl⟩
  | r :: rows, h => by
    obtain ⟨x, hx⟩ := h r List.mem_cons_self
    obtain ⟨xs, h2⟩ := rows_of fun q hq => h q (List.mem_cons_of_mem _ hq)
    exact ⟨x :: xs, by rw [hx, h2]; rfl⟩
theorem given_int {w : AW} {n : Nat} {cs : List Value} (h : Hd Tryz.prog w n 3 cs) : ∃ x : Int, cs = icells x := by
  cases n with
  | zero => exact h.elim
  | succ n =>
    simp only [Hd, Tryz.und3] at h
    obtain ⟨i, rfl, _⟩ := h
    exact ⟨i, rfl⟩
theorem given_measure {w : AW} {n : Nat} {cs : List Value} (h : Hd Tryz.prog w n 53 cs) : ∃ x : Int × Int, cs = mcells x := by
  cases n with
  | zero => exact h.elim
  | succ n =>
    simp only [Hd, Tryz.und53] at h
    obtain ⟨parts, rfl, hl, hp⟩ := h
    match parts, hl with
    | [a, b], _ =>
      obtain ⟨x, rfl⟩ := given_int (hp 0 _ a rfl rfl)
      obtain ⟨y, rfl⟩ := given_int (hp 1 _ b rfl rfl)
      exact ⟨(x, y), rfl⟩
theorem given_ints {w : AW} {n : Nat} {cs : List Value} (h : Hd Tryz.prog w n 24 cs) : ∃ v, cs = [v] ∧ ∃ xs, ArrOf w 1 icells v xs := by
  cases n with
  | zero => exact h.elim
  | succ n =>
    simp only [Hd, Tryz.und24, Tryz.cells3] at h
    obtain ⟨v, rows, rfl, ha, hr, hgv⟩ := h
    obtain ⟨xs, rfl⟩ := rows_of fun r hq => given_int (hr r hq)
    exact ⟨v, rfl, xs, ha⟩
theorem given_measures {w : AW} {n : Nat} {v : Value} (h : HdV Tryz.prog w n 22 v) : ∃ ms, ArrOf w 2 mcells v ms := by
  simp only [HdV, Tryz.und22] at h
  cases n with
  | zero => exact h.elim
  | succ n =>
    simp only [Hd, Tryz.und22, Tryz.cells53] at h
    obtain ⟨v, rows, e, ha, hr, hgv⟩ := h
    injection e with e; subst e
    obtain ⟨xs, rfl⟩ := rows_of fun r hq => given_measure (hr r hq)
    exact ⟨xs, ha⟩
theorem given_rows {w : AW} {n : Nat} {u : Value} (h : HdV Tryz.prog w n 23 u) : ∃ rss, Rows w u rss := by
  simp only [HdV, Tryz.und23] at h
  cases n with
  | zero => exact h.elim
  | succ n =>
    simp only [Hd, Tryz.und23, Tryz.cells24] at h
    obtain ⟨v, rows, e, ha, hr, hgv⟩ := h
    injection e with e; subst e
    obtain ⟨vs, rfl⟩ := rows_of (enc := vcells) fun r hq => (let ⟨v, e, _⟩ := given_ints (hr r hq); ⟨v, e⟩)
    have key : ∀ vs : List Value, (∀ r ∈ vs.map vcells, Hd Tryz.prog w n 24 r) → ∃ rss : List (List Int), vs.length = rss.length ∧ ∀ (i : Nat) v rs, vs[i]? = some v → rss[i]? = some rs → ArrOf w 1 icells v rs := by
      intro vs
      induction vs with
      | nil => exact fun _ => ⟨[], rfl, fun i v rs h => by simp at h⟩
      | cons v vs ih =>
        intro h
        obtain ⟨v', e, xs, hx⟩ := given_ints (h (vcells v) (by simp))
        injection e with e; subst e
        obtain ⟨rss, h1, h2⟩ := ih fun r hq => h r (by simp at hq ⊢; exact .inr hq)
        refine ⟨xs :: rss, by simp [h1], fun i a b ha hb => ?_⟩
        cases i with
        | zero => simp at ha hb; subst ha hb; exact hx
        | succ i => exact h2 i a b (by simpa using ha) (by simpa using hb)
    obtain ⟨rss, h1, h2⟩ := key vs hr
    exact ⟨rss, vs, h1, ha, h2⟩
theorem given_two {w : AW} {n : Nat} {v : Value} (h : HdV Tryz.prog w n 25 v) : ∃ a b xs ys, v = .agg #[a, b] ∧ ArrOf w 1 icells a xs ∧ ArrOf w 1 icells b ys := by
  simp only [HdV, Tryz.und25] at h
  obtain ⟨cs, rfl, h⟩ := h
  cases n with
  | zero => exact h.elim
  | succ n =>
    simp only [Hd, Tryz.und25] at h
    obtain ⟨parts, e, hl, hp⟩ := h
    match parts, hl with
    | [p, q], _ =>
      obtain ⟨a, rfl, xs, hx⟩ := given_ints (hp p (by simp))
      obtain ⟨b, rfl, ys, hy⟩ := given_ints (hp q (by simp))
      refine ⟨a, b, xs, ys, ?_, hx, hy⟩
      rw [show cs = cs.toList.toArray from rfl, e]; rfl

set_option maxHeartbeats 1000000 in
theorem reads_law (w : AW) (xs : List Value) (f : Fresh w) (h : HdAll Tryz.prog w [22, 23, 25] xs) : CallT Tryz.prog Tryz.T (.fn (.func 3) #[]) xs.toArray w fun v _ => v = .bool true := by
  cases h with
  | cons n1 h1 h =>
  cases h with
  | cons n2 h2 h =>
  cases h with
  | cons n3 h3 h =>
  cases h
  obtain ⟨ms, hs⟩ := given_measures h1
  obtain ⟨rss, hr⟩ := given_rows h2
  obtain ⟨a, b, xs, ys, rfl, ha, hb⟩ := given_two h3
  clear h1 h2 h3
  rename_i v u
  show CallT Tryz.prog Tryz.T (.fn (.func 3) #[]) #[v, u, .agg #[a, b]] w _
  refine callT_code rfl Tryz.func3 rfl Tryz.s3_eq rfl ?_
  unfold Tryz.s3
  simp -dsimp -implicitDefEqProofs (maxSteps := 2000000) (disch := first | assumption | omega | (simp only [AW.next_push, AW.next_put]; omega) | ((repeat refine Fresh.push ?_ _); assumption) | (simp only [same_int, same_bool, same_ptr, same_slice, same_sliceP, same_nil, same_agg2, same_string]; done) | (simp [oneCell, AW.next_push]; done) | fail) only [go_sem, Nat.reduceEqDiff, reduceIte, Nat.reduceAdd, Int.toNat_natCast, Nat.add_zero, Owes_true, Tryz.results3]
  have g0 := (Grown.refl f).push (.cells [a, b] 25 w.next 0 0)
  have hO := Own.new f 25 [a, b]
  have oa : oneCell a = true := by obtain ⟨_, _, _, rfl, _⟩ := ha; rfl
  have ob : oneCell b = true := by obtain ⟨_, _, _, rfl, _⟩ := hb; rfl
  apply callV_of (e := rfl)
  · exact narrow_ok ms rss v u _ g0.2 (hs.grown g0) (hr.grown g0)
  rintro _ w1 ⟨s1, rfl, hs1, hg1⟩
  have g1 := g0.trans hg1
  simp -dsimp -implicitDefEqProofs (maxSteps := 2000000) (disch := first | assumption | omega | (simp only [AW.next_push, AW.next_put]; omega) | ((repeat refine Fresh.push ?_ _); assumption) | (simp only [same_int, same_bool, same_ptr, same_slice, same_sliceP, same_nil, same_agg2, same_string]; done) | (simp [oneCell, AW.next_push]; done) | fail) only [go_sem, Nat.reduceEqDiff, reduceIte, Nat.reduceAdd, Int.toNat_natCast, Nat.add_zero, Owes_true, Tryz.results3]
  apply callV_of (e := rfl)
  · exact refNarrow_ok ms rss v u _ g1.2 (hs.grown g1) (hr.grown g1)
  rintro _ w2 ⟨s2, rfl, hs2, hg2⟩
  have g2 := g1.trans hg2
  simp -dsimp -implicitDefEqProofs (maxSteps := 2000000) (disch := first | assumption | omega | (simp only [AW.next_push, AW.next_put]; omega) | ((repeat refine Fresh.push ?_ _); assumption) | (simp only [same_int, same_bool, same_ptr, same_slice, same_sliceP, same_nil, same_agg2, same_string]; done) | (simp [oneCell, AW.next_push]; done) | fail) only [go_sem, Nat.reduceEqDiff, reduceIte, Nat.reduceAdd, Int.toNat_natCast, Nat.add_zero, Owes_true, Tryz.results3]
  apply callV_of (e := rfl)
  · exact sameSpans_ok (narrowR ms rss) (narrowR ms rss) s1 s2 w2 g2.2 (hs1.grown hg2) hs2
  rintro _ w3 ⟨rfl, hg3⟩
  have g3 := g2.trans hg3
  have e : decide (narrowR ms rss = narrowR ms rss) = true := decide_eq_true rfl
  rw [e]
  simp -dsimp -implicitDefEqProofs (maxSteps := 2000000) (disch := first | assumption | omega | (simp only [AW.next_push, AW.next_put]; omega) | ((repeat refine Fresh.push ?_ _); assumption) | (simp only [same_int, same_bool, same_ptr, same_slice, same_sliceP, same_nil, same_agg2, same_string]; done) | (simp [oneCell, AW.next_push]; done) | fail) only [go_sem, Nat.reduceEqDiff, reduceIte, Nat.reduceAdd, Int.toNat_natCast, Nat.add_zero, Owes_true, Tryz.results3]
  apply callV_of (e := rfl)
  · exact checkMeasures_ok ms v w3 g3.2 (hs.grown g3)
  rintro _ w4 ⟨rfl, hg4⟩
  have g4 := g3.trans hg4
  simp -dsimp -implicitDefEqProofs (maxSteps := 2000000) (disch := first | assumption | omega | (simp only [AW.next_push, AW.next_put]; omega) | ((repeat refine Fresh.push ?_ _); assumption) | (simp only [same_int, same_bool, same_ptr, same_slice, same_sliceP, same_nil, same_agg2, same_string]; done) | (simp [oneCell, AW.next_push]; done) | fail) only [go_sem, Nat.reduceEqDiff, reduceIte, Nat.reduceAdd, Int.toNat_natCast, Nat.add_zero, Owes_true, Tryz.results3]
  apply callV_of (e := rfl)
  · exact refCheckMeasures_ok ms v w4 g4.2 (hs.grown g4)
  rintro _ w5 ⟨rfl, hg5⟩
  have g5 := g4.trans hg5
  have hO5 := (((hO.keep hg1.1).keep (hg2.1.mono (Nat.le_refl _))).keep hg3.1 |>.keep hg4.1).keep hg5.1
  have c0 := hO5.cell (o := 0) rfl oa
  have c1 := hO5.cell (o := 1) rfl ob
  simp -dsimp -implicitDefEqProofs (maxSteps := 2000000) (disch := first | assumption | omega | (simp only [AW.next_push, AW.next_put]; omega) | ((repeat refine Fresh.push ?_ _); assumption) | (simp only [same_int, same_bool, same_ptr, same_slice, same_sliceP, same_nil, same_agg2, same_string]; done) | (simp [oneCell, AW.next_push]; done) | fail) only [go_sem, Nat.reduceEqDiff, reduceIte, Nat.reduceAdd, Int.toNat_natCast, Nat.add_zero, Owes_true, Tryz.results3, Nat.zero_add, c0, c1]
  apply callV_of (e := rfl)
  · exact agree_ok ms xs ys v a b w5 g5.2 (hs.grown g5) (ha.grown g5) (hb.grown g5)
  rintro _ w6 ⟨rfl, hg6⟩
  have g6 := g5.trans hg6
  have hO6 := hO5.keep hg6.1
  have d0 := hO6.cell (o := 0) rfl oa
  have d1 := hO6.cell (o := 1) rfl ob
  simp -dsimp -implicitDefEqProofs (maxSteps := 2000000) (disch := first | assumption | omega | (simp only [AW.next_push, AW.next_put]; omega) | ((repeat refine Fresh.push ?_ _); assumption) | (simp only [same_int, same_bool, same_ptr, same_slice, same_sliceP, same_nil, same_agg2, same_string]; done) | (simp [oneCell, AW.next_push]; done) | fail) only [go_sem, Nat.reduceEqDiff, reduceIte, Nat.reduceAdd, Int.toNat_natCast, Nat.add_zero, Owes_true, Tryz.results3, Nat.zero_add, d0, d1]
  apply callV_of (e := rfl)
  · exact refAgree_ok ms xs ys v a b w6 g6.2 (hs.grown g6) (ha.grown g6) (hb.grown g6)
  rintro _ w7 ⟨rfl, hg7⟩
  simp -dsimp -implicitDefEqProofs (maxSteps := 2000000) (disch := first | assumption | omega | (simp only [AW.next_push, AW.next_put]; omega) | ((repeat refine Fresh.push ?_ _); assumption) | (simp only [same_int, same_bool, same_ptr, same_slice, same_sliceP, same_nil, same_agg2, same_string]; done) | (simp [oneCell, AW.next_push]; done) | fail) only [go_sem, Nat.reduceEqDiff, reduceIte, Nat.reduceAdd, Int.toNat_natCast, Nat.add_zero, Owes_true, Tryz.results3, Tryz.eqb4, beq_self_eq_true]
  apply callV_of (e := rfl)
  · exact callT_told (Q := fun v w' => v = .bool true ∧ w7 = w') (v := .bool true) (w' := w7) rfl ⟨rfl, rfl⟩
  rintro _ w8 ⟨rfl, rfl⟩
  simp -dsimp -implicitDefEqProofs (maxSteps := 2000000) (disch := first | assumption | omega | (simp only [AW.next_push, AW.next_put]; omega) | ((repeat refine Fresh.push ?_ _); assumption) | (simp only [same_int, same_bool, same_ptr, same_slice, same_sliceP, same_nil, same_agg2, same_string]; done) | (simp [oneCell, AW.next_push]; done) | fail) only [go_sem, Nat.reduceEqDiff, reduceIte, Nat.reduceAdd, Int.toNat_natCast, Nat.add_zero, Owes_true, Tryz.results3]
end Go.Proofs
