/- This program: its code, contracts, numbers, part 3. -/
import Derived.Test.YtlilncofnckgdaaPab
import Derived.Test.YtlilncofnckgdaaNd
import Derived.Test.YtlilncofnckgdaaNc
import Derived.Test.YtlilncofnckgdaaPaa
import Derived.Test.YtlilncofnckgdaaSh
set_option linter.unusedVariables false
set_option linter.unusedSimpArgs false
namespace Go.Proofs
open Go Go.RowKit Go.Sim
set_option maxRecDepth 100000
theorem W_set {A : List Int} {i j : Nat} {x : Int} (h : i < A.length) : W (A.set i x) j = if j = i then x else W A j := by
  unfold W List.getD
  by_cases q : j = i
  · subst q; simp [h]
  · rw [List.getElem?_set_ne (fun e => q e.symm), if_neg q]
def swapI (A : List Int) (j : Nat) : List Int := (A.set (j + 1) (W A j)).set j (W A (j + 1))
theorem swapI_len (A : List Int) (j : Nat) : (swapI A j).length = A.length := by simp [swapI]
theorem swapI_W {A : List Int} {j : Nat} (h : j + 1 < A.length) (i : Nat) : W (swapI A j) i = if i = j then W A (j + 1) else if i = j + 1 then W A j else W A i := by
  unfold swapI
  rw [W_set (by rw [List.length_set]; omega), W_set (by omega)]
theorem swapI_perm {A : List Int} {j : Nat} (h : j + 1 < A.length) : List.Perm (swapI A j) A := by
  unfold swapI
  rw [W_at (l := A) (i := j) (by omega), W_at (l := A) (i := j + 1) h]
  exact List.set_set_perm (by omega) (by omega)
theorem swapI_drop {A : List Int} {j n : Nat} (h : j + 1 < n) : (swapI A j).drop n = A.drop n := by
  unfold swapI
  rw [List.drop_set_of_lt (by omega), List.drop_set_of_lt (by omega)]
def SrtTo (A : List Int) (i j : Nat) : Prop := ∀ x y, x < y → y ≤ i → y ≠ j → W A x ≤ W A y
theorem SrtTo.swap {A : List Int} {i j : Nat} (h : SrtTo A i (j + 1)) (hl : j + 1 < A.length) (hi : j + 1 ≤ i) (hlt : W A (j + 1) < W A j) : SrtTo (swapI A j) i j := by
  intro x y hxy hy hne
  rw [swapI_W hl, swapI_W hl, if_neg hne]
  by_cases e : y = j + 1
  · subst e
    rw [if_pos rfl]
    by_cases e2 : x = j
    · rw [if_pos e2]; omega
    · rw [if_neg e2, if_neg (by omega)]
      exact h x j (by omega) (by omega) (by omega)
  · rw [if_neg e]
    by_cases e2 : x = j
    · rw [if_pos e2]; exact h (j + 1) y (by omega) hy e
    · rw [if_neg e2]
      by_cases e3 : x = j + 1
      · rw [if_pos e3]; exact h j y (by omega) hy e
      · rw [if_neg e3]; exact h x y hxy hy e
theorem SrtTo.stop {A : List Int} {i j : Nat} (h : SrtTo A i j) (hs : j = 0 ∨ ∃ m, j = m + 1 ∧ W A m ≤ W A j) : ∀ x y, x < y → y ≤ i → W A x ≤ W A y := by
  intro x y hxy hy
  by_cases e : y = j
  · subst e
    rcases hs with rfl | ⟨m, rfl, hm⟩
    · omega
    · by_cases e2 : x = m
      · subst e2; exact hm
      · exact Int.le_trans (h x m (by omega) (by omega) (by omega)) hm
  · exact h x y hxy hy e
structure Srt (w0 : AW) (b n : Nat) (A0 : List Int) (w : AW) (A : List Int) : Prop where
  len : A.length = 8
  perm : List.Perm A A0
  drop : A.drop n = A0.drop n
  own : Own w b 123 (A.flatMap icells)
  mt : MutS (fun j => j = b) w0 w
  next : w.next = w0.next
theorem isNaN_ok (x : Int) (w : AW) : CallT Try.prog Try.T1 (.fn (.func 142) #[]) #[.int .i64 x] w (Ret (.bool false) fun w' => w = w') := by
  have h : decide (x = x) = true := decide_eq_true rfl
  refine callT_code rfl Try.func142 rfl Try.s142_eq rfl ?_
  unfold Try.s142
  simp -dsimp -implicitDefEqProofs (maxSteps := 2000000) (disch := first | assumption | omega | (simp only [nx]; omega) | ((repeat refine Fresh.push ?_ _); assumption) | (simp only [smA]; done) | (simp [oneCell, AW.next_push]; done) | fail) only [go_sem, Nat.reduceEqDiff, reduceIte, Nat.reduceAdd, Int.toNat_natCast, Nat.add_zero, Owes_true, Try.results142, h]
  exact ⟨rfl, rfl⟩
theorem Less_ok (x y : Int) (w : AW) : CallT Try.prog Try.T1 (.fn (.func 132) #[]) #[.int .i64 x, .int .i64 y] w (Ret (.bool (decide (x < y))) fun w' => w = w') := by
  refine callT_code rfl Try.func132 rfl Try.s132_eq rfl ?_
  unfold Try.s132
  simp -dsimp -implicitDefEqProofs (maxSteps := 2000000) (disch := first | assumption | omega | (simp only [nx]; omega) | ((repeat refine Fresh.push ?_ _); assumption) | (simp only [smA]; done) | (simp [oneCell, AW.next_push]; done) | fail) only [go_sem, Nat.reduceEqDiff, reduceIte, Nat.reduceAdd, Int.toNat_natCast, Nat.add_zero, Owes_true, Try.results132]
  apply callV_of (e := rfl)
  · exact isNaN_ok _ _
  rintro _ _ ⟨rfl, rfl⟩
  simp -dsimp -implicitDefEqProofs (maxSteps := 2000000) (disch := first | assumption | omega | (simp only [nx]; omega) | ((repeat refine Fresh.push ?_ _); assumption) | (simp only [smA]; done) | (simp [oneCell, AW.next_push]; done) | fail) only [go_sem, Nat.reduceEqDiff, reduceIte, Nat.reduceAdd, Int.toNat_natCast, Nat.add_zero, Owes_true, Try.results132]
  exact ⟨rfl, rfl⟩
theorem index8 {b n i : Nat} (hi : i < n) (hn : n ≤ 8) : indexV 1 (.slice (some ⟨b, 0, none⟩) n 8) (.int .i64 (i : Int)) = some (.pointer (some ⟨b, i, none⟩)) := by rw [indexV_eq (by omega) (by omega)]; simp
set_option maxHeartbeats 16000000 in
theorem insertion_ok (A0 : List Int) (hA0 : A0.length = 8) (n : Nat) (h1 : 1 ≤ n) (hn : n ≤ 8) (b : Nat) (w : AW) (f : Fresh w) (hO : Own w b 123 (A0.flatMap icells)) :
    CallT Try.prog Try.T1 (.fn (.func 126) #[]) #[.slice (some ⟨b, 0, none⟩) n 8, .int .i64 0, .int .i64 (n : Int)] w (fun _ w' => ∃ A : List Int, Srt w b n A0 w' A ∧ ∀ x y, x < y → y < n → W A x ≤ W A y) := by
  refine callT_codeX [6] rfl Try.func126 rfl Try.s126_eq rfl ?_
  unfold Try.s126
  simp -dsimp -implicitDefEqProofs (maxSteps := 2000000) (disch := first | assumption | omega | (simp only [nx]; omega) | ((repeat refine Fresh.push ?_ _); assumption) | (simp only [smA]; done) | (simp [oneCell, AW.next_push]; done) | fail) only [go_sem, Nat.reduceEqDiff, reduceIte, Nat.reduceAdd, Int.toNat_natCast, Nat.add_zero, Owes_true, Try.results126]
  refine loopR (fun k t ds w1 => ∃ (i : Nat) (A : List Int), k = n - i ∧ 1 ≤ i ∧ i ≤ n ∧ ds = [] ∧ ev t (.tmp 0) = .slice (some ⟨b, 0, none⟩) n 8 ∧ ev t (.tmp 1) = .int .i64 0 ∧ ev t (.tmp 2) = .int .i64 (n : Int) ∧ ev t (.tmp 6) = .int .i64 (i : Int) ∧ Srt w b n A0 w1 A ∧ ∀ x y, x < y → y < i → W A x ≤ W A y) (n - 1) ?_ ?_
  · refine ⟨1, A0, rfl, Nat.le_refl _, h1, rfl, ?_, ?_, ?_, ?_, ⟨hA0, List.Perm.refl _, rfl, hO, MutS.refl f, rfl⟩, fun x y _ _ => by omega⟩ <;> simp -dsimp -implicitDefEqProofs (maxSteps := 2000000) (disch := first | assumption | omega | (simp only [nx]; omega) | ((repeat refine Fresh.push ?_ _); assumption) | (simp only [smA]; done) | (simp [oneCell, AW.next_push]; done) | fail) only [go_sem, Nat.reduceEqDiff, reduceIte, Nat.reduceAdd, Int.toNat_natCast, Nat.add_zero, Owes_true] <;> rfl
  rintro k t ds w1 ⟨i, A, rfl, hi1, hin, rfl, e0, e1, e2, e6, S, hsrt⟩
  by_cases hlt : (i : Int) < (n : Int)
  case neg =>
    obtain rfl : i = n := by omega
    simp -dsimp -implicitDefEqProofs (maxSteps := 2000000) (disch := first | assumption | omega | (simp only [nx]; omega) | ((repeat refine Fresh.push ?_ _); assumption) | (simp only [smA]; done) | (simp [oneCell, AW.next_push]; done) | fail) only [go_sem, Nat.reduceEqDiff, reduceIte, Nat.reduceAdd, Int.toNat_natCast, Nat.add_zero, Owes_true, Try.results126, e0, e1, e2, e6, hlt]
    exact ⟨A, S, hsrt⟩
  have hlt' : i < n := by omega
  simp -dsimp -implicitDefEqProofs (maxSteps := 2000000) (disch := first | assumption | omega | (simp only [nx]; omega) | ((repeat refine Fresh.push ?_ _); assumption) | (simp only [smA]; done) | (simp [oneCell, AW.next_push]; done) | fail) only [go_sem, Nat.reduceEqDiff, reduceIte, Nat.reduceAdd, Int.toNat_natCast, Nat.add_zero, Owes_true, Try.results126, e0, e1, e2, e6, hlt]
  refine loopR (fun k t ds w2 => ∃ (A : List Int), k ≤ i ∧ ds = [] ∧ ev t (.tmp 0) = .slice (some ⟨b, 0, none⟩) n 8 ∧ ev t (.tmp 1) = .int .i64 0 ∧ ev t (.tmp 2) = .int .i64 (n : Int) ∧ ev t (.tmp 6) = .int .i64 (i : Int) ∧ ev t (.tmp 7) = .int .i64 (k : Int) ∧ Srt w b n A0 w2 A ∧ SrtTo A i k) i ?_ ?_
  · refine ⟨A, Nat.le_refl _, rfl, ?_, ?_, ?_, ?_, ?_, S, fun x y hxy hy hne => hsrt x y hxy (by omega)⟩ <;> simp -dsimp -implicitDefEqProofs (maxSteps := 2000000) (disch := first | assumption | omega | (simp only [nx]; omega) | ((repeat refine Fresh.push ?_ _); assumption) | (simp only [smA]; done) | (simp [oneCell, AW.next_push]; done) | fail) only [go_sem, Nat.reduceEqDiff, reduceIte, Nat.reduceAdd, Int.toNat_natCast, Nat.add_zero, Owes_true, e0, e1, e2, e6] <;> rfl
  clear S hsrt A e0 e1 e2 e6
  rintro k t ds w2 ⟨A, hk, rfl, e0, e1, e2, e6, e7, S, hsrt⟩
  have hle : WLe w2 w2 := (Grown.refl S.mt.fresh).1.wle S.mt.fresh
  cases k with
  | zero =>
    have hd : decide (((0 : Nat) : Int) > 0) = false := rfl
    simp -dsimp -implicitDefEqProofs (maxSteps := 2000000) (disch := first | assumption | omega | (simp only [nx]; omega) | ((repeat refine Fresh.push ?_ _); assumption) | (simp only [smA]; done) | (simp [oneCell, AW.next_push]; done) | fail) only [go_sem, Nat.reduceEqDiff, reduceIte, Nat.reduceAdd, Int.toNat_natCast, Nat.add_zero, Owes_true, Try.results126, e0, e1, e2, e6, e7, hd]
    exact ⟨n - (i + 1), by omega, i + 1, A, rfl, by omega, by omega, rfl, by (simp -dsimp -implicitDefEqProofs (maxSteps := 2000000) (disch := first | assumption | omega | (simp only [nx]; omega) | ((repeat refine Fresh.push ?_ _); assumption) | (simp only [smA]; done) | (simp [oneCell, AW.next_push]; done) | fail) only [go_sem, Nat.reduceEqDiff, reduceIte, Nat.reduceAdd, Int.toNat_natCast, Nat.add_zero, Owes_true, e0]; try rfl), by (simp -dsimp -implicitDefEqProofs (maxSteps := 2000000) (disch := first | assumption | omega | (simp only [nx]; omega) | ((repeat refine Fresh.push ?_ _); assumption) | (simp only [smA]; done) | (simp [oneCell, AW.next_push]; done) | fail) only [go_sem, Nat.reduceEqDiff, reduceIte, Nat.reduceAdd, Int.toNat_natCast, Nat.add_zero, Owes_true, e1]; try rfl), by (simp -dsimp -implicitDefEqProofs (maxSteps := 2000000) (disch := first | assumption | omega | (simp only [nx]; omega) | ((repeat refine Fresh.push ?_ _); assumption) | (simp only [smA]; done) | (simp [oneCell, AW.next_push]; done) | fail) only [go_sem, Nat.reduceEqDiff, reduceIte, Nat.reduceAdd, Int.toNat_natCast, Nat.add_zero, Owes_true, e2]; try rfl), by (simp -dsimp -implicitDefEqProofs (maxSteps := 2000000) (disch := first | assumption | omega | (simp only [nx]; omega) | ((repeat refine Fresh.push ?_ _); assumption) | (simp only [smA]; done) | (simp [oneCell, AW.next_push]; done) | fail) only [go_sem, Nat.reduceEqDiff, reduceIte, Nat.reduceAdd, Int.toNat_natCast, Nat.add_zero, Owes_true]; try rfl), S, fun x y hxy hy => hsrt.stop (.inl rfl) x y hxy (by omega)⟩
  | succ j =>
    have hd : decide (((j + 1 : Nat) : Int) > 0) = true := decide_eq_true (by omega)
    have hcast : ((j + 1 : Nat) : Int) - 1 = (j : Int) := by omega
    have i1 := index8 (b := b) (n := n) (i := j + 1) (by omega) hn
    have i2 := index8 (b := b) (n := n) (i := j) (by omega) hn
    have c1 := S.own.icell (i := j + 1) (by rw [S.len]; omega)
    have c2 := S.own.icell (i := j) (by rw [S.len]; omega)
    have hd0 : (0 : Int) < ((j + 1 : Nat) : Int) := by omega
    simp -dsimp -implicitDefEqProofs (maxSteps := 2000000) (disch := first | assumption | omega | (simp only [nx]; omega) | ((repeat refine Fresh.push ?_ _); assumption) | (simp only [smA]; done) | (simp [oneCell, AW.next_push]; done) | fail) only [go_sem, Nat.reduceEqDiff, reduceIte, Nat.reduceAdd, Int.toNat_natCast, Nat.add_zero, Owes_true, Try.results126, e0, e1, e2, e6, e7, hd, hd0, hcast, i1, i2, c1, c2]
    apply callV_of (e := rfl)
    · exact Less_ok _ _ w2
    rintro _ _ ⟨rfl, rfl⟩
    by_cases hlt : W A (j + 1) < W A j
    case neg =>
      have hdl : decide (W A (j + 1) < W A j) = false := decide_eq_false hlt
      simp -dsimp -implicitDefEqProofs (maxSteps := 2000000) (disch := first | assumption | omega | (simp only [nx]; omega) | ((repeat refine Fresh.push ?_ _); assumption) | (simp only [smA]; done) | (simp [oneCell, AW.next_push]; done) | fail) only [go_sem, Nat.reduceEqDiff, reduceIte, Nat.reduceAdd, Int.toNat_natCast, Nat.add_zero, Owes_true, Try.results126, e0, e1, e2, e6, e7, hdl, hle]
      exact ⟨n - (i + 1), by omega, i + 1, A, rfl, by omega, by omega, rfl, by (simp -dsimp -implicitDefEqProofs (maxSteps := 2000000) (disch := first | assumption | omega | (simp only [nx]; omega) | ((repeat refine Fresh.push ?_ _); assumption) | (simp only [smA]; done) | (simp [oneCell, AW.next_push]; done) | fail) only [go_sem, Nat.reduceEqDiff, reduceIte, Nat.reduceAdd, Int.toNat_natCast, Nat.add_zero, Owes_true, e0]; try rfl), by (simp -dsimp -implicitDefEqProofs (maxSteps := 2000000) (disch := first | assumption | omega | (simp only [nx]; omega) | ((repeat refine Fresh.push ?_ _); assumption) | (simp only [smA]; done) | (simp [oneCell, AW.next_push]; done) | fail) only [go_sem, Nat.reduceEqDiff, reduceIte, Nat.reduceAdd, Int.toNat_natCast, Nat.add_zero, Owes_true, e1]; try rfl), by (simp -dsimp -implicitDefEqProofs (maxSteps := 2000000) (disch := first | assumption | omega | (simp only [nx]; omega) | ((repeat refine Fresh.push ?_ _); assumption) | (simp only [smA]; done) | (simp [oneCell, AW.next_push]; done) | fail) only [go_sem, Nat.reduceEqDiff, reduceIte, Nat.reduceAdd, Int.toNat_natCast, Nat.add_zero, Owes_true, e2]; try rfl), by (simp -dsimp -implicitDefEqProofs (maxSteps := 2000000) (disch := first | assumption | omega | (simp only [nx]; omega) | ((repeat refine Fresh.push ?_ _); assumption) | (simp only [smA]; done) | (simp [oneCell, AW.next_push]; done) | fail) only [go_sem, Nat.reduceEqDiff, reduceIte, Nat.reduceAdd, Int.toNat_natCast, Nat.add_zero, Owes_true]; try rfl), S, fun x y hxy hy => hsrt.stop (.inr ⟨j, rfl, by omega⟩) x y hxy (by omega)⟩
    have hdl : decide (W A (j + 1) < W A j) = true := decide_eq_true hlt
    have hj8 : j + 1 < A.length := by rw [S.len]; omega
    have s1 := storeV_own1 (o := j + 1) (v := .int .i64 (W A j)) S.own (by rw [icells_flat_len]; exact hj8) rfl
    have O1 := S.own.put (setL (A.flatMap icells) (j + 1) (.int .i64 (W A j)))
    have m1 := MutS.put (S := fun x => x = b) S.mt.fresh rfl S.own.lt (.cells (setL (A.flatMap icells) (j + 1) (.int .i64 (W A j))) 123 b 0 0)
    have n1 : (w2.put b (.cells (setL (A.flatMap icells) (j + 1) (.int .i64 (W A j))) 123 b 0 0)).next = w2.next := AW.next_put _ _ _
    rw [setL_ic] at s1 O1 m1 n1
    generalize w2.put b (.cells ((A.set (j + 1) (W A j)).flatMap icells) 123 b 0 0) = w3 at *
    have s2 := storeV_own1 (o := j) (v := .int .i64 (W A (j + 1))) O1 (by rw [icells_flat_len, List.length_set]; omega) rfl
    have O2 := O1.put (setL ((A.set (j + 1) (W A j)).flatMap icells) j (.int .i64 (W A (j + 1))))
    have m2 := MutS.put (S := fun x => x = b) m1.fresh rfl O1.lt (.cells (setL ((A.set (j + 1) (W A j)).flatMap icells) j (.int .i64 (W A (j + 1)))) 123 b 0 0)
    have n2 : (w3.put b (.cells (setL ((A.set (j + 1) (W A j)).flatMap icells) j (.int .i64 (W A (j + 1)))) 123 b 0 0)).next = w3.next := AW.next_put _ _ _
    rw [setL_ic] at s2 O2 m2 n2
    generalize w3.put b (.cells (((A.set (j + 1) (W A j)).set j (W A (j + 1))).flatMap icells) 123 b 0 0) = w4 at *
    simp -dsimp -implicitDefEqProofs (maxSteps := 2000000) (disch := first | assumption | omega | (simp only [nx]; omega) | ((repeat refine Fresh.push ?_ _); assumption) | (simp only [smA]; done) | (simp [oneCell, AW.next_push]; done) | fail) only [go_sem, Nat.reduceEqDiff, reduceIte, Nat.reduceAdd, Int.toNat_natCast, Nat.add_zero, Owes_true, Try.results126, e0, e1, e2, e6, e7, hdl, hle]
    show CodeT _ _ _ _ _ _ _ _
    refine codeT_regX Try.x126r6_eq Try.x126r6_kinds ?_
    unfold Try.x126r6
    simp -dsimp -implicitDefEqProofs (maxSteps := 2000000) (disch := first | assumption | omega | (simp only [nx]; omega) | ((repeat refine Fresh.push ?_ _); assumption) | (simp only [smA]; done) | (simp [oneCell, AW.next_push]; done) | fail) only [go_sem, Nat.reduceEqDiff, reduceIte, Nat.reduceAdd, Int.toNat_natCast, Nat.add_zero, Owes_true, e0, e1, e2, e6, e7, hcast, i1, i2, c1, c2, s1]
    refine ⟨⟨.inl (show Nat.testBit 32739 13 = true by decide), .inl (show Nat.testBit 32739 9 = true by decide), trivial⟩, ?_⟩
    simp -dsimp -implicitDefEqProofs (maxSteps := 2000000) (disch := first | assumption | omega | (simp only [nx]; omega) | ((repeat refine Fresh.push ?_ _); assumption) | (simp only [smA]; done) | (simp [oneCell, AW.next_push]; done) | fail) only [go_sem, Nat.reduceEqDiff, reduceIte, Nat.reduceAdd, Int.toNat_natCast, Nat.add_zero, Owes_true, e0, e1, e2, e6, e7, hcast, i1, i2, c1, c2, s2]
    refine ⟨⟨.inl (show Nat.testBit 131071 13 = true by decide), .inl (show Nat.testBit 131071 9 = true by decide), trivial⟩, ?_⟩
    simp -dsimp -implicitDefEqProofs (maxSteps := 2000000) (disch := first | assumption | omega | (simp only [nx]; omega) | ((repeat refine Fresh.push ?_ _); assumption) | (simp only [smA]; done) | (simp [oneCell, AW.next_push]; done) | fail) only [go_sem, Nat.reduceEqDiff, reduceIte, Nat.reduceAdd, Int.toNat_natCast, Nat.add_zero, Owes_true, e0, e1, e2, e6, e7, hcast]
    exact ⟨j, by omega, swapI A j, by omega, rfl, by (simp -dsimp -implicitDefEqProofs (maxSteps := 2000000) (disch := first | assumption | omega | (simp only [nx]; omega) | ((repeat refine Fresh.push ?_ _); assumption) | (simp only [smA]; done) | (simp [oneCell, AW.next_push]; done) | fail) only [go_sem, Nat.reduceEqDiff, reduceIte, Nat.reduceAdd, Int.toNat_natCast, Nat.add_zero, Owes_true, e0]; try rfl), by (simp -dsimp -implicitDefEqProofs (maxSteps := 2000000) (disch := first | assumption | omega | (simp only [nx]; omega) | ((repeat refine Fresh.push ?_ _); assumption) | (simp only [smA]; done) | (simp [oneCell, AW.next_push]; done) | fail) only [go_sem, Nat.reduceEqDiff, reduceIte, Nat.reduceAdd, Int.toNat_natCast, Nat.add_zero, Owes_true, e1]; try rfl), by (simp -dsimp -implicitDefEqProofs (maxSteps := 2000000) (disch := first | assumption | omega | (simp only [nx]; omega) | ((repeat refine Fresh.push ?_ _); assumption) | (simp only [smA]; done) | (simp [oneCell, AW.next_push]; done) | fail) only [go_sem, Nat.reduceEqDiff, reduceIte, Nat.reduceAdd, Int.toNat_natCast, Nat.add_zero, Owes_true, e2]; try rfl), by (simp -dsimp -implicitDefEqProofs (maxSteps := 2000000) (disch := first | assumption | omega | (simp only [nx]; omega) | ((repeat refine Fresh.push ?_ _); assumption) | (simp only [smA]; done) | (simp [oneCell, AW.next_push]; done) | fail) only [go_sem, Nat.reduceEqDiff, reduceIte, Nat.reduceAdd, Int.toNat_natCast, Nat.add_zero, Owes_true, e6]; try rfl), by (simp -dsimp -implicitDefEqProofs (maxSteps := 2000000) (disch := first | assumption | omega | (simp only [nx]; omega) | ((repeat refine Fresh.push ?_ _); assumption) | (simp only [smA]; done) | (simp [oneCell, AW.next_push]; done) | fail) only [go_sem, Nat.reduceEqDiff, reduceIte, Nat.reduceAdd, Int.toNat_natCast, Nat.add_zero, Owes_true]; try rfl),
      ⟨by rw [swapI_len]; exact S.len, (swapI_perm hj8).trans S.perm, by rw [swapI_drop (by omega)]; exact S.drop, O2, (S.mt.trans m1 (Within.refl _ _)).trans m2 (Within.refl _ _), by rw [n2, n1]; exact S.next⟩, hsrt.swap hj8 (by omega) hlt⟩
theorem pdq_ok (A0 : List Int) (hA0 : A0.length = 8) (n : Nat) (h1 : 1 ≤ n) (hn : n ≤ 8) (q : Int) (b : Nat) (w : AW) (f : Fresh w) (hO : Own w b 123 (A0.flatMap icells)) :
    CallT Try.prog Try.T1 (.fn (.func 124) #[]) #[.slice (some ⟨b, 0, none⟩) n 8, .int .i64 0, .int .i64 (n : Int), .int .i64 q] w (fun _ w' => ∃ A : List Int, Srt w b n A0 w' A ∧ ∀ x y, x < y → y < n → W A x ≤ W A y) := by
  have h12 : (n : Int) - 0 ≤ 12 := by omega
  refine callT_code rfl Try.func124 rfl Try.s124_eq rfl ?_
  unfold Try.s124
  simp -dsimp -implicitDefEqProofs (maxSteps := 2000000) (disch := first | assumption | omega | (simp only [nx]; omega) | ((repeat refine Fresh.push ?_ _); assumption) | (simp only [smA]; done) | (simp [oneCell, AW.next_push]; done) | fail) only [go_sem, Nat.reduceEqDiff, reduceIte, Nat.reduceAdd, Int.toNat_natCast, Nat.add_zero, Owes_true, Try.results124]
  refine loopR (fun k t ds w1 => w = w1 ∧ ds = [] ∧ ev t (.tmp 0) = .slice (some ⟨b, 0, none⟩) n 8 ∧ ev t (.tmp 1) = .int .i64 0 ∧ ev t (.tmp 2) = .int .i64 (n : Int)) 0 ?_ ?_
  · refine ⟨rfl, rfl, ?_, ?_, ?_⟩ <;> simp -dsimp -implicitDefEqProofs (maxSteps := 2000000) (disch := first | assumption | omega | (simp only [nx]; omega) | ((repeat refine Fresh.push ?_ _); assumption) | (simp only [smA]; done) | (simp [oneCell, AW.next_push]; done) | fail) only [go_sem, Nat.reduceEqDiff, reduceIte, Nat.reduceAdd, Int.toNat_natCast, Nat.add_zero, Owes_true] <;> rfl
  rintro k t ds w1 ⟨rfl, rfl, e0, e1, e2⟩
  simp -dsimp -implicitDefEqProofs (maxSteps := 2000000) (disch := first | assumption | omega | (simp only [nx]; omega) | ((repeat refine Fresh.push ?_ _); assumption) | (simp only [smA]; done) | (simp [oneCell, AW.next_push]; done) | fail) only [go_sem, Nat.reduceEqDiff, reduceIte, Nat.reduceAdd, Int.toNat_natCast, Nat.add_zero, Owes_true, Try.results124, e0, e1, e2, h12]
  apply callV_of (e := rfl)
  · exact insertion_ok A0 hA0 n h1 hn b w f hO
  rintro _ w2 hS
  simp -dsimp -implicitDefEqProofs (maxSteps := 2000000) (disch := first | assumption | omega | (simp only [nx]; omega) | ((repeat refine Fresh.push ?_ _); assumption) | (simp only [smA]; done) | (simp [oneCell, AW.next_push]; done) | fail) only [go_sem, Nat.reduceEqDiff, reduceIte, Nat.reduceAdd, Int.toNat_natCast, Nat.add_zero, Owes_true, Try.results124]
  exact hS
theorem len_ok (n : Nat) (h1 : 1 ≤ n) (h : n ≤ 8) (w : AW) : CallT Try.prog Try.T1 (.fn (.func 125) #[]) #[.int .u64 (n : Int)] w (fun v w' => (∃ q : Int, v = .int .i64 q) ∧ w = w') := by
  rcases small9 h with rfl | rfl | rfl | rfl | rfl | rfl | rfl | rfl | rfl
  · omega
  all_goals exact callT_told (w' := w) rfl ⟨⟨_, rfl⟩, rfl⟩
theorem Sort_ok (A0 : List Int) (hA0 : A0.length = 8) (n : Nat) (h1 : 1 ≤ n) (hn : n ≤ 8) (b : Nat) (w : AW) (f : Fresh w) (hO : Own w b 123 (A0.flatMap icells)) :
    CallT Try.prog Try.T1 (.fn (.func 117) #[]) #[.slice (some ⟨b, 0, none⟩) n 8] w (fun _ w' => ∃ A : List Int, Srt w b n A0 w' A ∧ ∀ x y, x < y → y < n → W A x ≤ W A y) := by
  refine callT_code rfl Try.func117 rfl Try.s117_eq rfl ?_
  unfold Try.s117
  simp -dsimp -implicitDefEqProofs (maxSteps := 2000000) (disch := first | assumption | omega | (simp only [nx]; omega) | ((repeat refine Fresh.push ?_ _); assumption) | (simp only [smA]; done) | (simp [oneCell, AW.next_push]; done) | fail) only [go_sem, Nat.reduceEqDiff, reduceIte, Nat.reduceAdd, Int.toNat_natCast, Nat.add_zero, Owes_true, Try.results117]
  apply callV_of (e := rfl)
  · exact len_ok n h1 hn w
  rintro _ _ ⟨⟨q, rfl⟩, rfl⟩
  simp -dsimp -implicitDefEqProofs (maxSteps := 2000000) (disch := first | assumption | omega | (simp only [nx]; omega) | ((repeat refine Fresh.push ?_ _); assumption) | (simp only [smA]; done) | (simp [oneCell, AW.next_push]; done) | fail) only [go_sem, Nat.reduceEqDiff, reduceIte, Nat.reduceAdd, Int.toNat_natCast, Nat.add_zero, Owes_true, Try.results117]
  apply callV_of (e := rfl)
  · exact pdq_ok A0 hA0 n h1 hn q b w f hO
  rintro _ w2 hS
  simp -dsimp -implicitDefEqProofs (maxSteps := 2000000) (disch := first | assumption | omega | (simp only [nx]; omega) | ((repeat refine Fresh.push ?_ _); assumption) | (simp only [smA]; done) | (simp [oneCell, AW.next_push]; done) | fail) only [go_sem, Nat.reduceEqDiff, reduceIte, Nat.reduceAdd, Int.toNat_natCast, Nat.add_zero, Owes_true, Try.results117]
  exact hS
end Go.Proofs

namespace Go.Sim
open Go Go.RowKit
theorem part_at {P : Program} {ty : TypeId} {k : IntKind} (e : prun P (isAgg ty) = some false) {xs : List Int} {i : Nat} (h : i < xs.length) : prun P (part ty (xs.map (Value.int k)).toArray (i * 1)) = some (.int k xs[i]) := by
  rw [Nat.mul_one]
  exact part_one e (by simp [h])
theorem eqArr {P : Program} {ty e : TypeId} {k : IntKind} {len : Nat} (hu : P.underlying ty = some (.array len e)) (hs : prun P (sizeOf e) = some 1) (he : P.underlying e = some (.int k)) (ha : prun P (isAgg e) = some false) (n : Nat) (xs ys : List Int) (hx : xs.length = len) (hy : ys.length = len) :
    prun P (Op.equalIn (n + 2) ty (.agg (xs.map (Value.int k)).toArray) (.agg (ys.map (Value.int k)).toArray)) = some (decide (xs = ys)) := by
  rw [Op.equalIn]
  rw [prun_bindS _ _ (prun_underlying hu)]
  simp only []
  rw [prun_bindS _ _ hs]
  rw [Std.Legacy.Range.forIn_eq_forIn_range']
  have key : ∀ m i, i + m = len → prun P (do
      let s ← forIn (List.range' i m) ((none : Option Bool), ()) fun i _ => do
            let a ← part e (xs.map (Value.int k)).toArray (i * 1)
            let b ← part e (ys.map (Value.int k)).toArray (i * 1)
            let c ← Op.equalIn (n + 1) e a b
            if (!c) = true then pure (ForInStep.done (some false, ())) else pure (ForInStep.yield (none, ()))
      match s.fst with
        | some r => pure r
        | none => pure true) = some (decide (xs.drop i = ys.drop i)) := by
    intro m
    induction m with
    | zero =>
      intro i hi
      rw [List.drop_eq_nil_of_le (by omega), List.drop_eq_nil_of_le (by omega)]
      simp only [List.range'_zero, List.forIn_nil, pure_bind]
      rfl
    | succ m ih =>
      intro i hi
      have h1 : i < xs.length := by omega
      have h2 : i < ys.length := by omega
      rw [List.range'_succ]
      simp only [List.forIn_cons, bind_assoc]
      rw [prun_bindS _ _ (part_at ha h1), prun_bindS _ _ (part_at ha h2), prun_bindS _ _ (eqInt_at he n _ _)]
      have e : (xs.drop i = ys.drop i) = (xs[i] = ys[i] ∧ xs.drop (i + 1) = ys.drop (i + 1)) := by
        rw [List.drop_eq_getElem_cons h1, List.drop_eq_getElem_cons h2, List.cons.injEq]
      by_cases hq : xs[i] = ys[i]
      · have hb : (xs[i] == ys[i]) = true := by simp [hq]
        simp only [hb, Bool.not_true, Bool.false_eq_true, if_false, pure_bind]
        have := ih (i + 1) (by omega)
        rw [this]
        simp only [e, hq, true_and]
      · have hb : (xs[i] == ys[i]) = false := by simp [hq]
        simp only [hb, Bool.not_false, if_true, pure_bind]
        simp only [e, hq, false_and, decide_false]
        rfl
  have := key len 0 (by omega)
  simp only [List.drop_zero] at this
  have hsz : Std.Legacy.Range.size [:len] = len := by simp [Std.Legacy.Range.size]
  rw [← this, hsz]
  congr 1
  congr 1
  funext s
  obtain ⟨a, _⟩ := s
  cases a <;> rfl
theorem loadAll {w : AW} {b n : Nat} {e : TypeId} {c : List Value} (h : Own w b e c) (hn : c.length = n) (h1 : ∀ v ∈ c, oneCell v = true) : loadV w true n (.pointer (some ⟨b, 0, none⟩)) = some (.agg c.toArray) := by
  subst hn
  rw [loadV_row, aCells_of c 0 fun i v hv => by rw [Nat.zero_add]; exact h.cell hv (h1 v (List.mem_of_getElem? hv))]
end Go.Sim

namespace Go.Proofs
open Go Go.RowKit Go.Sim
set_option maxRecDepth 100000
theorem Try.agg3 : prun Try.prog (isAgg 3) = some false := by kernel_rfl
theorem Try.size3 : prun Try.prog (sizeOf 3) = some 1 := by kernel_rfl
theorem Try.und123 : Try.prog.underlying 123 = some (.array 8 3) := by kernel_rfl
theorem flats_ints : ∀ (xs : List Int), flat.flats 5 (xs.map (Value.int .i64)) = true
  | [] => rfl
  | x :: xs => by simp only [List.map_cons, flat.flats, flats_ints xs]; rfl
theorem eq123 (xs ys : List Int) (hx : xs.length = 8) (hy : ys.length = 8) : eqQ Try.prog .eql 123 (.agg (xs.flatMap icells).toArray) (.agg (ys.flatMap icells).toArray) = some (.bool (decide (xs = ys))) := by
  rw [flat_icells, flat_icells]
  refine eqQ_eql (by kernel_rfl) ?_ (eqArr Try.und123 Try.size3 Try.und3 Try.agg3 9998 xs ys hx hy)
  have a := flats_ints xs
  have b := flats_ints ys
  simp only [flat, a, b, Bool.and_self]
theorem icells_ones (A : List Int) : ∀ v ∈ A.flatMap icells, oneCell v = true := fun v hv => by
  obtain ⟨y, _, hy⟩ := List.mem_flatMap.1 hv
  exact icells_one y v hy
theorem binQ_aggs (op : BinOp) (a b : Array Value) : binQ op (.agg a) (.agg b) = none := rfl
theorem same_int' (n : Int) : same 11 (.int .i64 n) (.int .i64 n) = true := by simp [same, intEq_eq]
theorem same_ints (A : List Int) : same 12 (.agg (A.flatMap icells).toArray) (.agg (A.flatMap icells).toArray) = true := by
  have : ∀ xs : List Int, same.all 11 (xs.flatMap icells) (xs.flatMap icells) = true := by
    intro xs
    induction xs with
    | nil => rfl
    | cons x xs ih =>
      simp only [List.flatMap_cons, icells, List.cons_append, List.nil_append] at ih ⊢
      simp only [same.all, same_int', ih, Bool.and_self]
  simp only [same, this]
theorem order_iff {l A : List Int} (h1 : 1 ≤ l.length) (h8 : l.length ≤ 8) (hlen : A.length = 8) (hp : List.Perm A (l ++ List.replicate (8 - l.length) 0)) (hd : A.drop l.length = List.replicate (8 - l.length) 0) (hs : ∀ x y, x < y → y < l.length → W A x ≤ W A y) :
    decide (A = firstI l.length) = isOrd l := by
  have hA : A = A.take l.length ++ List.replicate (8 - l.length) 0 := by rw [← hd, List.take_append_drop]
  have hpt : List.Perm (A.take l.length) l := by
    rw [hA] at hp
    exact (List.perm_append_right_iff _).1 hp
  have hst : List.Pairwise (· ≤ ·) (A.take l.length) := by
    rw [List.pairwise_iff_getElem]
    intro i j hi hj hij
    rw [List.length_take] at hi hj
    have := hs i j hij (by omega)
    rw [W_at (by omega), W_at (by omega)] at this
    simpa using this
  have hF : firstI l.length = rangeI l.length ++ List.replicate (8 - l.length) 0 := by
    rcases small9 h8 with q | q | q | q | q | q | q | q | q <;> rw [q] <;> first | rfl | decide
  have key := sorted_first hpt hst
  have heq : A = firstI l.length ↔ A.take l.length = rangeI l.length := by
    constructor
    · intro h
      have := congrArg (fun q => q.take l.length) h
      simp only [hF] at this
      rw [this, List.take_append_of_le_length (by rw [rangeI_len]; omega), List.take_of_length_le (by rw [rangeI_len]; omega)]
    · intro h
      rw [hF, ← h]; exact hA
  have hall : (∀ x ∈ l, 0 ≤ x ∧ x < l.length) ↔ l.all (fun x => inR 0 x (l.length - 1)) = true := by
    rw [List.all_eq_true]
    constructor
    · exact fun h x hx => (inR_iff _ _ _).2 (by have := h x hx; omega)
    · exact fun h x hx => by have := (inR_iff _ _ _).1 (h x hx); omega
  have hi : inR 1 (l.length : Int) 8 = true := (inR_iff _ _ _).2 (by omega)
  unfold isOrd
  rw [hi, Bool.true_and]
  by_cases h : A = firstI l.length
  · rw [decide_eq_true h]
    obtain ⟨a, b⟩ := key.1 (heq.1 h)
    rw [hall.1 a, decide_eq_true b]; rfl
  · rw [decide_eq_false h]
    cases h2 : (l.all fun x => inR 0 x (l.length - 1)) with
    | false => rfl
    | true =>
      by_cases h3 : l.Nodup
      · exact absurd (heq.2 (key.2 ⟨hall.2 h2, h3⟩)) h
      · rw [decide_eq_false h3]; rfl
set_option maxHeartbeats 8000000 in
theorem isOrder_ok (l : List Int) (v : Value) (w : AW) (f : Fresh w) (hv : ArrOf w 1 icells v l) :
    CallT Try.prog Try.T1 (.fn (.func 86) #[]) #[v] w (Ret (.bool (isOrd l)) (Grown w)) := by
  obtain ⟨pv, cv, rfl, _⟩ := id hv.open
  refine callT_code rfl Try.func86 rfl Try.s86_eq rfl ?_
  unfold Try.s86
  simp -dsimp -implicitDefEqProofs (maxSteps := 2000000) (disch := first | assumption | omega | (simp only [nx]; omega) | ((repeat refine Fresh.push ?_ _); assumption) | (simp only [smA]; done) | (simp [oneCell, AW.next_push]; done) | fail) only [go_sem, Nat.reduceEqDiff, reduceIte, Nat.reduceAdd, Int.toNat_natCast, Nat.add_zero, Owes_true, Try.results86]
  apply callV_of (e := rfl)
  · exact isMany_ok _ w
  rintro _ _ ⟨rfl, rfl⟩
  cases hm : inR 1 (l.length : Int) 8 with
  | false =>
    simp -dsimp -implicitDefEqProofs (maxSteps := 2000000) (disch := first | assumption | omega | (simp only [nx]; omega) | ((repeat refine Fresh.push ?_ _); assumption) | (simp only [smA]; done) | (simp [oneCell, AW.next_push]; done) | fail) only [go_sem, Nat.reduceEqDiff, reduceIte, Nat.reduceAdd, Int.toNat_natCast, Nat.add_zero, Owes_true, Try.results86, hm]
    exact ⟨by simp [isOrd, hm], Grown.refl f⟩
  | true =>
  have hl := (inR_iff _ _ _).1 hm
  have g1 := (Grown.refl f).push (.cells [.int .i64 0, .int .i64 0, .int .i64 0, .int .i64 0, .int .i64 0, .int .i64 0, .int .i64 0, .int .i64 0] 123 w.next 0 0)
  have O1 : Own _ w.next 123 ((List.replicate 8 (0 : Int)).flatMap icells) := Own.new f 123 [.int .i64 0, .int .i64 0, .int .i64 0, .int .i64 0, .int .i64 0, .int .i64 0, .int .i64 0, .int .i64 0]
  obtain ⟨w2, c1, O2, m2, n2⟩ := copy_ints (ty := 22) (xty := 22) (c := 8) Try.ty22 Try.ty3 O1 g1.2 hv g1.1 (by omega) (by simp; omega)
  have hk2 : Keep w.next w w2 := g1.1.trans (m2.keep (fun j h => by omega) (g1.1.next))
  simp -dsimp -implicitDefEqProofs (maxSteps := 2000000) (disch := first | assumption | omega | (simp only [nx]; omega) | ((repeat refine Fresh.push ?_ _); assumption) | (simp only [smA]; done) | (simp [oneCell, AW.next_push]; done) | fail) only [go_sem, Nat.reduceEqDiff, reduceIte, Nat.reduceAdd, Int.toNat_natCast, Nat.add_zero, Owes_true, Try.results86, hm]
  refine stepR_copy (by simp -dsimp -implicitDefEqProofs (maxSteps := 2000000) (disch := first | assumption | omega | (simp only [nx]; omega) | ((repeat refine Fresh.push ?_ _); assumption) | (simp only [smA]; done) | (simp [oneCell, AW.next_push]; done) | fail) only [go_sem, Nat.reduceEqDiff, reduceIte, Nat.reduceAdd, Int.toNat_natCast, Nat.add_zero, Owes_true]; exact c1) ?_
  have hs8 := slicePV_8n w.next l.length (by omega)
  simp -dsimp -implicitDefEqProofs (maxSteps := 2000000) (disch := first | assumption | omega | (simp only [nx]; omega) | ((repeat refine Fresh.push ?_ _); assumption) | (simp only [smA]; done) | (simp [oneCell, AW.next_push]; done) | fail) only [go_sem, Nat.reduceEqDiff, reduceIte, Nat.reduceAdd, Int.toNat_natCast, Nat.add_zero, Owes_true, Try.results86, hs8]
  apply callV_of (e := rfl)
  · exact Sort_ok _ (by rw [setsI_len (by simp; omega)]; rfl) l.length (by omega) (by omega) w.next w2 m2.fresh O2
  rintro _ w3 ⟨A, S, hsrt⟩
  have hld := loadAll S.own (by rw [icells_flat_len, S.len]) (icells_ones A)
  have hle : WLe w3 w3 := (Grown.refl S.mt.fresh).1.wle S.mt.fresh
  have heq := eq123 A (firstI l.length) S.len (firstI_len _)
  have hor := order_iff (l := l) (A := A) (by omega) (by omega) S.len (by
    refine S.perm.trans ?_
    unfold setsI
    rw [List.take_zero, List.nil_append, Nat.zero_add, List.drop_replicate]) (by
    rw [S.drop]
    unfold setsI
    rw [List.take_zero, List.nil_append, Nat.zero_add, List.drop_append_of_le_length (Nat.le_refl _), List.drop_length, List.nil_append, List.drop_replicate]) hsrt
  rw [hor] at heq
  have hsa := same_ints A
  simp -dsimp -implicitDefEqProofs (maxSteps := 2000000) (disch := first | assumption | omega | (simp only [nx]; omega) | ((repeat refine Fresh.push ?_ _); assumption) | (simp only [smA]; done) | (simp [oneCell, AW.next_push]; done) | fail) only [go_sem, Nat.reduceEqDiff, reduceIte, Nat.reduceAdd, Int.toNat_natCast, Nat.add_zero, Owes_true, Try.results86, hld, hsa]
  apply callV_of (e := rfl)
  · exact first_ok l.length (by omega) (by omega) w3
  rintro _ _ ⟨rfl, rfl⟩
  have hsf := same_ints (firstI l.length)
  simp -dsimp -implicitDefEqProofs (maxSteps := 2000000) (disch := first | assumption | omega | (simp only [nx]; omega) | ((repeat refine Fresh.push ?_ _); assumption) | (simp only [smA]; done) | (simp [oneCell, AW.next_push]; done) | fail) only [go_sem, Nat.reduceEqDiff, reduceIte, Nat.reduceAdd, Int.toNat_natCast, Nat.add_zero, Owes_true, Try.results86, hld, hle, hsa, hsf, binQ_aggs, heq]
  exact ⟨rfl, hk2.trans (S.mt.keep (fun j h => by omega) hk2.next), S.mt.fresh⟩
theorem lessTo_succ {x : Int} {l : List Int} {i : Nat} (h : i < l.length) : lessN x (l.take (i + 1)) = lessN x (l.take i) + if l[i] < x then 1 else 0 := by
  unfold lessN
  rw [List.take_succ_eq_append_getElem h, List.countP_append]
  simp only [List.countP_cons, List.countP_nil, decide_eq_true_eq, Nat.zero_add]
def Cutt (w : AW) (v : Value) (n : Nat) : Prop := n = 0 ∨ ∃ b o c, v = .slice (some ⟨b, o, none⟩) n c ∧ n ≤ c ∧ b < w.next ∧ ((∃ cs, w.blk b = some (.given cs)) ∨ ∃ cells e r, w.blk b = some (.cells cells e r 0 1))
theorem Cutt.grown {w w' : AW} {v : Value} {n : Nat} (h : Cutt w v n) (g : Keep w.next w w') : Cutt w' v n := by
  rcases h with q | ⟨b, o, c, e, hc, hb, hk⟩
  · exact .inl q
  · have := g.next
    exact .inr ⟨b, o, c, e, hc, by omega, by rw [g.blk b hb]; exact hk⟩
theorem Cutt.drop {w : AW} {v : Value} {L : List Int} (h : Cutt w v L.length) (hA : ArrOf w 1 icells v L) {a : Nat} (ha : a < L.length) :
    ∃ p c, sliceV w 1 v (some (.int .i64 (a : Int))) none = some (.slice p (L.length - a) c) ∧ ArrOf w 1 icells (.slice p (L.length - a) c) (L.drop a) := by
  rcases h with q | ⟨b, o, c, rfl, hc, hb, hk⟩
  · omega
  obtain ⟨p', n, cap, e, hn, hc', hm, hat⟩ := hA
  injection e with e1 e2 e3
  subst e1 e2 e3
  obtain ⟨b', o', e, hb', hcell⟩ := hat (by omega)
  injection e with e
  injection e with e1 e2
  subst e1 e2
  refine ⟨some ⟨b, o + a * 1, none⟩, c - a, ?_, ⟨_, _, _, rfl, by rw [List.length_map, List.length_drop], by omega, by omega, fun _ => ⟨b, o + a * 1, rfl, hb, fun i j r x hi hx => ?_⟩⟩⟩
  · show sliceV w 1 (.slice (some ⟨b, o, none⟩) L.length c) (some (.int .i64 (Int.ofNat a))) none = _
    have b1 : Nat.ble a L.length = true := Nat.ble_eq_true_of_le (by omega)
    have b2 : Nat.ble L.length c = true := Nat.ble_eq_true_of_le hc
    have b3 : Nat.beq 1 1 = true := rfl
    rcases hk with ⟨cs, hk⟩ | ⟨cells, e, r, hk⟩
    · have b4 : Nat.beq c a = false := Bool.eq_false_iff.2 fun q => by have := Nat.eq_of_beq_eq_true q; omega
      simp only [sliceV, natOr, b1, b2, hk, Bool.and_self, b4, cond_false]
    · simp only [sliceV, natOr, b1, b2, hk, Bool.and_self, b3, Bool.true_or]
  · have hi' : (List.map icells L)[a + i]? = some r := by
      rw [← hi, List.getElem?_map, List.getElem?_map, List.getElem?_drop]
    have := hcell (a + i) j r x hi' hx
    rw [show o + (a + i) * 1 + j = o + a * 1 + i * 1 + j by omega] at this
    exact this
def rankE (l : List Int) : Int := if isOrd l then 0 else 104
def rankV (l : List Int) : Int := if isOrd l then (rankR l : Int) else 0
theorem horner_drop {l : List Int} {i a : Nat} (h : i < l.length) : horner a (l.drop i) = horner (a * (l.length - i) + lessN l[i] (l.drop i)) (l.drop (i + 1)) := by
  rw [List.drop_eq_getElem_cons h]
  simp only [horner, List.length_drop]
  rw [lessN_cons, show l.length - (i + 1) + 1 = l.length - i by omega]
theorem rankR_lt : ∀ l : List Int, l.length ≤ 8 → rankR l < fct l.length ∧ rankR l ≤ 40320
  | [], _ => by decide
  | x :: l, h => by
    rw [List.length_cons] at h
    have := rankR_lt l (by omega)
    have h2 := lessN_le x l
    have h3 := fct_le (n := l.length + 1) (by omega)
    rw [List.length_cons, rankR, fct]
    have : lessN x l * fct l.length + rankR l < (l.length + 1) * fct l.length := by
      have := Nat.mul_le_mul_right (fct l.length) h2
      rw [Nat.add_mul, Nat.one_mul]; omega
    rw [fct] at h3
    omega
theorem horner_le (l : List Int) : ∀ a, a ≤ horner a l := by
  intro a
  rw [horner_eq]
  have := Nat.le_mul_of_pos_right a (fct_pos l.length)
  omega
set_option maxHeartbeats 8000000 in
theorem Rank_ok (l : List Int) (v : Value) (w : AW) (f : Fresh w) (hv : ArrOf w 1 icells v l) (hc : Cutt w v l.length) :
    CallT Try.prog Try.T1 (.fn (.func 34) #[]) #[v] w (Ret (.tuple #[.int .i64 (rankV l), .int .i64 (rankE l)]) (Grown w)) := by
  obtain ⟨pv, cv, rfl, _⟩ := id hv.open
  refine callT_code rfl Try.func34 rfl Try.s34_eq rfl ?_
  unfold Try.s34
  simp -dsimp -implicitDefEqProofs (maxSteps := 2000000) (disch := first | assumption | omega | (simp only [nx]; omega) | ((repeat refine Fresh.push ?_ _); assumption) | (simp only [smA]; done) | (simp [oneCell, AW.next_push]; done) | fail) only [go_sem, Nat.reduceEqDiff, reduceIte, Nat.reduceAdd, Int.toNat_natCast, Nat.add_zero, Owes_true, Try.results34]
  apply callV_of (e := rfl)
  · exact isOrder_ok l _ w f hv
  rintro _ w2 ⟨rfl, g⟩
  cases hm : isOrd l with
  | false =>
    simp -dsimp -implicitDefEqProofs (maxSteps := 2000000) (disch := first | assumption | omega | (simp only [nx]; omega) | ((repeat refine Fresh.push ?_ _); assumption) | (simp only [smA]; done) | (simp [oneCell, AW.next_push]; done) | fail) only [go_sem, Nat.reduceEqDiff, reduceIte, Nat.reduceAdd, Int.toNat_natCast, Nat.add_zero, Owes_true, Try.results34, hm]
    exact ⟨by simp [rankV, rankE, hm], g⟩
  | true =>
  have hi : 1 ≤ l.length ∧ l.length ≤ 8 := by
    unfold isOrd at hm
    simp only [Bool.and_eq_true, inR_iff] at hm
    omega
  have hv2 := hv.grown g
  obtain ⟨_, _, epd, _, _, hat⟩ := hv2.open
  injection epd with epd1 epd2 epd3
  subst epd1 epd3
  have htot := rankR_lt l hi.2
  have hh0 : horner 0 l = rankR l := by rw [horner_eq]; simp
  simp -dsimp -implicitDefEqProofs (maxSteps := 2000000) (disch := first | assumption | omega | (simp only [nx]; omega) | ((repeat refine Fresh.push ?_ _); assumption) | (simp only [smA]; done) | (simp [oneCell, AW.next_push]; done) | fail) only [go_sem, Nat.reduceEqDiff, reduceIte, Nat.reduceAdd, Int.toNat_natCast, Nat.add_zero, Owes_true, Try.results34, hm]
  refine loopR (fun k t ds w3 => ∃ i : Nat, i ≤ l.length ∧ k = l.length - i ∧ ds = [] ∧ ev t (.tmp 0) = .slice pv l.length cv ∧ ev t (.tmp 14) = .slice pv l.length cv ∧ ev t (.tmp 15) = .int .i64 (l.length : Int) ∧ ev t (.tmp 16) = .int .i64 (i : Int) ∧ w2 = w3 ∧ ∃ a : Nat, ev t (.tmp 4) = .int .i64 (a : Int) ∧ horner a (l.drop i) = rankR l) (l.length) ?_ ?_
  · refine ⟨0, by omega, by omega, rfl, ?_, ?_, ?_, ?_, rfl, 0, (by simp -dsimp -implicitDefEqProofs (maxSteps := 2000000) (disch := first | assumption | omega | (simp only [nx]; omega) | ((repeat refine Fresh.push ?_ _); assumption) | (simp only [smA]; done) | (simp [oneCell, AW.next_push]; done) | fail) only [go_sem, Nat.reduceEqDiff, reduceIte, Nat.reduceAdd, Int.toNat_natCast, Nat.add_zero, Owes_true]; try rfl), hh0⟩ <;> simp -dsimp -implicitDefEqProofs (maxSteps := 2000000) (disch := first | assumption | omega | (simp only [nx]; omega) | ((repeat refine Fresh.push ?_ _); assumption) | (simp only [smA]; done) | (simp [oneCell, AW.next_push]; done) | fail) only [go_sem, Nat.reduceEqDiff, reduceIte, Nat.reduceAdd, Int.toNat_natCast, Nat.add_zero, Owes_true] <;> rfl
  rintro k t ds w3 ⟨i, hii, rfl, rfl, e0, e14, e15, e16, hw, a, e4, ha⟩
  subst hw
  by_cases hlt : (i : Int) < (l.length : Int)
  case neg =>
    obtain rfl : i = l.length := by omega
    rw [List.drop_length] at ha
    simp only [horner] at ha
    simp -dsimp -implicitDefEqProofs (maxSteps := 2000000) (disch := first | assumption | omega | (simp only [nx]; omega) | ((repeat refine Fresh.push ?_ _); assumption) | (simp only [smA]; done) | (simp [oneCell, AW.next_push]; done) | fail) only [go_sem, Nat.reduceEqDiff, reduceIte, Nat.reduceAdd, Int.toNat_natCast, Nat.add_zero, Owes_true, Try.results34, e0, e4, e14, e15, e16, hlt]
    exact ⟨by rw [ha]; simp [rankV, rankE, hm], g⟩
  have hlt' : i < l.length := by omega
  obtain ⟨b1, o1, rfl, hb1, hcell⟩ := hat i hlt'
  have a0 := hcell w2 (.refl _ _) 0 _ rfl
  rw [Nat.add_zero] at a0
  obtain ⟨pd, cd, hsl, hAd⟩ := (hc.grown g.1).drop hv2 hlt'
  have hdl : (l.drop i).length = l.length - i := List.length_drop ..
  rw [← hdl] at hsl hAd
  obtain ⟨_, _, epd, _, _, had⟩ := hAd.open
  injection epd with epd1 epd2 epd3
  subst epd1 epd3
  have hhd := horner_drop (a := a) hlt'
  rw [ha] at hhd
  have hge := horner_le (l.drop (i + 1)) (a * (l.length - i) + lessN l[i] (l.drop i))
  rw [← hhd] at hge
  have hless := lessN_le l[i] (l.drop i)
  obtain ⟨D, hD⟩ : ∃ D, D = l.drop i := ⟨_, rfl⟩
  rw [← hD] at hdl hAd had hsl hge hhd hless
  simp -dsimp -implicitDefEqProofs (maxSteps := 2000000) (disch := first | assumption | omega | (simp only [nx]; omega) | ((repeat refine Fresh.push ?_ _); assumption) | (simp only [smA]; done) | (simp [oneCell, AW.next_push]; done) | fail) only [go_sem, Nat.reduceEqDiff, reduceIte, Nat.reduceAdd, Int.toNat_natCast, Nat.add_zero, Owes_true, Try.results34, e0, e4, e14, e15, e16, hlt, indexV_eq, a0, hsl]
  refine loopR (fun k t ds w4 => ∃ m : Nat, m ≤ D.length ∧ k = D.length - m ∧ ds = [] ∧ ev t (.tmp 0) = .slice (some ⟨b1, o1, none⟩) l.length cv ∧ ev t (.tmp 4) = .int .i64 (a : Int) ∧ ev t (.tmp 6) = .int .i64 l[i] ∧ ev t (.tmp 7) = .slice pd D.length cd ∧ ev t (.tmp 8) = .int .i64 (lessN l[i] (D.take m) : Int) ∧ ev t (.tmp 14) = .slice (some ⟨b1, o1, none⟩) l.length cv ∧ ev t (.tmp 15) = .int .i64 (l.length : Int) ∧ ev t (.tmp 16) = .int .i64 (i : Int) ∧ ev t (.tmp 24) = .slice pd D.length cd ∧ ev t (.tmp 25) = .int .i64 (D.length : Int) ∧ ev t (.tmp 26) = .int .i64 (m : Int) ∧ w2 = w4) (D.length) ?_ ?_
  · refine ⟨0, by omega, by omega, rfl, ?_, ?_, ?_, ?_, ?_, ?_, ?_, ?_, ?_, ?_, ?_, rfl⟩ <;> simp -dsimp -implicitDefEqProofs (maxSteps := 2000000) (disch := first | assumption | omega | (simp only [nx]; omega) | ((repeat refine Fresh.push ?_ _); assumption) | (simp only [smA]; done) | (simp [oneCell, AW.next_push]; done) | fail) only [go_sem, Nat.reduceEqDiff, reduceIte, Nat.reduceAdd, Int.toNat_natCast, Nat.add_zero, Owes_true, e0, e4, e14, e15, e16] <;> rfl
  rintro k t ds w4 ⟨m, him, rfl, rfl, e0, e4, e6, e7, e8, e14, e15, e16, e24, e25, e26, hw⟩
  subst hw
  by_cases hlm : (m : Int) < (D.length : Int)
  case pos =>
    have hlm' : m < D.length := by omega
    obtain ⟨b2, o2, rfl, hb2, hc2⟩ := had m hlm'
    have a1 := hc2 w2 (.refl _ _) 0 _ rfl
    rw [Nat.add_zero] at a1
    have hln := lessTo_succ (x := l[i]) hlm'
    have hlb := lessN_le l[i] (D.take m)
    rw [List.length_take] at hlb
    generalize lessN l[i] (D.take m) = q at *
    by_cases hx : D[m] < l[i]
    · rw [if_pos hx] at hln
      simp -dsimp -implicitDefEqProofs (maxSteps := 2000000) (disch := first | assumption | omega | (simp only [nx]; omega) | ((repeat refine Fresh.push ?_ _); assumption) | (simp only [smA]; done) | (simp [oneCell, AW.next_push]; done) | fail) only [go_sem, Nat.reduceEqDiff, reduceIte, Nat.reduceAdd, Int.toNat_natCast, Nat.add_zero, Owes_true, Try.results34, e0, e4, e6, e7, e8, e14, e15, e16, e24, e25, e26, hlm, indexV_eq, a1, hx]
      refine ⟨_, by omega, m + 1, by omega, rfl, rfl, by (simp -dsimp -implicitDefEqProofs (maxSteps := 2000000) (disch := first | assumption | omega | (simp only [nx]; omega) | ((repeat refine Fresh.push ?_ _); assumption) | (simp only [smA]; done) | (simp [oneCell, AW.next_push]; done) | fail) only [go_sem, Nat.reduceEqDiff, reduceIte, Nat.reduceAdd, Int.toNat_natCast, Nat.add_zero, Owes_true, e0, hln]; try rfl), by (simp -dsimp -implicitDefEqProofs (maxSteps := 2000000) (disch := first | assumption | omega | (simp only [nx]; omega) | ((repeat refine Fresh.push ?_ _); assumption) | (simp only [smA]; done) | (simp [oneCell, AW.next_push]; done) | fail) only [go_sem, Nat.reduceEqDiff, reduceIte, Nat.reduceAdd, Int.toNat_natCast, Nat.add_zero, Owes_true, e4, hln]; try rfl), by (simp -dsimp -implicitDefEqProofs (maxSteps := 2000000) (disch := first | assumption | omega | (simp only [nx]; omega) | ((repeat refine Fresh.push ?_ _); assumption) | (simp only [smA]; done) | (simp [oneCell, AW.next_push]; done) | fail) only [go_sem, Nat.reduceEqDiff, reduceIte, Nat.reduceAdd, Int.toNat_natCast, Nat.add_zero, Owes_true, e6, hln]; try rfl), by (simp -dsimp -implicitDefEqProofs (maxSteps := 2000000) (disch := first | assumption | omega | (simp only [nx]; omega) | ((repeat refine Fresh.push ?_ _); assumption) | (simp only [smA]; done) | (simp [oneCell, AW.next_push]; done) | fail) only [go_sem, Nat.reduceEqDiff, reduceIte, Nat.reduceAdd, Int.toNat_natCast, Nat.add_zero, Owes_true, e7, hln]; try rfl), by (simp -dsimp -implicitDefEqProofs (maxSteps := 2000000) (disch := first | assumption | omega | (simp only [nx]; omega) | ((repeat refine Fresh.push ?_ _); assumption) | (simp only [smA]; done) | (simp [oneCell, AW.next_push]; done) | fail) only [go_sem, Nat.reduceEqDiff, reduceIte, Nat.reduceAdd, Int.toNat_natCast, Nat.add_zero, Owes_true, e8, hln]; try rfl), by (simp -dsimp -implicitDefEqProofs (maxSteps := 2000000) (disch := first | assumption | omega | (simp only [nx]; omega) | ((repeat refine Fresh.push ?_ _); assumption) | (simp only [smA]; done) | (simp [oneCell, AW.next_push]; done) | fail) only [go_sem, Nat.reduceEqDiff, reduceIte, Nat.reduceAdd, Int.toNat_natCast, Nat.add_zero, Owes_true, e14, hln]; try rfl), by (simp -dsimp -implicitDefEqProofs (maxSteps := 2000000) (disch := first | assumption | omega | (simp only [nx]; omega) | ((repeat refine Fresh.push ?_ _); assumption) | (simp only [smA]; done) | (simp [oneCell, AW.next_push]; done) | fail) only [go_sem, Nat.reduceEqDiff, reduceIte, Nat.reduceAdd, Int.toNat_natCast, Nat.add_zero, Owes_true, e15, hln]; try rfl), by (simp -dsimp -implicitDefEqProofs (maxSteps := 2000000) (disch := first | assumption | omega | (simp only [nx]; omega) | ((repeat refine Fresh.push ?_ _); assumption) | (simp only [smA]; done) | (simp [oneCell, AW.next_push]; done) | fail) only [go_sem, Nat.reduceEqDiff, reduceIte, Nat.reduceAdd, Int.toNat_natCast, Nat.add_zero, Owes_true, e16, hln]; try rfl), by (simp -dsimp -implicitDefEqProofs (maxSteps := 2000000) (disch := first | assumption | omega | (simp only [nx]; omega) | ((repeat refine Fresh.push ?_ _); assumption) | (simp only [smA]; done) | (simp [oneCell, AW.next_push]; done) | fail) only [go_sem, Nat.reduceEqDiff, reduceIte, Nat.reduceAdd, Int.toNat_natCast, Nat.add_zero, Owes_true, e24, hln]; try rfl), by (simp -dsimp -implicitDefEqProofs (maxSteps := 2000000) (disch := first | assumption | omega | (simp only [nx]; omega) | ((repeat refine Fresh.push ?_ _); assumption) | (simp only [smA]; done) | (simp [oneCell, AW.next_push]; done) | fail) only [go_sem, Nat.reduceEqDiff, reduceIte, Nat.reduceAdd, Int.toNat_natCast, Nat.add_zero, Owes_true, e25, hln]; try rfl), by (simp -dsimp -implicitDefEqProofs (maxSteps := 2000000) (disch := first | assumption | omega | (simp only [nx]; omega) | ((repeat refine Fresh.push ?_ _); assumption) | (simp only [smA]; done) | (simp [oneCell, AW.next_push]; done) | fail) only [go_sem, Nat.reduceEqDiff, reduceIte, Nat.reduceAdd, Int.toNat_natCast, Nat.add_zero, Owes_true, e26, hln]; try rfl), rfl⟩
    · rw [if_neg hx, Nat.add_zero] at hln
      simp -dsimp -implicitDefEqProofs (maxSteps := 2000000) (disch := first | assumption | omega | (simp only [nx]; omega) | ((repeat refine Fresh.push ?_ _); assumption) | (simp only [smA]; done) | (simp [oneCell, AW.next_push]; done) | fail) only [go_sem, Nat.reduceEqDiff, reduceIte, Nat.reduceAdd, Int.toNat_natCast, Nat.add_zero, Owes_true, Try.results34, e0, e4, e6, e7, e8, e14, e15, e16, e24, e25, e26, hlm, indexV_eq, a1, hx]
      refine ⟨_, by omega, m + 1, by omega, rfl, rfl, by (simp -dsimp -implicitDefEqProofs (maxSteps := 2000000) (disch := first | assumption | omega | (simp only [nx]; omega) | ((repeat refine Fresh.push ?_ _); assumption) | (simp only [smA]; done) | (simp [oneCell, AW.next_push]; done) | fail) only [go_sem, Nat.reduceEqDiff, reduceIte, Nat.reduceAdd, Int.toNat_natCast, Nat.add_zero, Owes_true, e0, hln]; try rfl), by (simp -dsimp -implicitDefEqProofs (maxSteps := 2000000) (disch := first | assumption | omega | (simp only [nx]; omega) | ((repeat refine Fresh.push ?_ _); assumption) | (simp only [smA]; done) | (simp [oneCell, AW.next_push]; done) | fail) only [go_sem, Nat.reduceEqDiff, reduceIte, Nat.reduceAdd, Int.toNat_natCast, Nat.add_zero, Owes_true, e4, hln]; try rfl), by (simp -dsimp -implicitDefEqProofs (maxSteps := 2000000) (disch := first | assumption | omega | (simp only [nx]; omega) | ((repeat refine Fresh.push ?_ _); assumption) | (simp only [smA]; done) | (simp [oneCell, AW.next_push]; done) | fail) only [go_sem, Nat.reduceEqDiff, reduceIte, Nat.reduceAdd, Int.toNat_natCast, Nat.add_zero, Owes_true, e6, hln]; try rfl), by (simp -dsimp -implicitDefEqProofs (maxSteps := 2000000) (disch := first | assumption | omega | (simp only [nx]; omega) | ((repeat refine Fresh.push ?_ _); assumption) | (simp only [smA]; done) | (simp [oneCell, AW.next_push]; done) | fail) only [go_sem, Nat.reduceEqDiff, reduceIte, Nat.reduceAdd, Int.toNat_natCast, Nat.add_zero, Owes_true, e7, hln]; try rfl), by (simp -dsimp -implicitDefEqProofs (maxSteps := 2000000) (disch := first | assumption | omega | (simp only [nx]; omega) | ((repeat refine Fresh.push ?_ _); assumption) | (simp only [smA]; done) | (simp [oneCell, AW.next_push]; done) | fail) only [go_sem, Nat.reduceEqDiff, reduceIte, Nat.reduceAdd, Int.toNat_natCast, Nat.add_zero, Owes_true, e8, hln]; try rfl), by (simp -dsimp -implicitDefEqProofs (maxSteps := 2000000) (disch := first | assumption | omega | (simp only [nx]; omega) | ((repeat refine Fresh.push ?_ _); assumption) | (simp only [smA]; done) | (simp [oneCell, AW.next_push]; done) | fail) only [go_sem, Nat.reduceEqDiff, reduceIte, Nat.reduceAdd, Int.toNat_natCast, Nat.add_zero, Owes_true, e14, hln]; try rfl), by (simp -dsimp -implicitDefEqProofs (maxSteps := 2000000) (disch := first | assumption | omega | (simp only [nx]; omega) | ((repeat refine Fresh.push ?_ _); assumption) | (simp only [smA]; done) | (simp [oneCell, AW.next_push]; done) | fail) only [go_sem, Nat.reduceEqDiff, reduceIte, Nat.reduceAdd, Int.toNat_natCast, Nat.add_zero, Owes_true, e15, hln]; try rfl), by (simp -dsimp -implicitDefEqProofs (maxSteps := 2000000) (disch := first | assumption | omega | (simp only [nx]; omega) | ((repeat refine Fresh.push ?_ _); assumption) | (simp only [smA]; done) | (simp [oneCell, AW.next_push]; done) | fail) only [go_sem, Nat.reduceEqDiff, reduceIte, Nat.reduceAdd, Int.toNat_natCast, Nat.add_zero, Owes_true, e16, hln]; try rfl), by (simp -dsimp -implicitDefEqProofs (maxSteps := 2000000) (disch := first | assumption | omega | (simp only [nx]; omega) | ((repeat refine Fresh.push ?_ _); assumption) | (simp only [smA]; done) | (simp [oneCell, AW.next_push]; done) | fail) only [go_sem, Nat.reduceEqDiff, reduceIte, Nat.reduceAdd, Int.toNat_natCast, Nat.add_zero, Owes_true, e24, hln]; try rfl), by (simp -dsimp -implicitDefEqProofs (maxSteps := 2000000) (disch := first | assumption | omega | (simp only [nx]; omega) | ((repeat refine Fresh.push ?_ _); assumption) | (simp only [smA]; done) | (simp [oneCell, AW.next_push]; done) | fail) only [go_sem, Nat.reduceEqDiff, reduceIte, Nat.reduceAdd, Int.toNat_natCast, Nat.add_zero, Owes_true, e25, hln]; try rfl), by (simp -dsimp -implicitDefEqProofs (maxSteps := 2000000) (disch := first | assumption | omega | (simp only [nx]; omega) | ((repeat refine Fresh.push ?_ _); assumption) | (simp only [smA]; done) | (simp [oneCell, AW.next_push]; done) | fail) only [go_sem, Nat.reduceEqDiff, reduceIte, Nat.reduceAdd, Int.toNat_natCast, Nat.add_zero, Owes_true, e26, hln]; try rfl), rfl⟩
  obtain rfl : m = D.length := by omega
  rw [List.take_of_length_le (Nat.le_refl _)] at e8
  generalize lessN l[i] D = q at *
  have hmul : (a : Int) * (D.length : Int) = ((a * (l.length - i) : Nat) : Int) := by rw [hdl]; push_cast; rfl
  have hmb : a * (l.length - i) ≤ 40320 := by omega
  have hadd : ((a * (l.length - i) : Nat) : Int) + (q : Int) = ((a * (l.length - i) + q : Nat) : Int) := by push_cast; rfl
  generalize a * (l.length - i) = z at *
  simp -dsimp -implicitDefEqProofs (maxSteps := 2000000) (disch := first | assumption | omega | (simp only [nx]; omega) | ((repeat refine Fresh.push ?_ _); assumption) | (simp only [smA]; done) | (simp [oneCell, AW.next_push]; done) | fail) only [go_sem, Nat.reduceEqDiff, reduceIte, Nat.reduceAdd, Int.toNat_natCast, Nat.add_zero, Owes_true, Try.results34, e0, e4, e6, e7, e8, e14, e15, e16, e24, e25, e26, hlm, hmul, hadd]
  refine ⟨_, by omega, i + 1, by omega, rfl, rfl, by (simp -dsimp -implicitDefEqProofs (maxSteps := 2000000) (disch := first | assumption | omega | (simp only [nx]; omega) | ((repeat refine Fresh.push ?_ _); assumption) | (simp only [smA]; done) | (simp [oneCell, AW.next_push]; done) | fail) only [go_sem, Nat.reduceEqDiff, reduceIte, Nat.reduceAdd, Int.toNat_natCast, Nat.add_zero, Owes_true, e0]; try rfl), by (simp -dsimp -implicitDefEqProofs (maxSteps := 2000000) (disch := first | assumption | omega | (simp only [nx]; omega) | ((repeat refine Fresh.push ?_ _); assumption) | (simp only [smA]; done) | (simp [oneCell, AW.next_push]; done) | fail) only [go_sem, Nat.reduceEqDiff, reduceIte, Nat.reduceAdd, Int.toNat_natCast, Nat.add_zero, Owes_true, e14]; try rfl), by (simp -dsimp -implicitDefEqProofs (maxSteps := 2000000) (disch := first | assumption | omega | (simp only [nx]; omega) | ((repeat refine Fresh.push ?_ _); assumption) | (simp only [smA]; done) | (simp [oneCell, AW.next_push]; done) | fail) only [go_sem, Nat.reduceEqDiff, reduceIte, Nat.reduceAdd, Int.toNat_natCast, Nat.add_zero, Owes_true, e15]; try rfl), by (simp -dsimp -implicitDefEqProofs (maxSteps := 2000000) (disch := first | assumption | omega | (simp only [nx]; omega) | ((repeat refine Fresh.push ?_ _); assumption) | (simp only [smA]; done) | (simp [oneCell, AW.next_push]; done) | fail) only [go_sem, Nat.reduceEqDiff, reduceIte, Nat.reduceAdd, Int.toNat_natCast, Nat.add_zero, Owes_true, e16]; try rfl), rfl, z + q, (by simp -dsimp -implicitDefEqProofs (maxSteps := 2000000) (disch := first | assumption | omega | (simp only [nx]; omega) | ((repeat refine Fresh.push ?_ _); assumption) | (simp only [smA]; done) | (simp [oneCell, AW.next_push]; done) | fail) only [go_sem, Nat.reduceEqDiff, reduceIte, Nat.reduceAdd, Int.toNat_natCast, Nat.add_zero, Owes_true]; try rfl), hhd.symm⟩
end Go.Proofs

namespace Go.Proofs
open Go Go.RowKit Go.Sim
set_option maxRecDepth 100000
end Go.Proofs

namespace Go.Proofs
open Go Go.RowKit Go.Sim
set_option maxRecDepth 100000
end Go.Proofs

namespace Go.Proofs
open Go Go.RowKit Go.Sim
set_option maxRecDepth 100000
def Srch (L : List Int) (lo hi : Int) : Prop := 0 ≤ lo ∧ lo ≤ hi ∧ hi ≤ 640000 ∧ (lo = 0 ∨ 64 < needL L (lo - 1)) ∧ needL L hi ≤ 64
theorem Srch.done {L : List Int} {lo hi : Int} (h : Srch L lo hi) (he : ¬ lo < hi) : LeastRisk L lo := by
  obtain ⟨a, b, c, d, e⟩ := h
  obtain rfl : lo = hi := by omega
  exact ⟨a, c, e, d⟩
end Go.Proofs

namespace Go.Proofs
open Go Go.RowKit Go.Sim
set_option maxRecDepth 100000
theorem Sum_ok (L : List Int) (v : Value) (w : AW) (hs : ArrOf w 1 icells v L) :
    CallT Try.prog Try.T1 (.fn (.func 48) #[]) #[v] w (fun r w' => w = w' ∧ ∃ n : Int, r = .int .i64 n ∧ (smallL L → n = L.sum)) := by
  obtain ⟨pp, cp, rfl, _, _, hat⟩ := hs.open
  refine callT_code rfl Try.func48 rfl Try.s48_eq rfl ?_
  unfold Try.s48
  simp -dsimp -implicitDefEqProofs (maxSteps := 2000000) (disch := first | assumption | omega | (simp only [nx]; omega) | ((repeat refine Fresh.push ?_ _); assumption) | (simp only [smA]; done) | (simp [oneCell, AW.next_push]; done) | fail) only [go_sem, Nat.reduceEqDiff, reduceIte, Nat.reduceAdd, Int.toNat_natCast, Nat.add_zero, Owes_true, Try.results48]
  refine loopR (fun k t ds w1 => ∃ i : Nat, i ≤ L.length ∧ k = L.length - i ∧ ds = [] ∧ ev t (.tmp 0) = .slice pp L.length cp ∧ ev t (.tmp 4) = .int .i64 (i : Int) ∧ w = w1 ∧ ∃ s : Int, ev t (.tmp 3) = .int .i64 s ∧ (smallL L → s = (L.take i).sum ∧ 0 ≤ s ∧ s ≤ (i : Int) * 65536)) (L.length) ?_ ?_
  · refine ⟨0, by omega, by omega, rfl, ?_, ?_, rfl, 0, by simp -dsimp -implicitDefEqProofs (maxSteps := 2000000) (disch := first | assumption | omega | (simp only [nx]; omega) | ((repeat refine Fresh.push ?_ _); assumption) | (simp only [smA]; done) | (simp [oneCell, AW.next_push]; done) | fail) only [go_sem, Nat.reduceEqDiff, reduceIte, Nat.reduceAdd, Int.toNat_natCast, Nat.add_zero, Owes_true], fun _ => by simp⟩ <;> simp -dsimp -implicitDefEqProofs (maxSteps := 2000000) (disch := first | assumption | omega | (simp only [nx]; omega) | ((repeat refine Fresh.push ?_ _); assumption) | (simp only [smA]; done) | (simp [oneCell, AW.next_push]; done) | fail) only [go_sem, Nat.reduceEqDiff, reduceIte, Nat.reduceAdd, Int.toNat_natCast, Nat.add_zero, Owes_true] <;> rfl
  rintro k t ds w1 ⟨i, hii, rfl, rfl, e0, e4, hw, s, e3, hsm⟩
  subst hw
  by_cases hlt : (i : Int) < (L.length : Int)
  case neg =>
    obtain rfl : i = L.length := by omega
    simp -dsimp -implicitDefEqProofs (maxSteps := 2000000) (disch := first | assumption | omega | (simp only [nx]; omega) | ((repeat refine Fresh.push ?_ _); assumption) | (simp only [smA]; done) | (simp [oneCell, AW.next_push]; done) | fail) only [go_sem, Nat.reduceEqDiff, reduceIte, Nat.reduceAdd, Int.toNat_natCast, Nat.add_zero, Owes_true, Try.results48, e0, e3, e4, hlt]
    exact ⟨trivial, s, rfl, fun h1 => by rw [(hsm h1).1, List.take_of_length_le (Nat.le_refl _)]⟩
  have hlt' : i < L.length := by omega
  obtain ⟨b1, o1, rfl, hb1, hcell⟩ := hat i hlt'
  have a0 := hcell w (.refl _ _) 0 _ rfl
  rw [Nat.add_zero] at a0
  simp -dsimp -implicitDefEqProofs (maxSteps := 2000000) (disch := first | assumption | omega | (simp only [nx]; omega) | ((repeat refine Fresh.push ?_ _); assumption) | (simp only [smA]; done) | (simp [oneCell, AW.next_push]; done) | fail) only [go_sem, Nat.reduceEqDiff, reduceIte, Nat.reduceAdd, Int.toNat_natCast, Nat.add_zero, Owes_true, Try.results48, e0, e3, e4, hlt, indexV_eq, a0]
  refine ⟨_, by omega, i + 1, by omega, rfl, rfl, by (simp -dsimp -implicitDefEqProofs (maxSteps := 2000000) (disch := first | assumption | omega | (simp only [nx]; omega) | ((repeat refine Fresh.push ?_ _); assumption) | (simp only [smA]; done) | (simp [oneCell, AW.next_push]; done) | fail) only [go_sem, Nat.reduceEqDiff, reduceIte, Nat.reduceAdd, Int.toNat_natCast, Nat.add_zero, Owes_true, e0]; try rfl), by (simp -dsimp -implicitDefEqProofs (maxSteps := 2000000) (disch := first | assumption | omega | (simp only [nx]; omega) | ((repeat refine Fresh.push ?_ _); assumption) | (simp only [smA]; done) | (simp [oneCell, AW.next_push]; done) | fail) only [go_sem, Nat.reduceEqDiff, reduceIte, Nat.reduceAdd, Int.toNat_natCast, Nat.add_zero, Owes_true, e4]; try rfl), rfl, _, (by simp -dsimp -implicitDefEqProofs (maxSteps := 2000000) (disch := first | assumption | omega | (simp only [nx]; omega) | ((repeat refine Fresh.push ?_ _); assumption) | (simp only [smA]; done) | (simp [oneCell, AW.next_push]; done) | fail) only [go_sem, Nat.reduceEqDiff, reduceIte, Nat.reduceAdd, Int.toNat_natCast, Nat.add_zero, Owes_true, e3]), sum_next hlt' hsm⟩
end Go.Proofs

namespace Go.Sim
open Go Go.RowKit
theorem aNew_first {w : AW} {size m : Nat} {x : Value} {new : List Value} (h : aNew w size m x = some new) (hm : 1 ≤ m) : aFirst w size m x = some new := by
  unfold aNew at h
  cases q : aFirst w size m x with
  | some l => rw [q] at h; exact h
  | none =>
    rw [q] at h
    cases m with
    | zero => omega
    | succ m => cases h
theorem append_own0R {g : Prg} {w : AW} {B : Nat} {ty e : TypeId} {a1 a2 : Bool} {n1 b1 size b2 : Nat} {d2 : TypeDesc} {z1 z2 : Value} (h : g.ty ty = some ⟨a1, .slice e, n1, b1, z1⟩) (h2 : g.ty e = some ⟨a2, d2, size, b2, z2⟩) (hz : z2.cells.size = size) (hs : 1 ≤ size)
    {v : Value} {n : Nat} {cells : List Value} (hv : AOwn B w e size v n cells) (f : Fresh w) (hB : B ≤ w.next) {x : Value} {m cap : Nat} {p : Option Addr} {new : List Value} (hx : x = .slice p m cap) (hnew : aNew w size m x = some new) (hlen : new.length = m * size) (h1 : ∀ y ∈ new, oneCell y = true) (hr1 : n + m ≤ 140737488355328) (hr2 : (n + m) * b2 ≤ 140737488355328) :
    ∃ v' w', append g w ty ty v x = some (v', w') ∧ AOwn B w' e size v' (n + m) (cells ++ new) ∧ Keep B w w' ∧ Fresh w' ∧ WLe w w' := by
  by_cases hm : 1 ≤ m
  · obtain ⟨v', w', a, b, c, d, _, ap⟩ := append_own2R h h2 hz hs hv f hB hx (aNew_first hnew hm) hlen h1 hm hr1 hr2
    exact ⟨v', w', a, b, c, d, fun j y hj => by
      by_cases q : j < w.next
      · rw [ap.1 j q]; exact hj
      · rw [f.1 j (by omega)] at hj; cases hj⟩
  obtain rfl : m = 0 := by omega
  obtain rfl : new = [] := List.length_eq_zero_iff.mp (by rw [hlen]; omega)
  subst hx
  have cond : (Nat.beq z2.cells.size size && Nat.ble (n + 0) room && Nat.ble ((n + 0) * b2) room && Nat.ble 1 size && Nat.beq ty ty) = true := by
    have : room = 140737488355328 := rfl
    simp only [Bool.and_eq_true]
    refine ⟨⟨⟨⟨by rw [hz]; exact Nat.beq_refl _, Nat.ble_eq.mpr (by omega)⟩, Nat.ble_eq.mpr (by omega)⟩, Nat.ble_eq.mpr hs⟩, Nat.beq_refl _⟩
  refine ⟨v, w, ?_, by rw [List.append_nil]; exact hv, .refl _ _, f, WLe.refl w⟩
  rcases hv with ⟨rfl, rfl, rfl⟩ | ⟨b, r, rfl, _⟩
  · unfold append
    simp only [h, h2, cond, hnew]
  · have hle : Nat.ble (n + 0) n = true := Nat.ble_eq.mpr (by omega)
    unfold append
    simp only [h, h2, cond, hnew, hle, aStores]
    rfl
theorem AOwn.weak {B C : Nat} {w : AW} {e : TypeId} {size n : Nat} {v : Value} {cells : List Value} (h : AOwn B w e size v n cells) (k : C ≤ B) : AOwn C w e size v n cells := by
  rcases h with h | ⟨b, r, a1, a2, a3, a4, a5, a6, a7, a9, a8⟩
  · exact .inl h
  · exact .inr ⟨b, r, a1, by omega, a3, by omega, a5, a6, a7, a9, fun j hj => let ⟨x, y⟩ := a8 j hj; ⟨by omega, y⟩⟩
theorem AOwn.cut {B : Nat} {w : AW} {e : TypeId} {size n : Nat} {v : Value} {cells : List Value} (h : AOwn B w e size v n cells) {a : Nat} (ha : a ≤ n) :
    ∃ p q c, ∀ w', Keep w.next w w' → sliceV w' size v none (some (.int .i64 (a : Int))) = some (.slice p a n) ∧ aNew w' size a (.slice p a n) = some (cells.take (a * size)) ∧
      sliceV w' size v (some (.int .i64 (a : Int))) none = some (.slice q (n - a) c) ∧ aNew w' size (n - a) (.slice q (n - a) c) = some (cells.drop (a * size)) := by
  rcases h with ⟨rfl, rfl, rfl⟩ | ⟨b, r, rfl, h1, h2, h3, h4, h5, h6, h7, _⟩
  · obtain rfl : a = 0 := by omega
    exact ⟨none, none, 0, fun w' _ => ⟨rfl, by simp [aNew, aFirst], rfl, by simp [aNew, aFirst]⟩⟩
  · have hle : a * size ≤ n * size := Nat.mul_le_mul_right _ ha
    have b1 : Nat.ble 0 a = true := rfl
    have b2 : Nat.ble a n = true := Nat.ble_eq_true_of_le ha
    have b3 : Nat.ble n n = true := Nat.ble_eq_true_of_le (Nat.le_refl _)
    have b4 : Nat.beq size size = true := Nat.beq_refl _
    refine ⟨some ⟨b, 0 + 0 * size, none⟩, some ⟨b, 0 + a * size, none⟩, n - a, fun w' k => ?_⟩
    have h5 : w'.blk b = some (.cells cells e r 0 size) := by rw [k.blk b h2]; exact h5
    have hc : ∀ (i : Nat) v, cells[i]? = some v → w'.cell? ⟨b, i, none⟩ = some v := fun i v hv => by
      simp only [AW.cell?, h5, getL_eq, hv, h7 v (List.mem_of_getElem? hv)]
    refine ⟨?_, ?_, ?_, ?_⟩
    · show sliceV w' size (.slice (some ⟨b, 0, none⟩) n n) none (some (.int .i64 (Int.ofNat a))) = _
      simp only [sliceV, natOr, b1, b2, h5, b4, Bool.true_or, Bool.and_self, Nat.sub_zero]
    · have ht : (cells.take (a * size)).length = a * size := by rw [List.length_take, h6]; omega
      have := aCells_of (w := w') (b := b) (cells.take (a * size)) (0 + 0 * size) fun i v hv => by
        rw [List.getElem?_take] at hv
        split at hv
        · rw [show 0 + 0 * size + i = i by omega]; exact hc i v hv
        · cases hv
      rw [ht] at this
      simp only [aNew, aFirst, this]
    · show sliceV w' size (.slice (some ⟨b, 0, none⟩) n n) (some (.int .i64 (Int.ofNat a))) none = _
      simp only [sliceV, natOr, b3, b2, h5, b4, Bool.true_or, Bool.and_self]
    · have ht : (cells.drop (a * size)).length = (n - a) * size := by rw [List.length_drop, h6, Nat.sub_mul]
      have := aCells_of (w := w') (b := b) (cells.drop (a * size)) (0 + a * size) fun i v hv => by
        rw [List.getElem?_drop] at hv
        rw [show 0 + a * size + i = a * size + i by omega]; exact hc _ v hv
      rw [ht] at this
      simp only [aNew, aFirst, this]
end Go.Sim

namespace Go.Proofs
open Go Go.RowKit Go.Sim
set_option maxRecDepth 100000
theorem Seek_ok (l : List Int) (x : Int) (v : Value) (w : AW) (hs : ArrOf w 1 icells v l) :
    CallT Try.prog Try.T1 (.fn (.func 53) #[]) #[v, .int .i64 x] w (fun r w' => w = w' ∧ ∃ n : Int, r = .int .i64 n ∧ ((∃ k : Nat, n = k ∧ k < l.length ∧ W l k = x ∧ ∀ j, j < k → W l j ≠ x) ∨ (n = -1 ∧ ∀ j, j < l.length → W l j ≠ x))) := by
  obtain ⟨pp, cp, rfl, _, _, hat⟩ := hs.open
  refine callT_code rfl Try.func53 rfl Try.s53_eq rfl ?_
  unfold Try.s53
  simp -dsimp -implicitDefEqProofs (maxSteps := 2000000) (disch := first | assumption | omega | (simp only [nx]; omega) | ((repeat refine Fresh.push ?_ _); assumption) | (simp only [smA]; done) | (simp [oneCell, AW.next_push]; done) | fail) only [go_sem, Nat.reduceEqDiff, reduceIte, Nat.reduceAdd, Int.toNat_natCast, Nat.add_zero, Owes_true, Try.results53]
  refine loopR (fun k t ds w1 => ∃ i : Nat, i ≤ l.length ∧ k = l.length - i ∧ ds = [] ∧ ev t (.tmp 0) = .slice pp l.length cp ∧ ev t (.tmp 1) = .int .i64 x ∧ ev t (.tmp 5) = .int .i64 (i : Int) ∧ w = w1 ∧ ∀ j, j < i → W l j ≠ x) (l.length) ?_ ?_
  · refine ⟨0, by omega, by omega, rfl, ?_, ?_, ?_, rfl, fun j h => by omega⟩ <;> simp -dsimp -implicitDefEqProofs (maxSteps := 2000000) (disch := first | assumption | omega | (simp only [nx]; omega) | ((repeat refine Fresh.push ?_ _); assumption) | (simp only [smA]; done) | (simp [oneCell, AW.next_push]; done) | fail) only [go_sem, Nat.reduceEqDiff, reduceIte, Nat.reduceAdd, Int.toNat_natCast, Nat.add_zero, Owes_true] <;> rfl
  rintro k t ds w1 ⟨i, hii, rfl, rfl, e0, e1, e5, hw, hno⟩
  subst hw
  by_cases hlt : (i : Int) < (l.length : Int)
  case neg =>
    obtain rfl : i = l.length := by omega
    simp -dsimp -implicitDefEqProofs (maxSteps := 2000000) (disch := first | assumption | omega | (simp only [nx]; omega) | ((repeat refine Fresh.push ?_ _); assumption) | (simp only [smA]; done) | (simp [oneCell, AW.next_push]; done) | fail) only [go_sem, Nat.reduceEqDiff, reduceIte, Nat.reduceAdd, Int.toNat_natCast, Nat.add_zero, Owes_true, Try.results53, e0, e1, e5, hlt]
    exact ⟨trivial, -1, rfl, .inr ⟨rfl, hno⟩⟩
  have hlt' : i < l.length := by omega
  obtain ⟨b1, o1, rfl, hb1, hcell⟩ := hat i hlt'
  have a0 := hcell w (.refl _ _) 0 _ rfl
  rw [Nat.add_zero] at a0
  by_cases hx : l[i] = x
  · have hd : decide (l[i] = x) = true := decide_eq_true hx
    simp -dsimp -implicitDefEqProofs (maxSteps := 2000000) (disch := first | assumption | omega | (simp only [nx]; omega) | ((repeat refine Fresh.push ?_ _); assumption) | (simp only [smA]; done) | (simp [oneCell, AW.next_push]; done) | fail) only [go_sem, Nat.reduceEqDiff, reduceIte, Nat.reduceAdd, Int.toNat_natCast, Nat.add_zero, Owes_true, Try.results53, e0, e1, e5, hlt, indexV_eq, a0, hd]
    exact ⟨trivial, (i : Int), rfl, .inl ⟨i, rfl, hlt', by rw [W_at hlt']; exact hx, hno⟩⟩
  · have hd : decide (l[i] = x) = false := decide_eq_false hx
    simp -dsimp -implicitDefEqProofs (maxSteps := 2000000) (disch := first | assumption | omega | (simp only [nx]; omega) | ((repeat refine Fresh.push ?_ _); assumption) | (simp only [smA]; done) | (simp [oneCell, AW.next_push]; done) | fail) only [go_sem, Nat.reduceEqDiff, reduceIte, Nat.reduceAdd, Int.toNat_natCast, Nat.add_zero, Owes_true, Try.results53, e0, e1, e5, hlt, indexV_eq, a0, hd]
    refine ⟨_, by omega, i + 1, by omega, rfl, rfl, by (simp -dsimp -implicitDefEqProofs (maxSteps := 2000000) (disch := first | assumption | omega | (simp only [nx]; omega) | ((repeat refine Fresh.push ?_ _); assumption) | (simp only [smA]; done) | (simp [oneCell, AW.next_push]; done) | fail) only [go_sem, Nat.reduceEqDiff, reduceIte, Nat.reduceAdd, Int.toNat_natCast, Nat.add_zero, Owes_true, e0]; try rfl), by (simp -dsimp -implicitDefEqProofs (maxSteps := 2000000) (disch := first | assumption | omega | (simp only [nx]; omega) | ((repeat refine Fresh.push ?_ _); assumption) | (simp only [smA]; done) | (simp [oneCell, AW.next_push]; done) | fail) only [go_sem, Nat.reduceEqDiff, reduceIte, Nat.reduceAdd, Int.toNat_natCast, Nat.add_zero, Owes_true, e1]; try rfl), by (simp -dsimp -implicitDefEqProofs (maxSteps := 2000000) (disch := first | assumption | omega | (simp only [nx]; omega) | ((repeat refine Fresh.push ?_ _); assumption) | (simp only [smA]; done) | (simp [oneCell, AW.next_push]; done) | fail) only [go_sem, Nat.reduceEqDiff, reduceIte, Nat.reduceAdd, Int.toNat_natCast, Nat.add_zero, Owes_true, e5]; try rfl), rfl, fun j h q => by rcases Nat.lt_or_ge j i with z | z; exact hno j z q; exact hx (by rw [← W_at hlt', show i = j by omega]; exact q)⟩
theorem Ring_ok (a b : Int) (hb1 : b ≤ 4611686018427387904) (w : AW) :
    CallT Try.prog Try.T1 (.fn (.func 49) #[]) #[.int .i64 a, .int .i64 b] w (Ret (.int .i64 (if b ≤ 0 then 0 else a % b)) fun w' => w = w') := by
  refine callT_code rfl Try.func49 rfl Try.s49_eq rfl ?_
  unfold Try.s49
  by_cases hb : b ≤ 0
  · rw [if_pos hb]
    simp -dsimp -implicitDefEqProofs (maxSteps := 2000000) (disch := first | assumption | omega | (simp only [nx]; omega) | ((repeat refine Fresh.push ?_ _); assumption) | (simp only [smA]; done) | (simp [oneCell, AW.next_push]; done) | fail) only [go_sem, Nat.reduceEqDiff, reduceIte, Nat.reduceAdd, Int.toNat_natCast, Nat.add_zero, Owes_true, Try.results49, hb]
    exact ⟨rfl, rfl⟩
  · rw [if_neg hb]
    have h0 : ¬ b = 0 := by omega
    have h1 := Int.tmod_lt_of_pos a (b := b) (by omega)
    have h2 : -b < a.tmod b := by
      have := Int.lt_tmod_of_pos a (b := b) (by omega)
      omega
    have h3 : (a.tmod b + b).tmod b = a % b := by
      rw [Int.tmod_eq_emod_of_nonneg (by omega), Int.add_emod_right]
      have := Int.mul_tdiv_add_tmod a b
      conv => rhs; rw [← this]
      rw [Int.add_comm, Int.add_mul_emod_self_left]
    simp -dsimp -implicitDefEqProofs (maxSteps := 2000000) (disch := first | assumption | omega | (simp only [nx]; omega) | ((repeat refine Fresh.push ?_ _); assumption) | (simp only [smA]; done) | (simp [oneCell, AW.next_push]; done) | fail) only [go_sem, Nat.reduceEqDiff, reduceIte, Nat.reduceAdd, Int.toNat_natCast, Nat.add_zero, Owes_true, Try.results49, hb, h0, h3]
    exact ⟨rfl, rfl⟩
theorem take_eq {L M : List Int} {i : Nat} (h : L.take i = M.take i) (a : i < L.length) (b : i < M.length) : (L.take (i + 1) = M.take (i + 1)) ↔ L[i] = M[i] := by
  rw [List.take_succ_eq_append_getElem a, List.take_succ_eq_append_getElem b, h]
  exact ⟨fun e => by have := List.append_cancel_left e; injection this, fun e => by rw [e]⟩
set_option maxHeartbeats 4000000 in
theorem Same_ok (L M : List Int) (u v : Value) (w : AW) (hL : ArrOf w 1 icells u L) (hM : ArrOf w 1 icells v M) :
    CallT Try.prog Try.T1 (.fn (.func 22) #[]) #[u, v] w (Ret (.bool (decide (L = M))) fun w' => w = w') := by
  obtain ⟨p, cap, rfl, _, _, hatC⟩ := id hL.open
  obtain ⟨q, cq, rfl, _, _, hatH⟩ := id hM.open
  refine callT_code rfl Try.func22 rfl Try.s22_eq rfl ?_
  unfold Try.s22
  by_cases hl : (L.length : Int) = (M.length : Int)
  case neg =>
    have hd : decide ((L.length : Int) = (M.length : Int)) = false := decide_eq_false hl
    have hE : decide (L = M) = false := decide_eq_false fun e => hl (by rw [e])
    simp -dsimp -implicitDefEqProofs (maxSteps := 2000000) (disch := first | assumption | omega | (simp only [nx]; omega) | ((repeat refine Fresh.push ?_ _); assumption) | (simp only [smA]; done) | (simp [oneCell, AW.next_push]; done) | fail) only [go_sem, Nat.reduceEqDiff, reduceIte, Nat.reduceAdd, Int.toNat_natCast, Nat.add_zero, Owes_true, Try.results22, hd]
    refine loopR (fun k t ds w1 => ∃ i : Nat, i ≤ 0 ∧ k = 0 - i ∧ ds = [] ∧ ev t (.tmp 5) = .bool false ∧ w = w1) (0) ?_ ?_
    · refine ⟨0, by omega, by omega, rfl, ?_, rfl⟩ <;> simp -dsimp -implicitDefEqProofs (maxSteps := 2000000) (disch := first | assumption | omega | (simp only [nx]; omega) | ((repeat refine Fresh.push ?_ _); assumption) | (simp only [smA]; done) | (simp [oneCell, AW.next_push]; done) | fail) only [go_sem, Nat.reduceEqDiff, reduceIte, Nat.reduceAdd, Int.toNat_natCast, Nat.add_zero, Owes_true] <;> rfl
    rintro k t ds w1 ⟨i, hii, rfl, rfl, e5, hw⟩
    subst hw
    simp -dsimp -implicitDefEqProofs (maxSteps := 2000000) (disch := first | assumption | omega | (simp only [nx]; omega) | ((repeat refine Fresh.push ?_ _); assumption) | (simp only [smA]; done) | (simp [oneCell, AW.next_push]; done) | fail) only [go_sem, Nat.reduceEqDiff, reduceIte, Nat.reduceAdd, Int.toNat_natCast, Nat.add_zero, Owes_true, Try.results22, e5]
    exact ⟨by rw [hE], rfl⟩
  have hd : decide ((L.length : Int) = (M.length : Int)) = true := decide_eq_true hl
  simp -dsimp -implicitDefEqProofs (maxSteps := 2000000) (disch := first | assumption | omega | (simp only [nx]; omega) | ((repeat refine Fresh.push ?_ _); assumption) | (simp only [smA]; done) | (simp [oneCell, AW.next_push]; done) | fail) only [go_sem, Nat.reduceEqDiff, reduceIte, Nat.reduceAdd, Int.toNat_natCast, Nat.add_zero, Owes_true, Try.results22, hd]
  refine loopR (fun k t ds w1 => ∃ i : Nat, i ≤ L.length ∧ k = L.length - i ∧ ds = [] ∧ ev t (.tmp 0) = .slice p L.length cap ∧ ev t (.tmp 1) = .slice q M.length cq ∧ ev t (.tmp 6) = .int .i64 (i : Int) ∧ w = w1 ∧ ∃ B, ev t (.tmp 5) = .bool B ∧ (B = true → L.take i = M.take i) ∧ (B = false → L ≠ M)) (L.length) ?_ ?_
  · refine ⟨0, by omega, by omega, rfl, ?_, ?_, ?_, rfl, ⟨true, (by simp -dsimp -implicitDefEqProofs (maxSteps := 2000000) (disch := first | assumption | omega | (simp only [nx]; omega) | ((repeat refine Fresh.push ?_ _); assumption) | (simp only [smA]; done) | (simp [oneCell, AW.next_push]; done) | fail) only [go_sem, Nat.reduceEqDiff, reduceIte, Nat.reduceAdd, Int.toNat_natCast, Nat.add_zero, Owes_true]; try rfl), (fun _ => rfl), fun h => by cases h⟩⟩ <;> simp -dsimp -implicitDefEqProofs (maxSteps := 2000000) (disch := first | assumption | omega | (simp only [nx]; omega) | ((repeat refine Fresh.push ?_ _); assumption) | (simp only [smA]; done) | (simp [oneCell, AW.next_push]; done) | fail) only [go_sem, Nat.reduceEqDiff, reduceIte, Nat.reduceAdd, Int.toNat_natCast, Nat.add_zero, Owes_true] <;> rfl
  rintro k t ds w1 ⟨i, hii, rfl, rfl, e0, e1, e6, hw, hB⟩
  subst hw
  obtain ⟨B, e5, hB1, hB2⟩ := hB
  cases B with
  | false =>
    simp -dsimp -implicitDefEqProofs (maxSteps := 2000000) (disch := first | assumption | omega | (simp only [nx]; omega) | ((repeat refine Fresh.push ?_ _); assumption) | (simp only [smA]; done) | (simp [oneCell, AW.next_push]; done) | fail) only [go_sem, Nat.reduceEqDiff, reduceIte, Nat.reduceAdd, Int.toNat_natCast, Nat.add_zero, Owes_true, Try.results22, e5]
    exact ⟨by rw [decide_eq_false (hB2 rfl)], rfl⟩
  | true =>
  have ha := hB1 rfl
  by_cases hlt : (i : Int) < (L.length : Int)
  case neg =>
    obtain rfl : i = L.length := by omega
    have hE : L = M := by rw [List.take_of_length_le (Nat.le_refl _), List.take_of_length_le (by omega)] at ha; exact ha
    simp -dsimp -implicitDefEqProofs (maxSteps := 2000000) (disch := first | assumption | omega | (simp only [nx]; omega) | ((repeat refine Fresh.push ?_ _); assumption) | (simp only [smA]; done) | (simp [oneCell, AW.next_push]; done) | fail) only [go_sem, Nat.reduceEqDiff, reduceIte, Nat.reduceAdd, Int.toNat_natCast, Nat.add_zero, Owes_true, Try.results22, e0, e1, e5, e6, hlt]
    exact ⟨by rw [decide_eq_true hE], rfl⟩
  have hlt' : i < L.length := by omega
  have hltM : i < M.length := by omega
  have hltM' : (i : Int) < (M.length : Int) := by omega
  have hte := take_eq ha hlt' hltM
  obtain ⟨b1, o1, rfl, hb1, hc1⟩ := hatC i hlt'
  obtain ⟨b2, o2, rfl, hb2, hc2⟩ := hatH i hltM
  have aC := hc1 _ (Keep.refl _ _) 0 _ rfl
  have aH := hc2 _ (Keep.refl _ _) 0 _ rfl
  simp only [Nat.add_zero] at aC aH
  by_cases hq : L[i] = M[i]
  · have hqd : decide (L[i] = M[i]) = true := decide_eq_true hq
    simp -dsimp -implicitDefEqProofs (maxSteps := 2000000) (disch := first | assumption | omega | (simp only [nx]; omega) | ((repeat refine Fresh.push ?_ _); assumption) | (simp only [smA]; done) | (simp [oneCell, AW.next_push]; done) | fail) only [go_sem, Nat.reduceEqDiff, reduceIte, Nat.reduceAdd, Int.toNat_natCast, Nat.add_zero, Owes_true, Try.results22, e0, e1, e5, e6, hlt, hltM', indexV_eq, aC, aH, hqd]
    refine ⟨_, by omega, i + 1, by omega, rfl, rfl, by (simp -dsimp -implicitDefEqProofs (maxSteps := 2000000) (disch := first | assumption | omega | (simp only [nx]; omega) | ((repeat refine Fresh.push ?_ _); assumption) | (simp only [smA]; done) | (simp [oneCell, AW.next_push]; done) | fail) only [go_sem, Nat.reduceEqDiff, reduceIte, Nat.reduceAdd, Int.toNat_natCast, Nat.add_zero, Owes_true, e0]; try rfl), by (simp -dsimp -implicitDefEqProofs (maxSteps := 2000000) (disch := first | assumption | omega | (simp only [nx]; omega) | ((repeat refine Fresh.push ?_ _); assumption) | (simp only [smA]; done) | (simp [oneCell, AW.next_push]; done) | fail) only [go_sem, Nat.reduceEqDiff, reduceIte, Nat.reduceAdd, Int.toNat_natCast, Nat.add_zero, Owes_true, e1]; try rfl), by (simp -dsimp -implicitDefEqProofs (maxSteps := 2000000) (disch := first | assumption | omega | (simp only [nx]; omega) | ((repeat refine Fresh.push ?_ _); assumption) | (simp only [smA]; done) | (simp [oneCell, AW.next_push]; done) | fail) only [go_sem, Nat.reduceEqDiff, reduceIte, Nat.reduceAdd, Int.toNat_natCast, Nat.add_zero, Owes_true, e6]; try rfl), rfl, ⟨true, (by simp -dsimp -implicitDefEqProofs (maxSteps := 2000000) (disch := first | assumption | omega | (simp only [nx]; omega) | ((repeat refine Fresh.push ?_ _); assumption) | (simp only [smA]; done) | (simp [oneCell, AW.next_push]; done) | fail) only [go_sem, Nat.reduceEqDiff, reduceIte, Nat.reduceAdd, Int.toNat_natCast, Nat.add_zero, Owes_true]; try rfl), (fun _ => hte.2 hq), fun h => by cases h⟩⟩
  · have hqd : decide (L[i] = M[i]) = false := decide_eq_false hq
    simp -dsimp -implicitDefEqProofs (maxSteps := 2000000) (disch := first | assumption | omega | (simp only [nx]; omega) | ((repeat refine Fresh.push ?_ _); assumption) | (simp only [smA]; done) | (simp [oneCell, AW.next_push]; done) | fail) only [go_sem, Nat.reduceEqDiff, reduceIte, Nat.reduceAdd, Int.toNat_natCast, Nat.add_zero, Owes_true, Try.results22, e0, e1, e5, e6, hlt, hltM', indexV_eq, aC, aH, hqd]
    refine ⟨_, by omega, i + 1, by omega, rfl, rfl, by (simp -dsimp -implicitDefEqProofs (maxSteps := 2000000) (disch := first | assumption | omega | (simp only [nx]; omega) | ((repeat refine Fresh.push ?_ _); assumption) | (simp only [smA]; done) | (simp [oneCell, AW.next_push]; done) | fail) only [go_sem, Nat.reduceEqDiff, reduceIte, Nat.reduceAdd, Int.toNat_natCast, Nat.add_zero, Owes_true, e0]; try rfl), by (simp -dsimp -implicitDefEqProofs (maxSteps := 2000000) (disch := first | assumption | omega | (simp only [nx]; omega) | ((repeat refine Fresh.push ?_ _); assumption) | (simp only [smA]; done) | (simp [oneCell, AW.next_push]; done) | fail) only [go_sem, Nat.reduceEqDiff, reduceIte, Nat.reduceAdd, Int.toNat_natCast, Nat.add_zero, Owes_true, e1]; try rfl), by (simp -dsimp -implicitDefEqProofs (maxSteps := 2000000) (disch := first | assumption | omega | (simp only [nx]; omega) | ((repeat refine Fresh.push ?_ _); assumption) | (simp only [smA]; done) | (simp [oneCell, AW.next_push]; done) | fail) only [go_sem, Nat.reduceEqDiff, reduceIte, Nat.reduceAdd, Int.toNat_natCast, Nat.add_zero, Owes_true, e6]; try rfl), rfl, ⟨false, (by simp -dsimp -implicitDefEqProofs (maxSteps := 2000000) (disch := first | assumption | omega | (simp only [nx]; omega) | ((repeat refine Fresh.push ?_ _); assumption) | (simp only [smA]; done) | (simp [oneCell, AW.next_push]; done) | fail) only [go_sem, Nat.reduceEqDiff, reduceIte, Nat.reduceAdd, Int.toNat_natCast, Nat.add_zero, Owes_true]; try rfl), (fun h => by cases h), fun _ e => hq (hte.1 (by rw [e]))⟩⟩
theorem Own_ok (l : List Int) (v : Value) (w : AW) (f : Fresh w) (hs : ArrOf w 1 icells v l) (hl : l.length ≤ 1048576) :
    CallT Try.prog Try.T1 (.fn (.func 50) #[]) #[v] w (fun r w' => Making w.next w' 3 1 r l.length (l.flatMap icells) ∧ Grown w w') := by
  obtain ⟨p, cap, rfl, _⟩ := id hs.open
  have g := (Grown.refl f).push (.cells [] 3 w.next 0 0)
  have hn := arr_new (hs.grown g) icells_len (Nat.le_refl _)
  obtain ⟨v', w', happ, hk, hf, hor⟩ := append_empty (b := w.next) (e' := 3) Try.ty22 Try.ty3 rfl (by omega) (blk_push_top _ _) g.2 rfl hn (by rw [icells_flat_len, Nat.mul_one]) (icells_ones l) (by omega) (by omega)
  refine callT_code rfl Try.func50 rfl Try.s50_eq rfl ?_
  unfold Try.s50
  simp -dsimp -implicitDefEqProofs (maxSteps := 2000000) (disch := first | assumption | omega | (simp only [nx]; omega) | ((repeat refine Fresh.push ?_ _); assumption) | (simp only [smA]; done) | (simp [oneCell, AW.next_push]; done) | fail) only [go_sem, Nat.reduceEqDiff, reduceIte, Nat.reduceAdd, Int.toNat_natCast, Nat.add_zero, Owes_true, Try.results50, happ]
  rcases hor with ⟨q, rfl, rfl⟩ | hA
  · have : l = [] := List.length_eq_zero_iff.mp q
    subst this
    exact ⟨.inl ⟨rfl, rfl, w.next, 3, rfl, by rw [AW.next_push]; omega, blk_push_top _ _⟩, g⟩
  · exact ⟨.inr (hA.weak (by rw [AW.next_push]; omega)), g.trans ⟨hk, hf⟩⟩
theorem making_app {B n : Nat} {v : Value} {w : AW} {A : List Int} (h : Making B w 3 1 v n (A.flatMap icells)) (f : Fresh w) (hB : B ≤ w.next) {x : Value} {M : List Int} (hx : ArrOf w 1 icells x M) (hr : n + M.length ≤ 1048576) :
    ∃ v' w', append (prg Try.prog) w 22 22 v x = some (v', w') ∧ Making B w' 3 1 v' (n + M.length) ((A ++ M).flatMap icells) ∧ Keep B w w' ∧ Fresh w' := by
  obtain ⟨p, cap, rfl, _⟩ := id hx.open
  have hn := arr_new hx icells_len (Nat.le_refl _)
  rw [List.flatMap_append]
  rcases h with ⟨rfl, h0, b, e', rfl, hb, hk⟩ | h
  · obtain ⟨v', w', happ, hkp, hf, hor⟩ := append_empty (b := b) (e' := e') Try.ty22 Try.ty3 rfl (by omega) hk f rfl hn (by rw [icells_flat_len, Nat.mul_one]) (icells_ones M) (by omega) (by omega)
    refine ⟨v', w', happ, ?_, hkp.mono hB, hf⟩
    rw [Nat.zero_add, h0, List.nil_append]
    rcases hor with ⟨q, rfl, rfl⟩ | hA
    · have : M = [] := List.length_eq_zero_iff.mp q
      subst this
      exact .inl ⟨rfl, rfl, b, e', rfl, hb, hk⟩
    · exact .inr (hA.weak hB)
  · obtain ⟨v', w', happ, hA, hkp, hf, _⟩ := append_own0R Try.ty22 Try.ty3 rfl (by omega) h f hB rfl hn (by rw [icells_flat_len, Nat.mul_one]) (icells_ones M) (by omega) (by omega)
    exact ⟨v', w', happ, .inr hA, hkp, hf⟩
theorem making_row {B n : Nat} {v : Value} {w : AW} {A : List Int} (h : Making B w 3 1 v n (A.flatMap icells)) (hn : A.length = n) (h1 : 1 ≤ n) : RowA B w v A := by
  rcases h with ⟨h0, _⟩ | h
  · omega
  · subst hn; exact h
theorem making_one {B n : Nat} {v : Value} {w : AW} {cells : List Value} (h : Making B w 3 1 v n cells) : oneCell v = true := by
  rcases h with ⟨_, _, b, e', rfl, _⟩ | h
  · rfl
  · exact AOwn.one h
theorem RowA.from {B : Nat} {w : AW} {v : Value} {L : List Int} {a : Nat} (h : RowA B w v L) (h1 : 1 ≤ L.length) (ha : a ≤ L.length) (hl : L.length ≤ 1048576) : ∃ b, v = .slice (some ⟨b, 0, none⟩) L.length L.length ∧ sliceV w 1 v (some (.int .i64 (a : Int))) none = some (.slice (some ⟨b, a, none⟩) (L.length - a) (L.length - a)) ∧ ArrOf w 1 icells (.slice (some ⟨b, a, none⟩) (L.length - a) (L.length - a)) (L.drop a) := by
  have hA := h.arr hl
  rcases h with ⟨_, h, _⟩ | ⟨b, r, rfl, _, hb, _, _, hk, _⟩
  · omega
  refine ⟨b, rfl, ?_, ?_⟩
  · have b1 : Nat.ble a L.length = true := Nat.ble_eq_true_of_le ha
    have b2 : Nat.ble L.length L.length = true := Nat.ble_eq_true_of_le (Nat.le_refl _)
    show sliceV w 1 (.slice (some ⟨b, 0, none⟩) L.length L.length) (some (.int .i64 (Int.ofNat a))) none = _
    have b3 : Nat.beq 1 1 = true := rfl
    simp only [sliceV, natOr, b1, b2, hk, Bool.and_self, b3, Bool.true_or, Nat.mul_one, Nat.zero_add]
  · obtain ⟨p', n, cap, e, hn, hc', hm, hat⟩ := hA
    injection e with e1 e2 e3
    subst e1 e2 e3
    obtain ⟨b', o', e, hb', hcell⟩ := hat (by omega)
    injection e with e
    injection e with e1 e2
    subst e1 e2
    refine ⟨_, _, _, rfl, by rw [List.length_map, List.length_drop], Nat.le_refl _, by omega, fun _ => ⟨b, a, rfl, hb, fun i j r x hi hx => ?_⟩⟩
    have hi' : (List.map icells L)[a + i]? = some r := by
      rw [← hi, List.getElem?_map, List.getElem?_map, List.getElem?_drop]
    have := hcell (a + i) j r x hi' hx
    rw [show 0 + (a + i) * 1 + j = a + i * 1 + j by omega] at this
    exact this
end Go.Proofs

namespace Go.Proofs
open Go Go.RowKit Go.Sim
set_option maxRecDepth 100000
def RowS (S : Nat → Prop) (w : AW) (v : Value) (L : List Int) : Prop := AOwnS S w 3 1 v L.length (L.flatMap icells)
theorem first1 {u : AW} {b : Nat} {x : Value} (hx : u.cell? ⟨b, 0, none⟩ = some x) : aFirst u 1 1 (.slice (some ⟨b, 0, none⟩) 1 1) = some [x] := by
  show aCells u b 0 (1 * 1) = some [x]
  simp only [Nat.one_mul, aCells, hx]
theorem RowS.app {S : Nat → Prop} {w : AW} {v : Value} {L : List Int} (h : RowS S w v L) (f : Fresh w) (hr : L.length + 1 ≤ 1048576) (x : Int) :
    ∃ v' w', append (prg Try.prog) (w.push (.cells [.int .i64 x] 3 w.next 0 0)) 22 22 v (.slice (some ⟨w.next, 0, none⟩) 1 1) = some (v', w') ∧ RowS (fun j => S j ∨ j = w.next + 1) w' v' (L ++ [x]) ∧ MutS S w w' ∧ w'.next = w.next + 1 + 1 := by
  have g := (Grown.refl f).push (.cells [.int .i64 x] 3 w.next 0 0)
  have o := Own.new f 3 [.int .i64 x]
  have hn : (w.push (.cells [.int .i64 x] 3 w.next 0 0)).next = w.next + 1 := AW.next_push _ _
  obtain ⟨v', w', h1, h2, h3, h4, h5, h6, _⟩ := append_anyS Try.ty22 Try.ty3 rfl (by omega) (by omega) (h.keep g.1) g.2 (first1 (o.cell (o := 0) rfl rfl)) rfl (fun y hy => by simp at hy; subst hy; rfl) hr
  rw [hn] at h2 h4 h5 h6
  refine ⟨v', w', h1, ?_, ⟨fun i hi _ => by rw [h5 i (by omega)]; exact g.1.blk i hi, fun i hi q => by rw [h6 i (by omega) q]; exact g.1.fam i hi, by omega, h3⟩, h4⟩
  unfold RowS
  rw [List.length_append, List.flatMap_append]
  exact h2
theorem making_same {B n : Nat} {v : Value} {w : AW} {cells : List Value} (h : Making B w 3 1 v n cells) : same 12 v v = true := by
  rcases h with ⟨_, _, b, e', rfl, _⟩ | ⟨rfl, _⟩ | ⟨b, r, rfl, _⟩
  · exact same_slice _ _ _ _
  · rfl
  · exact same_slice _ _ _ _
structure UnrR (w0 : AW) (n r : Nat) (w : AW) (m : Nat) (L acc : List Int) (r' : Nat) (u x : Value) : Prop where
  hm : m ≤ n
  len : L.length = m
  one : oneCell x = true
  rows : ∃ S T : Nat → Prop, (m = 0 ∨ RowS T w x L) ∧ RowS S w u acc ∧ (∀ j, S j → w0.next ≤ j ∧ j < w.next ∧ ¬ T j) ∧ (∀ j, T j → w0.next ≤ j)
  hr : r' < fct m
  eq : acc ++ unrI m L r' = ordI n r
  keep : Keep w0.next w0 w
  fresh : Fresh w
  hacc : acc.length + m = n
theorem sum_small : ∀ {L : List Int}, smallL L → L.sum ≤ (L.length : Int) * 65536
  | [], _ => by simp
  | x :: L, h => by
    have := sum_small (L := L) ⟨fun y hy => h.1 y (List.mem_cons_of_mem _ hy), by have := h.2; rw [List.length_cons] at this; omega⟩
    have := h.1 x List.mem_cons_self
    rw [List.sum_cons, List.length_cons]; push_cast
    omega
theorem rangeI_succ (i : Nat) : rangeI (i + 1) = rangeI i ++ [(i : Int)] := by
  unfold rangeI; rw [List.range_succ, List.map_append]; rfl
set_option maxHeartbeats 8000000 in
theorem unrankR_ok (n r : Nat) (h1 : 1 ≤ n) (h8 : n ≤ 8) (hr : r < fct n) (w : AW) (f : Fresh w) :
    CallT Try.prog Try.T1 (.fn (.func 91) #[]) #[.int .i64 (n : Int), .int .i64 (r : Int)] w (fun u w' => RowA w.next w' u (ordI n r) ∧ Grown w w') := by
  refine callT_code rfl Try.func91 rfl Try.s91_eq rfl ?_
  unfold Try.s91
  simp -dsimp -implicitDefEqProofs (maxSteps := 2000000) (disch := first | assumption | omega | (simp only [nx]; omega) | ((repeat refine Fresh.push ?_ _); assumption) | (simp only [smA]; done) | (simp [oneCell, AW.next_push]; done) | fail) only [go_sem, Nat.reduceEqDiff, reduceIte, Nat.reduceAdd, Int.toNat_natCast, Nat.add_zero, Owes_true, Try.results91]
  refine loopR (fun k t ds w1 => ∃ i : Nat, i ≤ n ∧ k = n - i ∧ ds = [] ∧ ev t (.tmp 0) = .int .i64 (n : Int) ∧ ev t (.tmp 1) = .int .i64 (r : Int) ∧ ev t (.tmp 6) = .slice none 0 0 ∧ ev t (.tmp 7) = .int .i64 (i : Int) ∧ ∃ x : Value, ev t (.tmp 5) = x ∧ RowA w.next w1 x (rangeI i) ∧ Grown w w1) (n) ?_ ?_
  · refine ⟨0, by omega, by omega, rfl, ?_, ?_, ?_, ?_, _, (by simp -dsimp -implicitDefEqProofs (maxSteps := 2000000) (disch := first | assumption | omega | (simp only [nx]; omega) | ((repeat refine Fresh.push ?_ _); assumption) | (simp only [smA]; done) | (simp [oneCell, AW.next_push]; done) | fail) only [go_sem, Nat.reduceEqDiff, reduceIte, Nat.reduceAdd, Int.toNat_natCast, Nat.add_zero, Owes_true]), RowA.nil _ _, Grown.refl f⟩ <;> simp -dsimp -implicitDefEqProofs (maxSteps := 2000000) (disch := first | assumption | omega | (simp only [nx]; omega) | ((repeat refine Fresh.push ?_ _); assumption) | (simp only [smA]; done) | (simp [oneCell, AW.next_push]; done) | fail) only [go_sem, Nat.reduceEqDiff, reduceIte, Nat.reduceAdd, Int.toNat_natCast, Nat.add_zero, Owes_true] <;> rfl
  rintro k t ds w1 ⟨i, hii, rfl, rfl, e0, e1, e6, e7, x, e5, hx, g1⟩
  by_cases hlt : (i : Int) < (n : Int)
  case pos =>
    have hlt' : i < n := by omega
    obtain ⟨u3, w3, happ, hA3, hk3, hf3, hn3⟩ := hx.app g1.2 g1.1.next (by rw [rangeI_len]; omega) (i : Int)
    rw [← rangeI_succ] at hA3
    simp -dsimp -implicitDefEqProofs (maxSteps := 2000000) (disch := first | assumption | omega | (simp only [nx]; omega) | ((repeat refine Fresh.push ?_ _); assumption) | (simp only [smA]; done) | (simp [oneCell, AW.next_push]; done) | fail) only [go_sem, Nat.reduceEqDiff, reduceIte, Nat.reduceAdd, Int.toNat_natCast, Nat.add_zero, Owes_true, Try.results91, e0, e1, e5, e6, e7, hlt, happ]
    refine ⟨_, by omega, i + 1, by omega, rfl, rfl, by (simp -dsimp -implicitDefEqProofs (maxSteps := 2000000) (disch := first | assumption | omega | (simp only [nx]; omega) | ((repeat refine Fresh.push ?_ _); assumption) | (simp only [smA]; done) | (simp [oneCell, AW.next_push]; done) | fail) only [go_sem, Nat.reduceEqDiff, reduceIte, Nat.reduceAdd, Int.toNat_natCast, Nat.add_zero, Owes_true, e0]; try rfl), by (simp -dsimp -implicitDefEqProofs (maxSteps := 2000000) (disch := first | assumption | omega | (simp only [nx]; omega) | ((repeat refine Fresh.push ?_ _); assumption) | (simp only [smA]; done) | (simp [oneCell, AW.next_push]; done) | fail) only [go_sem, Nat.reduceEqDiff, reduceIte, Nat.reduceAdd, Int.toNat_natCast, Nat.add_zero, Owes_true, e1]; try rfl), by (simp -dsimp -implicitDefEqProofs (maxSteps := 2000000) (disch := first | assumption | omega | (simp only [nx]; omega) | ((repeat refine Fresh.push ?_ _); assumption) | (simp only [smA]; done) | (simp [oneCell, AW.next_push]; done) | fail) only [go_sem, Nat.reduceEqDiff, reduceIte, Nat.reduceAdd, Int.toNat_natCast, Nat.add_zero, Owes_true, e6]; try rfl), by (simp -dsimp -implicitDefEqProofs (maxSteps := 2000000) (disch := first | assumption | omega | (simp only [nx]; omega) | ((repeat refine Fresh.push ?_ _); assumption) | (simp only [smA]; done) | (simp [oneCell, AW.next_push]; done) | fail) only [go_sem, Nat.reduceEqDiff, reduceIte, Nat.reduceAdd, Int.toNat_natCast, Nat.add_zero, Owes_true, e7]; try rfl), u3, (by simp -dsimp -implicitDefEqProofs (maxSteps := 2000000) (disch := first | assumption | omega | (simp only [nx]; omega) | ((repeat refine Fresh.push ?_ _); assumption) | (simp only [smA]; done) | (simp [oneCell, AW.next_push]; done) | fail) only [go_sem, Nat.reduceEqDiff, reduceIte, Nat.reduceAdd, Int.toNat_natCast, Nat.add_zero, Owes_true]), hA3, ⟨g1.1.trans hk3, hf3⟩⟩
  obtain rfl : i = n := by omega
  simp -dsimp -implicitDefEqProofs (maxSteps := 2000000) (disch := first | assumption | omega | (simp only [nx]; omega) | ((repeat refine Fresh.push ?_ _); assumption) | (simp only [smA]; done) | (simp [oneCell, AW.next_push]; done) | fail) only [go_sem, Nat.reduceEqDiff, reduceIte, Nat.reduceAdd, Int.toNat_natCast, Nat.add_zero, Owes_true, Try.results91, e0, e1, e5, e6, e7, hlt]
  refine loopR (fun k t ds w2 => ∃ j : Nat, j ≤ i ∧ k = i - j ∧ ds = [] ∧ ev t (.tmp 0) = .int .i64 (i : Int) ∧ ev t (.tmp 8) = .int .i64 (j : Int) ∧ ∃ (m : Nat) (L acc : List Int) (r' : Nat) (u y : Value), j + m = i ∧ ev t (.tmp 1) = .int .i64 (r' : Int) ∧ ev t (.tmp 5) = y ∧ ev t (.tmp 6) = u ∧ UnrR w i r w2 m L acc r' u y) (i) ?_ ?_
  · refine ⟨0, by omega, by omega, rfl, ?_, ?_, i, rangeI i, [], r, _, x, by omega, (by simp -dsimp -implicitDefEqProofs (maxSteps := 2000000) (disch := first | assumption | omega | (simp only [nx]; omega) | ((repeat refine Fresh.push ?_ _); assumption) | (simp only [smA]; done) | (simp [oneCell, AW.next_push]; done) | fail) only [go_sem, Nat.reduceEqDiff, reduceIte, Nat.reduceAdd, Int.toNat_natCast, Nat.add_zero, Owes_true, e1]), (by simp -dsimp -implicitDefEqProofs (maxSteps := 2000000) (disch := first | assumption | omega | (simp only [nx]; omega) | ((repeat refine Fresh.push ?_ _); assumption) | (simp only [smA]; done) | (simp [oneCell, AW.next_push]; done) | fail) only [go_sem, Nat.reduceEqDiff, reduceIte, Nat.reduceAdd, Int.toNat_natCast, Nat.add_zero, Owes_true, e5]), (by simp -dsimp -implicitDefEqProofs (maxSteps := 2000000) (disch := first | assumption | omega | (simp only [nx]; omega) | ((repeat refine Fresh.push ?_ _); assumption) | (simp only [smA]; done) | (simp [oneCell, AW.next_push]; done) | fail) only [go_sem, Nat.reduceEqDiff, reduceIte, Nat.reduceAdd, Int.toNat_natCast, Nat.add_zero, Owes_true, e6]; try rfl), ⟨Nat.le_refl _, rangeI_len _, hx.one, ⟨fun _ => False, fun k => w.next ≤ k, .inr hx, .inl ⟨rfl, rfl, rfl⟩, fun _ q => q.elim, fun _ q => q⟩, hr, rfl, g1.1, g1.2, by simp⟩⟩ <;> simp -dsimp -implicitDefEqProofs (maxSteps := 2000000) (disch := first | assumption | omega | (simp only [nx]; omega) | ((repeat refine Fresh.push ?_ _); assumption) | (simp only [smA]; done) | (simp [oneCell, AW.next_push]; done) | fail) only [go_sem, Nat.reduceEqDiff, reduceIte, Nat.reduceAdd, Int.toNat_natCast, Nat.add_zero, Owes_true, e0] <;> rfl
  rintro k t ds w2 ⟨j, hij, rfl, rfl, e0, e8, m, L, acc, r', u, y, hj, e1', e5', e6', I⟩
  by_cases hlt2 : (j : Int) < (i : Int)
  case neg =>
    obtain rfl : m = 0 := by omega
    have he := I.eq
    simp only [unrI, List.append_nil] at he
    obtain ⟨S, T, _, hrow, hS, _⟩ := I.rows
    rw [he] at hrow
    simp -dsimp -implicitDefEqProofs (maxSteps := 2000000) (disch := first | assumption | omega | (simp only [nx]; omega) | ((repeat refine Fresh.push ?_ _); assumption) | (simp only [smA]; done) | (simp [oneCell, AW.next_push]; done) | fail) only [go_sem, Nat.reduceEqDiff, reduceIte, Nat.reduceAdd, Int.toNat_natCast, Nat.add_zero, Owes_true, Try.results91, e0, e1', e5', e6', e8, hlt2]
    exact ⟨AOwnS.mono hrow fun k q => (hS k q).1, I.keep, I.fresh⟩
  obtain ⟨m', rfl⟩ : ∃ m', m = m' + 1 := ⟨m - 1, by omega⟩
  have hm8 := I.hm
  have hcast : (i : Int) - 1 - (j : Int) = (m' : Int) := by omega
  have hfp := fct_pos m'
  have hfz : ¬ (fct m' : Int) = 0 := by omega
  have hq : (r' : Int).tdiv (fct m' : Int) = ((r' / fct m' : Nat) : Int) := rfl
  have hq2 : (r' : Int).tmod (fct m' : Int) = ((r' % fct m' : Nat) : Int) := rfl
  have hqlt : r' / fct m' < m' + 1 := quot_lt I.hr
  have hrlt := rest_lt m' r'
  have heq := I.eq
  simp only [unrI] at heq
  generalize r' / fct m' = q at *
  generalize r' % fct m' = r2 at *
  have hLl := I.len
  obtain ⟨S, T, hrest, hrow, hS, hT⟩ := I.rows
  have hrest : RowS T w2 y L := by
    rcases hrest with z | z
    · omega
    · exact z
  have hrA : RowA 0 w2 y L := AOwnS.own hrest
  have hAr := hrA.arr (by omega)
  obtain ⟨p0, c0, rfl, _, _, hat⟩ := id hAr.open
  have hgw : Grown w2 w2 := Grown.refl I.fresh
  obtain ⟨b1, o1, rfl, hb1, hcell⟩ := hat q (by omega)
  have a0 := hcell w2 (.refl _ _) 0 _ rfl
  rw [Nat.add_zero] at a0
  have hqL : (q : Int) < (L.length : Int) := by omega
  have hgd : L.getD q 0 = L[q] := by simp [List.getD, show q < L.length by omega]
  rw [hgd] at heq
  have hacc := I.hacc
  obtain ⟨u3, w3, happ, hA3, hm3, hn3⟩ := hrow.app I.fresh (by omega) L[q]
  have hrest3 : RowS T w3 _ L := AOwnS.other hrest hm3 fun k hk hs => (hS k hs).2.2 hk
  have hrA3 : RowA 0 w3 _ L := AOwnS.own hrest3
  simp -dsimp -implicitDefEqProofs (maxSteps := 2000000) (disch := first | assumption | omega | (simp only [nx]; omega) | ((repeat refine Fresh.push ?_ _); assumption) | (simp only [smA]; done) | (simp [oneCell, AW.next_push]; done) | fail) only [go_sem, Nat.reduceEqDiff, reduceIte, Nat.reduceAdd, Int.toNat_natCast, Nat.add_zero, Owes_true, Try.results91, e0, e1', e5', e6', e8, hlt2, hcast]
  apply callV_of (e := rfl)
  · exact factorial_ok m' (by omega) w2
  rintro _ _ ⟨rfl, rfl⟩
  simp -dsimp -implicitDefEqProofs (maxSteps := 2000000) (disch := first | assumption | omega | (simp only [nx]; omega) | ((repeat refine Fresh.push ?_ _); assumption) | (simp only [smA]; done) | (simp [oneCell, AW.next_push]; done) | fail) only [go_sem, Nat.reduceEqDiff, reduceIte, Nat.reduceAdd, Int.toNat_natCast, Nat.add_zero, Owes_true, Try.results91, e0, e1', e5', e6', e8, hcast, hq, hfz]
  apply callV_of (e := rfl)
  · exact factorial_ok m' (by omega) w2
  rintro _ _ ⟨rfl, rfl⟩
  simp -dsimp -implicitDefEqProofs (maxSteps := 2000000) (disch := first | assumption | omega | (simp only [nx]; omega) | ((repeat refine Fresh.push ?_ _); assumption) | (simp only [smA]; done) | (simp [oneCell, AW.next_push]; done) | fail) only [go_sem, Nat.reduceEqDiff, reduceIte, Nat.reduceAdd, Int.toNat_natCast, Nat.add_zero, Owes_true, Try.results91, e0, e1', e5', e6', e8, hcast, hq2, hfz, hqL, indexV_eq, a0, happ]
  obtain ⟨b2, eb, hs1, hA1⟩ := hrA3.to (a := q) (by omega) (by omega) (by omega)
  obtain ⟨b3, eb3, hs2, hA2⟩ := hrA3.from (a := q + 1) (by omega) (by omega) (by omega)
  have hcast2 : (q : Int) + 1 = ((q + 1 : Nat) : Int) := by omega
  simp -dsimp -implicitDefEqProofs (maxSteps := 2000000) (disch := first | assumption | omega | (simp only [nx]; omega) | ((repeat refine Fresh.push ?_ _); assumption) | (simp only [smA]; done) | (simp [oneCell, AW.next_push]; done) | fail) only [go_sem, Nat.reduceEqDiff, reduceIte, Nat.reduceAdd, Int.toNat_natCast, Nat.add_zero, Owes_true, e5', hs1, hcast2, hs2]
  have htl : (L.take q).length = q := by rw [List.length_take]; omega
  have hdl : (L.drop (q + 1)).length = m' - q := by rw [List.length_drop]; omega
  have hA1' : ArrOf w3 1 icells (.slice (some ⟨b2, 0, none⟩) q L.length) (L.take q) := hA1
  apply callV_of (e := rfl)
  · exact Own_ok (L.take q) _ w3 hm3.fresh hA1' (by omega)
  rintro z4 w4 ⟨hmk, g4⟩
  obtain ⟨z5, w5, happ5, hmk5, hk5, hf5⟩ := making_app hmk g4.2 g4.1.next (hA2.grown g4) (by omega)
  rw [hdl, htl, show q + (m' - q) = m' by omega] at hmk5
  have hle4 : WLe w3 w4 := g4.1.wle hm3.fresh
  have hone5 := making_one hmk5
  have hsz5 := making_same hmk5
  have hk35 : Keep w3.next w3 w5 := g4.1.trans hk5
  have hrow5 : RowS (fun j => S j ∨ j = w2.next + 1) w5 u3 (acc ++ [L[q]]) := AOwnS.keep hA3 hk35
  have hk03 : Keep w.next w w3 := I.keep.trans (hm3.keep (fun k hk => (hS k hk).1) I.keep.next)
  simp -dsimp -implicitDefEqProofs (maxSteps := 2000000) (disch := first | assumption | omega | (simp only [nx]; omega) | ((repeat refine Fresh.push ?_ _); assumption) | (simp only [smA]; done) | (simp [oneCell, AW.next_push]; done) | fail) only [go_sem, Nat.reduceEqDiff, reduceIte, Nat.reduceAdd, Int.toNat_natCast, Nat.add_zero, Owes_true, e0, e1', e5', e6', e8, hle4, happ5, hsz5]
  have hers : L.take q ++ L.drop (q + 1) = L.eraseIdx q := (List.eraseIdx_eq_take_drop_succ ..).symm
  rw [hers] at hmk5
  have hn2 := I.keep.next
  refine ⟨_, by omega, j + 1, by omega, rfl, rfl, by (simp -dsimp -implicitDefEqProofs (maxSteps := 2000000) (disch := first | assumption | omega | (simp only [nx]; omega) | ((repeat refine Fresh.push ?_ _); assumption) | (simp only [smA]; done) | (simp [oneCell, AW.next_push]; done) | fail) only [go_sem, Nat.reduceEqDiff, reduceIte, Nat.reduceAdd, Int.toNat_natCast, Nat.add_zero, Owes_true, e0]; try rfl), by (simp -dsimp -implicitDefEqProofs (maxSteps := 2000000) (disch := first | assumption | omega | (simp only [nx]; omega) | ((repeat refine Fresh.push ?_ _); assumption) | (simp only [smA]; done) | (simp [oneCell, AW.next_push]; done) | fail) only [go_sem, Nat.reduceEqDiff, reduceIte, Nat.reduceAdd, Int.toNat_natCast, Nat.add_zero, Owes_true, e8]; try rfl), m', L.eraseIdx q, acc ++ [L[q]], r2, u3, z5, by omega, by (simp -dsimp -implicitDefEqProofs (maxSteps := 2000000) (disch := first | assumption | omega | (simp only [nx]; omega) | ((repeat refine Fresh.push ?_ _); assumption) | (simp only [smA]; done) | (simp [oneCell, AW.next_push]; done) | fail) only [go_sem, Nat.reduceEqDiff, reduceIte, Nat.reduceAdd, Int.toNat_natCast, Nat.add_zero, Owes_true]; try rfl), by (simp -dsimp -implicitDefEqProofs (maxSteps := 2000000) (disch := first | assumption | omega | (simp only [nx]; omega) | ((repeat refine Fresh.push ?_ _); assumption) | (simp only [smA]; done) | (simp [oneCell, AW.next_push]; done) | fail) only [go_sem, Nat.reduceEqDiff, reduceIte, Nat.reduceAdd, Int.toNat_natCast, Nat.add_zero, Owes_true]; try rfl), by (simp -dsimp -implicitDefEqProofs (maxSteps := 2000000) (disch := first | assumption | omega | (simp only [nx]; omega) | ((repeat refine Fresh.push ?_ _); assumption) | (simp only [smA]; done) | (simp [oneCell, AW.next_push]; done) | fail) only [go_sem, Nat.reduceEqDiff, reduceIte, Nat.reduceAdd, Int.toNat_natCast, Nat.add_zero, Owes_true]; try rfl), ⟨by omega, ?_, hone5, ⟨fun j => S j ∨ j = w2.next + 1, fun j => w3.next ≤ j, ?_, hrow5, ?_, fun k hk => by omega⟩, hrlt, ?_, hk03.trans (hk35.mono (by omega)), hf5, ?_⟩⟩
  · rw [List.length_eraseIdx_of_lt (by omega)]; omega
  · rcases Nat.eq_zero_or_pos m' with z | z
    · exact .inl z
    · exact .inr (making_row hmk5 (by rw [List.length_eraseIdx_of_lt (by omega)]; omega) z)
  · rintro k (hk | hk)
    · have h9 := hS k hk
      have := hk35.next
      exact ⟨h9.1, by omega, by omega⟩
    · have := hk35.next
      exact ⟨by omega, by omega, by omega⟩
  · rw [List.append_assoc]; exact heq
  · rw [List.length_append]; simp; omega
end Go.Proofs
