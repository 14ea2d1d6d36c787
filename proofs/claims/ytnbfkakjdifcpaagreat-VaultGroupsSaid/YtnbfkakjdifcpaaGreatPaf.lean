/- This program: its code, contracts, numbers, part 6. -/
import Derived.Test.YtnbfkakjdifcpaaGreatPae
import Derived.Test.YtnbfkakjdifcpaaGreatPaa
import Derived.Test.YtnbfkakjdifcpaaGreatNa
import Derived.Test.YtnbfkakjdifcpaaGreatNc
import Derived.Test.YtnbfkakjdifcpaaGreatProg
set_option linter.unusedVariables false
set_option linter.unusedSimpArgs false
namespace Go.Proofs
open Go Go.RowKit Go.Sim
set_option maxRecDepth 100000
end Go.Proofs

namespace Go.Proofs
open Go Go.RowKit Go.Sim
set_option maxRecDepth 100000
theorem Seek_ok (L : List Nat) (x : Nat) (v : Value) (w : AW) (hv : ArrOf w 1 icells v (natsL L)) : CallT Tryz.prog Tryz.T1 (.fn (.func 92) #[]) #[v, .int .i64 (x : Int)] w (fun r w' => w = w' ∧ ∃ n : Int, r = .int .i64 n ∧ decide (n < 0) = !L.contains x) := by
  obtain ⟨p, c, rfl, hb, hat⟩ := nats_at hv
  refine callT_code rfl Tryz.func92 rfl Tryz.s92_eq rfl ?_
  unfold Tryz.s92
  simp -dsimp -implicitDefEqProofs (maxSteps := 2000000) (disch := first | assumption | omega | (simp only [nx]; omega) | ((repeat refine Fresh.push ?_ _); assumption) | (simp only [smA]; done) | (simp [oneCell, AW.next_push]; done) | fail) only [go_sem, Nat.reduceEqDiff, reduceIte, Nat.reduceAdd, Int.toNat_natCast, Nat.add_zero, Owes_true, Tryz.results92]
  refine loopR (fun k t ds w1 => ∃ i : Nat, i ≤ L.length ∧ k = L.length - i ∧ ds = [] ∧ ev t (.tmp 0) = .slice p L.length c ∧ ev t (.tmp 1) = .int .i64 (x : Int) ∧ ev t (.tmp 5) = .int .i64 (i : Int) ∧ (∀ j, (h : j < L.length) → j < i → L[j] ≠ x) ∧ w = w1) (L.length) ?_ ?_
  · refine ⟨0, by omega, by omega, rfl, ?_, ?_, ?_, fun j h q => by omega, rfl⟩ <;> simp -dsimp -implicitDefEqProofs (maxSteps := 2000000) (disch := first | assumption | omega | (simp only [nx]; omega) | ((repeat refine Fresh.push ?_ _); assumption) | (simp only [smA]; done) | (simp [oneCell, AW.next_push]; done) | fail) only [go_sem, Nat.reduceEqDiff, reduceIte, Nat.reduceAdd, Int.toNat_natCast, Nat.add_zero, Owes_true] <;> rfl
  rintro k t ds w1 ⟨i, hii, rfl, rfl, e0, e1, e5, hno, hw⟩
  subst hw
  by_cases hlt : (i : Int) < (L.length : Int)
  case neg =>
    obtain rfl : i = L.length := by omega
    simp -dsimp -implicitDefEqProofs (maxSteps := 2000000) (disch := first | assumption | omega | (simp only [nx]; omega) | ((repeat refine Fresh.push ?_ _); assumption) | (simp only [smA]; done) | (simp [oneCell, AW.next_push]; done) | fail) only [go_sem, Nat.reduceEqDiff, reduceIte, Nat.reduceAdd, Int.toNat_natCast, Nat.add_zero, Owes_true, Tryz.results92, e0, e1, e5, hlt]
    refine ⟨trivial, -1, rfl, ?_⟩
    have : L.contains x = false := by
      rw [Bool.eq_false_iff]; intro z
      rw [List.contains_iff_mem] at z
      obtain ⟨j, hj, e⟩ := List.getElem_of_mem z
      exact hno j hj hj e
    rw [this]; rfl
  have hlt' : i < L.length := by omega
  obtain ⟨b, o, rfl, hc⟩ := hat i hlt'
  have a0 := hc w (.refl _ _)
  have hmem := List.getElem_mem hlt'
  have hnext : L[i] ≠ x → ∀ j, (h : j < L.length) → j < i + 1 → L[j] ≠ x := fun q j h hj => by
    rcases Nat.lt_or_ge j i with z | z
    · exact hno j h z
    · obtain rfl : j = i := by omega
      exact q
  generalize L[i] = y at *
  by_cases hq : (y : Int) = (x : Int)
  · have hd : decide ((y : Int) = (x : Int)) = true := decide_eq_true hq
    simp -dsimp -implicitDefEqProofs (maxSteps := 2000000) (disch := first | assumption | omega | (simp only [nx]; omega) | ((repeat refine Fresh.push ?_ _); assumption) | (simp only [smA]; done) | (simp [oneCell, AW.next_push]; done) | fail) only [go_sem, Nat.reduceEqDiff, reduceIte, Nat.reduceAdd, Int.toNat_natCast, Nat.add_zero, Owes_true, Tryz.results92, e0, e1, e5, hlt, indexV_eq, Nat.mul_one, a0, hd]
    refine ⟨trivial, i, rfl, ?_⟩
    have : L.contains x = true := List.contains_iff_mem.2 (by rw [show x = y by omega]; exact hmem)
    rw [this, decide_eq_false (by omega)]; rfl
  · have hd : decide ((y : Int) = (x : Int)) = false := decide_eq_false hq
    simp -dsimp -implicitDefEqProofs (maxSteps := 2000000) (disch := first | assumption | omega | (simp only [nx]; omega) | ((repeat refine Fresh.push ?_ _); assumption) | (simp only [smA]; done) | (simp [oneCell, AW.next_push]; done) | fail) only [go_sem, Nat.reduceEqDiff, reduceIte, Nat.reduceAdd, Int.toNat_natCast, Nat.add_zero, Owes_true, Tryz.results92, e0, e1, e5, hlt, indexV_eq, Nat.mul_one, a0, hd]
    refine ⟨_, by omega, i + 1, by omega, rfl, rfl, by (simp -dsimp -implicitDefEqProofs (maxSteps := 2000000) (disch := first | assumption | omega | (simp only [nx]; omega) | ((repeat refine Fresh.push ?_ _); assumption) | (simp only [smA]; done) | (simp [oneCell, AW.next_push]; done) | fail) only [go_sem, Nat.reduceEqDiff, reduceIte, Nat.reduceAdd, Int.toNat_natCast, Nat.add_zero, Owes_true, e0]; try rfl), by (simp -dsimp -implicitDefEqProofs (maxSteps := 2000000) (disch := first | assumption | omega | (simp only [nx]; omega) | ((repeat refine Fresh.push ?_ _); assumption) | (simp only [smA]; done) | (simp [oneCell, AW.next_push]; done) | fail) only [go_sem, Nat.reduceEqDiff, reduceIte, Nat.reduceAdd, Int.toNat_natCast, Nat.add_zero, Owes_true, e1]; try rfl), by (simp -dsimp -implicitDefEqProofs (maxSteps := 2000000) (disch := first | assumption | omega | (simp only [nx]; omega) | ((repeat refine Fresh.push ?_ _); assumption) | (simp only [smA]; done) | (simp [oneCell, AW.next_push]; done) | fail) only [go_sem, Nat.reduceEqDiff, reduceIte, Nat.reduceAdd, Int.toNat_natCast, Nat.add_zero, Owes_true, e5]; try rfl), hnext (by omega), rfl⟩
def rowL (L : List Nat) (n k : Nat) : List Nat := (List.range k).filter fun x => decide (popN x = n) && L.contains x
def preL (L : List Nat) (n k : Nat) : List Nat := ((List.range n).flatMap fun i => rowL L i 64) ++ rowL L n k
theorem preL_row (L : List Nat) (n : Nat) : preL L n 64 = preL L (n + 1) 0 := by
  unfold preL
  rw [List.range_succ, List.flatMap_append]
  simp [rowL]
theorem rowL_yes {L : List Nat} {n k : Nat} (h : (decide (popN k = n) && L.contains k) = true) : rowL L n (k + 1) = rowL L n k ++ [k] := by
  unfold rowL
  rw [List.range_succ, List.filter_append]
  congr 1
  rw [List.filter_cons, if_pos h, List.filter_nil]
theorem rowL_no {L : List Nat} {n k : Nat} (h : (decide (popN k = n) && L.contains k) = false) : rowL L n (k + 1) = rowL L n k := by
  unfold rowL
  rw [List.range_succ, List.filter_append, List.filter_cons, if_neg (by rw [h]; intro z; cases z), List.filter_nil, List.append_nil]
theorem preL_yes {L : List Nat} {n k : Nat} (h1 : popN k = n) (h2 : L.contains k = true) : preL L n (k + 1) = preL L n k ++ [k] := by
  unfold preL
  rw [rowL_yes (by rw [h2, decide_eq_true h1]; rfl), List.append_assoc]
theorem preL_no {L : List Nat} {n k : Nat} (h : (decide (popN k = n) && L.contains k) = false) : preL L n (k + 1) = preL L n k := by
  unfold preL
  rw [rowL_no h]
def ordL (L : List Nat) : List Nat := preL L 7 0
theorem minL_snoc (A : List Nat) (x : Nat) : minL (A ++ [x]) = keepL (minL A) x := by unfold minL; rw [List.foldl_append]; rfl
theorem mem_pre {L : List Nat} {n k x : Nat} (h : x ∈ preL L n k) (hk : k ≤ 64) : x < 64 ∧ x ∈ L := by
  unfold preL at h
  rcases List.mem_append.1 h with q | q
  · obtain ⟨i, _, hq⟩ := List.mem_flatMap.1 q
    unfold rowL at hq
    have := List.mem_filter.1 hq
    simp only [Bool.and_eq_true, List.contains_iff_mem] at this
    exact ⟨List.mem_range.1 this.1, this.2.2⟩
  · unfold rowL at q
    have := List.mem_filter.1 q
    simp only [Bool.and_eq_true, List.contains_iff_mem] at this
    have h1 := List.mem_range.1 this.1
    exact ⟨by omega, this.2.2⟩
end Go.Proofs

namespace Go.Proofs
open Go Go.RowKit Go.Sim
set_option maxRecDepth 100000
theorem rowL_len (L : List Nat) (n k : Nat) : (rowL L n k).length ≤ k := by
  have := List.length_filter_le (fun x => decide (popN x = n) && L.contains x) (List.range k)
  rw [List.length_range] at this; exact this
theorem preL_len (L : List Nat) : ∀ n k, (preL L n k).length ≤ 64 * n + k
  | 0, k => by
    have := rowL_len L 0 k
    show (([] : List Nat) ++ rowL L 0 k).length ≤ _
    rw [List.nil_append]; omega
  | n + 1, k => by
    have h1 := preL_len L n 64
    have h2 := rowL_len L (n + 1) k
    have e : preL L (n + 1) k = preL L n 64 ++ rowL L (n + 1) k := by
      have h := preL_row L n
      unfold preL at h ⊢
      rw [h, List.append_assoc]
      rfl
    rw [e, List.length_append]; omega
theorem minL_len (S : List Nat) : (minL S).length ≤ S.length := by
  have := minTo_len S _ (Nat.le_refl _)
  rw [minTo_all] at this; exact this
set_option maxHeartbeats 16000000 in
theorem LeastR_ok (L : List Nat) (v : Value) (w : AW) (f : Fresh w) (hv : ArrOf w 1 icells v (natsL L)) :
    CallT Tryz.prog Tryz.T1 (.fn (.func 64) #[]) #[v] w (fun u w' => Grown w w' ∧ RowS 3 w.next w' u (minL (ordL L))) := by
  refine callT_code rfl Tryz.func64 rfl Tryz.s64_eq rfl ?_
  unfold Tryz.s64
  simp -dsimp -implicitDefEqProofs (maxSteps := 2000000) (disch := first | assumption | omega | (simp only [nx]; omega) | ((repeat refine Fresh.push ?_ _); assumption) | (simp only [smA]; done) | (simp [oneCell, AW.next_push]; done) | fail) only [go_sem, Nat.reduceEqDiff, reduceIte, Nat.reduceAdd, Int.toNat_natCast, Nat.add_zero, Owes_true, Tryz.results64]
  refine loopR (fun k t ds w1 => ∃ n : Nat, n ≤ 7 ∧ k = 7 - n ∧ ds = [] ∧ ev t (.tmp 0) = v ∧ ev t (.tmp 4) = .int .i64 (n : Int) ∧ ∃ out : Value, ev t (.tmp 3) = out ∧ RowS 3 w.next w1 out (minL (preL L n 0)) ∧ Keep w.next w w1 ∧ Fresh w1) (7) ?_ ?_
  · refine ⟨0, by omega, by omega, rfl, ?_, ?_, _, (by simp -dsimp -implicitDefEqProofs (maxSteps := 2000000) (disch := first | assumption | omega | (simp only [nx]; omega) | ((repeat refine Fresh.push ?_ _); assumption) | (simp only [smA]; done) | (simp [oneCell, AW.next_push]; done) | fail) only [go_sem, Nat.reduceEqDiff, reduceIte, Nat.reduceAdd, Int.toNat_natCast, Nat.add_zero, Owes_true]), RowS.nil _ _ _, .refl _ _, f⟩ <;> simp -dsimp -implicitDefEqProofs (maxSteps := 2000000) (disch := first | assumption | omega | (simp only [nx]; omega) | ((repeat refine Fresh.push ?_ _); assumption) | (simp only [smA]; done) | (simp [oneCell, AW.next_push]; done) | fail) only [go_sem, Nat.reduceEqDiff, reduceIte, Nat.reduceAdd, Int.toNat_natCast, Nat.add_zero, Owes_true] <;> rfl
  rintro k t ds w1 ⟨n, hin, rfl, rfl, e0, e4, out, e3, hO, k1, f1⟩
  by_cases hlt : (n : Int) ≤ 6
  case neg =>
    obtain rfl : n = 7 := by omega
    simp -dsimp -implicitDefEqProofs (maxSteps := 2000000) (disch := first | assumption | omega | (simp only [nx]; omega) | ((repeat refine Fresh.push ?_ _); assumption) | (simp only [smA]; done) | (simp [oneCell, AW.next_push]; done) | fail) only [go_sem, Nat.reduceEqDiff, reduceIte, Nat.reduceAdd, Int.toNat_natCast, Nat.add_zero, Owes_true, Tryz.results64, e0, e3, e4, hlt]
    exact ⟨⟨k1, f1⟩, hO⟩
  simp -dsimp -implicitDefEqProofs (maxSteps := 2000000) (disch := first | assumption | omega | (simp only [nx]; omega) | ((repeat refine Fresh.push ?_ _); assumption) | (simp only [smA]; done) | (simp [oneCell, AW.next_push]; done) | fail) only [go_sem, Nat.reduceEqDiff, reduceIte, Nat.reduceAdd, Int.toNat_natCast, Nat.add_zero, Owes_true, Tryz.results64, e0, e3, e4, hlt]
  refine loopR (fun k t ds w2 => ∃ x : Nat, x ≤ 64 ∧ k = 64 - x ∧ ds = [] ∧ ev t (.tmp 0) = v ∧ ev t (.tmp 4) = .int .i64 (n : Int) ∧ ev t (.tmp 5) = .int .i64 (x : Int) ∧ ∃ out2 : Value, ev t (.tmp 3) = out2 ∧ RowS 3 w.next w2 out2 (minL (preL L n x)) ∧ Keep w.next w w2 ∧ Fresh w2) (64) ?_ ?_
  · refine ⟨0, by omega, by omega, rfl, ?_, ?_, ?_, out, (by simp -dsimp -implicitDefEqProofs (maxSteps := 2000000) (disch := first | assumption | omega | (simp only [nx]; omega) | ((repeat refine Fresh.push ?_ _); assumption) | (simp only [smA]; done) | (simp [oneCell, AW.next_push]; done) | fail) only [go_sem, Nat.reduceEqDiff, reduceIte, Nat.reduceAdd, Int.toNat_natCast, Nat.add_zero, Owes_true, e3]), hO, k1, f1⟩ <;> simp -dsimp -implicitDefEqProofs (maxSteps := 2000000) (disch := first | assumption | omega | (simp only [nx]; omega) | ((repeat refine Fresh.push ?_ _); assumption) | (simp only [smA]; done) | (simp [oneCell, AW.next_push]; done) | fail) only [go_sem, Nat.reduceEqDiff, reduceIte, Nat.reduceAdd, Int.toNat_natCast, Nat.add_zero, Owes_true, e0, e4] <;> rfl
  rintro k t ds w2 ⟨x, hix, rfl, rfl, e0, e4, e5, out2, e3, hO2, k2, f2⟩
  by_cases hlx : (x : Int) < 64
  case neg =>
    obtain rfl : x = 64 := by omega
    rw [preL_row] at hO2
    simp -dsimp -implicitDefEqProofs (maxSteps := 2000000) (disch := first | assumption | omega | (simp only [nx]; omega) | ((repeat refine Fresh.push ?_ _); assumption) | (simp only [smA]; done) | (simp [oneCell, AW.next_push]; done) | fail) only [go_sem, Nat.reduceEqDiff, reduceIte, Nat.reduceAdd, Int.toNat_natCast, Nat.add_zero, Owes_true, Tryz.results64, e0, e3, e4, e5, hlx]
    refine ⟨_, by omega, n + 1, by omega, rfl, rfl, by (simp -dsimp -implicitDefEqProofs (maxSteps := 2000000) (disch := first | assumption | omega | (simp only [nx]; omega) | ((repeat refine Fresh.push ?_ _); assumption) | (simp only [smA]; done) | (simp [oneCell, AW.next_push]; done) | fail) only [go_sem, Nat.reduceEqDiff, reduceIte, Nat.reduceAdd, Int.toNat_natCast, Nat.add_zero, Owes_true, e0]; try rfl), by (simp -dsimp -implicitDefEqProofs (maxSteps := 2000000) (disch := first | assumption | omega | (simp only [nx]; omega) | ((repeat refine Fresh.push ?_ _); assumption) | (simp only [smA]; done) | (simp [oneCell, AW.next_push]; done) | fail) only [go_sem, Nat.reduceEqDiff, reduceIte, Nat.reduceAdd, Int.toNat_natCast, Nat.add_zero, Owes_true, e4]; try rfl), out2, (by simp -dsimp -implicitDefEqProofs (maxSteps := 2000000) (disch := first | assumption | omega | (simp only [nx]; omega) | ((repeat refine Fresh.push ?_ _); assumption) | (simp only [smA]; done) | (simp [oneCell, AW.next_push]; done) | fail) only [go_sem, Nat.reduceEqDiff, reduceIte, Nat.reduceAdd, Int.toNat_natCast, Nat.add_zero, Owes_true, e3]), hO2, k2, f2⟩
  have hv2 := hv.kept k2
  simp -dsimp -implicitDefEqProofs (maxSteps := 2000000) (disch := first | assumption | omega | (simp only [nx]; omega) | ((repeat refine Fresh.push ?_ _); assumption) | (simp only [smA]; done) | (simp [oneCell, AW.next_push]; done) | fail) only [go_sem, Nat.reduceEqDiff, reduceIte, Nat.reduceAdd, Int.toNat_natCast, Nat.add_zero, Owes_true, Tryz.results64, e0, e3, e4, e5, hlx]
  apply callV_of (e := rfl)
  · exact people_okR x (by omega) w2
  rintro _ _ ⟨rfl, rfl⟩
  by_cases hp : popN x = n
  case neg =>
    have hd : decide ((popN x : Int) = (n : Int)) = false := decide_eq_false (by omega)
    have hN := preL_no (L := L) (n := n) (k := x) (by rw [decide_eq_false hp]; rfl)
    rw [← hN] at hO2
    simp -dsimp -implicitDefEqProofs (maxSteps := 2000000) (disch := first | assumption | omega | (simp only [nx]; omega) | ((repeat refine Fresh.push ?_ _); assumption) | (simp only [smA]; done) | (simp [oneCell, AW.next_push]; done) | fail) only [go_sem, Nat.reduceEqDiff, reduceIte, Nat.reduceAdd, Int.toNat_natCast, Nat.add_zero, Owes_true, Tryz.results64, e0, e3, e4, e5, hd]
    refine ⟨_, by omega, x + 1, by omega, rfl, rfl, by (simp -dsimp -implicitDefEqProofs (maxSteps := 2000000) (disch := first | assumption | omega | (simp only [nx]; omega) | ((repeat refine Fresh.push ?_ _); assumption) | (simp only [smA]; done) | (simp [oneCell, AW.next_push]; done) | fail) only [go_sem, Nat.reduceEqDiff, reduceIte, Nat.reduceAdd, Int.toNat_natCast, Nat.add_zero, Owes_true, e0]; try rfl), by (simp -dsimp -implicitDefEqProofs (maxSteps := 2000000) (disch := first | assumption | omega | (simp only [nx]; omega) | ((repeat refine Fresh.push ?_ _); assumption) | (simp only [smA]; done) | (simp [oneCell, AW.next_push]; done) | fail) only [go_sem, Nat.reduceEqDiff, reduceIte, Nat.reduceAdd, Int.toNat_natCast, Nat.add_zero, Owes_true, e4]; try rfl), by (simp -dsimp -implicitDefEqProofs (maxSteps := 2000000) (disch := first | assumption | omega | (simp only [nx]; omega) | ((repeat refine Fresh.push ?_ _); assumption) | (simp only [smA]; done) | (simp [oneCell, AW.next_push]; done) | fail) only [go_sem, Nat.reduceEqDiff, reduceIte, Nat.reduceAdd, Int.toNat_natCast, Nat.add_zero, Owes_true, e5]; try rfl), out2, (by simp -dsimp -implicitDefEqProofs (maxSteps := 2000000) (disch := first | assumption | omega | (simp only [nx]; omega) | ((repeat refine Fresh.push ?_ _); assumption) | (simp only [smA]; done) | (simp [oneCell, AW.next_push]; done) | fail) only [go_sem, Nat.reduceEqDiff, reduceIte, Nat.reduceAdd, Int.toNat_natCast, Nat.add_zero, Owes_true, e3]), hO2, k2, f2⟩
  have hd : decide ((popN x : Int) = (n : Int)) = true := decide_eq_true (by omega)
  simp -dsimp -implicitDefEqProofs (maxSteps := 2000000) (disch := first | assumption | omega | (simp only [nx]; omega) | ((repeat refine Fresh.push ?_ _); assumption) | (simp only [smA]; done) | (simp [oneCell, AW.next_push]; done) | fail) only [go_sem, Nat.reduceEqDiff, reduceIte, Nat.reduceAdd, Int.toNat_natCast, Nat.add_zero, Owes_true, Tryz.results64, e0, e3, e4, e5, hd]
  apply callV_of (e := rfl)
  · exact Seek_ok L x v w2 hv2
  rintro _ _ ⟨rfl, m, rfl, hm⟩
  cases hc : L.contains x with
  | false =>
    rw [hc, Bool.not_false] at hm
    have hN := preL_no (L := L) (n := n) (k := x) (by rw [hc, Bool.and_false])
    rw [← hN] at hO2
    have hm' := of_decide_eq_true hm
    simp -dsimp -implicitDefEqProofs (maxSteps := 2000000) (disch := first | assumption | omega | (simp only [nx]; omega) | ((repeat refine Fresh.push ?_ _); assumption) | (simp only [smA]; done) | (simp [oneCell, AW.next_push]; done) | fail) only [go_sem, Nat.reduceEqDiff, reduceIte, Nat.reduceAdd, Int.toNat_natCast, Nat.add_zero, Owes_true, Tryz.results64, e0, e3, e4, e5, hm']
    refine ⟨_, by omega, x + 1, by omega, rfl, rfl, by (simp -dsimp -implicitDefEqProofs (maxSteps := 2000000) (disch := first | assumption | omega | (simp only [nx]; omega) | ((repeat refine Fresh.push ?_ _); assumption) | (simp only [smA]; done) | (simp [oneCell, AW.next_push]; done) | fail) only [go_sem, Nat.reduceEqDiff, reduceIte, Nat.reduceAdd, Int.toNat_natCast, Nat.add_zero, Owes_true, e0]; try rfl), by (simp -dsimp -implicitDefEqProofs (maxSteps := 2000000) (disch := first | assumption | omega | (simp only [nx]; omega) | ((repeat refine Fresh.push ?_ _); assumption) | (simp only [smA]; done) | (simp [oneCell, AW.next_push]; done) | fail) only [go_sem, Nat.reduceEqDiff, reduceIte, Nat.reduceAdd, Int.toNat_natCast, Nat.add_zero, Owes_true, e4]; try rfl), by (simp -dsimp -implicitDefEqProofs (maxSteps := 2000000) (disch := first | assumption | omega | (simp only [nx]; omega) | ((repeat refine Fresh.push ?_ _); assumption) | (simp only [smA]; done) | (simp [oneCell, AW.next_push]; done) | fail) only [go_sem, Nat.reduceEqDiff, reduceIte, Nat.reduceAdd, Int.toNat_natCast, Nat.add_zero, Owes_true, e5]; try rfl), out2, (by simp -dsimp -implicitDefEqProofs (maxSteps := 2000000) (disch := first | assumption | omega | (simp only [nx]; omega) | ((repeat refine Fresh.push ?_ _); assumption) | (simp only [smA]; done) | (simp [oneCell, AW.next_push]; done) | fail) only [go_sem, Nat.reduceEqDiff, reduceIte, Nat.reduceAdd, Int.toNat_natCast, Nat.add_zero, Owes_true, e3]), hO2, k2, f2⟩
  | true =>
  rw [hc, Bool.not_true] at hm
  have hm' := of_decide_eq_false hm
  have hN := preL_yes (L := L) (n := n) (k := x) hp hc
  have hlen := minL_len (preL L n x)
  have hlen2 := preL_len L n x
  have hmem := fun y (hy : y ∈ minL (preL L n x)) => (mem_pre (minL_mem hy) (by omega)).1
  have hsn := minL_snoc (preL L n x) x
  rw [← hN] at hsn
  obtain ⟨A', hA'⟩ : ∃ A', A' = preL L n (x + 1) := ⟨_, rfl⟩
  rw [← hA'] at hsn
  generalize minL (preL L n x) = M at *
  have aM := hO2.arr (by omega)
  obtain ⟨pM, cM, rfl, hbM, hatM⟩ := nats_at aM
  have hz := allTo_zero (fun y => !subB x y) M
  simp -dsimp -implicitDefEqProofs (maxSteps := 2000000) (disch := first | assumption | omega | (simp only [nx]; omega) | ((repeat refine Fresh.push ?_ _); assumption) | (simp only [smA]; done) | (simp [oneCell, AW.next_push]; done) | fail) only [go_sem, Nat.reduceEqDiff, reduceIte, Nat.reduceAdd, Int.toNat_natCast, Nat.add_zero, Owes_true, Tryz.results64, e0, e3, e4, e5, hm']
  refine loopR (fun k t ds w3 => ∃ i : Nat, i ≤ M.length ∧ k = M.length - i ∧ ds = [] ∧ ev t (.tmp 0) = v ∧ ev t (.tmp 3) = .slice pM M.length cM ∧ ev t (.tmp 4) = .int .i64 (n : Int) ∧ ev t (.tmp 5) = .int .i64 (x : Int) ∧ ev t (.tmp 6) = .bool (allTo (fun y => !subB x y) M i) ∧ ev t (.tmp 7) = .int .i64 (i : Int) ∧ w2 = w3) (M.length) ?_ ?_
  · refine ⟨0, by omega, by omega, rfl, ?_, ?_, ?_, ?_, ?_, ?_, rfl⟩ <;> simp -dsimp -implicitDefEqProofs (maxSteps := 2000000) (disch := first | assumption | omega | (simp only [nx]; omega) | ((repeat refine Fresh.push ?_ _); assumption) | (simp only [smA]; done) | (simp [oneCell, AW.next_push]; done) | fail) only [go_sem, Nat.reduceEqDiff, reduceIte, Nat.reduceAdd, Int.toNat_natCast, Nat.add_zero, Owes_true, e0, e3, e4, e5, hz] <;> rfl
  rintro k t ds w3 ⟨i, hii, rfl, rfl, e0, e3, e4, e5, e6, e7, hw⟩
  subst hw
  by_cases hli : (i : Int) < (M.length : Int)
  case pos =>
    have hli' : i < M.length := by omega
    have hsu := allTo_succ (b := fun y => !subB x y) hli'
    obtain ⟨b, o, rfl, hcc⟩ := hatM i hli'
    have a0 := hcc w2 (.refl _ _)
    have hy := hmem _ (List.getElem_mem hli')
    try simp only at hsu
    generalize M[i] = y at *
    cases hF : allTo (fun y => !subB x y) M i with
    | false =>
      rw [hF, Bool.false_and] at hsu
      simp -dsimp -implicitDefEqProofs (maxSteps := 2000000) (disch := first | assumption | omega | (simp only [nx]; omega) | ((repeat refine Fresh.push ?_ _); assumption) | (simp only [smA]; done) | (simp [oneCell, AW.next_push]; done) | fail) only [go_sem, Nat.reduceEqDiff, reduceIte, Nat.reduceAdd, Int.toNat_natCast, Nat.add_zero, Owes_true, Tryz.results64, e0, e3, e4, e5, e6, e7, hli, hF]
      refine ⟨_, by omega, i + 1, by omega, rfl, rfl, by (simp -dsimp -implicitDefEqProofs (maxSteps := 2000000) (disch := first | assumption | omega | (simp only [nx]; omega) | ((repeat refine Fresh.push ?_ _); assumption) | (simp only [smA]; done) | (simp [oneCell, AW.next_push]; done) | fail) only [go_sem, Nat.reduceEqDiff, reduceIte, Nat.reduceAdd, Int.toNat_natCast, Nat.add_zero, Owes_true, e0, hsu]; try rfl), by (simp -dsimp -implicitDefEqProofs (maxSteps := 2000000) (disch := first | assumption | omega | (simp only [nx]; omega) | ((repeat refine Fresh.push ?_ _); assumption) | (simp only [smA]; done) | (simp [oneCell, AW.next_push]; done) | fail) only [go_sem, Nat.reduceEqDiff, reduceIte, Nat.reduceAdd, Int.toNat_natCast, Nat.add_zero, Owes_true, e3, hsu]; try rfl), by (simp -dsimp -implicitDefEqProofs (maxSteps := 2000000) (disch := first | assumption | omega | (simp only [nx]; omega) | ((repeat refine Fresh.push ?_ _); assumption) | (simp only [smA]; done) | (simp [oneCell, AW.next_push]; done) | fail) only [go_sem, Nat.reduceEqDiff, reduceIte, Nat.reduceAdd, Int.toNat_natCast, Nat.add_zero, Owes_true, e4, hsu]; try rfl), by (simp -dsimp -implicitDefEqProofs (maxSteps := 2000000) (disch := first | assumption | omega | (simp only [nx]; omega) | ((repeat refine Fresh.push ?_ _); assumption) | (simp only [smA]; done) | (simp [oneCell, AW.next_push]; done) | fail) only [go_sem, Nat.reduceEqDiff, reduceIte, Nat.reduceAdd, Int.toNat_natCast, Nat.add_zero, Owes_true, e5, hsu]; try rfl), by (simp -dsimp -implicitDefEqProofs (maxSteps := 2000000) (disch := first | assumption | omega | (simp only [nx]; omega) | ((repeat refine Fresh.push ?_ _); assumption) | (simp only [smA]; done) | (simp [oneCell, AW.next_push]; done) | fail) only [go_sem, Nat.reduceEqDiff, reduceIte, Nat.reduceAdd, Int.toNat_natCast, Nat.add_zero, Owes_true, e6, hsu]; try rfl), by (simp -dsimp -implicitDefEqProofs (maxSteps := 2000000) (disch := first | assumption | omega | (simp only [nx]; omega) | ((repeat refine Fresh.push ?_ _); assumption) | (simp only [smA]; done) | (simp [oneCell, AW.next_push]; done) | fail) only [go_sem, Nat.reduceEqDiff, reduceIte, Nat.reduceAdd, Int.toNat_natCast, Nat.add_zero, Owes_true, e7, hsu]; try rfl), rfl⟩
    | true =>
      rw [hF, Bool.true_and] at hsu
      simp -dsimp -implicitDefEqProofs (maxSteps := 2000000) (disch := first | assumption | omega | (simp only [nx]; omega) | ((repeat refine Fresh.push ?_ _); assumption) | (simp only [smA]; done) | (simp [oneCell, AW.next_push]; done) | fail) only [go_sem, Nat.reduceEqDiff, reduceIte, Nat.reduceAdd, Int.toNat_natCast, Nat.add_zero, Owes_true, Tryz.results64, e0, e3, e4, e5, e6, e7, hli, hF, indexV_eq, Nat.mul_one, a0]
      apply callV_of (e := rfl)
      · exact Has_ok x y (by omega) (by omega) w2
      rintro _ _ ⟨rfl, rfl⟩
      simp -dsimp -implicitDefEqProofs (maxSteps := 2000000) (disch := first | assumption | omega | (simp only [nx]; omega) | ((repeat refine Fresh.push ?_ _); assumption) | (simp only [smA]; done) | (simp [oneCell, AW.next_push]; done) | fail) only [go_sem, Nat.reduceEqDiff, reduceIte, Nat.reduceAdd, Int.toNat_natCast, Nat.add_zero, Owes_true, Tryz.results64, e0, e3, e4, e5, e7]
      refine ⟨_, by omega, i + 1, by omega, rfl, rfl, by (simp -dsimp -implicitDefEqProofs (maxSteps := 2000000) (disch := first | assumption | omega | (simp only [nx]; omega) | ((repeat refine Fresh.push ?_ _); assumption) | (simp only [smA]; done) | (simp [oneCell, AW.next_push]; done) | fail) only [go_sem, Nat.reduceEqDiff, reduceIte, Nat.reduceAdd, Int.toNat_natCast, Nat.add_zero, Owes_true, e0, hsu]; try rfl), by (simp -dsimp -implicitDefEqProofs (maxSteps := 2000000) (disch := first | assumption | omega | (simp only [nx]; omega) | ((repeat refine Fresh.push ?_ _); assumption) | (simp only [smA]; done) | (simp [oneCell, AW.next_push]; done) | fail) only [go_sem, Nat.reduceEqDiff, reduceIte, Nat.reduceAdd, Int.toNat_natCast, Nat.add_zero, Owes_true, e3, hsu]; try rfl), by (simp -dsimp -implicitDefEqProofs (maxSteps := 2000000) (disch := first | assumption | omega | (simp only [nx]; omega) | ((repeat refine Fresh.push ?_ _); assumption) | (simp only [smA]; done) | (simp [oneCell, AW.next_push]; done) | fail) only [go_sem, Nat.reduceEqDiff, reduceIte, Nat.reduceAdd, Int.toNat_natCast, Nat.add_zero, Owes_true, e4, hsu]; try rfl), by (simp -dsimp -implicitDefEqProofs (maxSteps := 2000000) (disch := first | assumption | omega | (simp only [nx]; omega) | ((repeat refine Fresh.push ?_ _); assumption) | (simp only [smA]; done) | (simp [oneCell, AW.next_push]; done) | fail) only [go_sem, Nat.reduceEqDiff, reduceIte, Nat.reduceAdd, Int.toNat_natCast, Nat.add_zero, Owes_true, e5, hsu]; try rfl), by (simp -dsimp -implicitDefEqProofs (maxSteps := 2000000) (disch := first | assumption | omega | (simp only [nx]; omega) | ((repeat refine Fresh.push ?_ _); assumption) | (simp only [smA]; done) | (simp [oneCell, AW.next_push]; done) | fail) only [go_sem, Nat.reduceEqDiff, reduceIte, Nat.reduceAdd, Int.toNat_natCast, Nat.add_zero, Owes_true, e6, hsu]; try rfl), by (simp -dsimp -implicitDefEqProofs (maxSteps := 2000000) (disch := first | assumption | omega | (simp only [nx]; omega) | ((repeat refine Fresh.push ?_ _); assumption) | (simp only [smA]; done) | (simp [oneCell, AW.next_push]; done) | fail) only [go_sem, Nat.reduceEqDiff, reduceIte, Nat.reduceAdd, Int.toNat_natCast, Nat.add_zero, Owes_true, e7, hsu]; try rfl), rfl⟩
  obtain rfl : i = M.length := by omega
  rw [allTo_all] at e6
  cases hk : M.any (subB x) with
  | true =>
    have hk2 : (M.all fun y => !subB x y) = false := by rw [List.any_eq_true] at hk; rw [Bool.eq_false_iff]; intro z; obtain ⟨y, hy, hq⟩ := hk; have := List.all_eq_true.1 z y hy; rw [hq] at this; cases this
    have hM : minL A' = M := by rw [hsn, keepL, if_pos hk]
    simp -dsimp -implicitDefEqProofs (maxSteps := 2000000) (disch := first | assumption | omega | (simp only [nx]; omega) | ((repeat refine Fresh.push ?_ _); assumption) | (simp only [smA]; done) | (simp [oneCell, AW.next_push]; done) | fail) only [go_sem, Nat.reduceEqDiff, reduceIte, Nat.reduceAdd, Int.toNat_natCast, Nat.add_zero, Owes_true, Tryz.results64, e0, e3, e4, e5, e6, e7, hli, hk2]
    refine ⟨_, by omega, x + 1, by omega, rfl, rfl, by (simp -dsimp -implicitDefEqProofs (maxSteps := 2000000) (disch := first | assumption | omega | (simp only [nx]; omega) | ((repeat refine Fresh.push ?_ _); assumption) | (simp only [smA]; done) | (simp [oneCell, AW.next_push]; done) | fail) only [go_sem, Nat.reduceEqDiff, reduceIte, Nat.reduceAdd, Int.toNat_natCast, Nat.add_zero, Owes_true, e0]; try rfl), by (simp -dsimp -implicitDefEqProofs (maxSteps := 2000000) (disch := first | assumption | omega | (simp only [nx]; omega) | ((repeat refine Fresh.push ?_ _); assumption) | (simp only [smA]; done) | (simp [oneCell, AW.next_push]; done) | fail) only [go_sem, Nat.reduceEqDiff, reduceIte, Nat.reduceAdd, Int.toNat_natCast, Nat.add_zero, Owes_true, e4]; try rfl), by (simp -dsimp -implicitDefEqProofs (maxSteps := 2000000) (disch := first | assumption | omega | (simp only [nx]; omega) | ((repeat refine Fresh.push ?_ _); assumption) | (simp only [smA]; done) | (simp [oneCell, AW.next_push]; done) | fail) only [go_sem, Nat.reduceEqDiff, reduceIte, Nat.reduceAdd, Int.toNat_natCast, Nat.add_zero, Owes_true, e5]; try rfl), .slice pM M.length cM, (by simp -dsimp -implicitDefEqProofs (maxSteps := 2000000) (disch := first | assumption | omega | (simp only [nx]; omega) | ((repeat refine Fresh.push ?_ _); assumption) | (simp only [smA]; done) | (simp [oneCell, AW.next_push]; done) | fail) only [go_sem, Nat.reduceEqDiff, reduceIte, Nat.reduceAdd, Int.toNat_natCast, Nat.add_zero, Owes_true, e3]), (by rw [← hA', hM]; exact hO2), k2, f2⟩
  | false =>
    have hk2 : (M.all fun y => !subB x y) = true := by
      rw [List.all_eq_true]; intro y hy
      have : subB x y = false := by
        rw [Bool.eq_false_iff]; intro z
        rw [List.any_eq_true.2 ⟨y, hy, z⟩] at hk; cases hk
      rw [this]; rfl
    have hM : minL A' = M ++ [x] := by rw [hsn, keepL, if_neg (by rw [hk]; intro z; cases z)]
    obtain ⟨u6, w6, happ, hA6, hk6, hf6, hn6⟩ := hO2.app f2 k2.next (by omega) x
    rw [← hM] at hA6
    simp -dsimp -implicitDefEqProofs (maxSteps := 2000000) (disch := first | assumption | omega | (simp only [nx]; omega) | ((repeat refine Fresh.push ?_ _); assumption) | (simp only [smA]; done) | (simp [oneCell, AW.next_push]; done) | fail) only [go_sem, Nat.reduceEqDiff, reduceIte, Nat.reduceAdd, Int.toNat_natCast, Nat.add_zero, Owes_true, Tryz.results64, e0, e3, e4, e5, e6, e7, hli, hk2, happ]
    refine ⟨_, by omega, x + 1, by omega, rfl, rfl, by (simp -dsimp -implicitDefEqProofs (maxSteps := 2000000) (disch := first | assumption | omega | (simp only [nx]; omega) | ((repeat refine Fresh.push ?_ _); assumption) | (simp only [smA]; done) | (simp [oneCell, AW.next_push]; done) | fail) only [go_sem, Nat.reduceEqDiff, reduceIte, Nat.reduceAdd, Int.toNat_natCast, Nat.add_zero, Owes_true, e0]; try rfl), by (simp -dsimp -implicitDefEqProofs (maxSteps := 2000000) (disch := first | assumption | omega | (simp only [nx]; omega) | ((repeat refine Fresh.push ?_ _); assumption) | (simp only [smA]; done) | (simp [oneCell, AW.next_push]; done) | fail) only [go_sem, Nat.reduceEqDiff, reduceIte, Nat.reduceAdd, Int.toNat_natCast, Nat.add_zero, Owes_true, e4]; try rfl), by (simp -dsimp -implicitDefEqProofs (maxSteps := 2000000) (disch := first | assumption | omega | (simp only [nx]; omega) | ((repeat refine Fresh.push ?_ _); assumption) | (simp only [smA]; done) | (simp [oneCell, AW.next_push]; done) | fail) only [go_sem, Nat.reduceEqDiff, reduceIte, Nat.reduceAdd, Int.toNat_natCast, Nat.add_zero, Owes_true, e5]; try rfl), u6, (by simp -dsimp -implicitDefEqProofs (maxSteps := 2000000) (disch := first | assumption | omega | (simp only [nx]; omega) | ((repeat refine Fresh.push ?_ _); assumption) | (simp only [smA]; done) | (simp [oneCell, AW.next_push]; done) | fail) only [go_sem, Nat.reduceEqDiff, reduceIte, Nat.reduceAdd, Int.toNat_natCast, Nat.add_zero, Owes_true]), (by rw [← hA']; exact hA6), k2.trans hk6, hf6⟩
end Go.Proofs

namespace Go.Proofs
open Go Go.RowKit Go.Sim
set_option maxRecDepth 100000
set_option maxHeartbeats 16000000 in
theorem reaching_ok {s : StrN} (hs : strB s = true) {pR pG pS : Option Addr} {cR cG cS : Nat} (rm : Nat) (hrm : rm ≤ 8) (w : AW) (f : Fresh w) (hA : StrAt w pR pG pS cR cG cS s) :
    CallT Tryz.prog Tryz.T1 (.fn (.func 65) #[]) #[.agg (strC pR pG pS cR cG cS s).toArray, .int .i64 (rm : Int)] w (fun u w' => Grown w w' ∧ RowS 3 w.next w' u (selTo (fun g => (endR s g 1).testBit rm) (2 ^ s.staff.length))) := by
  have g1 := (Grown.refl f).push (.cells (strC pR pG pS cR cG cS s) 26 w.next 0 0)
  have O1 := Own.new f 26 (strC pR pG pS cR cG cS s)
  have hen := fun (g : Nat) (hg : g < 64) (hgb : ∀ k, g.testBit k = true → k < s.staff.length) w' (g' : Grown w w') => enter_ok hs (g := g) hg hgb w' g'.2 (hA.grown g')
  have hsl := (str_staff hs).2.1
  have hsh := full_shl (n := s.staff.length) (by omega)
  have h0 : ¬ (s.staff.length : Int) < 0 := by omega
  have hp := pow6 hsl
  have hbl : ∀ g, g < 2 ^ s.staff.length → ∀ k, g.testBit k = true → k < s.staff.length := fun g hg k hk => bit_lt hg hk
  generalize 2 ^ s.staff.length = N at *
  unfold strC at *
  refine callT_code rfl Tryz.func65 rfl Tryz.s65_eq rfl ?_
  unfold Tryz.s65
  simp -dsimp -implicitDefEqProofs (maxSteps := 2000000) (disch := first | assumption | omega | (simp only [nx]; omega) | ((repeat refine Fresh.push ?_ _); assumption) | (simp only [smA]; done) | (simp [oneCell, AW.next_push]; done) | fail) only [go_sem, Nat.reduceEqDiff, reduceIte, Nat.reduceAdd, Int.toNat_natCast, Nat.add_zero, Owes_true, Tryz.results65]
  generalize w.push (.cells [.slice pR s.rooms.length cR, .slice pG s.gates.length cG, .slice pS s.staff.length cS] 26 w.next 0 0) = w1 at *
  have hn1 := g1.1.next
  refine loopR (fun k t ds w2 => ∃ i : Nat, i ≤ N ∧ k = N - i ∧ ds = [] ∧ ev t (.tmp 1) = .int .i64 (rm : Int) ∧ ev t (.tmp 2) = .pointer (some ⟨w.next, 0, none⟩) ∧ ev t (.tmp 6) = .int .i64 (i : Int) ∧ ∃ out : Value, ev t (.tmp 5) = out ∧ RowS 3 w1.next w2 out (selTo (fun g => (endR s g 1).testBit rm) i) ∧ Grown w w2 ∧ Keep w1.next w1 w2) (N) ?_ ?_
  · refine ⟨0, by omega, by omega, rfl, ?_, ?_, ?_, _, (by simp -dsimp -implicitDefEqProofs (maxSteps := 2000000) (disch := first | assumption | omega | (simp only [nx]; omega) | ((repeat refine Fresh.push ?_ _); assumption) | (simp only [smA]; done) | (simp [oneCell, AW.next_push]; done) | fail) only [go_sem, Nat.reduceEqDiff, reduceIte, Nat.reduceAdd, Int.toNat_natCast, Nat.add_zero, Owes_true]), RowS.nil _ _ _, g1, .refl _ _⟩ <;> simp -dsimp -implicitDefEqProofs (maxSteps := 2000000) (disch := first | assumption | omega | (simp only [nx]; omega) | ((repeat refine Fresh.push ?_ _); assumption) | (simp only [smA]; done) | (simp [oneCell, AW.next_push]; done) | fail) only [go_sem, Nat.reduceEqDiff, reduceIte, Nat.reduceAdd, Int.toNat_natCast, Nat.add_zero, Owes_true] <;> rfl
  rintro k t ds w2 ⟨i, hii, rfl, rfl, e1, e2, e6, out, e5, hO, gW, k2⟩
  have O2 := O1.keep k2
  have c2 := O2.cell (o := 2) (v := .slice pS s.staff.length cS) rfl rfl
  have hl2 := loadAll O2 (n := 3) rfl (by simp [oneCell])
  have hsel := selTo_len (fun g => (endR s g 1).testBit rm) i
  by_cases hlt : (i : Int) < (N : Int)
  case neg =>
    obtain rfl : i = N := by omega
    simp -dsimp -implicitDefEqProofs (maxSteps := 2000000) (disch := first | assumption | omega | (simp only [nx]; omega) | ((repeat refine Fresh.push ?_ _); assumption) | (simp only [smA]; done) | (simp [oneCell, AW.next_push]; done) | fail) only [go_sem, Nat.reduceEqDiff, reduceIte, Nat.reduceAdd, Int.toNat_natCast, Nat.add_zero, Owes_true, Tryz.results65, e1, e2, e5, e6, c2, h0, hsh, hlt, Nat.zero_add]
    exact ⟨gW, AOwn.weak hO hn1⟩
  simp -dsimp -implicitDefEqProofs (maxSteps := 2000000) (disch := first | assumption | omega | (simp only [nx]; omega) | ((repeat refine Fresh.push ?_ _); assumption) | (simp only [smA]; done) | (simp [oneCell, AW.next_push]; done) | fail) only [go_sem, Nat.reduceEqDiff, reduceIte, Nat.reduceAdd, Int.toNat_natCast, Nat.add_zero, Owes_true, Tryz.results65, e1, e2, e5, e6, c2, h0, hsh, hlt, hl2, Nat.zero_add]
  apply callV_of (e := rfl)
  · exact hen i (by omega) (hbl i (by omega)) w2 gW
  rintro _ w3 ⟨rfl, g3⟩
  have hO3 := hO.keep g3.1
  have k3 := k2.trans (g3.1.mono k2.next)
  simp -dsimp -implicitDefEqProofs (maxSteps := 2000000) (disch := first | assumption | omega | (simp only [nx]; omega) | ((repeat refine Fresh.push ?_ _); assumption) | (simp only [smA]; done) | (simp [oneCell, AW.next_push]; done) | fail) only [go_sem, Nat.reduceEqDiff, reduceIte, Nat.reduceAdd, Int.toNat_natCast, Nat.add_zero, Owes_true, Tryz.results65, e1, e2, e5, e6]
  apply callV_of (e := rfl)
  · exact Bit_ok (endR s i 1) rm (by have := (endR_in hs i).1; omega) hrm w3
  rintro _ _ ⟨rfl, rfl⟩
  cases hk : (endR s i 1).testBit rm with
  | false =>
    have hN := selTo_no (P := fun g => (endR s g 1).testBit rm) (i := i) hk
    simp -dsimp -implicitDefEqProofs (maxSteps := 2000000) (disch := first | assumption | omega | (simp only [nx]; omega) | ((repeat refine Fresh.push ?_ _); assumption) | (simp only [smA]; done) | (simp [oneCell, AW.next_push]; done) | fail) only [go_sem, Nat.reduceEqDiff, reduceIte, Nat.reduceAdd, Int.toNat_natCast, Nat.add_zero, Owes_true, Tryz.results65, e1, e2, e5, e6, hk]
    refine ⟨_, by omega, i + 1, by omega, rfl, rfl, by (simp -dsimp -implicitDefEqProofs (maxSteps := 2000000) (disch := first | assumption | omega | (simp only [nx]; omega) | ((repeat refine Fresh.push ?_ _); assumption) | (simp only [smA]; done) | (simp [oneCell, AW.next_push]; done) | fail) only [go_sem, Nat.reduceEqDiff, reduceIte, Nat.reduceAdd, Int.toNat_natCast, Nat.add_zero, Owes_true, e1]; try rfl), by (simp -dsimp -implicitDefEqProofs (maxSteps := 2000000) (disch := first | assumption | omega | (simp only [nx]; omega) | ((repeat refine Fresh.push ?_ _); assumption) | (simp only [smA]; done) | (simp [oneCell, AW.next_push]; done) | fail) only [go_sem, Nat.reduceEqDiff, reduceIte, Nat.reduceAdd, Int.toNat_natCast, Nat.add_zero, Owes_true, e2]; try rfl), by (simp -dsimp -implicitDefEqProofs (maxSteps := 2000000) (disch := first | assumption | omega | (simp only [nx]; omega) | ((repeat refine Fresh.push ?_ _); assumption) | (simp only [smA]; done) | (simp [oneCell, AW.next_push]; done) | fail) only [go_sem, Nat.reduceEqDiff, reduceIte, Nat.reduceAdd, Int.toNat_natCast, Nat.add_zero, Owes_true, e6]; try rfl), out, (by simp -dsimp -implicitDefEqProofs (maxSteps := 2000000) (disch := first | assumption | omega | (simp only [nx]; omega) | ((repeat refine Fresh.push ?_ _); assumption) | (simp only [smA]; done) | (simp [oneCell, AW.next_push]; done) | fail) only [go_sem, Nat.reduceEqDiff, reduceIte, Nat.reduceAdd, Int.toNat_natCast, Nat.add_zero, Owes_true, e5]), (by rw [hN]; exact hO3), gW.trans g3, k3⟩
  | true =>
    have hN := selTo_yes (P := fun g => (endR s g 1).testBit rm) (i := i) hk
    obtain ⟨u6, w6, happ, hA6, hk6, hf6, hn6⟩ := hO3.app g3.2 k3.next (by omega) i
    simp -dsimp -implicitDefEqProofs (maxSteps := 2000000) (disch := first | assumption | omega | (simp only [nx]; omega) | ((repeat refine Fresh.push ?_ _); assumption) | (simp only [smA]; done) | (simp [oneCell, AW.next_push]; done) | fail) only [go_sem, Nat.reduceEqDiff, reduceIte, Nat.reduceAdd, Int.toNat_natCast, Nat.add_zero, Owes_true, Tryz.results65, e1, e2, e5, e6, hk, happ]
    refine ⟨_, by omega, i + 1, by omega, rfl, rfl, by (simp -dsimp -implicitDefEqProofs (maxSteps := 2000000) (disch := first | assumption | omega | (simp only [nx]; omega) | ((repeat refine Fresh.push ?_ _); assumption) | (simp only [smA]; done) | (simp [oneCell, AW.next_push]; done) | fail) only [go_sem, Nat.reduceEqDiff, reduceIte, Nat.reduceAdd, Int.toNat_natCast, Nat.add_zero, Owes_true, e1]; try rfl), by (simp -dsimp -implicitDefEqProofs (maxSteps := 2000000) (disch := first | assumption | omega | (simp only [nx]; omega) | ((repeat refine Fresh.push ?_ _); assumption) | (simp only [smA]; done) | (simp [oneCell, AW.next_push]; done) | fail) only [go_sem, Nat.reduceEqDiff, reduceIte, Nat.reduceAdd, Int.toNat_natCast, Nat.add_zero, Owes_true, e2]; try rfl), by (simp -dsimp -implicitDefEqProofs (maxSteps := 2000000) (disch := first | assumption | omega | (simp only [nx]; omega) | ((repeat refine Fresh.push ?_ _); assumption) | (simp only [smA]; done) | (simp [oneCell, AW.next_push]; done) | fail) only [go_sem, Nat.reduceEqDiff, reduceIte, Nat.reduceAdd, Int.toNat_natCast, Nat.add_zero, Owes_true, e6]; try rfl), u6, (by simp -dsimp -implicitDefEqProofs (maxSteps := 2000000) (disch := first | assumption | omega | (simp only [nx]; omega) | ((repeat refine Fresh.push ?_ _); assumption) | (simp only [smA]; done) | (simp [oneCell, AW.next_push]; done) | fail) only [go_sem, Nat.reduceEqDiff, reduceIte, Nat.reduceAdd, Int.toNat_natCast, Nat.add_zero, Owes_true]), (by rw [hN]; exact hA6), ⟨(gW.trans g3).1.trans (hk6.mono hn1), hf6⟩, k3.trans hk6⟩
def meetB (a b : Nat) : Bool := !decide (a &&& b = 0)
theorem meetB_bits {a b : Nat} (ha : a < 256) : meetB a b = ((List.range 8).any fun k => a.testBit k && b.testBit k) := by
  unfold meetB
  rw [Bool.eq_iff_iff, Bool.not_eq_true', decide_eq_false_iff_not, List.any_eq_true]
  constructor
  · intro h
    refine Classical.byContradiction fun hn => h ?_
    apply Nat.eq_of_testBit_eq
    intro i
    rw [Nat.testBit_and, Nat.zero_testBit]
    cases q : a.testBit i with
    | false => rfl
    | true =>
      cases p : b.testBit i with
      | false => rfl
      | true => exact absurd ⟨i, List.mem_range.2 (bit_lt (n := 8) ha q), by rw [q, p]; rfl⟩ hn
  · rintro ⟨k, _, hk⟩ h0
    rw [Bool.and_eq_true] at hk
    have : (a &&& b).testBit k = true := by rw [Nat.testBit_and, hk.1, hk.2]; rfl
    rw [h0] at this
    simp at this
theorem meet_ok (a b : Nat) (ha : a < 256) (hb : b < 256) (w : AW) : CallT Tryz.prog Tryz.T1 (.fn (.func 70) #[]) #[.int .i64 (a : Int), .int .i64 (b : Int)] w (Ret (.bool (meetB a b)) fun w' => w = w') := by
  have hs := meetB_bits (b := b) ha
  refine callT_code rfl Tryz.func70 rfl Tryz.s70_eq rfl ?_
  unfold Tryz.s70
  simp -dsimp -implicitDefEqProofs (maxSteps := 2000000) (disch := first | assumption | omega | (simp only [nx]; omega) | ((repeat refine Fresh.push ?_ _); assumption) | (simp only [smA]; done) | (simp [oneCell, AW.next_push]; done) | fail) only [go_sem, Nat.reduceEqDiff, reduceIte, Nat.reduceAdd, Int.toNat_natCast, Nat.add_zero, Owes_true, Tryz.results70]
  refine loopR (fun k t ds w1 => ∃ i : Nat, i ≤ 8 ∧ k = 8 - i ∧ ds = [] ∧ ev t (.tmp 0) = .int .i64 (a : Int) ∧ ev t (.tmp 1) = .int .i64 (b : Int) ∧ ev t (.tmp 5) = .int .i64 (i : Int) ∧ (∀ k, k < i → (a.testBit k && b.testBit k) = false) ∧ w = w1) (8) ?_ ?_
  · refine ⟨0, by omega, by omega, rfl, ?_, ?_, ?_, fun k h => by omega, rfl⟩ <;> simp -dsimp -implicitDefEqProofs (maxSteps := 2000000) (disch := first | assumption | omega | (simp only [nx]; omega) | ((repeat refine Fresh.push ?_ _); assumption) | (simp only [smA]; done) | (simp [oneCell, AW.next_push]; done) | fail) only [go_sem, Nat.reduceEqDiff, reduceIte, Nat.reduceAdd, Int.toNat_natCast, Nat.add_zero, Owes_true] <;> rfl
  rintro k t ds w1 ⟨i, hii, rfl, rfl, e0, e1, e5, hno, hw⟩
  subst hw
  by_cases hlt : (i : Int) < 8
  case neg =>
    obtain rfl : i = 8 := by omega
    have : meetB a b = false := by
      rw [hs, Bool.eq_false_iff]; intro z
      obtain ⟨k, hk, h⟩ := List.any_eq_true.1 z
      rw [hno k (List.mem_range.1 hk)] at h; cases h
    simp -dsimp -implicitDefEqProofs (maxSteps := 2000000) (disch := first | assumption | omega | (simp only [nx]; omega) | ((repeat refine Fresh.push ?_ _); assumption) | (simp only [smA]; done) | (simp [oneCell, AW.next_push]; done) | fail) only [go_sem, Nat.reduceEqDiff, reduceIte, Nat.reduceAdd, Int.toNat_natCast, Nat.add_zero, Owes_true, Tryz.results70, e0, e1, e5, hlt]
    exact ⟨by rw [this], rfl⟩
  have hnext : (a.testBit i && b.testBit i) = false → ∀ k, k < i + 1 → (a.testBit k && b.testBit k) = false := fun h k hk => by
    rcases Nat.lt_or_ge k i with q | q
    · exact hno k q
    · obtain rfl : k = i := by omega
      exact h
  simp -dsimp -implicitDefEqProofs (maxSteps := 2000000) (disch := first | assumption | omega | (simp only [nx]; omega) | ((repeat refine Fresh.push ?_ _); assumption) | (simp only [smA]; done) | (simp [oneCell, AW.next_push]; done) | fail) only [go_sem, Nat.reduceEqDiff, reduceIte, Nat.reduceAdd, Int.toNat_natCast, Nat.add_zero, Owes_true, Tryz.results70, e0, e1, e5, hlt]
  apply callV_of (e := rfl)
  · exact Bit_ok a i ha (by omega) w
  rintro _ _ ⟨rfl, rfl⟩
  cases hk : a.testBit i with
  | false =>
    simp -dsimp -implicitDefEqProofs (maxSteps := 2000000) (disch := first | assumption | omega | (simp only [nx]; omega) | ((repeat refine Fresh.push ?_ _); assumption) | (simp only [smA]; done) | (simp [oneCell, AW.next_push]; done) | fail) only [go_sem, Nat.reduceEqDiff, reduceIte, Nat.reduceAdd, Int.toNat_natCast, Nat.add_zero, Owes_true, Tryz.results70, e0, e1, e5, hk]
    refine ⟨_, by omega, i + 1, by omega, rfl, rfl, by (simp -dsimp -implicitDefEqProofs (maxSteps := 2000000) (disch := first | assumption | omega | (simp only [nx]; omega) | ((repeat refine Fresh.push ?_ _); assumption) | (simp only [smA]; done) | (simp [oneCell, AW.next_push]; done) | fail) only [go_sem, Nat.reduceEqDiff, reduceIte, Nat.reduceAdd, Int.toNat_natCast, Nat.add_zero, Owes_true, e0]; try rfl), by (simp -dsimp -implicitDefEqProofs (maxSteps := 2000000) (disch := first | assumption | omega | (simp only [nx]; omega) | ((repeat refine Fresh.push ?_ _); assumption) | (simp only [smA]; done) | (simp [oneCell, AW.next_push]; done) | fail) only [go_sem, Nat.reduceEqDiff, reduceIte, Nat.reduceAdd, Int.toNat_natCast, Nat.add_zero, Owes_true, e1]; try rfl), by (simp -dsimp -implicitDefEqProofs (maxSteps := 2000000) (disch := first | assumption | omega | (simp only [nx]; omega) | ((repeat refine Fresh.push ?_ _); assumption) | (simp only [smA]; done) | (simp [oneCell, AW.next_push]; done) | fail) only [go_sem, Nat.reduceEqDiff, reduceIte, Nat.reduceAdd, Int.toNat_natCast, Nat.add_zero, Owes_true, e5]; try rfl), hnext (by rw [hk]; rfl), rfl⟩
  | true =>
    simp -dsimp -implicitDefEqProofs (maxSteps := 2000000) (disch := first | assumption | omega | (simp only [nx]; omega) | ((repeat refine Fresh.push ?_ _); assumption) | (simp only [smA]; done) | (simp [oneCell, AW.next_push]; done) | fail) only [go_sem, Nat.reduceEqDiff, reduceIte, Nat.reduceAdd, Int.toNat_natCast, Nat.add_zero, Owes_true, Tryz.results70, e0, e1, e5, hk]
    apply callV_of (e := rfl)
    · exact Bit_ok b i hb (by omega) w
    rintro _ _ ⟨rfl, rfl⟩
    cases hj : b.testBit i with
    | false =>
      simp -dsimp -implicitDefEqProofs (maxSteps := 2000000) (disch := first | assumption | omega | (simp only [nx]; omega) | ((repeat refine Fresh.push ?_ _); assumption) | (simp only [smA]; done) | (simp [oneCell, AW.next_push]; done) | fail) only [go_sem, Nat.reduceEqDiff, reduceIte, Nat.reduceAdd, Int.toNat_natCast, Nat.add_zero, Owes_true, Tryz.results70, e0, e1, e5, hk, hj]
      refine ⟨_, by omega, i + 1, by omega, rfl, rfl, by (simp -dsimp -implicitDefEqProofs (maxSteps := 2000000) (disch := first | assumption | omega | (simp only [nx]; omega) | ((repeat refine Fresh.push ?_ _); assumption) | (simp only [smA]; done) | (simp [oneCell, AW.next_push]; done) | fail) only [go_sem, Nat.reduceEqDiff, reduceIte, Nat.reduceAdd, Int.toNat_natCast, Nat.add_zero, Owes_true, e0]; try rfl), by (simp -dsimp -implicitDefEqProofs (maxSteps := 2000000) (disch := first | assumption | omega | (simp only [nx]; omega) | ((repeat refine Fresh.push ?_ _); assumption) | (simp only [smA]; done) | (simp [oneCell, AW.next_push]; done) | fail) only [go_sem, Nat.reduceEqDiff, reduceIte, Nat.reduceAdd, Int.toNat_natCast, Nat.add_zero, Owes_true, e1]; try rfl), by (simp -dsimp -implicitDefEqProofs (maxSteps := 2000000) (disch := first | assumption | omega | (simp only [nx]; omega) | ((repeat refine Fresh.push ?_ _); assumption) | (simp only [smA]; done) | (simp [oneCell, AW.next_push]; done) | fail) only [go_sem, Nat.reduceEqDiff, reduceIte, Nat.reduceAdd, Int.toNat_natCast, Nat.add_zero, Owes_true, e5]; try rfl), hnext (by rw [hk, hj]; rfl), rfl⟩
    | true =>
      have : meetB a b = true := by
        rw [hs, List.any_eq_true]; exact ⟨i, List.mem_range.2 (by omega), by rw [hk, hj]; rfl⟩
      simp -dsimp -implicitDefEqProofs (maxSteps := 2000000) (disch := first | assumption | omega | (simp only [nx]; omega) | ((repeat refine Fresh.push ?_ _); assumption) | (simp only [smA]; done) | (simp [oneCell, AW.next_push]; done) | fail) only [go_sem, Nat.reduceEqDiff, reduceIte, Nat.reduceAdd, Int.toNat_natCast, Nat.add_zero, Owes_true, Tryz.results70, e0, e1, e5, hk, hj]
      exact ⟨by rw [this], rfl⟩
theorem pairL_app {r : Nat → Nat → Prop} {A B : List Nat} (ha : A.Pairwise r) (hb : B.Pairwise r) (h : ∀ x ∈ A, ∀ y ∈ B, r x y) : (A ++ B).Pairwise r := List.pairwise_append.2 ⟨ha, hb, h⟩
theorem rowL_ord (L : List Nat) (n k : Nat) : (rowL L n k).Pairwise ordR := by
  unfold rowL
  have h := (List.pairwise_lt_range (n := k)).filter (fun x => decide (popN x = n) && L.contains x)
  refine List.Pairwise.imp_of_mem (fun {a b} ha hb hab => ?_) h
  have h1 := (List.mem_filter.1 ha).2
  have h2 := (List.mem_filter.1 hb).2
  simp only [Bool.and_eq_true, decide_eq_true_eq] at h1 h2
  exact .inr ⟨by omega, hab⟩
theorem mem_rowL {L : List Nat} {n k x : Nat} : x ∈ rowL L n k ↔ x < k ∧ popN x = n ∧ x ∈ L := by
  unfold rowL
  rw [List.mem_filter, List.mem_range]
  simp [List.contains_iff_mem]
theorem preL_ord (L : List Nat) : ∀ n k, (preL L n k).Pairwise ordR ∧ ∀ x ∈ preL L n k, popN x ≤ n
  | 0, k => ⟨rowL_ord L 0 k, fun x hx => by have := (mem_rowL.1 hx).2.1; omega⟩
  | n + 1, k => by
    obtain ⟨h1, h2⟩ := preL_ord L n 64
    have e : preL L (n + 1) k = preL L n 64 ++ rowL L (n + 1) k := by
      have h := preL_row L n
      unfold preL at h ⊢
      rw [h, List.append_assoc]
      rfl
    rw [e]
    refine ⟨pairL_app h1 (rowL_ord L (n + 1) k) fun x hx y hy => .inl ?_, fun x hx => ?_⟩
    · have := h2 x hx
      have := (mem_rowL.1 hy).2.1
      omega
    · rcases List.mem_append.1 hx with q | q
      · have := h2 x q; omega
      · have := (mem_rowL.1 q).2.1; omega
theorem popN_le (x : Nat) : popN x ≤ 6 := by
  have := List.countP_le_length (p := fun k => x.testBit k) (l := List.range 6)
  rw [List.length_range] at this; exact this
theorem mem_ordL {L : List Nat} (hL : ∀ x ∈ L, x < 64) {x : Nat} : x ∈ ordL L ↔ x ∈ L := by
  constructor
  · intro h
    exact (mem_pre h (by omega)).2
  · intro h
    unfold ordL preL
    refine List.mem_append_left _ (List.mem_flatMap.2 ⟨popN x, List.mem_range.2 (by have := popN_le x; omega), mem_rowL.2 ⟨hL x h, rfl, h⟩⟩)
theorem ord_unique {r : Nat → Nat → Prop} (hirr : ∀ x, ¬ r x x) (hasy : ∀ x y, r x y → ¬ r y x) : ∀ {A B : List Nat}, A.Pairwise r → B.Pairwise r → (∀ x, x ∈ A ↔ x ∈ B) → A = B
  | [], [], _, _, _ => rfl
  | [], y :: B, _, _, h => by have := (h y).2 List.mem_cons_self; cases this
  | x :: A, [], _, _, h => by have := (h x).1 List.mem_cons_self; cases this
  | x :: A, y :: B, ha, hb, h => by
    rw [List.pairwise_cons] at ha hb
    have hxy : x = y := by
      rcases List.mem_cons.1 ((h x).1 List.mem_cons_self) with q | q
      · exact q
      · rcases List.mem_cons.1 ((h y).2 List.mem_cons_self) with p | p
        · exact p.symm
        · exact absurd (ha.1 y p) (hasy y x (hb.1 x q))
    subst hxy
    congr 1
    refine ord_unique hirr hasy ha.2 hb.2 fun z => ?_
    constructor
    · intro hz
      rcases List.mem_cons.1 ((h z).1 (List.mem_cons_of_mem _ hz)) with q | q
      · subst q; exact absurd (ha.1 z hz) (hirr z)
      · exact q
    · intro hz
      rcases List.mem_cons.1 ((h z).2 (List.mem_cons_of_mem _ hz)) with q | q
      · subst q; exact absurd (hb.1 z hz) (hirr z)
      · exact q
theorem sort_ord {L : List Nat} (hL : ∀ x ∈ L, x < 64) (hn : L.Nodup) : sortN L = ordL L := by
  refine ord_unique (r := ordR) (fun x h => by unfold ordR at h; omega) (fun x y h k => by unfold ordR at h k; omega) ?_ (preL_ord L 7 0).1 fun x => ?_
  · have h1 := sortN_le L
    have h2 : (sortN L).Pairwise (· ≠ ·) := (List.mergeSort_perm L _).nodup_iff.2 hn
    refine (h1.and h2).imp fun {a b} q => ?_
    unfold ordR at q ⊢
    omega
  · rw [sortN_mem, mem_ordL hL]
theorem selTo_nodup (P : Nat → Bool) (n : Nat) : (selTo P n).Nodup := by
  unfold selTo
  show ((List.range n).filter P).Pairwise (· ≠ ·)
  exact List.Pairwise.filter P List.nodup_range
theorem least_ord (P : Nat → Bool) {m : Nat} (hm : m ≤ 6) : leastN P m = minL (ordL (selTo P (2 ^ m))) := by
  have hp := pow6 hm
  unfold leastN
  rw [sort_ord (fun x hx => by have := selTo_lt hx; omega) (selTo_nodup _ _)]
end Go.Proofs

namespace Go.Proofs
open Go Go.RowKit Go.Sim
set_option maxRecDepth 100000
theorem take_eq {L M : List Int} {i : Nat} (h : L.take i = M.take i) (a : i < L.length) (b : i < M.length) : (L.take (i + 1) = M.take (i + 1)) ↔ L[i] = M[i] := by
  rw [List.take_succ_eq_append_getElem a, List.take_succ_eq_append_getElem b, h]
  exact ⟨fun e => by have := List.append_cancel_left e; injection this, fun e => by rw [e]⟩
set_option maxHeartbeats 4000000 in
theorem Same_ok (L M : List Int) (u v : Value) (w : AW) (hL : ArrOf w 1 icells u L) (hM : ArrOf w 1 icells v M) :
    CallT Tryz.prog Tryz.T1 (.fn (.func 24) #[]) #[u, v] w (Ret (.bool (decide (L = M))) fun w' => w = w') := by
  obtain ⟨p, cap, rfl, _, _, hatC⟩ := id hL.open
  obtain ⟨q, cq, rfl, _, _, hatH⟩ := id hM.open
  refine callT_code rfl Tryz.func24 rfl Tryz.s24_eq rfl ?_
  unfold Tryz.s24
  by_cases hl : (L.length : Int) = (M.length : Int)
  case neg =>
    have hd : decide ((L.length : Int) = (M.length : Int)) = false := decide_eq_false hl
    have hE : decide (L = M) = false := decide_eq_false fun e => hl (by rw [e])
    simp -dsimp -implicitDefEqProofs (maxSteps := 2000000) (disch := first | assumption | omega | (simp only [nx]; omega) | ((repeat refine Fresh.push ?_ _); assumption) | (simp only [smA]; done) | (simp [oneCell, AW.next_push]; done) | fail) only [go_sem, Nat.reduceEqDiff, reduceIte, Nat.reduceAdd, Int.toNat_natCast, Nat.add_zero, Owes_true, Tryz.results24, hd]
    refine loopR (fun k t ds w1 => ∃ i : Nat, i ≤ 0 ∧ k = 0 - i ∧ ds = [] ∧ ev t (.tmp 5) = .bool false ∧ w = w1) (0) ?_ ?_
    · refine ⟨0, by omega, by omega, rfl, ?_, rfl⟩ <;> simp -dsimp -implicitDefEqProofs (maxSteps := 2000000) (disch := first | assumption | omega | (simp only [nx]; omega) | ((repeat refine Fresh.push ?_ _); assumption) | (simp only [smA]; done) | (simp [oneCell, AW.next_push]; done) | fail) only [go_sem, Nat.reduceEqDiff, reduceIte, Nat.reduceAdd, Int.toNat_natCast, Nat.add_zero, Owes_true] <;> rfl
    rintro k t ds w1 ⟨i, hii, rfl, rfl, e5, hw⟩
    subst hw
    simp -dsimp -implicitDefEqProofs (maxSteps := 2000000) (disch := first | assumption | omega | (simp only [nx]; omega) | ((repeat refine Fresh.push ?_ _); assumption) | (simp only [smA]; done) | (simp [oneCell, AW.next_push]; done) | fail) only [go_sem, Nat.reduceEqDiff, reduceIte, Nat.reduceAdd, Int.toNat_natCast, Nat.add_zero, Owes_true, Tryz.results24, e5]
    exact ⟨by rw [hE], rfl⟩
  have hd : decide ((L.length : Int) = (M.length : Int)) = true := decide_eq_true hl
  simp -dsimp -implicitDefEqProofs (maxSteps := 2000000) (disch := first | assumption | omega | (simp only [nx]; omega) | ((repeat refine Fresh.push ?_ _); assumption) | (simp only [smA]; done) | (simp [oneCell, AW.next_push]; done) | fail) only [go_sem, Nat.reduceEqDiff, reduceIte, Nat.reduceAdd, Int.toNat_natCast, Nat.add_zero, Owes_true, Tryz.results24, hd]
  refine loopR (fun k t ds w1 => ∃ i : Nat, i ≤ L.length ∧ k = L.length - i ∧ ds = [] ∧ ev t (.tmp 0) = .slice p L.length cap ∧ ev t (.tmp 1) = .slice q M.length cq ∧ ev t (.tmp 6) = .int .i64 (i : Int) ∧ w = w1 ∧ ∃ B, ev t (.tmp 5) = .bool B ∧ (B = true → L.take i = M.take i) ∧ (B = false → L ≠ M)) (L.length) ?_ ?_
  · refine ⟨0, by omega, by omega, rfl, ?_, ?_, ?_, rfl, ⟨true, (by simp -dsimp -implicitDefEqProofs (maxSteps := 2000000) (disch := first | assumption | omega | (simp only [nx]; omega) | ((repeat refine Fresh.push ?_ _); assumption) | (simp only [smA]; done) | (simp [oneCell, AW.next_push]; done) | fail) only [go_sem, Nat.reduceEqDiff, reduceIte, Nat.reduceAdd, Int.toNat_natCast, Nat.add_zero, Owes_true]; try rfl), (fun _ => rfl), fun h => by cases h⟩⟩ <;> simp -dsimp -implicitDefEqProofs (maxSteps := 2000000) (disch := first | assumption | omega | (simp only [nx]; omega) | ((repeat refine Fresh.push ?_ _); assumption) | (simp only [smA]; done) | (simp [oneCell, AW.next_push]; done) | fail) only [go_sem, Nat.reduceEqDiff, reduceIte, Nat.reduceAdd, Int.toNat_natCast, Nat.add_zero, Owes_true] <;> rfl
  rintro k t ds w1 ⟨i, hii, rfl, rfl, e0, e1, e6, hw, hB⟩
  subst hw
  obtain ⟨B, e5, hB1, hB2⟩ := hB
  cases B with
  | false =>
    simp -dsimp -implicitDefEqProofs (maxSteps := 2000000) (disch := first | assumption | omega | (simp only [nx]; omega) | ((repeat refine Fresh.push ?_ _); assumption) | (simp only [smA]; done) | (simp [oneCell, AW.next_push]; done) | fail) only [go_sem, Nat.reduceEqDiff, reduceIte, Nat.reduceAdd, Int.toNat_natCast, Nat.add_zero, Owes_true, Tryz.results24, e5]
    exact ⟨by rw [decide_eq_false (hB2 rfl)], rfl⟩
  | true =>
  have ha := hB1 rfl
  by_cases hlt : (i : Int) < (L.length : Int)
  case neg =>
    obtain rfl : i = L.length := by omega
    have hE : L = M := by rw [List.take_of_length_le (Nat.le_refl _), List.take_of_length_le (by omega)] at ha; exact ha
    simp -dsimp -implicitDefEqProofs (maxSteps := 2000000) (disch := first | assumption | omega | (simp only [nx]; omega) | ((repeat refine Fresh.push ?_ _); assumption) | (simp only [smA]; done) | (simp [oneCell, AW.next_push]; done) | fail) only [go_sem, Nat.reduceEqDiff, reduceIte, Nat.reduceAdd, Int.toNat_natCast, Nat.add_zero, Owes_true, Tryz.results24, e0, e1, e5, e6, hlt]
    exact ⟨by rw [decide_eq_true hE], rfl⟩
  have hlt' : i < L.length := by omega
  have hltM : i < M.length := by omega
  have hltM' : (i : Int) < (M.length : Int) := by omega
  have hte := take_eq ha hlt' hltM
  obtain ⟨b1, o1, rfl, hb1, hc1⟩ := hatC i hlt'
  obtain ⟨b2, o2, rfl, hb2, hc2⟩ := hatH i hltM
  have aC := hc1 _ (Keep.refl _ _) 0 _ rfl
  have aH := hc2 _ (Keep.refl _ _) 0 _ rfl
  simp only [Nat.add_zero] at aC aH
  by_cases hq : L[i] = M[i]
  · have hqd : decide (L[i] = M[i]) = true := decide_eq_true hq
    simp -dsimp -implicitDefEqProofs (maxSteps := 2000000) (disch := first | assumption | omega | (simp only [nx]; omega) | ((repeat refine Fresh.push ?_ _); assumption) | (simp only [smA]; done) | (simp [oneCell, AW.next_push]; done) | fail) only [go_sem, Nat.reduceEqDiff, reduceIte, Nat.reduceAdd, Int.toNat_natCast, Nat.add_zero, Owes_true, Tryz.results24, e0, e1, e5, e6, hlt, hltM', indexV_eq, aC, aH, hqd]
    refine ⟨_, by omega, i + 1, by omega, rfl, rfl, by (simp -dsimp -implicitDefEqProofs (maxSteps := 2000000) (disch := first | assumption | omega | (simp only [nx]; omega) | ((repeat refine Fresh.push ?_ _); assumption) | (simp only [smA]; done) | (simp [oneCell, AW.next_push]; done) | fail) only [go_sem, Nat.reduceEqDiff, reduceIte, Nat.reduceAdd, Int.toNat_natCast, Nat.add_zero, Owes_true, e0]; try rfl), by (simp -dsimp -implicitDefEqProofs (maxSteps := 2000000) (disch := first | assumption | omega | (simp only [nx]; omega) | ((repeat refine Fresh.push ?_ _); assumption) | (simp only [smA]; done) | (simp [oneCell, AW.next_push]; done) | fail) only [go_sem, Nat.reduceEqDiff, reduceIte, Nat.reduceAdd, Int.toNat_natCast, Nat.add_zero, Owes_true, e1]; try rfl), by (simp -dsimp -implicitDefEqProofs (maxSteps := 2000000) (disch := first | assumption | omega | (simp only [nx]; omega) | ((repeat refine Fresh.push ?_ _); assumption) | (simp only [smA]; done) | (simp [oneCell, AW.next_push]; done) | fail) only [go_sem, Nat.reduceEqDiff, reduceIte, Nat.reduceAdd, Int.toNat_natCast, Nat.add_zero, Owes_true, e6]; try rfl), rfl, ⟨true, (by simp -dsimp -implicitDefEqProofs (maxSteps := 2000000) (disch := first | assumption | omega | (simp only [nx]; omega) | ((repeat refine Fresh.push ?_ _); assumption) | (simp only [smA]; done) | (simp [oneCell, AW.next_push]; done) | fail) only [go_sem, Nat.reduceEqDiff, reduceIte, Nat.reduceAdd, Int.toNat_natCast, Nat.add_zero, Owes_true]; try rfl), (fun _ => hte.2 hq), fun h => by cases h⟩⟩
  · have hqd : decide (L[i] = M[i]) = false := decide_eq_false hq
    simp -dsimp -implicitDefEqProofs (maxSteps := 2000000) (disch := first | assumption | omega | (simp only [nx]; omega) | ((repeat refine Fresh.push ?_ _); assumption) | (simp only [smA]; done) | (simp [oneCell, AW.next_push]; done) | fail) only [go_sem, Nat.reduceEqDiff, reduceIte, Nat.reduceAdd, Int.toNat_natCast, Nat.add_zero, Owes_true, Tryz.results24, e0, e1, e5, e6, hlt, hltM', indexV_eq, aC, aH, hqd]
    refine ⟨_, by omega, i + 1, by omega, rfl, rfl, by (simp -dsimp -implicitDefEqProofs (maxSteps := 2000000) (disch := first | assumption | omega | (simp only [nx]; omega) | ((repeat refine Fresh.push ?_ _); assumption) | (simp only [smA]; done) | (simp [oneCell, AW.next_push]; done) | fail) only [go_sem, Nat.reduceEqDiff, reduceIte, Nat.reduceAdd, Int.toNat_natCast, Nat.add_zero, Owes_true, e0]; try rfl), by (simp -dsimp -implicitDefEqProofs (maxSteps := 2000000) (disch := first | assumption | omega | (simp only [nx]; omega) | ((repeat refine Fresh.push ?_ _); assumption) | (simp only [smA]; done) | (simp [oneCell, AW.next_push]; done) | fail) only [go_sem, Nat.reduceEqDiff, reduceIte, Nat.reduceAdd, Int.toNat_natCast, Nat.add_zero, Owes_true, e1]; try rfl), by (simp -dsimp -implicitDefEqProofs (maxSteps := 2000000) (disch := first | assumption | omega | (simp only [nx]; omega) | ((repeat refine Fresh.push ?_ _); assumption) | (simp only [smA]; done) | (simp [oneCell, AW.next_push]; done) | fail) only [go_sem, Nat.reduceEqDiff, reduceIte, Nat.reduceAdd, Int.toNat_natCast, Nat.add_zero, Owes_true, e6]; try rfl), rfl, ⟨false, (by simp -dsimp -implicitDefEqProofs (maxSteps := 2000000) (disch := first | assumption | omega | (simp only [nx]; omega) | ((repeat refine Fresh.push ?_ _); assumption) | (simp only [smA]; done) | (simp [oneCell, AW.next_push]; done) | fail) only [go_sem, Nat.reduceEqDiff, reduceIte, Nat.reduceAdd, Int.toNat_natCast, Nat.add_zero, Owes_true]; try rfl), (fun h => by cases h), fun _ e => hq (hte.1 (by rw [e]))⟩⟩
theorem roomE_inR {s : StrN} (hs : strB s = true) (r : Int) : roomE s r = if inR 0 r ((s.rooms.length : Int) - 1) = true then 0 else 7 := by unfold roomE; rw [if_pos hs]
theorem grp_is {s : StrN} {k : Nat} (h : roomE s (k : Int) = 0) : grpN s (k : Int) = minL (ordL (selTo (fun g => (endR s g 1).testBit k) (2 ^ s.staff.length))) := by
  obtain ⟨hs, _⟩ := roomE_ok h
  unfold grpN
  rw [if_pos h, show ((k : Int)).toNat = k from rfl, least_ord _ (str_staff hs).2.1]
  have : reachB s (2 ^ k) = fun g => (endR s g 1).testBit k := by
    funext g
    rw [Bool.eq_iff_iff]; exact reachB_iff
  rw [this]
set_option maxHeartbeats 16000000 in
theorem GroupsR_ok (s : StrN) (pR pG pS : Option Addr) (cR cG cS : Nat) (r : Int) (w : AW) (f : Fresh w) (hA : StrAt w pR pG pS cR cG cS s) :
    CallT Tryz.prog Tryz.T1 (.fn (.func 28) #[]) #[.agg (strC pR pG pS cR cG cS s).toArray, .int .i64 r] w (fun v w' => Grown w w' ∧ ∃ u, v = .tuple #[u, .int .i64 (roomE s r)] ∧ RowS 3 w.next w' u (grpN s r)) := by
  have hlen := hA.len
  have g1 := (Grown.refl f).push (.cells (strC pR pG pS cR cG cS s) 26 w.next 0 0)
  have O1 := Own.new f 26 (strC pR pG pS cR cG cS s)
  have hl1 := loadAll O1 (n := 3) rfl (by simp [strC, oneCell])
  have hch := fun w' (g' : Grown w w') => CheckR_ok s pR pG pS cR cG cS w' g'.2 (hA.grown g') hlen
  have hre : ∀ k : Nat, strB s = true → k ≤ 8 → ∀ w', Grown w w' → _ := fun k hs hk w' g' => reaching_ok hs (pR := pR) (pG := pG) (pS := pS) (cR := cR) (cG := cG) (cS := cS) k hk w' g'.2 (hA.grown g')
  unfold strC at *
  refine callT_code rfl Tryz.func28 rfl Tryz.s28_eq rfl ?_
  unfold Tryz.s28
  simp -dsimp -implicitDefEqProofs (maxSteps := 2000000) (disch := first | assumption | omega | (simp only [nx]; omega) | ((repeat refine Fresh.push ?_ _); assumption) | (simp only [smA]; done) | (simp [oneCell, AW.next_push]; done) | fail) only [go_sem, Nat.reduceEqDiff, reduceIte, Nat.reduceAdd, Int.toNat_natCast, Nat.add_zero, Owes_true, Tryz.results28, hl1]
  generalize w.push (.cells [.slice pR s.rooms.length cR, .slice pG s.gates.length cG, .slice pS s.staff.length cS] 26 w.next 0 0) = w1 at *
  apply callV_of (e := rfl)
  · exact hch w1 g1
  rintro _ w2 ⟨rfl, g2⟩
  have gg2 := g1.trans g2
  have O2 := O1.keep g2.1
  have c0 := O2.cell (o := 0) (v := .slice pR s.rooms.length cR) rfl rfl
  have hl2 := loadAll O2 (n := 3) rfl (by simp [oneCell])
  cases hs : strB s with
  | false =>
    have hE : strE s = 40 := by unfold strE; rw [hs]; rfl
    have hR : roomE s r = 40 := by unfold roomE; rw [hs, if_neg (by intro z; cases z)]
    have h40 : ¬ (40 : Int) = 0 := by omega
    have hg : grpN s r = [] := by unfold grpN; rw [if_neg (by rw [hR]; omega)]
    simp -dsimp -implicitDefEqProofs (maxSteps := 2000000) (disch := first | assumption | omega | (simp only [nx]; omega) | ((repeat refine Fresh.push ?_ _); assumption) | (simp only [smA]; done) | (simp [oneCell, AW.next_push]; done) | fail) only [go_sem, Nat.reduceEqDiff, reduceIte, Nat.reduceAdd, Int.toNat_natCast, Nat.add_zero, Owes_true, Tryz.results28, hE, h40]
    exact ⟨gg2, .slice none 0 0, by rw [hR], by rw [hg]; exact RowS.nil _ _ _⟩
  | true =>
  have hE : strE s = 0 := by unfold strE; rw [hs]; rfl
  have hrl := (str_rooms hs).2
  have hsl := (str_staff hs).2.1
  have hp6 := pow6 hsl
  have hwN : IntKind.i64.wrap ((s.rooms.length : Int) - 1) = (s.rooms.length : Int) - 1 := wrap64 (by omega) (by omega)
  have hrI := roomE_inR hs r
  simp -dsimp -implicitDefEqProofs (maxSteps := 2000000) (disch := first | assumption | omega | (simp only [nx]; omega) | ((repeat refine Fresh.push ?_ _); assumption) | (simp only [smA]; done) | (simp [oneCell, AW.next_push]; done) | fail) only [go_sem, Nat.reduceEqDiff, reduceIte, Nat.reduceAdd, Int.toNat_natCast, Nat.add_zero, Owes_true, Tryz.results28, hE, c0, hwN, Nat.zero_add]
  apply callV_of (e := rfl)
  · exact From_ok _ _ _ w2
  rintro _ _ ⟨rfl, rfl⟩
  cases hx : inR 0 r ((s.rooms.length : Int) - 1) with
  | false =>
    rw [hx, if_neg (by intro z; cases z)] at hrI
    have hg : grpN s r = [] := by unfold grpN; rw [if_neg (by rw [hrI]; omega)]
    simp -dsimp -implicitDefEqProofs (maxSteps := 2000000) (disch := first | assumption | omega | (simp only [nx]; omega) | ((repeat refine Fresh.push ?_ _); assumption) | (simp only [smA]; done) | (simp [oneCell, AW.next_push]; done) | fail) only [go_sem, Nat.reduceEqDiff, reduceIte, Nat.reduceAdd, Int.toNat_natCast, Nat.add_zero, Owes_true, Tryz.results28, hx]
    exact ⟨gg2, .slice none 0 0, by rw [hrI], by rw [hg]; exact RowS.nil _ _ _⟩
  | true =>
  rw [hx, if_pos rfl] at hrI
  obtain ⟨_, k, rfl, hk⟩ := roomE_ok hrI
  rw [grp_is hrI]
  simp -dsimp -implicitDefEqProofs (maxSteps := 2000000) (disch := first | assumption | omega | (simp only [nx]; omega) | ((repeat refine Fresh.push ?_ _); assumption) | (simp only [smA]; done) | (simp [oneCell, AW.next_push]; done) | fail) only [go_sem, Nat.reduceEqDiff, reduceIte, Nat.reduceAdd, Int.toNat_natCast, Nat.add_zero, Owes_true, Tryz.results28, hx, hl2]
  apply callV_of (e := rfl)
  · exact hre k hs (by omega) w2 gg2
  rintro u w3 ⟨g3, hR⟩
  have gg3 := gg2.trans g3
  have hsl2 := selTo_len (fun g => (endR s g 1).testBit k) (2 ^ s.staff.length)
  generalize selTo (fun g => (endR s g 1).testBit k) (2 ^ s.staff.length) = L at *
  simp -dsimp -implicitDefEqProofs (maxSteps := 2000000) (disch := first | assumption | omega | (simp only [nx]; omega) | ((repeat refine Fresh.push ?_ _); assumption) | (simp only [smA]; done) | (simp [oneCell, AW.next_push]; done) | fail) only [go_sem, Nat.reduceEqDiff, reduceIte, Nat.reduceAdd, Int.toNat_natCast, Nat.add_zero, Owes_true, Tryz.results28]
  apply callV_of (e := rfl)
  · exact LeastR_ok L u w3 gg3.2 (hR.arr (by omega))
  rintro v w4 ⟨g4, hR4⟩
  simp -dsimp -implicitDefEqProofs (maxSteps := 2000000) (disch := first | assumption | omega | (simp only [nx]; omega) | ((repeat refine Fresh.push ?_ _); assumption) | (simp only [smA]; done) | (simp [oneCell, AW.next_push]; done) | fail) only [go_sem, Nat.reduceEqDiff, reduceIte, Nat.reduceAdd, Int.toNat_natCast, Nat.add_zero, Owes_true, Tryz.results28]
  exact ⟨gg3.trans g4, v, by rw [hrI], AOwn.weak hR4 gg3.1.next⟩
theorem gds_is {s : StrN} {k : Nat} (h : roomE s (k : Int) = 0) : gdsN s (k : Int) = minL (ordL (selTo (fun x => (selTo (fun g => (endR s g 1).testBit k) (2 ^ s.staff.length)).all (meetB x)) (2 ^ s.staff.length))) := by
  obtain ⟨hs, _⟩ := roomE_ok h
  have hm := (str_staff hs).2.1
  have hp := pow6 hm
  unfold gdsN
  rw [if_pos h, show ((k : Int)).toNat = k from rfl, least_ord _ hm]
  congr 2
  unfold selTo
  refine List.filter_congr fun x hx => ?_
  have hx := List.mem_range.1 hx
  rw [Bool.eq_iff_iff, List.all_eq_true]
  constructor
  · intro hq g hg
    have hg1 := List.mem_range.1 (List.mem_filter.1 hg).1
    have hg2 := (List.mem_filter.1 hg).2
    unfold meetB
    rw [Bool.not_eq_true', decide_eq_false_iff_not]
    intro h0
    unfold guardB at hq
    have hsub : Sub g (lessN (2 ^ s.staff.length - 1) x) := fun i hi => by
      rw [lessN_bit (by omega) (by omega), sub_full hm hg1 i hi, Bool.true_and]
      have : (x &&& g).testBit i = false := by rw [h0]; simp
      rw [Nat.testBit_and, hi, Bool.and_true] at this
      rw [this]; rfl
    rw [reachB_mono hs hsub (reachB_iff.2 hg2)] at hq
    cases hq
  · intro hq
    unfold guardB
    rw [Bool.not_eq_true', Bool.eq_false_iff]
    intro z
    have hc2 : lessN (2 ^ s.staff.length - 1) x < 2 ^ s.staff.length := Nat.lt_pow_two_of_testBit _ fun i hi => by
      rw [lessN_bit (by omega) (by omega), mask_bit (by omega), decide_eq_false (by omega), Bool.false_and]
    have := hq _ (List.mem_filter.2 ⟨List.mem_range.2 hc2, reachB_iff.1 z⟩)
    unfold meetB at this
    rw [Bool.not_eq_true', decide_eq_false_iff_not] at this
    apply this
    apply Nat.eq_of_testBit_eq
    intro i
    rw [Nat.testBit_and, Nat.zero_testBit, lessN_bit (by omega) (by omega)]
    cases x.testBit i <;> simp
set_option maxHeartbeats 32000000 in
theorem GuardsR_ok (s : StrN) (pR pG pS : Option Addr) (cR cG cS : Nat) (r : Int) (w : AW) (f : Fresh w) (hA : StrAt w pR pG pS cR cG cS s) :
    CallT Tryz.prog Tryz.T1 (.fn (.func 30) #[]) #[.agg (strC pR pG pS cR cG cS s).toArray, .int .i64 r] w (fun v w' => Grown w w' ∧ ∃ u, v = .tuple #[u, .int .i64 (roomE s r)] ∧ RowS 3 w.next w' u (gdsN s r)) := by
  have hlen := hA.len
  have g1 := (Grown.refl f).push (.cells (strC pR pG pS cR cG cS s) 26 w.next 0 0)
  have O1 := Own.new f 26 (strC pR pG pS cR cG cS s)
  have hl1 := loadAll O1 (n := 3) rfl (by simp [strC, oneCell])
  have hch := fun w' (g' : Grown w w') => CheckR_ok s pR pG pS cR cG cS w' g'.2 (hA.grown g') hlen
  have hre : ∀ k : Nat, strB s = true → k ≤ 8 → ∀ w', Grown w w' → _ := fun k hs hk w' g' => reaching_ok hs (pR := pR) (pG := pG) (pS := pS) (cR := cR) (cG := cG) (cS := cS) k hk w' g'.2 (hA.grown g')
  unfold strC at *
  refine callT_code rfl Tryz.func30 rfl Tryz.s30_eq rfl ?_
  unfold Tryz.s30
  simp -dsimp -implicitDefEqProofs (maxSteps := 2000000) (disch := first | assumption | omega | (simp only [nx]; omega) | ((repeat refine Fresh.push ?_ _); assumption) | (simp only [smA]; done) | (simp [oneCell, AW.next_push]; done) | fail) only [go_sem, Nat.reduceEqDiff, reduceIte, Nat.reduceAdd, Int.toNat_natCast, Nat.add_zero, Owes_true, Tryz.results30, hl1]
  generalize w.push (.cells [.slice pR s.rooms.length cR, .slice pG s.gates.length cG, .slice pS s.staff.length cS] 26 w.next 0 0) = w1 at *
  apply callV_of (e := rfl)
  · exact hch w1 g1
  rintro _ w2 ⟨rfl, g2⟩
  have gg2 := g1.trans g2
  have O2 := O1.keep g2.1
  have c0 := O2.cell (o := 0) (v := .slice pR s.rooms.length cR) rfl rfl
  have hl2 := loadAll O2 (n := 3) rfl (by simp [oneCell])
  cases hs : strB s with
  | false =>
    have hE : strE s = 40 := by unfold strE; rw [hs]; rfl
    have hR : roomE s r = 40 := by unfold roomE; rw [hs, if_neg (by intro z; cases z)]
    have h40 : ¬ (40 : Int) = 0 := by omega
    have hg : gdsN s r = [] := by unfold gdsN; rw [if_neg (by rw [hR]; omega)]
    simp -dsimp -implicitDefEqProofs (maxSteps := 2000000) (disch := first | assumption | omega | (simp only [nx]; omega) | ((repeat refine Fresh.push ?_ _); assumption) | (simp only [smA]; done) | (simp [oneCell, AW.next_push]; done) | fail) only [go_sem, Nat.reduceEqDiff, reduceIte, Nat.reduceAdd, Int.toNat_natCast, Nat.add_zero, Owes_true, Tryz.results30, hE, h40]
    exact ⟨gg2, .slice none 0 0, by rw [hR], by rw [hg]; exact RowS.nil _ _ _⟩
  | true =>
  have hE : strE s = 0 := by unfold strE; rw [hs]; rfl
  have hrl := (str_rooms hs).2
  have hsl := (str_staff hs).2.1
  have hp6 := pow6 hsl
  have hwN : IntKind.i64.wrap ((s.rooms.length : Int) - 1) = (s.rooms.length : Int) - 1 := wrap64 (by omega) (by omega)
  have hrI := roomE_inR hs r
  simp -dsimp -implicitDefEqProofs (maxSteps := 2000000) (disch := first | assumption | omega | (simp only [nx]; omega) | ((repeat refine Fresh.push ?_ _); assumption) | (simp only [smA]; done) | (simp [oneCell, AW.next_push]; done) | fail) only [go_sem, Nat.reduceEqDiff, reduceIte, Nat.reduceAdd, Int.toNat_natCast, Nat.add_zero, Owes_true, Tryz.results30, hE, c0, hwN, Nat.zero_add]
  apply callV_of (e := rfl)
  · exact From_ok _ _ _ w2
  rintro _ _ ⟨rfl, rfl⟩
  cases hx : inR 0 r ((s.rooms.length : Int) - 1) with
  | false =>
    rw [hx, if_neg (by intro z; cases z)] at hrI
    have hg : gdsN s r = [] := by unfold gdsN; rw [if_neg (by rw [hrI]; omega)]
    simp -dsimp -implicitDefEqProofs (maxSteps := 2000000) (disch := first | assumption | omega | (simp only [nx]; omega) | ((repeat refine Fresh.push ?_ _); assumption) | (simp only [smA]; done) | (simp [oneCell, AW.next_push]; done) | fail) only [go_sem, Nat.reduceEqDiff, reduceIte, Nat.reduceAdd, Int.toNat_natCast, Nat.add_zero, Owes_true, Tryz.results30, hx]
    exact ⟨gg2, .slice none 0 0, by rw [hrI], by rw [hg]; exact RowS.nil _ _ _⟩
  | true =>
  rw [hx, if_pos rfl] at hrI
  obtain ⟨_, rk, rfl, hk⟩ := roomE_ok hrI
  rw [gds_is hrI]
  simp -dsimp -implicitDefEqProofs (maxSteps := 2000000) (disch := first | assumption | omega | (simp only [nx]; omega) | ((repeat refine Fresh.push ?_ _); assumption) | (simp only [smA]; done) | (simp [oneCell, AW.next_push]; done) | fail) only [go_sem, Nat.reduceEqDiff, reduceIte, Nat.reduceAdd, Int.toNat_natCast, Nat.add_zero, Owes_true, Tryz.results30, hx, hl2]
  apply callV_of (e := rfl)
  · exact hre rk hs (by omega) w2 gg2
  rintro u w3 ⟨g3, hR⟩
  have gg3 := gg2.trans g3
  have O3 := O2.keep g3.1
  have hsl2 := selTo_len (fun g => (endR s g 1).testBit rk) (2 ^ s.staff.length)
  have hLlt := fun x (h : x ∈ selTo (fun g => (endR s g 1).testBit rk) (2 ^ s.staff.length)) => selTo_lt h
  generalize selTo (fun g => (endR s g 1).testBit rk) (2 ^ s.staff.length) = L at *
  have aL := hR.arr (by omega)
  obtain ⟨pL, cL, rfl, hbL, hatL⟩ := nats_at aL
  have hsh := full_shl (n := s.staff.length) (by omega)
  have h0 : ¬ (s.staff.length : Int) < 0 := by omega
  generalize 2 ^ s.staff.length = N at *
  simp -dsimp -implicitDefEqProofs (maxSteps := 2000000) (disch := first | assumption | omega | (simp only [nx]; omega) | ((repeat refine Fresh.push ?_ _); assumption) | (simp only [smA]; done) | (simp [oneCell, AW.next_push]; done) | fail) only [go_sem, Nat.reduceEqDiff, reduceIte, Nat.reduceAdd, Int.toNat_natCast, Nat.add_zero, Owes_true, Tryz.results30]
  refine loopR (fun k t ds w4 => ∃ x : Nat, x ≤ N ∧ k = N - x ∧ ds = [] ∧ ev t (.tmp 2) = .pointer (some ⟨w.next, 0, none⟩) ∧ ev t (.tmp 7) = .slice pL L.length cL ∧ ev t (.tmp 9) = .int .i64 (x : Int) ∧ ∃ out : Value, ev t (.tmp 8) = out ∧ RowS 3 w3.next w4 out (selTo (fun x => L.all (meetB x)) x) ∧ Keep w3.next w3 w4 ∧ Fresh w4) (N) ?_ ?_
  · refine ⟨0, by omega, by omega, rfl, ?_, ?_, ?_, _, (by simp -dsimp -implicitDefEqProofs (maxSteps := 2000000) (disch := first | assumption | omega | (simp only [nx]; omega) | ((repeat refine Fresh.push ?_ _); assumption) | (simp only [smA]; done) | (simp [oneCell, AW.next_push]; done) | fail) only [go_sem, Nat.reduceEqDiff, reduceIte, Nat.reduceAdd, Int.toNat_natCast, Nat.add_zero, Owes_true]), RowS.nil _ _ _, .refl _ _, gg3.2⟩ <;> simp -dsimp -implicitDefEqProofs (maxSteps := 2000000) (disch := first | assumption | omega | (simp only [nx]; omega) | ((repeat refine Fresh.push ?_ _); assumption) | (simp only [smA]; done) | (simp [oneCell, AW.next_push]; done) | fail) only [go_sem, Nat.reduceEqDiff, reduceIte, Nat.reduceAdd, Int.toNat_natCast, Nat.add_zero, Owes_true] <;> rfl
  rintro k t ds w4 ⟨x, hix, rfl, rfl, e2, e7, e9, out, e8, hO, k4, f4⟩
  have O4 := O3.keep k4
  have c2 := O4.cell (o := 2) (v := .slice pS s.staff.length cS) rfl rfl
  have hsx := selTo_len (fun x => L.all (meetB x)) x
  by_cases hlt : (x : Int) < (N : Int)
  case neg =>
    obtain rfl : x = N := by omega
    have gg4 : Grown w w4 := gg3.trans ⟨k4, f4⟩
    generalize selTo (fun x => L.all (meetB x)) x = M at *
    simp -dsimp -implicitDefEqProofs (maxSteps := 2000000) (disch := first | assumption | omega | (simp only [nx]; omega) | ((repeat refine Fresh.push ?_ _); assumption) | (simp only [smA]; done) | (simp [oneCell, AW.next_push]; done) | fail) only [go_sem, Nat.reduceEqDiff, reduceIte, Nat.reduceAdd, Int.toNat_natCast, Nat.add_zero, Owes_true, Tryz.results30, e2, e7, e8, e9, c2, h0, hsh, hlt, Nat.zero_add]
    apply callV_of (e := rfl)
    · exact LeastR_ok M out w4 f4 (hO.arr (by omega))
    rintro v w5 ⟨g5, hR5⟩
    simp -dsimp -implicitDefEqProofs (maxSteps := 2000000) (disch := first | assumption | omega | (simp only [nx]; omega) | ((repeat refine Fresh.push ?_ _); assumption) | (simp only [smA]; done) | (simp [oneCell, AW.next_push]; done) | fail) only [go_sem, Nat.reduceEqDiff, reduceIte, Nat.reduceAdd, Int.toNat_natCast, Nat.add_zero, Owes_true, Tryz.results30]
    exact ⟨gg4.trans g5, v, by rw [hrI], AOwn.weak hR5 gg4.1.next⟩
  have hz := allTo_zero (meetB x) L
  simp -dsimp -implicitDefEqProofs (maxSteps := 2000000) (disch := first | assumption | omega | (simp only [nx]; omega) | ((repeat refine Fresh.push ?_ _); assumption) | (simp only [smA]; done) | (simp [oneCell, AW.next_push]; done) | fail) only [go_sem, Nat.reduceEqDiff, reduceIte, Nat.reduceAdd, Int.toNat_natCast, Nat.add_zero, Owes_true, Tryz.results30, e2, e7, e8, e9, c2, h0, hsh, hlt, Nat.zero_add]
  refine loopR (fun k t ds w5 => ∃ i : Nat, i ≤ L.length ∧ k = L.length - i ∧ ds = [] ∧ ev t (.tmp 2) = .pointer (some ⟨w.next, 0, none⟩) ∧ ev t (.tmp 7) = .slice pL L.length cL ∧ ev t (.tmp 8) = out ∧ ev t (.tmp 9) = .int .i64 (x : Int) ∧ ev t (.tmp 10) = .bool (allTo (meetB x) L i) ∧ ev t (.tmp 11) = .int .i64 (i : Int) ∧ w4 = w5) (L.length) ?_ ?_
  · refine ⟨0, by omega, by omega, rfl, ?_, ?_, ?_, ?_, ?_, ?_, rfl⟩ <;> simp -dsimp -implicitDefEqProofs (maxSteps := 2000000) (disch := first | assumption | omega | (simp only [nx]; omega) | ((repeat refine Fresh.push ?_ _); assumption) | (simp only [smA]; done) | (simp [oneCell, AW.next_push]; done) | fail) only [go_sem, Nat.reduceEqDiff, reduceIte, Nat.reduceAdd, Int.toNat_natCast, Nat.add_zero, Owes_true, e2, e7, e8, e9, hz] <;> rfl
  rintro k t ds w5 ⟨i, hii, rfl, rfl, e2, e7, e8, e9, e10, e11, hw⟩
  subst hw
  by_cases hli : (i : Int) < (L.length : Int)
  case pos =>
    have hli' : i < L.length := by omega
    have hsu := allTo_succ (b := meetB x) hli'
    obtain ⟨b, o, rfl, hc⟩ := hatL i hli'
    have a0 := hc w4 k4
    have hy := hLlt _ (List.getElem_mem hli')
    generalize L[i] = y at *
    cases hF : allTo (meetB x) L i with
    | false =>
      rw [hF, Bool.false_and] at hsu
      simp -dsimp -implicitDefEqProofs (maxSteps := 2000000) (disch := first | assumption | omega | (simp only [nx]; omega) | ((repeat refine Fresh.push ?_ _); assumption) | (simp only [smA]; done) | (simp [oneCell, AW.next_push]; done) | fail) only [go_sem, Nat.reduceEqDiff, reduceIte, Nat.reduceAdd, Int.toNat_natCast, Nat.add_zero, Owes_true, Tryz.results30, e2, e7, e8, e9, e10, e11, hli, hF]
      refine ⟨_, by omega, i + 1, by omega, rfl, rfl, by (simp -dsimp -implicitDefEqProofs (maxSteps := 2000000) (disch := first | assumption | omega | (simp only [nx]; omega) | ((repeat refine Fresh.push ?_ _); assumption) | (simp only [smA]; done) | (simp [oneCell, AW.next_push]; done) | fail) only [go_sem, Nat.reduceEqDiff, reduceIte, Nat.reduceAdd, Int.toNat_natCast, Nat.add_zero, Owes_true, e2, hsu]; try rfl), by (simp -dsimp -implicitDefEqProofs (maxSteps := 2000000) (disch := first | assumption | omega | (simp only [nx]; omega) | ((repeat refine Fresh.push ?_ _); assumption) | (simp only [smA]; done) | (simp [oneCell, AW.next_push]; done) | fail) only [go_sem, Nat.reduceEqDiff, reduceIte, Nat.reduceAdd, Int.toNat_natCast, Nat.add_zero, Owes_true, e7, hsu]; try rfl), by (simp -dsimp -implicitDefEqProofs (maxSteps := 2000000) (disch := first | assumption | omega | (simp only [nx]; omega) | ((repeat refine Fresh.push ?_ _); assumption) | (simp only [smA]; done) | (simp [oneCell, AW.next_push]; done) | fail) only [go_sem, Nat.reduceEqDiff, reduceIte, Nat.reduceAdd, Int.toNat_natCast, Nat.add_zero, Owes_true, e8, hsu]; try rfl), by (simp -dsimp -implicitDefEqProofs (maxSteps := 2000000) (disch := first | assumption | omega | (simp only [nx]; omega) | ((repeat refine Fresh.push ?_ _); assumption) | (simp only [smA]; done) | (simp [oneCell, AW.next_push]; done) | fail) only [go_sem, Nat.reduceEqDiff, reduceIte, Nat.reduceAdd, Int.toNat_natCast, Nat.add_zero, Owes_true, e9, hsu]; try rfl), by (simp -dsimp -implicitDefEqProofs (maxSteps := 2000000) (disch := first | assumption | omega | (simp only [nx]; omega) | ((repeat refine Fresh.push ?_ _); assumption) | (simp only [smA]; done) | (simp [oneCell, AW.next_push]; done) | fail) only [go_sem, Nat.reduceEqDiff, reduceIte, Nat.reduceAdd, Int.toNat_natCast, Nat.add_zero, Owes_true, e10, hsu]; try rfl), by (simp -dsimp -implicitDefEqProofs (maxSteps := 2000000) (disch := first | assumption | omega | (simp only [nx]; omega) | ((repeat refine Fresh.push ?_ _); assumption) | (simp only [smA]; done) | (simp [oneCell, AW.next_push]; done) | fail) only [go_sem, Nat.reduceEqDiff, reduceIte, Nat.reduceAdd, Int.toNat_natCast, Nat.add_zero, Owes_true, e11, hsu]; try rfl), rfl⟩
    | true =>
      rw [hF, Bool.true_and] at hsu
      simp -dsimp -implicitDefEqProofs (maxSteps := 2000000) (disch := first | assumption | omega | (simp only [nx]; omega) | ((repeat refine Fresh.push ?_ _); assumption) | (simp only [smA]; done) | (simp [oneCell, AW.next_push]; done) | fail) only [go_sem, Nat.reduceEqDiff, reduceIte, Nat.reduceAdd, Int.toNat_natCast, Nat.add_zero, Owes_true, Tryz.results30, e2, e7, e8, e9, e10, e11, hli, hF, indexV_eq, Nat.mul_one, a0]
      apply callV_of (e := rfl)
      · exact meet_ok x y (by omega) (by omega) w4
      rintro _ _ ⟨rfl, rfl⟩
      simp -dsimp -implicitDefEqProofs (maxSteps := 2000000) (disch := first | assumption | omega | (simp only [nx]; omega) | ((repeat refine Fresh.push ?_ _); assumption) | (simp only [smA]; done) | (simp [oneCell, AW.next_push]; done) | fail) only [go_sem, Nat.reduceEqDiff, reduceIte, Nat.reduceAdd, Int.toNat_natCast, Nat.add_zero, Owes_true, Tryz.results30, e2, e7, e8, e9, e11]
      refine ⟨_, by omega, i + 1, by omega, rfl, rfl, by (simp -dsimp -implicitDefEqProofs (maxSteps := 2000000) (disch := first | assumption | omega | (simp only [nx]; omega) | ((repeat refine Fresh.push ?_ _); assumption) | (simp only [smA]; done) | (simp [oneCell, AW.next_push]; done) | fail) only [go_sem, Nat.reduceEqDiff, reduceIte, Nat.reduceAdd, Int.toNat_natCast, Nat.add_zero, Owes_true, e2, hsu]; try rfl), by (simp -dsimp -implicitDefEqProofs (maxSteps := 2000000) (disch := first | assumption | omega | (simp only [nx]; omega) | ((repeat refine Fresh.push ?_ _); assumption) | (simp only [smA]; done) | (simp [oneCell, AW.next_push]; done) | fail) only [go_sem, Nat.reduceEqDiff, reduceIte, Nat.reduceAdd, Int.toNat_natCast, Nat.add_zero, Owes_true, e7, hsu]; try rfl), by (simp -dsimp -implicitDefEqProofs (maxSteps := 2000000) (disch := first | assumption | omega | (simp only [nx]; omega) | ((repeat refine Fresh.push ?_ _); assumption) | (simp only [smA]; done) | (simp [oneCell, AW.next_push]; done) | fail) only [go_sem, Nat.reduceEqDiff, reduceIte, Nat.reduceAdd, Int.toNat_natCast, Nat.add_zero, Owes_true, e8, hsu]; try rfl), by (simp -dsimp -implicitDefEqProofs (maxSteps := 2000000) (disch := first | assumption | omega | (simp only [nx]; omega) | ((repeat refine Fresh.push ?_ _); assumption) | (simp only [smA]; done) | (simp [oneCell, AW.next_push]; done) | fail) only [go_sem, Nat.reduceEqDiff, reduceIte, Nat.reduceAdd, Int.toNat_natCast, Nat.add_zero, Owes_true, e9, hsu]; try rfl), by (simp -dsimp -implicitDefEqProofs (maxSteps := 2000000) (disch := first | assumption | omega | (simp only [nx]; omega) | ((repeat refine Fresh.push ?_ _); assumption) | (simp only [smA]; done) | (simp [oneCell, AW.next_push]; done) | fail) only [go_sem, Nat.reduceEqDiff, reduceIte, Nat.reduceAdd, Int.toNat_natCast, Nat.add_zero, Owes_true, e10, hsu]; try rfl), by (simp -dsimp -implicitDefEqProofs (maxSteps := 2000000) (disch := first | assumption | omega | (simp only [nx]; omega) | ((repeat refine Fresh.push ?_ _); assumption) | (simp only [smA]; done) | (simp [oneCell, AW.next_push]; done) | fail) only [go_sem, Nat.reduceEqDiff, reduceIte, Nat.reduceAdd, Int.toNat_natCast, Nat.add_zero, Owes_true, e11, hsu]; try rfl), rfl⟩
  obtain rfl : i = L.length := by omega
  rw [allTo_all] at e10
  cases hk2 : L.all (meetB x) with
  | false =>
    have hN := selTo_no (P := fun x => L.all (meetB x)) (i := x) hk2
    simp -dsimp -implicitDefEqProofs (maxSteps := 2000000) (disch := first | assumption | omega | (simp only [nx]; omega) | ((repeat refine Fresh.push ?_ _); assumption) | (simp only [smA]; done) | (simp [oneCell, AW.next_push]; done) | fail) only [go_sem, Nat.reduceEqDiff, reduceIte, Nat.reduceAdd, Int.toNat_natCast, Nat.add_zero, Owes_true, Tryz.results30, e2, e7, e8, e9, e10, e11, hli, hk2]
    refine ⟨_, by omega, x + 1, by omega, rfl, rfl, by (simp -dsimp -implicitDefEqProofs (maxSteps := 2000000) (disch := first | assumption | omega | (simp only [nx]; omega) | ((repeat refine Fresh.push ?_ _); assumption) | (simp only [smA]; done) | (simp [oneCell, AW.next_push]; done) | fail) only [go_sem, Nat.reduceEqDiff, reduceIte, Nat.reduceAdd, Int.toNat_natCast, Nat.add_zero, Owes_true, e2]; try rfl), by (simp -dsimp -implicitDefEqProofs (maxSteps := 2000000) (disch := first | assumption | omega | (simp only [nx]; omega) | ((repeat refine Fresh.push ?_ _); assumption) | (simp only [smA]; done) | (simp [oneCell, AW.next_push]; done) | fail) only [go_sem, Nat.reduceEqDiff, reduceIte, Nat.reduceAdd, Int.toNat_natCast, Nat.add_zero, Owes_true, e7]; try rfl), by (simp -dsimp -implicitDefEqProofs (maxSteps := 2000000) (disch := first | assumption | omega | (simp only [nx]; omega) | ((repeat refine Fresh.push ?_ _); assumption) | (simp only [smA]; done) | (simp [oneCell, AW.next_push]; done) | fail) only [go_sem, Nat.reduceEqDiff, reduceIte, Nat.reduceAdd, Int.toNat_natCast, Nat.add_zero, Owes_true, e9]; try rfl), out, (by simp -dsimp -implicitDefEqProofs (maxSteps := 2000000) (disch := first | assumption | omega | (simp only [nx]; omega) | ((repeat refine Fresh.push ?_ _); assumption) | (simp only [smA]; done) | (simp [oneCell, AW.next_push]; done) | fail) only [go_sem, Nat.reduceEqDiff, reduceIte, Nat.reduceAdd, Int.toNat_natCast, Nat.add_zero, Owes_true, e8]), (by rw [hN]; exact hO), k4, f4⟩
  | true =>
    have hN := selTo_yes (P := fun x => L.all (meetB x)) (i := x) hk2
    obtain ⟨u6, w6, happ, hA6, hk6, hf6, hn6⟩ := hO.app f4 k4.next (by omega) x
    simp -dsimp -implicitDefEqProofs (maxSteps := 2000000) (disch := first | assumption | omega | (simp only [nx]; omega) | ((repeat refine Fresh.push ?_ _); assumption) | (simp only [smA]; done) | (simp [oneCell, AW.next_push]; done) | fail) only [go_sem, Nat.reduceEqDiff, reduceIte, Nat.reduceAdd, Int.toNat_natCast, Nat.add_zero, Owes_true, Tryz.results30, e2, e7, e8, e9, e10, e11, hli, hk2, happ]
    refine ⟨_, by omega, x + 1, by omega, rfl, rfl, by (simp -dsimp -implicitDefEqProofs (maxSteps := 2000000) (disch := first | assumption | omega | (simp only [nx]; omega) | ((repeat refine Fresh.push ?_ _); assumption) | (simp only [smA]; done) | (simp [oneCell, AW.next_push]; done) | fail) only [go_sem, Nat.reduceEqDiff, reduceIte, Nat.reduceAdd, Int.toNat_natCast, Nat.add_zero, Owes_true, e2]; try rfl), by (simp -dsimp -implicitDefEqProofs (maxSteps := 2000000) (disch := first | assumption | omega | (simp only [nx]; omega) | ((repeat refine Fresh.push ?_ _); assumption) | (simp only [smA]; done) | (simp [oneCell, AW.next_push]; done) | fail) only [go_sem, Nat.reduceEqDiff, reduceIte, Nat.reduceAdd, Int.toNat_natCast, Nat.add_zero, Owes_true, e7]; try rfl), by (simp -dsimp -implicitDefEqProofs (maxSteps := 2000000) (disch := first | assumption | omega | (simp only [nx]; omega) | ((repeat refine Fresh.push ?_ _); assumption) | (simp only [smA]; done) | (simp [oneCell, AW.next_push]; done) | fail) only [go_sem, Nat.reduceEqDiff, reduceIte, Nat.reduceAdd, Int.toNat_natCast, Nat.add_zero, Owes_true, e9]; try rfl), u6, (by simp -dsimp -implicitDefEqProofs (maxSteps := 2000000) (disch := first | assumption | omega | (simp only [nx]; omega) | ((repeat refine Fresh.push ?_ _); assumption) | (simp only [smA]; done) | (simp [oneCell, AW.next_push]; done) | fail) only [go_sem, Nat.reduceEqDiff, reduceIte, Nat.reduceAdd, Int.toNat_natCast, Nat.add_zero, Owes_true]), (by rw [hN]; exact hA6), k4.trans hk6, hf6⟩
end Go.Proofs

namespace Go.Proofs
open Go Go.RowKit Go.Sim
set_option maxRecDepth 100000
theorem grpN_len {s : StrN} {r : Int} : (grpN s r).length ≤ 64 := by
  unfold grpN
  split
  · rename_i h
    exact leastN_len (str_staff (roomE_ok h).1).2.1
  · simp
theorem gdsN_len {s : StrN} {r : Int} : (gdsN s r).length ≤ 64 := by
  unfold gdsN
  split
  · rename_i h
    exact leastN_len (str_staff (roomE_ok h).1).2.1
  · simp
set_option maxHeartbeats 64000000 in
theorem groups_law (w : AW) (xs : List Value) (f : Fresh w) (h : HdAll Tryz.prog w [26, 3] xs) : CallT Tryz.prog Tryz.T1 (.fn (.func 5) #[]) xs.toArray w fun v _ => v = .bool true := by
  cases h with
  | cons n1 h1 h =>
  cases h with
  | cons n2 h2 h =>
  cases h
  rename_i v1 v2
  obtain ⟨s, pR, pG, pS, cR, cG, cS, rfl, hA⟩ := given_strong h1
  obtain ⟨rm, rfl⟩ := given_intX h2
  clear h1 h2
  show CallT Tryz.prog Tryz.T1 (.fn (.func 5) #[]) #[.agg (strC pR pG pS cR cG cS s).toArray, .int .i64 rm] w _
  have g1 := (Grown.refl f).push (.cells (strC pR pG pS cR cG cS s) 26 w.next 0 0)
  have O1 := Own.new f 26 (strC pR pG pS cR cG cS s)
  have hld := fun w' (O' : Own w' w.next 26 (strC pR pG pS cR cG cS s)) => loadAll O' (n := 3) rfl (by simp [strC, oneCell])
  have hl1 := hld _ O1
  have hG := fun w' (g' : Grown w w') => GroupsV_ok s pR pG pS cR cG cS rm w' g'.2 (hA.grown g')
  have hGR := fun w' (g' : Grown w w') => GroupsR_ok s pR pG pS cR cG cS rm w' g'.2 (hA.grown g')
  have hU := fun w' (g' : Grown w w') => GuardsV_ok s pR pG pS cR cG cS rm w' g'.2 (hA.grown g')
  have hUR := fun w' (g' : Grown w w') => GuardsR_ok s pR pG pS cR cG cS rm w' g'.2 (hA.grown g')
  have hlg := grpN_len (s := s) (r := rm)
  have hlu := gdsN_len (s := s) (r := rm)
  have dE : decide (roomE s rm = roomE s rm) = true := decide_eq_true rfl
  refine callT_code rfl Tryz.func5 rfl Tryz.s5_eq rfl ?_
  unfold Tryz.s5
  unfold strC at *
  simp -dsimp -implicitDefEqProofs (maxSteps := 2000000) (disch := first | assumption | omega | (simp only [nx]; omega) | ((repeat refine Fresh.push ?_ _); assumption) | (simp only [smA]; done) | (simp [oneCell, AW.next_push]; done) | fail) only [go_sem, Nat.reduceEqDiff, reduceIte, Nat.reduceAdd, Int.toNat_natCast, Nat.add_zero, Owes_true, Tryz.results5, hl1]
  generalize w.push (.cells [.slice pR s.rooms.length cR, .slice pG s.gates.length cG, .slice pS s.staff.length cS] 26 w.next 0 0) = w1 at *
  apply callV_of (e := rfl)
  · exact hG w1 g1
  rintro _ w2 ⟨g2, u, rfl, hu⟩
  have gg2 := g1.trans g2
  have O2 := O1.keep g2.1
  have hl2 := hld w2 O2
  simp -dsimp -implicitDefEqProofs (maxSteps := 2000000) (disch := first | assumption | omega | (simp only [nx]; omega) | ((repeat refine Fresh.push ?_ _); assumption) | (simp only [smA]; done) | (simp [oneCell, AW.next_push]; done) | fail) only [go_sem, Nat.reduceEqDiff, reduceIte, Nat.reduceAdd, Int.toNat_natCast, Nat.add_zero, Owes_true, Tryz.results5, hl2]
  apply callV_of (e := rfl)
  · exact hGR w2 gg2
  rintro _ w3 ⟨g3, z, rfl, hz⟩
  have gg3 := gg2.trans g3
  have O3 := O2.keep g3.1
  have hl3 := hld w3 O3
  have aU := (hu.keep g3.1).arr (by omega)
  have aZ := hz.arr (by omega)
  simp -dsimp -implicitDefEqProofs (maxSteps := 2000000) (disch := first | assumption | omega | (simp only [nx]; omega) | ((repeat refine Fresh.push ?_ _); assumption) | (simp only [smA]; done) | (simp [oneCell, AW.next_push]; done) | fail) only [go_sem, Nat.reduceEqDiff, reduceIte, Nat.reduceAdd, Int.toNat_natCast, Nat.add_zero, Owes_true, Tryz.results5]
  apply callV_of (e := rfl)
  · exact Same_ok _ _ _ _ w3 aU aZ
  rintro _ _ ⟨rfl, rfl⟩
  have dS : decide (natsL (grpN s rm) = natsL (grpN s rm)) = true := decide_eq_true rfl
  simp -dsimp -implicitDefEqProofs (maxSteps := 2000000) (disch := first | assumption | omega | (simp only [nx]; omega) | ((repeat refine Fresh.push ?_ _); assumption) | (simp only [smA]; done) | (simp [oneCell, AW.next_push]; done) | fail) only [go_sem, Nat.reduceEqDiff, reduceIte, Nat.reduceAdd, Int.toNat_natCast, Nat.add_zero, Owes_true, Tryz.results5, dS, dE, hl3]
  apply callV_of (e := rfl)
  · exact hU w3 gg3
  rintro _ w4 ⟨g4, u2, rfl, hu2⟩
  have gg4 := gg3.trans g4
  have O4 := O3.keep g4.1
  have hl4 := hld w4 O4
  simp -dsimp -implicitDefEqProofs (maxSteps := 2000000) (disch := first | assumption | omega | (simp only [nx]; omega) | ((repeat refine Fresh.push ?_ _); assumption) | (simp only [smA]; done) | (simp [oneCell, AW.next_push]; done) | fail) only [go_sem, Nat.reduceEqDiff, reduceIte, Nat.reduceAdd, Int.toNat_natCast, Nat.add_zero, Owes_true, Tryz.results5, hl4]
  apply callV_of (e := rfl)
  · exact hUR w4 gg4
  rintro _ w5 ⟨g5, z2, rfl, hz2⟩
  have aU2 := (hu2.keep g5.1).arr (by omega)
  have aZ2 := hz2.arr (by omega)
  simp -dsimp -implicitDefEqProofs (maxSteps := 2000000) (disch := first | assumption | omega | (simp only [nx]; omega) | ((repeat refine Fresh.push ?_ _); assumption) | (simp only [smA]; done) | (simp [oneCell, AW.next_push]; done) | fail) only [go_sem, Nat.reduceEqDiff, reduceIte, Nat.reduceAdd, Int.toNat_natCast, Nat.add_zero, Owes_true, Tryz.results5]
  apply callV_of (e := rfl)
  · exact Same_ok _ _ _ _ w5 aU2 aZ2
  rintro _ _ ⟨rfl, rfl⟩
  have dS2 : decide (natsL (gdsN s rm) = natsL (gdsN s rm)) = true := decide_eq_true rfl
  simp -dsimp -implicitDefEqProofs (maxSteps := 2000000) (disch := first | assumption | omega | (simp only [nx]; omega) | ((repeat refine Fresh.push ?_ _); assumption) | (simp only [smA]; done) | (simp [oneCell, AW.next_push]; done) | fail) only [go_sem, Nat.reduceEqDiff, reduceIte, Nat.reduceAdd, Int.toNat_natCast, Nat.add_zero, Owes_true, Tryz.results5, dS2, dE]
  apply callV_of (e := rfl)
  · exact callT_told (Q := fun v w' => v = .bool true ∧ w5 = w') (v := .bool true) (w' := w5) rfl ⟨rfl, rfl⟩
  rintro _ _ ⟨rfl, rfl⟩
  simp -dsimp -implicitDefEqProofs (maxSteps := 2000000) (disch := first | assumption | omega | (simp only [nx]; omega) | ((repeat refine Fresh.push ?_ _); assumption) | (simp only [smA]; done) | (simp [oneCell, AW.next_push]; done) | fail) only [go_sem, Nat.reduceEqDiff, reduceIte, Nat.reduceAdd, Int.toNat_natCast, Nat.add_zero, Owes_true, Tryz.results5]
end Go.Proofs

namespace Go.Proofs
open Go Go.RowKit Go.Sim
set_option maxRecDepth 100000
def Tryz.s95 : SC := (.seq (.ops false [⟨⟨(some 4),.assign (.const (.int .i64 0)),3,"",⟨[]⟩,none⟩,none,false⟩]) (.seq (.ops false [⟨⟨(some 5),.move (.tmp 0),77,"",⟨[]⟩,none⟩,none,false⟩,⟨⟨(some 6),.call ⟨.value (.func 98),⟨[(.tmp 5)]⟩,⟨[77]⟩⟩,3,"",⟨[]⟩,none⟩,none,false⟩,⟨⟨(some 7),.move (.tmp 1),77,"",⟨[]⟩,none⟩,none,false⟩,⟨⟨(some 8),.call ⟨.value (.func 98),⟨[(.tmp 7)]⟩,⟨[77]⟩⟩,3,"",⟨[]⟩,none⟩,none,false⟩,⟨⟨(some 9),.call ⟨.value (.func 97),⟨[(.tmp 6),(.tmp 8)]⟩,⟨[3,3]⟩⟩,3,"",⟨[]⟩,none⟩,none,false⟩,⟨⟨(some 10),.move (.tmp 0),77,"",⟨[]⟩,none⟩,none,false⟩,⟨⟨(some 11),.move (.tmp 1),77,"",⟨[]⟩,none⟩,none,false⟩,⟨⟨(some 12),.call ⟨.value (.func 99),⟨[(.tmp 10),(.tmp 11)]⟩,⟨[77,77]⟩⟩,3,"",⟨[]⟩,none⟩,none,false⟩,⟨⟨(some 13),.buildSlice 24 2 ⟨[(0,(.tmp 9)),(1,(.tmp 12))]⟩,24,"",⟨[]⟩,none⟩,none,false⟩,⟨⟨(some 14),.call ⟨.value (.func 96),⟨[(.tmp 13)]⟩,⟨[24]⟩⟩,3,"",⟨[]⟩,none⟩,none,false⟩,⟨⟨(some 4),.assign (.tmp 14),3,"",⟨[]⟩,none⟩,none,false⟩]) .ret))
def Tryz.s96 : SC := (.seq (.ops false [⟨⟨(some 2),.assign (.const (.int .i64 0)),3,"",⟨[]⟩,none⟩,none,false⟩]) (.seq (.ops false [⟨⟨(some 3),.assign (.const (.int .i64 0)),3,"",⟨[]⟩,none⟩,none,false⟩]) (.seq (.seq (.ops false [⟨⟨(some 6),.move (.tmp 0),24,"",⟨[]⟩,none⟩,none,false⟩,⟨⟨(some 7),.call ⟨.builtin .len,⟨[(.tmp 6)]⟩,⟨[24]⟩⟩,3,"",⟨[]⟩,none⟩,none,false⟩,⟨⟨(some 8),.move (.const (.int .i64 0)),3,"",⟨[]⟩,none⟩,none,false⟩]) (.block 0 (.loop (.seq (.ops false [⟨⟨(some 9),.binOp .lss 3 (.tmp 8) (.tmp 7) 3,0,"",⟨[]⟩,none⟩,none,false⟩]) (.seq (.cond (.tmp 9) .skip (.exit 0)) (.seq (.block 1 (.seq (.ops false [⟨⟨(some 10),.indexAddr 24 (.tmp 6) (.tmp 8),0,"",⟨[]⟩,none⟩,none,false⟩,⟨⟨(some 11),.load 3 (.tmp 10),3,"",⟨[]⟩,none⟩,none,false⟩,⟨⟨(some 5),.assign (.tmp 11),3,"",⟨[]⟩,none⟩,none,false⟩]) (.seq (.ops false [⟨⟨(some 12),.move (.tmp 5),3,"",⟨[]⟩,none⟩,none,false⟩,⟨⟨(some 13),.move (.tmp 3),3,"",⟨[]⟩,none⟩,none,false⟩,⟨⟨(some 14),.binOp .neq 3 (.tmp 12) (.tmp 13) 3,4,"",⟨[]⟩,none⟩,none,false⟩]) (.cond (.tmp 14) (.seq (.ops false [⟨⟨(some 15),.move (.tmp 5),3,"",⟨[]⟩,none⟩,none,false⟩,⟨⟨(some 2),.assign (.tmp 15),3,"",⟨[]⟩,none⟩,none,false⟩]) .ret) .skip)))) (.ops false [⟨⟨(some 16),.binOp .add 3 (.tmp 8) (.const (.int .i64 1)) 3,3,"",⟨[]⟩,none⟩,none,false⟩,⟨⟨(some 8),.move (.tmp 16),3,"",⟨[]⟩,none⟩,none,false⟩]))))))) (.seq (.ops false [⟨⟨(some 17),.move (.tmp 3),3,"",⟨[]⟩,none⟩,none,false⟩,⟨⟨(some 2),.assign (.tmp 17),3,"",⟨[]⟩,none⟩,none,false⟩]) .ret))))
def Tryz.s97 : SC := (.seq (.ops false [⟨⟨(some 4),.assign (.const (.int .i64 0)),3,"",⟨[]⟩,none⟩,none,false⟩]) (.seq (.ops false [⟨⟨(some 7),.move (.tmp 0),3,"",⟨[]⟩,none⟩,none,false⟩,⟨⟨(some 8),.call ⟨.value (.func 117),⟨[(.tmp 7)]⟩,⟨[3]⟩⟩,4,"",⟨[]⟩,none⟩,none,false⟩,⟨⟨(some 5),.assign (.tmp 8),4,"",⟨[]⟩,none⟩,none,false⟩]) (.seq (.ops false [⟨⟨(some 9),.move (.tmp 1),3,"",⟨[]⟩,none⟩,none,false⟩,⟨⟨(some 10),.call ⟨.value (.func 117),⟨[(.tmp 9)]⟩,⟨[3]⟩⟩,4,"",⟨[]⟩,none⟩,none,false⟩,⟨⟨(some 6),.assign (.tmp 10),4,"",⟨[]⟩,none⟩,none,false⟩]) (.seq (.seq (.ops false [⟨⟨(some 11),.move (.tmp 5),4,"",⟨[]⟩,none⟩,none,false⟩]) (.cond (.tmp 11) (.seq (.seq (.ops false [⟨⟨(some 12),.move (.tmp 6),4,"",⟨[]⟩,none⟩,none,false⟩]) (.cond (.tmp 12) (.seq (.ops false [⟨⟨(some 4),.assign (.const (.int .i64 0)),3,"",⟨[]⟩,none⟩,none,false⟩]) .ret) .skip)) (.seq (.ops false [⟨⟨(some 4),.assign (.const (.int .i64 (-1))),3,"",⟨[]⟩,none⟩,none,false⟩]) .ret)) .skip)) (.seq (.seq (.ops false [⟨⟨(some 13),.move (.tmp 6),4,"",⟨[]⟩,none⟩,none,false⟩]) (.cond (.tmp 13) (.seq (.ops false [⟨⟨(some 4),.assign (.const (.int .i64 1)),3,"",⟨[]⟩,none⟩,none,false⟩]) .ret) .skip)) (.seq (.seq (.ops false [⟨⟨(some 14),.move (.tmp 0),3,"",⟨[]⟩,none⟩,none,false⟩,⟨⟨(some 15),.move (.tmp 1),3,"",⟨[]⟩,none⟩,none,false⟩,⟨⟨(some 16),.binOp .lss 3 (.tmp 14) (.tmp 15) 3,4,"",⟨[]⟩,none⟩,none,false⟩]) (.cond (.tmp 16) (.seq (.ops false [⟨⟨(some 4),.assign (.const (.int .i64 (-1))),3,"",⟨[]⟩,none⟩,none,false⟩]) .ret) .skip)) (.seq (.seq (.ops false [⟨⟨(some 17),.move (.tmp 0),3,"",⟨[]⟩,none⟩,none,false⟩,⟨⟨(some 18),.move (.tmp 1),3,"",⟨[]⟩,none⟩,none,false⟩,⟨⟨(some 19),.binOp .gtr 3 (.tmp 17) (.tmp 18) 3,4,"",⟨[]⟩,none⟩,none,false⟩]) (.cond (.tmp 19) (.seq (.ops false [⟨⟨(some 4),.assign (.const (.int .i64 1)),3,"",⟨[]⟩,none⟩,none,false⟩]) .ret) .skip)) (.seq (.ops false [⟨⟨(some 4),.assign (.const (.int .i64 0)),3,"",⟨[]⟩,none⟩,none,false⟩]) .ret))))))))
def Tryz.s99 : SC := (.seq (.ops false [⟨⟨(some 4),.assign (.const (.int .i64 0)),3,"",⟨[]⟩,none⟩,none,false⟩]) (.seq (.ops false [⟨⟨(some 7),.move (.tmp 0),77,"",⟨[]⟩,none⟩,none,false⟩,⟨⟨(some 8),.call ⟨.value (.func 119),⟨[(.tmp 7)]⟩,⟨[77]⟩⟩,4,"",⟨[]⟩,none⟩,none,false⟩,⟨⟨(some 5),.assign (.tmp 8),4,"",⟨[]⟩,none⟩,none,false⟩]) (.seq (.ops false [⟨⟨(some 9),.move (.tmp 1),77,"",⟨[]⟩,none⟩,none,false⟩,⟨⟨(some 10),.call ⟨.value (.func 119),⟨[(.tmp 9)]⟩,⟨[77]⟩⟩,4,"",⟨[]⟩,none⟩,none,false⟩,⟨⟨(some 6),.assign (.tmp 10),4,"",⟨[]⟩,none⟩,none,false⟩]) (.seq (.seq (.ops false [⟨⟨(some 11),.move (.tmp 5),4,"",⟨[]⟩,none⟩,none,false⟩]) (.cond (.tmp 11) (.seq (.seq (.ops false [⟨⟨(some 12),.move (.tmp 6),4,"",⟨[]⟩,none⟩,none,false⟩]) (.cond (.tmp 12) (.seq (.ops false [⟨⟨(some 4),.assign (.const (.int .i64 0)),3,"",⟨[]⟩,none⟩,none,false⟩]) .ret) .skip)) (.seq (.ops false [⟨⟨(some 4),.assign (.const (.int .i64 (-1))),3,"",⟨[]⟩,none⟩,none,false⟩]) .ret)) .skip)) (.seq (.seq (.ops false [⟨⟨(some 13),.move (.tmp 6),4,"",⟨[]⟩,none⟩,none,false⟩]) (.cond (.tmp 13) (.seq (.ops false [⟨⟨(some 4),.assign (.const (.int .i64 1)),3,"",⟨[]⟩,none⟩,none,false⟩]) .ret) .skip)) (.seq (.seq (.ops false [⟨⟨(some 14),.move (.tmp 0),77,"",⟨[]⟩,none⟩,none,false⟩,⟨⟨(some 15),.move (.tmp 1),77,"",⟨[]⟩,none⟩,none,false⟩,⟨⟨(some 16),.binOp .lss 77 (.tmp 14) (.tmp 15) 77,4,"",⟨[]⟩,none⟩,none,false⟩]) (.cond (.tmp 16) (.seq (.ops false [⟨⟨(some 4),.assign (.const (.int .i64 (-1))),3,"",⟨[]⟩,none⟩,none,false⟩]) .ret) .skip)) (.seq (.seq (.ops false [⟨⟨(some 17),.move (.tmp 0),77,"",⟨[]⟩,none⟩,none,false⟩,⟨⟨(some 18),.move (.tmp 1),77,"",⟨[]⟩,none⟩,none,false⟩,⟨⟨(some 19),.binOp .gtr 77 (.tmp 17) (.tmp 18) 77,4,"",⟨[]⟩,none⟩,none,false⟩]) (.cond (.tmp 19) (.seq (.ops false [⟨⟨(some 4),.assign (.const (.int .i64 1)),3,"",⟨[]⟩,none⟩,none,false⟩]) .ret) .skip)) (.seq (.ops false [⟨⟨(some 4),.assign (.const (.int .i64 0)),3,"",⟨[]⟩,none⟩,none,false⟩]) .ret))))))))
def Tryz.s117 : SC := (.seq (.ops false [⟨⟨(some 2),.assign (.const (.bool false)),4,"",⟨[]⟩,none⟩,none,false⟩]) (.seq (.ops false [⟨⟨(some 3),.move (.tmp 0),3,"",⟨[]⟩,none⟩,none,false⟩,⟨⟨(some 4),.move (.tmp 0),3,"",⟨[]⟩,none⟩,none,false⟩,⟨⟨(some 5),.binOp .neq 3 (.tmp 3) (.tmp 4) 3,4,"",⟨[]⟩,none⟩,none,false⟩,⟨⟨(some 2),.assign (.tmp 5),4,"",⟨[]⟩,none⟩,none,false⟩]) .ret))
def Tryz.s119 : SC := (.seq (.ops false [⟨⟨(some 2),.assign (.const (.bool false)),4,"",⟨[]⟩,none⟩,none,false⟩]) (.seq (.ops false [⟨⟨(some 3),.move (.tmp 0),77,"",⟨[]⟩,none⟩,none,false⟩,⟨⟨(some 4),.move (.tmp 0),77,"",⟨[]⟩,none⟩,none,false⟩,⟨⟨(some 5),.binOp .neq 77 (.tmp 3) (.tmp 4) 77,4,"",⟨[]⟩,none⟩,none,false⟩,⟨⟨(some 2),.assign (.tmp 5),4,"",⟨[]⟩,none⟩,none,false⟩]) .ret))
theorem Tryz.s95_eq : Tryz.f95.body.map sOf = some Tryz.s95 := by kernel_rfl
theorem Tryz.s96_eq : Tryz.f96.body.map sOf = some Tryz.s96 := by kernel_rfl
theorem Tryz.s97_eq : Tryz.f97.body.map sOf = some Tryz.s97 := by kernel_rfl
theorem Tryz.s99_eq : Tryz.f99.body.map sOf = some Tryz.s99 := by kernel_rfl
theorem Tryz.s117_eq : Tryz.f117.body.map sOf = some Tryz.s117 := by kernel_rfl
theorem Tryz.s119_eq : Tryz.f119.body.map sOf = some Tryz.s119 := by kernel_rfl
end Go.Proofs

namespace Go.Sim
open Go Go.RowKit
theorem calls_flat {P : Program} (hP : Fit P) (hfol : P.follows .mixedOrders = true) {told : ToldF} (ht : ∀ N, ToldOk P N told) {f : FuncId} {l : List Value} {v : Value} (hno : told f (l.toArray ++ #[]) .empty = none) (hl : flat.flats 6 l = true) (hv : flat 6 v = true)
    (h : CallT P told (.fn (.func f) #[]) l.toArray .empty fun u _ => u = v) (W : World) : Calls P f l.toArray W fun e W' => e = .returned v ∧ BelowD W.heap.size W W' := by
  obtain ⟨N, u, w1, hh, rfl⟩ := h
  have h1 := hh N (N + 1) (Nat.le_refl _) (by omega)
  have hno' : told f l.toArray .empty = none := by simpa using hno
  simp only [acall, Array.append_empty, hno'] at h1
  intro cs
  have ha : ARel (fun _ => none) l.toArray l.toArray := ARel.iff.2 (by simpa using flats_self (flat_self 6) hl _)
  obtain ⟨σ', v', W', fr, s, hf, hlv, e, r⟩ := enter_leaves hP hfol (call_ok hP hfol (ht W.heap.size) N) (call_pan hP hfol (ht W.heap.size) N) h1 cs (WRel.empty W) (args' := l.toArray) ha
  have := flat_eq 6 u hv σ' v' r
  subst this
  exact ⟨.returned v', W', fr, ⟨rfl, e.below⟩, s, hf, hlv⟩
theorem grown_of {W W' : World} (h : BelowD W.heap.size W W') : ∃ q os, W' = Go.Sort.grow (W.drewN q) os := by
  obtain ⟨⟨h1, h2, h3, h4, h5⟩, h6⟩ := h
  refine ⟨W'.drawn - W.drawn, W'.heap.extract W.heap.size W'.heap.size, ?_⟩
  obtain ⟨hp, tp, dr, os, out⟩ := W
  obtain ⟨hp', tp', dr', os', out'⟩ := W'
  simp only at *
  subst h1 h2 h3
  have e1 : hp' = hp ++ hp'.extract hp.size hp'.size := by
    apply Array.ext_getElem?
    intro k
    rw [Array.getElem?_append]
    split
    · rename_i hk
      exact h5 k hk
    · rename_i hk
      rw [Array.getElem?_extract]
      split
      · congr 1; omega
      · rename_i hk2
        rw [Array.getElem?_eq_none (by omega)]
  have e2 : dr + (dr' - dr) = dr' := by omega
  simp only [Go.Sort.grow, World.drewN, ← e1, e2]
end Go.Sim

namespace Go.Proofs
open Go Go.RowKit Go.Sim
set_option maxRecDepth 100000
def Tryz.T0c : ToldF := toldTab Tryz.lenTab (toldTab Tryz.popTab (toldTrue 21 fun _ _ _ => none))
def cmpI (a b : Int) : Int := if a < b then -1 else if b < a then 1 else 0
theorem isNaN_ok (x : Int) (w : AW) : CallT Tryz.prog Tryz.T0c (.fn (.func 117) #[]) #[.int .i64 x] w (Ret (.bool false) fun w' => w = w') := by
  have d1 : decide (x = x) = true := decide_eq_true rfl
  refine callT_code rfl Tryz.func117 rfl Tryz.s117_eq rfl ?_
  unfold Tryz.s117
  simp -dsimp -implicitDefEqProofs (maxSteps := 2000000) (disch := first | assumption | omega | (simp only [nx]; omega) | ((repeat refine Fresh.push ?_ _); assumption) | (simp only [smA]; done) | (simp [oneCell, AW.next_push]; done) | fail) only [go_sem, Nat.reduceEqDiff, reduceIte, Nat.reduceAdd, Int.toNat_natCast, Nat.add_zero, Owes_true, Tryz.results117, d1]
  exact ⟨rfl, rfl⟩
theorem isNaNP_ok (x : Int) (w : AW) : CallT Tryz.prog Tryz.T0c (.fn (.func 119) #[]) #[.int .i64 x] w (Ret (.bool false) fun w' => w = w') := by
  have d1 : decide (x = x) = true := decide_eq_true rfl
  refine callT_code rfl Tryz.func119 rfl Tryz.s119_eq rfl ?_
  unfold Tryz.s119
  simp -dsimp -implicitDefEqProofs (maxSteps := 2000000) (disch := first | assumption | omega | (simp only [nx]; omega) | ((repeat refine Fresh.push ?_ _); assumption) | (simp only [smA]; done) | (simp [oneCell, AW.next_push]; done) | fail) only [go_sem, Nat.reduceEqDiff, reduceIte, Nat.reduceAdd, Int.toNat_natCast, Nat.add_zero, Owes_true, Tryz.results119, d1]
  exact ⟨rfl, rfl⟩
theorem compare_ok (a b : Int) (w : AW) : CallT Tryz.prog Tryz.T0c (.fn (.func 97) #[]) #[.int .i64 a, .int .i64 b] w (Ret (.int .i64 (cmpI a b)) fun w' => w = w') := by
  refine callT_code rfl Tryz.func97 rfl Tryz.s97_eq rfl ?_
  unfold Tryz.s97
  simp -dsimp -implicitDefEqProofs (maxSteps := 2000000) (disch := first | assumption | omega | (simp only [nx]; omega) | ((repeat refine Fresh.push ?_ _); assumption) | (simp only [smA]; done) | (simp [oneCell, AW.next_push]; done) | fail) only [go_sem, Nat.reduceEqDiff, reduceIte, Nat.reduceAdd, Int.toNat_natCast, Nat.add_zero, Owes_true, Tryz.results97]
  apply callV_of (e := rfl)
  · exact isNaN_ok _ w
  rintro _ _ ⟨rfl, rfl⟩
  simp -dsimp -implicitDefEqProofs (maxSteps := 2000000) (disch := first | assumption | omega | (simp only [nx]; omega) | ((repeat refine Fresh.push ?_ _); assumption) | (simp only [smA]; done) | (simp [oneCell, AW.next_push]; done) | fail) only [go_sem, Nat.reduceEqDiff, reduceIte, Nat.reduceAdd, Int.toNat_natCast, Nat.add_zero, Owes_true, Tryz.results97]
  apply callV_of (e := rfl)
  · exact isNaN_ok _ w
  rintro _ _ ⟨rfl, rfl⟩
  by_cases h1 : a < b
  · simp -dsimp -implicitDefEqProofs (maxSteps := 2000000) (disch := first | assumption | omega | (simp only [nx]; omega) | ((repeat refine Fresh.push ?_ _); assumption) | (simp only [smA]; done) | (simp [oneCell, AW.next_push]; done) | fail) only [go_sem, Nat.reduceEqDiff, reduceIte, Nat.reduceAdd, Int.toNat_natCast, Nat.add_zero, Owes_true, Tryz.results97, h1]
    exact ⟨by unfold cmpI; rw [if_pos h1], rfl⟩
  by_cases h2 : b < a
  · have h2' : a > b := h2
    simp -dsimp -implicitDefEqProofs (maxSteps := 2000000) (disch := first | assumption | omega | (simp only [nx]; omega) | ((repeat refine Fresh.push ?_ _); assumption) | (simp only [smA]; done) | (simp [oneCell, AW.next_push]; done) | fail) only [go_sem, Nat.reduceEqDiff, reduceIte, Nat.reduceAdd, Int.toNat_natCast, Nat.add_zero, Owes_true, Tryz.results97, h1, h2, h2']
    exact ⟨by unfold cmpI; rw [if_neg h1, if_pos h2], rfl⟩
  · have h2' : ¬ a > b := h2
    simp -dsimp -implicitDefEqProofs (maxSteps := 2000000) (disch := first | assumption | omega | (simp only [nx]; omega) | ((repeat refine Fresh.push ?_ _); assumption) | (simp only [smA]; done) | (simp [oneCell, AW.next_push]; done) | fail) only [go_sem, Nat.reduceEqDiff, reduceIte, Nat.reduceAdd, Int.toNat_natCast, Nat.add_zero, Owes_true, Tryz.results97, h1, h2, h2']
    exact ⟨by unfold cmpI; rw [if_neg h1, if_neg h2], rfl⟩
theorem compareP_ok (a b : Int) (w : AW) : CallT Tryz.prog Tryz.T0c (.fn (.func 99) #[]) #[.int .i64 a, .int .i64 b] w (Ret (.int .i64 (cmpI a b)) fun w' => w = w') := by
  refine callT_code rfl Tryz.func99 rfl Tryz.s99_eq rfl ?_
  unfold Tryz.s99
  simp -dsimp -implicitDefEqProofs (maxSteps := 2000000) (disch := first | assumption | omega | (simp only [nx]; omega) | ((repeat refine Fresh.push ?_ _); assumption) | (simp only [smA]; done) | (simp [oneCell, AW.next_push]; done) | fail) only [go_sem, Nat.reduceEqDiff, reduceIte, Nat.reduceAdd, Int.toNat_natCast, Nat.add_zero, Owes_true, Tryz.results99]
  apply callV_of (e := rfl)
  · exact isNaNP_ok _ w
  rintro _ _ ⟨rfl, rfl⟩
  simp -dsimp -implicitDefEqProofs (maxSteps := 2000000) (disch := first | assumption | omega | (simp only [nx]; omega) | ((repeat refine Fresh.push ?_ _); assumption) | (simp only [smA]; done) | (simp [oneCell, AW.next_push]; done) | fail) only [go_sem, Nat.reduceEqDiff, reduceIte, Nat.reduceAdd, Int.toNat_natCast, Nat.add_zero, Owes_true, Tryz.results99]
  apply callV_of (e := rfl)
  · exact isNaNP_ok _ w
  rintro _ _ ⟨rfl, rfl⟩
  by_cases h1 : a < b
  · simp -dsimp -implicitDefEqProofs (maxSteps := 2000000) (disch := first | assumption | omega | (simp only [nx]; omega) | ((repeat refine Fresh.push ?_ _); assumption) | (simp only [smA]; done) | (simp [oneCell, AW.next_push]; done) | fail) only [go_sem, Nat.reduceEqDiff, reduceIte, Nat.reduceAdd, Int.toNat_natCast, Nat.add_zero, Owes_true, Tryz.results99, h1]
    exact ⟨by unfold cmpI; rw [if_pos h1], rfl⟩
  by_cases h2 : b < a
  · have h2' : a > b := h2
    simp -dsimp -implicitDefEqProofs (maxSteps := 2000000) (disch := first | assumption | omega | (simp only [nx]; omega) | ((repeat refine Fresh.push ?_ _); assumption) | (simp only [smA]; done) | (simp [oneCell, AW.next_push]; done) | fail) only [go_sem, Nat.reduceEqDiff, reduceIte, Nat.reduceAdd, Int.toNat_natCast, Nat.add_zero, Owes_true, Tryz.results99, h1, h2, h2']
    exact ⟨by unfold cmpI; rw [if_neg h1, if_pos h2], rfl⟩
  · have h2' : ¬ a > b := h2
    simp -dsimp -implicitDefEqProofs (maxSteps := 2000000) (disch := first | assumption | omega | (simp only [nx]; omega) | ((repeat refine Fresh.push ?_ _); assumption) | (simp only [smA]; done) | (simp [oneCell, AW.next_push]; done) | fail) only [go_sem, Nat.reduceEqDiff, reduceIte, Nat.reduceAdd, Int.toNat_natCast, Nat.add_zero, Owes_true, Tryz.results99, h1, h2, h2']
    exact ⟨by unfold cmpI; rw [if_neg h1, if_neg h2], rfl⟩
theorem sizeT_ok (x : Nat) (h : x < 64) (w : AW) : CallT Tryz.prog Tryz.T0c (.fn (.func 98) #[]) #[.int .i64 (x : Int)] w (Ret (.int .i64 (popN x : Int)) fun w' => w = w') := by
  refine callT_told (v := .int .i64 (popN x : Int)) (w' := w) ?_ ⟨rfl, rfl⟩
  show (match tabArg Tryz.popTab [.int Tryz.popTab.k (x : Int)] with | some x => some (Tryz.popTab.g x, w) | none => none) = _
  rw [tabArg_at (s := Tryz.popTab) (.inl rfl) h]
  rfl
def orI (a b : Int) : Int := if a = 0 then b else a
theorem or_ok (a b : Int) (bk : Nat) (w : AW) (h : Own w bk 3 [.int .i64 a, .int .i64 b]) : CallT Tryz.prog Tryz.T0c (.fn (.func 96) #[]) #[.slice (some ⟨bk, 0, none⟩) 2 2] w (Ret (.int .i64 (orI a b)) fun w' => w = w') := by
  have c0 := h.cell (o := 0) rfl rfl
  have c1 := h.cell (o := 1) rfl rfl
  refine callT_code rfl Tryz.func96 rfl Tryz.s96_eq rfl ?_
  unfold Tryz.s96
  simp -dsimp -implicitDefEqProofs (maxSteps := 2000000) (disch := first | assumption | omega | (simp only [nx]; omega) | ((repeat refine Fresh.push ?_ _); assumption) | (simp only [smA]; done) | (simp [oneCell, AW.next_push]; done) | fail) only [go_sem, Nat.reduceEqDiff, reduceIte, Nat.reduceAdd, Int.toNat_natCast, Nat.add_zero, Owes_true, Tryz.results96]
  refine loopR (fun k t ds w1 => ∃ i : Nat, i ≤ 2 ∧ k = 2 - i ∧ ds = [] ∧ ev t (.tmp 3) = .int .i64 0 ∧ ev t (.tmp 6) = .slice (some ⟨bk, 0, none⟩) 2 2 ∧ ev t (.tmp 7) = .int .i64 2 ∧ ev t (.tmp 8) = .int .i64 (i : Int) ∧ (1 ≤ i → a = 0) ∧ (2 ≤ i → b = 0) ∧ w = w1) (2) ?_ ?_
  · refine ⟨0, by omega, by omega, rfl, ?_, ?_, ?_, ?_, fun h => by omega, fun h => by omega, rfl⟩ <;> simp -dsimp -implicitDefEqProofs (maxSteps := 2000000) (disch := first | assumption | omega | (simp only [nx]; omega) | ((repeat refine Fresh.push ?_ _); assumption) | (simp only [smA]; done) | (simp [oneCell, AW.next_push]; done) | fail) only [go_sem, Nat.reduceEqDiff, reduceIte, Nat.reduceAdd, Int.toNat_natCast, Nat.add_zero, Owes_true] <;> rfl
  rintro k t ds w1 ⟨i, hii, rfl, rfl, e3, e6, e7, e8, hz, hw⟩
  obtain ⟨hz2, rfl⟩ := hw
  rcases Nat.lt_or_ge i 2 with hlt | hge
  case inr =>
    obtain rfl : i = 2 := by omega
    have hlI : ¬ ((2 : Nat) : Int) < 2 := by omega
    have ha := hz (by omega)
    have hb := hz2 (by omega)
    simp -dsimp -implicitDefEqProofs (maxSteps := 2000000) (disch := first | assumption | omega | (simp only [nx]; omega) | ((repeat refine Fresh.push ?_ _); assumption) | (simp only [smA]; done) | (simp [oneCell, AW.next_push]; done) | fail) only [go_sem, Nat.reduceEqDiff, reduceIte, Nat.reduceAdd, Int.toNat_natCast, Nat.add_zero, Owes_true, Tryz.results96, e3, e6, e7, e8, hlI]
    exact ⟨by rw [ha, hb]; rfl, rfl⟩
  have hlI : (i : Int) < 2 := by omega
  have hl0 : (i : Int) < ((2 : Nat) : Int) := by omega
  obtain ⟨v, hv⟩ : ∃ v, v = if i = 0 then a else b := ⟨_, rfl⟩
  have ci : w.cell? ⟨bk, i, none⟩ = some (.int .i64 v) := by
    rw [hv]
    rcases Nat.eq_zero_or_pos i with h0 | h0
    · rw [if_pos h0, h0]; exact c0
    · obtain h1 : i = 1 := by omega
      rw [if_neg (by omega), h1]; exact c1
  by_cases h0 : v = 0
  · have hd : decide (v = 0) = true := decide_eq_true h0
    simp -dsimp -implicitDefEqProofs (maxSteps := 2000000) (disch := first | assumption | omega | (simp only [nx]; omega) | ((repeat refine Fresh.push ?_ _); assumption) | (simp only [smA]; done) | (simp [oneCell, AW.next_push]; done) | fail) only [go_sem, Nat.reduceEqDiff, reduceIte, Nat.reduceAdd, Int.toNat_natCast, Nat.add_zero, Owes_true, Tryz.results96, e3, e6, e7, e8, hlI, hl0, indexV_eq, Nat.zero_add, Nat.mul_one, ci, hd]
    have n1 : 1 ≤ i + 1 → a = 0 := fun _ => by
      rcases Nat.eq_zero_or_pos i with q | q
      · rw [if_pos q] at hv; omega
      · exact hz q
    have n2 : 2 ≤ i + 1 → b = 0 := fun _ => by
      rw [if_neg (by omega)] at hv; omega
    refine ⟨_, by omega, i + 1, by omega, rfl, rfl, by (simp -dsimp -implicitDefEqProofs (maxSteps := 2000000) (disch := first | assumption | omega | (simp only [nx]; omega) | ((repeat refine Fresh.push ?_ _); assumption) | (simp only [smA]; done) | (simp [oneCell, AW.next_push]; done) | fail) only [go_sem, Nat.reduceEqDiff, reduceIte, Nat.reduceAdd, Int.toNat_natCast, Nat.add_zero, Owes_true, e3]; try rfl), by (simp -dsimp -implicitDefEqProofs (maxSteps := 2000000) (disch := first | assumption | omega | (simp only [nx]; omega) | ((repeat refine Fresh.push ?_ _); assumption) | (simp only [smA]; done) | (simp [oneCell, AW.next_push]; done) | fail) only [go_sem, Nat.reduceEqDiff, reduceIte, Nat.reduceAdd, Int.toNat_natCast, Nat.add_zero, Owes_true, e6]; try rfl), by (simp -dsimp -implicitDefEqProofs (maxSteps := 2000000) (disch := first | assumption | omega | (simp only [nx]; omega) | ((repeat refine Fresh.push ?_ _); assumption) | (simp only [smA]; done) | (simp [oneCell, AW.next_push]; done) | fail) only [go_sem, Nat.reduceEqDiff, reduceIte, Nat.reduceAdd, Int.toNat_natCast, Nat.add_zero, Owes_true, e7]; try rfl), by (simp -dsimp -implicitDefEqProofs (maxSteps := 2000000) (disch := first | assumption | omega | (simp only [nx]; omega) | ((repeat refine Fresh.push ?_ _); assumption) | (simp only [smA]; done) | (simp [oneCell, AW.next_push]; done) | fail) only [go_sem, Nat.reduceEqDiff, reduceIte, Nat.reduceAdd, Int.toNat_natCast, Nat.add_zero, Owes_true, e8]; try rfl), n1, n2, rfl⟩
  · have hd : decide (v = 0) = false := decide_eq_false h0
    simp -dsimp -implicitDefEqProofs (maxSteps := 2000000) (disch := first | assumption | omega | (simp only [nx]; omega) | ((repeat refine Fresh.push ?_ _); assumption) | (simp only [smA]; done) | (simp [oneCell, AW.next_push]; done) | fail) only [go_sem, Nat.reduceEqDiff, reduceIte, Nat.reduceAdd, Int.toNat_natCast, Nat.add_zero, Owes_true, Tryz.results96, e3, e6, e7, e8, hlI, hl0, indexV_eq, Nat.zero_add, Nat.mul_one, ci, hd]
    refine ⟨?_, rfl⟩
    unfold orI
    rcases Nat.eq_zero_or_pos i with q | q
    · rw [if_pos q] at hv; rw [if_neg (by omega), hv]
    · rw [if_neg (by omega)] at hv; rw [if_pos (hz q), hv]
theorem Tryz.bs24x2 (t : Tmps) (l : List (Nat × Operand)) : makes (prg Tryz.prog) t (.buildSlice 24 2 ⟨l⟩) = bsQ 3 2 1 [.int .i64 0, .int .i64 0] (l.map fun p => (p.1, ev t p.2)) := makes_bs Tryz.ty24 Tryz.ty3 rfl (by kernel_rfl)
theorem cmpN_is (x y : Nat) : orI (cmpI (popN x : Int) (popN y : Int)) (cmpI (x : Int) (y : Int)) = cmpN x y := by
  unfold orI cmpI cmpN
  repeat' split
  all_goals omega
theorem cmpSets_ok (x y : Nat) (hx : x < 64) (hy : y < 64) (w : AW) (f : Fresh w) : CallT Tryz.prog Tryz.T0c (.fn (.func 95) #[]) #[.int .i64 (x : Int), .int .i64 (y : Int)] w fun v _ => v = .int .i64 (cmpN x y) := by
  refine callT_code rfl Tryz.func95 rfl Tryz.s95_eq rfl ?_
  unfold Tryz.s95
  simp -dsimp -implicitDefEqProofs (maxSteps := 2000000) (disch := first | assumption | omega | (simp only [nx]; omega) | ((repeat refine Fresh.push ?_ _); assumption) | (simp only [smA]; done) | (simp [oneCell, AW.next_push]; done) | fail) only [go_sem, Nat.reduceEqDiff, reduceIte, Nat.reduceAdd, Int.toNat_natCast, Nat.add_zero, Owes_true, Tryz.results95]
  apply callV_of (e := rfl)
  · exact sizeT_ok x hx w
  rintro _ _ ⟨rfl, rfl⟩
  simp -dsimp -implicitDefEqProofs (maxSteps := 2000000) (disch := first | assumption | omega | (simp only [nx]; omega) | ((repeat refine Fresh.push ?_ _); assumption) | (simp only [smA]; done) | (simp [oneCell, AW.next_push]; done) | fail) only [go_sem, Nat.reduceEqDiff, reduceIte, Nat.reduceAdd, Int.toNat_natCast, Nat.add_zero, Owes_true, Tryz.results95]
  apply callV_of (e := rfl)
  · exact sizeT_ok y hy w
  rintro _ _ ⟨rfl, rfl⟩
  simp -dsimp -implicitDefEqProofs (maxSteps := 2000000) (disch := first | assumption | omega | (simp only [nx]; omega) | ((repeat refine Fresh.push ?_ _); assumption) | (simp only [smA]; done) | (simp [oneCell, AW.next_push]; done) | fail) only [go_sem, Nat.reduceEqDiff, reduceIte, Nat.reduceAdd, Int.toNat_natCast, Nat.add_zero, Owes_true, Tryz.results95]
  apply callV_of (e := rfl)
  · exact compare_ok _ _ w
  rintro _ _ ⟨rfl, rfl⟩
  simp -dsimp -implicitDefEqProofs (maxSteps := 2000000) (disch := first | assumption | omega | (simp only [nx]; omega) | ((repeat refine Fresh.push ?_ _); assumption) | (simp only [smA]; done) | (simp [oneCell, AW.next_push]; done) | fail) only [go_sem, Nat.reduceEqDiff, reduceIte, Nat.reduceAdd, Int.toNat_natCast, Nat.add_zero, Owes_true, Tryz.results95]
  apply callV_of (e := rfl)
  · exact compareP_ok _ _ w
  rintro _ _ ⟨rfl, rfl⟩
  simp -dsimp -implicitDefEqProofs (maxSteps := 2000000) (disch := first | assumption | omega | (simp only [nx]; omega) | ((repeat refine Fresh.push ?_ _); assumption) | (simp only [smA]; done) | (simp [oneCell, AW.next_push]; done) | fail) only [go_sem, Nat.reduceEqDiff, reduceIte, Nat.reduceAdd, Int.toNat_natCast, Nat.add_zero, Owes_true, Tryz.results95, Tryz.bs24x2, bsQ_21]
  apply callV_of (e := rfl)
  · exact or_ok _ _ w.next _ (Own.new f 3 [.int .i64 (cmpI (popN x : Int) (popN y : Int)), .int .i64 (cmpI (x : Int) (y : Int))])
  rintro _ _ ⟨rfl, rfl⟩
  simp -dsimp -implicitDefEqProofs (maxSteps := 2000000) (disch := first | assumption | omega | (simp only [nx]; omega) | ((repeat refine Fresh.push ?_ _); assumption) | (simp only [smA]; done) | (simp [oneCell, AW.next_push]; done) | fail) only [go_sem, Nat.reduceEqDiff, reduceIte, Nat.reduceAdd, Int.toNat_natCast, Nat.add_zero, Owes_true, Tryz.results95]
  rw [cmpN_is]
end Go.Proofs

namespace Go.Sim
open Go Go.RowKit
variable {P : Program} {N F : Nat}
inductive GDat where
  | flat (v : Value)
  | sl (n c : Nat) (cells : List GDat)
  | agg (ds : List GDat)
def matchCells (m : GDat → Value → Bool) (w : AW) (b : Nat) : List GDat → Nat → Bool
  | [], _ => true
  | d :: l, o => match w.cell? ⟨b, o, none⟩ with
    | some u => m d u && matchCells m w b l (o + 1)
    | none => false
def matchAll (m : GDat → Value → Bool) : List GDat → List Value → Bool
  | [], [] => true
  | d :: l, v :: r => m d v && matchAll m l r
  | _, _ => false
def zeroZ (w : AW) (b : Nat) : Bool :=
  match w.blk b with
  | some (.cells _ _ _ _ 0) | some (.given _) => true
  | _ => false
def matchV (w : AW) : Nat → GDat → Value → Bool
  | 0, _, _ => false
  | k + 1, d, v => match d, v with
    | .flat u, v => flat 6 u && same 12 u v
    | .sl n c cells, .slice (some ⟨b, o, none⟩) n' c' => Nat.beq n n' && Nat.beq c c' && Nat.blt 0 c && zeroZ w b && matchCells (matchV w k) w b cells o
    | .agg ds, .agg cs => matchAll (matchV w k) ds cs.toList
    | _, _ => false
def giveAll (g : GDat → AW → Value × AW) : List GDat → AW → List Value × AW
  | [], w => ([], w)
  | d :: l, w => match g d w with
    | (u, w1) => match giveAll g l w1 with
      | (us, w2) => (u :: us, w2)
def giveV : Nat → GDat → AW → Value × AW
  | 0, _, w => (undef, w)
  | k + 1, d, w => match d with
    | .flat u => (u, w)
    | .sl n c cells => match giveAll (giveV k) cells w with
      | (us, w1) => (.slice (some ⟨w1.next, 0, none⟩) n c, w1.push (.given us))
    | .agg ds => match giveAll (giveV k) ds w with
      | (us, w1) => (.agg us.toArray, w1)
def GiveOk (W : World) (m : GDat → Value → Bool) (g : GDat → AW → Value × AW) (σ : Emb) : Prop :=
  ∀ d v v', m d v = true → VRel σ v v' → ∀ (σ0 : Emb) (w0 : AW), WRel W.heap.size σ0 w0 W → ∃ σ1 : Emb, σ0.le σ1 ∧ WRel W.heap.size σ1 (g d w0).2 W ∧ VRel σ1 (g d w0).1 v'
theorem giveAll_ok {W : World} {m : GDat → Value → Bool} {g : GDat → AW → Value × AW} {σ : Emb} (h : GiveOk W m g σ) : ∀ (ds : List GDat) (vs vs' : List Value), matchAll m ds vs = true → LRel σ vs vs' → ∀ (σ0 : Emb) (w0 : AW), WRel W.heap.size σ0 w0 W →
    ∃ σ1 : Emb, σ0.le σ1 ∧ WRel W.heap.size σ1 (giveAll g ds w0).2 W ∧ LRel σ1 (giveAll g ds w0).1 vs'
  | [], [], vs', _, hr, σ0, w0, hw => by
    cases hr
    exact ⟨σ0, .refl _, hw, .nil⟩
  | d :: l, v :: r, vs', hm, hr, σ0, w0, hw => by
    cases hr with
    | cons h1 h2 =>
      simp only [matchAll, Bool.and_eq_true] at hm
      obtain ⟨σ1, a1, a2, a3⟩ := h d v _ hm.1 h1 σ0 w0 hw
      obtain ⟨σ2, b1, b2, b3⟩ := giveAll_ok h l r _ hm.2 h2 σ1 _ a2
      exact ⟨σ2, a1.trans b1, b2, .cons (a3.mono b1) b3⟩
  | [], _ :: _, _, h, _, _, _, _ => by simp [matchAll] at h
  | _ :: _, [], _, h, _, _, _, _ => by simp [matchAll] at h
theorem cells_list {W : World} {w : AW} {σ : Emb} {N : Nat} (hw : WRel N σ w W) {m : GDat → Value → Bool} {b : Nat} {x : Loc} (hb : σ b = some x) : ∀ (ds : List GDat) (o : Nat), matchCells m w b ds o = true →
    ∃ vs vs' : List Value, matchAll m ds vs = true ∧ LRel σ vs vs' ∧ vs'.length = ds.length ∧ ∀ (i : Nat) u, vs'[i]? = some u → W.cell? ⟨x.c, x.s + (o + i), none⟩ = some u
  | [], o, _ => ⟨[], [], rfl, .nil, rfl, fun i u h => by simp at h⟩
  | d :: l, o, h => by
    simp only [matchCells] at h
    split at h
    case h_2 => cases h
    rename_i u hu
    simp only [Bool.and_eq_true] at h
    obtain ⟨u', h1, h2, _⟩ := hw.cell hb hu
    obtain ⟨vs, vs', a1, a2, a3, a4⟩ := cells_list hw hb l (o + 1) h.2
    refine ⟨u :: vs, u' :: vs', by simp only [matchAll, Bool.and_eq_true]; exact ⟨h.1, a1⟩, .cons h2 a2, by simp [a3], fun i q hq => ?_⟩
    cases i with
    | zero => simp at hq; subst hq; exact h1
    | succ i => simp at hq; have := a4 i q hq; rw [show o + (i + 1) = o + 1 + i by omega]; exact this
theorem give_ok {W : World} {w : AW} {σ : Emb} (hw : WRel N σ w W) : ∀ k, GiveOk W (matchV w k) (giveV k) σ
  | 0 => fun d v v' h => by simp [matchV] at h
  | k + 1 => by
    have ih := give_ok hw k
    intro d v v' hm hr σ0 w0 h0
    unfold matchV at hm
    split at hm
    · rename_i u
      simp only [Bool.and_eq_true] at hm
      have := same_eq 12 _ _ hm.2
      subst this
      have e := flat_eq 6 _ hm.1 σ v' hr
      subst e
      exact ⟨σ0, .refl _, h0, flat_self 6 _ hm.1 σ0⟩
    · rename_i n c cells b o n' c'
      simp only [Bool.and_eq_true] at hm
      obtain ⟨⟨⟨⟨h1, h2⟩, h5⟩, h3⟩, h4⟩ := hm
      obtain rfl := Nat.eq_of_beq_eq_true h1
      obtain rfl := Nat.eq_of_beq_eq_true h2
      have hzx : ∀ x, σ b = some x → x.z = 0 := by
        intro x hx
        obtain ⟨_, q, hq, hl, hb⟩ := hw.dom b x hx
        unfold zeroZ at h3
        rw [hq] at h3
        cases q with
        | cells c0 e0 r0 b0 z0 =>
          split at h3
          · rename_i e; injection e with e; injection e with _ _ _ _ e; subst e; exact hb.1
          · rename_i e; injection e with e; cases e
          · cases h3
        | given c0 => exact hl.1
        | _ => simp at h3
      cases hr with
      | slice hx hk hcap =>
        rename_i k' x
        have hz := hzx x hx
        have hkk : k' = c := by rcases hcap with q | q; exact q; omega
        subst hkk
        obtain ⟨vs, vs', b1, b2, b3, b4⟩ := cells_list hw hx cells o h4
        obtain ⟨σ1, a1, a2, a3⟩ := giveAll_ok ih cells vs vs' b1 b2 σ0 w0 h0
        simp only [giveV]
        have hlen := a3.length
        refine ⟨σ1.with (giveAll (giveV k) cells w0).2.next ⟨x.c, x.s + o, 0, 0⟩, a1.trans (Emb.le_with a2.fresh _), WRel.give a2 _ _ rfl ?_ ?_, ?_⟩
        · cases hv : (giveAll (giveV k) cells w0).1 with
          | nil => exact .inl rfl
          | cons y ys =>
            right
            rw [hv] at hlen
            have h1 := b4 0 (vs'[0]'(by rw [← hlen]; simp)) (by simp)
            obtain ⟨cc, ce, fr, q, _⟩ := cell_at h1
            rcases Nat.lt_or_ge x.c W.heap.size with q' | q'
            · exact q'
            · rw [Array.getElem?_eq_none q'] at q; cases q
        · intro i u hi hone
          obtain ⟨u', hu', r⟩ := a3.getSome hi
          obtain ⟨cc, ce, fr, q, q2⟩ := cell_at (b4 i u' hu')
          exact ⟨cc, ce, fr, u', q, by rw [show x.s + o + i = x.s + (o + i) by omega]; exact q2, r⟩
        · exact VRel.slice (x := ⟨x.c, x.s + o, 0, 0⟩) (o := 0) (Emb.with_self _ _ _) (Nat.le_refl _) (.inl rfl)
      | tail hx a => exact absurd (Nat.blt_eq.mp h5) (by omega)
    · rename_i ds cs
      cases hr with
      | agg ha hav =>
        rename_i cs'
        have hl : LRel σ cs.toList cs'.toList := ARel.iff.1 (by exact ⟨ha, hav⟩)
        obtain ⟨σ1, a1, a2, a3⟩ := giveAll_ok ih ds cs.toList cs'.toList hm hl σ0 w0 h0
        exact ⟨σ1, a1, a2, VRel.agg_of (ARel.iff.2 (by simpa [giveV] using a3))⟩
    · cases hm
theorem calls_give (hP : Fit P) (hfol : P.follows .mixedOrders = true) {told : ToldF} (ht : ∀ N, ToldOk P N told) {n k : Nat} {f : FuncId} {ds : List GDat} {v : Value} (hno : (told f ((giveAll (giveV k) ds .empty).1.toArray ++ #[]) (giveAll (giveV k) ds .empty).2).isNone = true) (hv : flat 6 v = true)
    (h : isVal (xcall (prg P) (xsOf (prg P)) told F (n + 1) (.fn (.func f) #[]) (giveAll (giveV k) ds .empty).1 (giveAll (giveV k) ds .empty).2) v = true) {N : Nat} {σ : Emb} {w : AW} {W : World} (hw : WRel N σ w W) {args args' : List Value} (hm : matchAll (matchV w k) ds args = true) (hr : LRel σ args args') :
    Calls P f args'.toArray W fun e W' => e = .returned v ∧ BelowD W.heap.size W W' := by
  obtain ⟨σ0, _, g2, g3⟩ := giveAll_ok (give_ok hw k) ds args args' hm hr (fun _ => none) .empty (WRel.empty W)
  generalize (giveAll (giveV k) ds .empty).1 = us at *
  generalize (giveAll (giveV k) ds .empty).2 = w0 at *
  rw [xcall_eq hP.funcs] at h
  unfold isVal at h
  split at h
  case h_2 => cases h
  rename_i u w1 hr'
  have hu := same_eq 12 _ _ h
  subst hu
  simp only [acall] at hr'
  rw [Option.isNone_iff_eq_none.mp hno] at hr'
  simp only [Array.append_empty] at hr'
  intro cs
  have ha : ARel σ0 us.toArray args'.toArray := ARel.iff.2 (by simpa using g3)
  obtain ⟨σ', v', W', fr, s, hf, hlv, e, r⟩ := enter_leaves hP hfol (call_ok hP hfol (ht W.heap.size) n) (call_pan hP hfol (ht W.heap.size) n) hr' cs g2 (args' := args'.toArray) ha
  have := flat_eq 6 v hv σ' v' r
  subst this
  exact ⟨.returned v', W', fr, ⟨rfl, e.below⟩, s, hf, hlv⟩
structure GMemo where
  f : FuncId
  k : Nat
  ds : List GDat
  val : Value
def findG (f : FuncId) (args : List Value) (w : AW) : List GMemo → Option Value
  | [] => none
  | m :: l => match Nat.beq f m.f with
    | true => match matchAll (matchV w m.k) m.ds args with
      | true => some m.val
      | false => findG f args w l
    | false => findG f args w l
def toldGive (tab : List GMemo) (told : ToldF) : ToldF := fun f args w =>
  match findG f args.toList w tab with
  | some v => some (v, w)
  | none => told f args w
structure GMemoOk (P : Program) (m : GMemo) : Prop where
  enters : ∀ args w, (callFunc m.f args).run P w = .ok (.enter m.f args) w
  flatVal : flat 6 m.val = true
  calls : ∀ (N : Nat) (σ : Emb) (w : AW) (W : World), WRel N σ w W → ∀ args args', matchAll (matchV w m.k) m.ds args = true → LRel σ args args' → Calls P m.f args'.toArray W fun e W' => e = .returned m.val ∧ BelowD W.heap.size W W'
inductive GMemosOk (P : Program) : List GMemo → Prop where
  | nil : GMemosOk P []
  | cons {m : GMemo} {l : List GMemo} (h : GMemoOk P m) (t : GMemosOk P l) : GMemosOk P (m :: l)
theorem findG_ok {f : FuncId} {args : List Value} {w : AW} {v : Value} : ∀ {tab : List GMemo}, GMemosOk P tab → findG f args w tab = some v → ∃ m, GMemoOk P m ∧ m.f = f ∧ matchAll (matchV w m.k) m.ds args = true ∧ m.val = v
  | _, .nil, h => by cases h
  | _, .cons hm ht, h => by
    simp only [findG] at h
    split at h
    · rename_i hf
      split at h
      · rename_i hs
        injection h with h
        exact ⟨_, hm, (Nat.eq_of_beq_eq_true hf).symm, hs, h⟩
      · exact findG_ok ht h
    · exact findG_ok ht h
theorem toldGive_ok {tab : List GMemo} (hm : GMemosOk P tab) {told : ToldF} (ht : ∀ N, ToldOk P N told) (N : Nat) : ToldOk P N (toldGive tab told) := by
  intro f args w w1 v h σ W args0 cap c cs hw ha
  unfold toldGive at h
  split at h
  · rename_i u hu
    injection h with h; injection h with h1 h2
    subst h1 h2
    obtain ⟨m, hok, rfl, hargs, rfl⟩ := findG_ok hm hu
    have hc := hok.calls N σ w W hw args.toList (args0 ++ cap).toList hargs (ARel.iff.1 ha)
    rw [show (args0 ++ cap).toList.toArray = args0 ++ cap from rfl] at hc
    obtain ⟨W', d1, d2⟩ := delivers_calls hok.enters hc c cs
    exact ⟨σ, _, W', d1, hw.aside d2, flat_self 6 _ hok.flatVal σ⟩
  · exact ht N f args w w1 v h σ W args0 cap c cs hw ha
end Go.Sim

namespace Go.Proofs
open Go Go.Shelf Go.RowKit Go.Sim
set_option maxRecDepth 1000000
theorem Tryz.fits : Fit Tryz.prog := fit_of (by decide +kernel)
theorem Tryz.mixed : Tryz.prog.follows .mixedOrders = true := by decide +kernel
theorem Tryz.told0 (N : Nat) : ToldOk Tryz.prog N (fun _ _ _ => none) := fun f args w w1 v h => by cases h
end Go.Proofs
