/- This program: its code, contracts, numbers, part 4. -/
import Derived.Test.YtlilncofnckgdaaPac
import Derived.Test.YtlilncofnckgdaaPaa
import Derived.Test.YtlilncofnckgdaaNc
import Derived.Test.YtlilncofnckgdaaRows
import Derived.ProofKit
import Derived.SizedLaws
set_option linter.unusedVariables false
set_option linter.unusedSimpArgs false
namespace Go.Proofs
open Go Go.RowKit Go.Sim
set_option maxRecDepth 100000
end Go.Proofs

namespace Go.Proofs
open Go Go.RowKit Go.Sim
set_option maxRecDepth 100000
end Go.Proofs

namespace Go.Proofs
open Go Go.RowKit Go.Sim
set_option maxRecDepth 100000
theorem Try.und22 : Try.prog.underlying 22 = some (.slice 3) := by kernel_rfl
theorem Try.und4 : Try.prog.underlying 4 = some .bool := by kernel_rfl
theorem Try.cells3 : Try.prog.cellsOf 3 = 1 := by kernel_rfl
theorem given_int {w : AW} {n : Nat} {cs : List Value} (h : Hd Try.prog w n 3 cs) : ∃ x : Int, cs = icells x ∧ -9223372036854775808 ≤ x ∧ x ≤ 9223372036854775807 := by
  cases n with
  | zero => exact h.elim
  | succ n =>
    simp only [Hd, Try.und3] at h
    obtain ⟨i, rfl, h1, h2⟩ := h
    exact ⟨i, rfl, h1, h2⟩
theorem given_num {w : AW} {n : Nat} {v : Value} (h : HdV Try.prog w n 3 v) : ∃ x : Int, v = .int .i64 x ∧ -9223372036854775808 ≤ x ∧ x ≤ 9223372036854775807 := by
  simp only [HdV, Try.und3] at h
  obtain ⟨x, e, h1⟩ := given_int h
  injection e with e
  exact ⟨x, e, h1⟩
theorem rows_ofR {R : Int → Prop} {rows : List (List Value)} (h : ∀ r ∈ rows, ∃ x : Int, r = icells x ∧ R x) : ∃ xs : List Int, rows = xs.map icells ∧ ∀ x ∈ xs, R x := by
  induction rows with
  | nil => exact ⟨[], rfl, fun _ h => by cases h⟩
  | cons r rows ih =>
    obtain ⟨x, hx, hr⟩ := h r List.mem_cons_self
    obtain ⟨xs, hxs, hr2⟩ := ih fun q hq => h q (List.mem_cons_of_mem _ hq)
    exact ⟨x :: xs, by rw [hx, hxs]; rfl, fun y hy => by
      rcases List.mem_cons.1 hy with rfl | hy
      · exact hr
      · exact hr2 y hy⟩
def I64 (x : Int) : Prop := -9223372036854775808 ≤ x ∧ x ≤ 9223372036854775807
theorem given_ints {w : AW} {n : Nat} {cs : List Value} (h : Hd Try.prog w n 22 cs) : ∃ v, cs = [v] ∧ ∃ xs, ArrOf w 1 icells v xs ∧ ∀ x ∈ xs, I64 x := by
  cases n with
  | zero => exact h.elim
  | succ n =>
    simp only [Hd, Try.und22, Try.cells3] at h
    obtain ⟨v, rows, rfl, ha, hr, hgv⟩ := h
    obtain ⟨xs, rfl, hI⟩ := rows_ofR (R := I64) fun r hq => by obtain ⟨x, hx, h1, h2⟩ := given_int (hr r hq); exact ⟨x, hx, h1, h2⟩
    exact ⟨v, rfl, xs, ha, hI⟩
theorem given_intsV {w : AW} {n : Nat} {v : Value} (h : HdV Try.prog w n 22 v) : ∃ xs, ArrOf w 1 icells v xs ∧ ∀ x ∈ xs, I64 x := by
  simp only [HdV, Try.und22] at h
  obtain ⟨u, e, xs, hx⟩ := given_ints h
  injection e with e
  subst e
  exact ⟨xs, hx⟩
end Go.Proofs

namespace Go.Proofs
open Go Go.RowKit Go.Sim
set_option maxRecDepth 100000
def drawnL (e : Int) (L : List Int) : List Int := if e = 0 then L else []
theorem Drawn.list {e : Int} {L : List Int} {w w' : AW} {v : Value} (h : Drawn e L w v w') : Grown w w' ∧ ∃ (p : Option Addr) (m c : Nat), v = .tuple #[.slice p m c, .int .i64 e] ∧ ArrOf w' 1 icells (.slice p m c) (drawnL e L) := by
  obtain ⟨g, p, m, c, rfl, h1, h2⟩ := h
  refine ⟨g, p, m, c, rfl, ?_⟩
  unfold drawnL
  by_cases he : e = 0
  · rw [if_pos he]; exact h2 he
  · rw [if_neg he, h1 he]; exact ArrOf.nil _ _ _
end Go.Proofs

namespace Go.Proofs
open Go Go.RowKit Go.Sim
set_option maxRecDepth 100000
theorem ord_back {n s : Nat} (h1 : 1 ≤ n) (h5 : n ≤ 5) (hs : s < fct n) : isOrd (ordI n s) = true ∧ rankR (ordI n s) = s := by
  have a1 : ∀ s, s < fct 1 → isOrd (ordI 1 s) = true ∧ rankR (ordI 1 s) = s := by decide +kernel
  have a2 : ∀ s, s < fct 2 → isOrd (ordI 2 s) = true ∧ rankR (ordI 2 s) = s := by decide +kernel
  have a3 : ∀ s, s < fct 3 → isOrd (ordI 3 s) = true ∧ rankR (ordI 3 s) = s := by decide +kernel
  have a4 : ∀ s, s < fct 4 → isOrd (ordI 4 s) = true ∧ rankR (ordI 4 s) = s := by decide +kernel
  have a5 : ∀ s, s < fct 5 → isOrd (ordI 5 s) = true ∧ rankR (ordI 5 s) = s := by decide +kernel
  have : n = 1 ∨ n = 2 ∨ n = 3 ∨ n = 4 ∨ n = 5 := by omega
  rcases this with rfl | rfl | rfl | rfl | rfl
  · exact a1 s hs
  · exact a2 s hs
  · exact a3 s hs
  · exact a4 s hs
  · exact a5 s hs
theorem sum_set : ∀ {L : List Int} {p : Nat} {x : Int} (h : p < L.length), (L.set p x).sum = L.sum - L[p] + x
  | [], _, _, h => by simp at h
  | a :: L, 0, x, _ => by simp only [List.set_cons_zero, List.sum_cons, List.getElem_cons_zero]; omega
  | a :: L, p + 1, x, h => by
    have := sum_set (L := L) (p := p) (x := x) (by simpa using h)
    simp only [List.set_cons_succ, List.sum_cons, List.getElem_cons_succ, this]; omega
theorem get_le_sum {L : List Int} (h0 : ∀ x ∈ L, 0 ≤ x) {p : Nat} (h : p < L.length) : L[p] ≤ L.sum := sum_ge_mem h0 _ (List.getElem_mem h)
def metL (n C k : Nat) : List Int := (List.range k).map fun j => (((C + j) % fct n : Nat) : Int)
theorem metL_len (n C k : Nat) : (metL n C k).length = k := by simp [metL]
theorem metL_succ (n C k : Nat) : metL n C (k + 1) = metL n C k ++ [(((C + k) % fct n : Nat) : Int)] := by
  unfold metL; rw [List.range_succ, List.map_append]; rfl
theorem metL_new {n C k j : Nat} (hj : j < k) (hk : k < fct n) : W (metL n C k) j ≠ (((C + k) % fct n : Nat) : Int) := by
  rw [W_at (by rw [metL_len]; exact hj)]
  simp only [metL, List.getElem_map, List.getElem_range]
  intro e
  have e2 : (C + j) % fct n = (C + k) % fct n := by omega
  have h1 := Nat.div_add_mod (C + j) (fct n)
  have h2 := Nat.div_add_mod (C + k) (fct n)
  rw [e2] at h1
  have h3 : fct n * ((C + k) / fct n) = fct n * ((C + j) / fct n) + (k - j) := by omega
  rcases Nat.lt_or_ge ((C + j) / fct n) ((C + k) / fct n) with q | q
  · have := Nat.mul_le_mul_left (fct n) q
    rw [Nat.succ_eq_add_one, Nat.mul_add, Nat.mul_one] at this
    omega
  · have := Nat.mul_le_mul_left (fct n) q
    omega
theorem seed_set {n : Nat} {L : List Int} {p k : Nat} (h : seedB (n : Int) L = true) (hk : k < fct n) : seedB (n : Int) (L.set p (k : Int)) = true := by
  unfold seedB at h ⊢
  simp only [Bool.and_eq_true, List.all_eq_true] at h ⊢
  refine ⟨h.1, by rw [List.length_set]; exact h.2.1, fun x hx => ?_⟩
  rcases List.mem_or_eq_of_mem_set hx with q | q
  · exact h.2.2 x q
  · subst q
    refine (inR_iff _ _ _).2 ⟨by omega, ?_⟩
    show (k : Int) ≤ (fct n : Int) - 1
    omega
theorem Cutt.ofRow {B : Nat} {w : AW} {b m : Nat} {F : List Int} (h : RowA B w (.slice (some ⟨b, 0, none⟩) F.length F.length) F) (hm : m ≤ F.length) : Cutt w (.slice (some ⟨b, 0, none⟩) m F.length) m := by
  rcases h with ⟨h, _⟩ | ⟨b', r, e, _, hb, _, _, hk, _⟩
  · cases h
  · injection e with e; injection e with e; injection e with e1 e2
    subst e1
    exact .inr ⟨b, 0, _, rfl, hm, hb, .inr ⟨_, _, _, hk⟩⟩
theorem row_cut {B : Nat} {w : AW} {b m a : Nat} {F : List Int} (h : RowA B w (.slice (some ⟨b, 0, none⟩) F.length F.length) F) (hm : m ≤ F.length) (ha : a ≤ m) :
    sliceV w 1 (.slice (some ⟨b, 0, none⟩) m F.length) none (some (.int .i64 (a : Int))) = some (.slice (some ⟨b, 0, none⟩) a F.length) := by
  rcases h with ⟨h, _⟩ | ⟨b', r, e, _, hb, _, _, hk, _⟩
  · cases h
  · injection e with e; injection e with e; injection e with e1 e2
    subst e1
    have b1 : Nat.ble 0 a = true := Nat.ble_eq_true_of_le (Nat.zero_le _)
    have b2 : Nat.ble a F.length = true := Nat.ble_eq_true_of_le (by omega)
    show sliceV w 1 (.slice (some ⟨b, 0, none⟩) m F.length) none (some (.int .i64 (Int.ofNat a))) = _
    have b3 : Nat.beq 1 1 = true := rfl
    simp only [sliceV, natOr, b1, b2, hk, Bool.and_self, b3, Bool.true_or, Nat.zero_mul, Nat.zero_add, Nat.sub_zero]
theorem arr_len {w : AW} {p : Option Addr} {m c : Nat} {L : List Int} (h : ArrOf w 1 icells (.slice p m c) L) : m = L.length := by
  obtain ⟨_, _, e, _⟩ := h.open
  injection e
set_option maxHeartbeats 32000000 in
theorem fair_law (w : AW) (xs : List Value) (f : Fresh w) (h : HdAll Try.prog w [3, 22, 3] xs) : CallT Try.prog Try.T1 (.fn (.func 11) #[]) xs.toArray w fun v _ => v = .bool true := by
  cases h with
  | cons n1 h1 h =>
  cases h with
  | cons n2 h2 h =>
  cases h with
  | cons n3 h3 h =>
  cases h
  rename_i v1 v2 v3
  obtain ⟨n0, rfl, _, _⟩ := given_num h1
  obtain ⟨L, hL, _⟩ := given_intsV h2
  obtain ⟨who, rfl, _, _⟩ := given_num h3
  clear h1 h2 h3
  obtain ⟨pu, cu, rfl, _, hcu, _⟩ := id hL.open
  show CallT Try.prog Try.T1 (.fn (.func 11) #[]) #[.int .i64 n0, .slice pu L.length cu, .int .i64 who] w _
  refine callT_code rfl Try.func11 rfl Try.s11_eq rfl ?_
  unfold Try.s11
  simp -dsimp -implicitDefEqProofs (maxSteps := 2000000) (disch := first | assumption | omega | (simp only [nx]; omega) | ((repeat refine Fresh.push ?_ _); assumption) | (simp only [smA]; done) | (simp [oneCell, AW.next_push]; done) | fail) only [go_sem, Nat.reduceEqDiff, reduceIte, Nat.reduceAdd, Int.toNat_natCast, Nat.add_zero, Owes_true, Try.results11]
  apply callV_of (e := rfl)
  · exact Ring_ok n0 5 (by omega) w
  rintro _ _ ⟨rfl, rfl⟩
  have hr5 : (if (5 : Int) ≤ 0 then 0 else n0 % 5) = n0 % 5 := by rw [if_neg (by omega)]
  rw [hr5]
  have hm0 := Int.emod_nonneg n0 (show (5 : Int) ≠ 0 by omega)
  have hm1 := Int.emod_lt_of_pos n0 (show (0 : Int) < 5 by omega)
  obtain ⟨n, hn⟩ : ∃ n : Nat, 1 + n0 % 5 = (n : Int) := ⟨(1 + n0 % 5).toNat, by omega⟩
  have hn1 : 1 ≤ n ∧ n ≤ 5 := by omega
  have hfl := fct_le (n := n) (by omega)
  have hfp := fct_pos n
  simp -dsimp -implicitDefEqProofs (maxSteps := 2000000) (disch := first | assumption | omega | (simp only [nx]; omega) | ((repeat refine Fresh.push ?_ _); assumption) | (simp only [smA]; done) | (simp [oneCell, AW.next_push]; done) | fail) only [go_sem, Nat.reduceEqDiff, reduceIte, Nat.reduceAdd, Int.toNat_natCast, Nat.add_zero, Owes_true, Try.results11, hn]
  refine loopR (fun k t ds w1 => ∃ i : Nat, i ≤ n - 1 ∧ k = n - 1 - i ∧ ds = [] ∧ ev t (.tmp 0) = .int .i64 (n : Int) ∧ ev t (.tmp 1) = .slice pu L.length cu ∧ ev t (.tmp 2) = .int .i64 who ∧ ev t (.tmp 7) = .int .i64 (fct (i + 1) : Int) ∧ ev t (.tmp 8) = .int .i64 ((i + 2 : Nat) : Int) ∧ w = w1) (n - 1) ?_ ?_
  · refine ⟨0, by omega, by omega, rfl, ?_, ?_, ?_, ?_, ?_, rfl⟩ <;> simp -dsimp -implicitDefEqProofs (maxSteps := 2000000) (disch := first | assumption | omega | (simp only [nx]; omega) | ((repeat refine Fresh.push ?_ _); assumption) | (simp only [smA]; done) | (simp [oneCell, AW.next_push]; done) | fail) only [go_sem, Nat.reduceEqDiff, reduceIte, Nat.reduceAdd, Int.toNat_natCast, Nat.add_zero, Owes_true] <;> rfl
  rintro k t ds w1 ⟨i, hii, rfl, rfl, e0, e1, e2, e7, e8, hw⟩
  subst hw
  by_cases hlt : ((i + 2 : Nat) : Int) ≤ (n : Int)
  case pos =>
    have hfi := fct_le (n := i + 1 + 1) (by omega)
    have hfs : (fct (i + 1) : Int) * ((i + 2 : Nat) : Int) = (fct (i + 1 + 1) : Int) := by
      rw [show fct (i + 1 + 1) = (i + 1 + 1) * fct (i + 1) from rfl, Nat.mul_comm]
      push_cast; rfl
    have hc2 : ((i + 2 : Nat) : Int) + 1 = ((i + 1 + 2 : Nat) : Int) := by omega
    simp -dsimp -implicitDefEqProofs (maxSteps := 2000000) (disch := first | assumption | omega | (simp only [nx]; omega) | ((repeat refine Fresh.push ?_ _); assumption) | (simp only [smA]; done) | (simp [oneCell, AW.next_push]; done) | fail) only [go_sem, Nat.reduceEqDiff, reduceIte, Nat.reduceAdd, Int.toNat_natCast, Nat.add_zero, Owes_true, Try.results11, e0, e1, e2, e7, e8, hlt, hfs, hc2]
    refine ⟨_, by omega, i + 1, by omega, rfl, rfl, by (simp -dsimp -implicitDefEqProofs (maxSteps := 2000000) (disch := first | assumption | omega | (simp only [nx]; omega) | ((repeat refine Fresh.push ?_ _); assumption) | (simp only [smA]; done) | (simp [oneCell, AW.next_push]; done) | fail) only [go_sem, Nat.reduceEqDiff, reduceIte, Nat.reduceAdd, Int.toNat_natCast, Nat.add_zero, Owes_true, e0, hfs, hc2]; try rfl), by (simp -dsimp -implicitDefEqProofs (maxSteps := 2000000) (disch := first | assumption | omega | (simp only [nx]; omega) | ((repeat refine Fresh.push ?_ _); assumption) | (simp only [smA]; done) | (simp [oneCell, AW.next_push]; done) | fail) only [go_sem, Nat.reduceEqDiff, reduceIte, Nat.reduceAdd, Int.toNat_natCast, Nat.add_zero, Owes_true, e1, hfs, hc2]; try rfl), by (simp -dsimp -implicitDefEqProofs (maxSteps := 2000000) (disch := first | assumption | omega | (simp only [nx]; omega) | ((repeat refine Fresh.push ?_ _); assumption) | (simp only [smA]; done) | (simp [oneCell, AW.next_push]; done) | fail) only [go_sem, Nat.reduceEqDiff, reduceIte, Nat.reduceAdd, Int.toNat_natCast, Nat.add_zero, Owes_true, e2, hfs, hc2]; try rfl), by (simp -dsimp -implicitDefEqProofs (maxSteps := 2000000) (disch := first | assumption | omega | (simp only [nx]; omega) | ((repeat refine Fresh.push ?_ _); assumption) | (simp only [smA]; done) | (simp [oneCell, AW.next_push]; done) | fail) only [go_sem, Nat.reduceEqDiff, reduceIte, Nat.reduceAdd, Int.toNat_natCast, Nat.add_zero, Owes_true, e7, hfs, hc2]; try rfl), by (simp -dsimp -implicitDefEqProofs (maxSteps := 2000000) (disch := first | assumption | omega | (simp only [nx]; omega) | ((repeat refine Fresh.push ?_ _); assumption) | (simp only [smA]; done) | (simp [oneCell, AW.next_push]; done) | fail) only [go_sem, Nat.reduceEqDiff, reduceIte, Nat.reduceAdd, Int.toNat_natCast, Nat.add_zero, Owes_true, e8, hfs, hc2]; try rfl), rfl⟩
  obtain rfl : i = n - 1 := by omega
  rw [show n - 1 + 1 = n by omega] at e7
  simp -dsimp -implicitDefEqProofs (maxSteps := 2000000) (disch := first | assumption | omega | (simp only [nx]; omega) | ((repeat refine Fresh.push ?_ _); assumption) | (simp only [smA]; done) | (simp [oneCell, AW.next_push]; done) | fail) only [go_sem, Nat.reduceEqDiff, reduceIte, Nat.reduceAdd, Int.toNat_natCast, Nat.add_zero, Owes_true, Try.results11, e0, e1, e2, e7, e8, hlt]
  apply callV_of (e := rfl)
  · exact Draw_ok (n : Int) (n : Int) L _ w f hL
  rintro _ w1 hD
  obtain ⟨g1, p1, m1, c1, rfl, _⟩ := hD.list
  have hde : drawE (n : Int) (n : Int) L = if seedB (n : Int) L then 0 else 104 := by
    unfold drawE
    rw [show inR 0 (n : Int) (n : Int) = true from (inR_iff _ _ _).2 (by omega)]
    simp
  cases hS : seedB (n : Int) L with
  | false =>
    rw [hS] at hde
    have hde : drawE (n : Int) (n : Int) L = 104 := hde
    rw [hde]
    have e104 : ¬ (104 : Int) = 0 := by omega
    have d104 : decide ((104 : Int) = 104) = true := rfl
    simp -dsimp -implicitDefEqProofs (maxSteps := 2000000) (disch := first | assumption | omega | (simp only [nx]; omega) | ((repeat refine Fresh.push ?_ _); assumption) | (simp only [smA]; done) | (simp [oneCell, AW.next_push]; done) | fail) only [go_sem, Nat.reduceEqDiff, reduceIte, Nat.reduceAdd, Int.toNat_natCast, Nat.add_zero, Owes_true, Try.results11, e104, d104]
    apply callV_of (e := rfl)
    · exact callT_told (Q := fun v w' => v = .bool true ∧ w1 = w') (v := .bool true) (w' := w1) rfl ⟨rfl, rfl⟩
    rintro _ _ ⟨rfl, rfl⟩
    simp -dsimp -implicitDefEqProofs (maxSteps := 2000000) (disch := first | assumption | omega | (simp only [nx]; omega) | ((repeat refine Fresh.push ?_ _); assumption) | (simp only [smA]; done) | (simp [oneCell, AW.next_push]; done) | fail) only [go_sem, Nat.reduceEqDiff, reduceIte, Nat.reduceAdd, Int.toNat_natCast, Nat.add_zero, Owes_true, Try.results11]
  | true =>
  rw [hS] at hde
  have hde : drawE (n : Int) (n : Int) L = 0 := hde
  rw [hde]
  have hS' := hS
  unfold seedB at hS'
  simp only [Bool.and_eq_true, List.all_eq_true, inR_iff] at hS'
  obtain ⟨_, hlen, hall⟩ := hS'
  have h0 : ∀ x ∈ L, 0 ≤ x := fun x hx => (hall x hx).1
  have d00 : decide ((0 : Int) = 0) = true := rfl
  have dl0 : decide ((L.length : Int) = 0) = false := decide_eq_false (by omega)
  obtain ⟨p, hp⟩ : ∃ p : Nat, who % (L.length : Int) = (p : Int) := ⟨(who % (L.length : Int)).toNat, by have := Int.emod_nonneg who (show (L.length : Int) ≠ 0 by omega); omega⟩
  have hpl : p < L.length := by have := Int.emod_lt_of_pos who (show (0 : Int) < (L.length : Int) by omega); omega
  have hge := get_le_sum h0 hpl
  obtain ⟨C, hC⟩ : ∃ C : Nat, L.sum - L[p] = (C : Int) := ⟨(L.sum - L[p]).toNat, by omega⟩
  simp -dsimp -implicitDefEqProofs (maxSteps := 2000000) (disch := first | assumption | omega | (simp only [nx]; omega) | ((repeat refine Fresh.push ?_ _); assumption) | (simp only [smA]; done) | (simp [oneCell, AW.next_push]; done) | fail) only [go_sem, Nat.reduceEqDiff, reduceIte, Nat.reduceAdd, Int.toNat_natCast, Nat.add_zero, Owes_true, Try.results11, e0, e1, e2, e7, d00, dl0]
  refine loopR (fun k t ds w2 => ∃ k2 : Nat, k2 ≤ fct n ∧ k = fct n - k2 ∧ ds = [] ∧ ev t (.tmp 0) = .int .i64 (n : Int) ∧ ev t (.tmp 1) = .slice pu L.length cu ∧ ev t (.tmp 2) = .int .i64 who ∧ ev t (.tmp 7) = .int .i64 (fct n : Int) ∧ ev t (.tmp 12) = .int .i64 ((k2 : Int) - 1) ∧ ev t (.tmp 13) = .int .i64 (k2 : Int) ∧ ∃ (S : Nat → Prop) (um : Value), ev t (.tmp 11) = um ∧ RowS S w2 um (metL n C k2) ∧ (∀ j, S j → w.next ≤ j ∧ j < w2.next) ∧ Grown w w2) (fct n) ?_ ?_
  · refine ⟨0, by omega, by omega, rfl, ?_, ?_, ?_, ?_, ?_, ?_, (fun _ => False), _, (by simp -dsimp -implicitDefEqProofs (maxSteps := 2000000) (disch := first | assumption | omega | (simp only [nx]; omega) | ((repeat refine Fresh.push ?_ _); assumption) | (simp only [smA]; done) | (simp [oneCell, AW.next_push]; done) | fail) only [go_sem, Nat.reduceEqDiff, reduceIte, Nat.reduceAdd, Int.toNat_natCast, Nat.add_zero, Owes_true]), .inl ⟨rfl, rfl, rfl⟩, fun _ q => q.elim, g1⟩ <;> simp -dsimp -implicitDefEqProofs (maxSteps := 2000000) (disch := first | assumption | omega | (simp only [nx]; omega) | ((repeat refine Fresh.push ?_ _); assumption) | (simp only [smA]; done) | (simp [oneCell, AW.next_push]; done) | fail) only [go_sem, Nat.reduceEqDiff, reduceIte, Nat.reduceAdd, Int.toNat_natCast, Nat.add_zero, Owes_true, e0, e1, e2, e7] <;> rfl
  rintro k t ds w2 ⟨k2, hik2, rfl, rfl, e0, e1, e2, e7, e12, e13, S, um, e11, hrow, hS1, g2⟩
  by_cases hlk : (k2 : Int) < (fct n : Int)
  case neg =>
    simp -dsimp -implicitDefEqProofs (maxSteps := 2000000) (disch := first | assumption | omega | (simp only [nx]; omega) | ((repeat refine Fresh.push ?_ _); assumption) | (simp only [smA]; done) | (simp [oneCell, AW.next_push]; done) | fail) only [go_sem, Nat.reduceEqDiff, reduceIte, Nat.reduceAdd, Int.toNat_natCast, Nat.add_zero, Owes_true, Try.results11, e0, e1, e2, e7, e11, e12, e13, hlk]
    apply callV_of (e := rfl)
    · exact callT_told (Q := fun v w' => v = .bool true ∧ w2 = w') (v := .bool true) (w' := w2) rfl ⟨rfl, rfl⟩
    rintro _ _ ⟨rfl, rfl⟩
    simp -dsimp -implicitDefEqProofs (maxSteps := 2000000) (disch := first | assumption | omega | (simp only [nx]; omega) | ((repeat refine Fresh.push ?_ _); assumption) | (simp only [smA]; done) | (simp [oneCell, AW.next_push]; done) | fail) only [go_sem, Nat.reduceEqDiff, reduceIte, Nat.reduceAdd, Int.toNat_natCast, Nat.add_zero, Owes_true, Try.results11]
  have hlk' : k2 < fct n := by omega
  simp -dsimp -implicitDefEqProofs (maxSteps := 2000000) (disch := first | assumption | omega | (simp only [nx]; omega) | ((repeat refine Fresh.push ?_ _); assumption) | (simp only [smA]; done) | (simp [oneCell, AW.next_push]; done) | fail) only [go_sem, Nat.reduceEqDiff, reduceIte, Nat.reduceAdd, Int.toNat_natCast, Nat.add_zero, Owes_true, Try.results11, e0, e1, e2, e7, e11, e12, e13, hlk]
  apply callV_of (e := rfl)
  · exact Own_ok L _ w2 g2.2 (hL.grown g2) (by omega)
  rintro z w3 ⟨hmk, g3⟩
  have hz := making_row hmk rfl (by omega)
  obtain ⟨bz, rfl, _, w4, hst, hz4, st4⟩ := aown_store hz g3.2 (o := p) (x := .int .i64 (k2 : Int)) (by rw [icells_flat_len]; exact hpl) rfl
  have hz4' : RowA w2.next w4 (.slice (some ⟨bz, 0, none⟩) L.length L.length) (L.set p (k2 : Int)) := by
    unfold RowA; rw [List.length_set, ← setL_ic]; exact hz4
  have hlenS : (L.set p (k2 : Int)).length = L.length := List.length_set
  have hix : indexV 1 (.slice (some ⟨bz, 0, none⟩) L.length L.length) (.int .i64 (p : Int)) = some (.pointer (some ⟨bz, p, none⟩)) := by rw [indexV_eq (by omega) (by omega)]; simp
  simp -dsimp -implicitDefEqProofs (maxSteps := 2000000) (disch := first | assumption | omega | (simp only [nx]; omega) | ((repeat refine Fresh.push ?_ _); assumption) | (simp only [smA]; done) | (simp [oneCell, AW.next_push]; done) | fail) only [go_sem, Nat.reduceEqDiff, reduceIte, Nat.reduceAdd, Int.toNat_natCast, Nat.add_zero, Owes_true, e0, e1, e2, e7, e11, e12, e13]
  apply callV_of (e := rfl)
  · exact Ring_ok who (L.length : Int) (by omega) w3
  rintro _ _ ⟨rfl, rfl⟩
  rw [show (if (L.length : Int) ≤ 0 then 0 else who % (L.length : Int)) = (p : Int) by rw [if_neg (by omega)]; exact hp]
  simp -dsimp -implicitDefEqProofs (maxSteps := 2000000) (disch := first | assumption | omega | (simp only [nx]; omega) | ((repeat refine Fresh.push ?_ _); assumption) | (simp only [smA]; done) | (simp [oneCell, AW.next_push]; done) | fail) only [go_sem, Nat.reduceEqDiff, reduceIte, Nat.reduceAdd, Int.toNat_natCast, Nat.add_zero, Owes_true, e0, e1, e2, e7, e11, e12, e13, hix, hst]
  have hnn : decide ((n : Int) = (n : Int)) = true := decide_eq_true rfl
  have hzA := hz4'.arr (by rw [hlenS]; omega)
  rw [← hlenS] at hzA
  apply callV_of (e := rfl)
  · exact Draw_okR (n : Int) (n : Int) (L.set p (k2 : Int)) _ w4 st4.fresh (by rw [← hlenS]; exact hzA)
  rintro _ w5 ⟨g5, px, mx, cx, rfl, _, hxA, hxR⟩
  have hseed := seed_set hS hlk' (p := p)
  have hdE : ∀ m : Nat, m ≤ n → drawE (n : Int) (m : Int) (L.set p (k2 : Int)) = 0 := fun m hm => by
    unfold drawE
    rw [hseed, show inR 0 (m : Int) (n : Int) = true from (inR_iff _ _ _).2 (by omega)]; rfl
  have hsum : (L.set p (k2 : Int)).sum = ((C + k2 : Nat) : Int) := by rw [sum_set hpl, hC]; push_cast; rfl
  obtain ⟨s, hs⟩ : ∃ s : Nat, s = (C + k2) % fct n := ⟨_, rfl⟩
  have hslt : s < fct n := by rw [hs]; exact Nat.mod_lt _ hfp
  have hdL : ∀ m : Nat, drawL (n : Int) (m : Int) (L.set p (k2 : Int)) = (ordI n s).take m := fun m => by
    unfold drawL; rw [hsum, hs]; rfl
  have hol := ordI_len n s
  rw [hdE n (Nat.le_refl _)] at hxA hxR ⊢
  rw [hdL n, List.take_of_length_le (by omega)] at hxA hxR
  have hxA := hxA rfl
  obtain ⟨bx, F, rfl, rfl, hmF, hFt, hF8, hFR⟩ := hxR rfl
  obtain rfl := arr_len hxA
  have hob := ord_back hn1.1 hn1.2 hslt
  have hrE : rankE (ordI n s) = 0 := by simp [rankE, hob.1]
  have hrV : rankV (ordI n s) = (s : Int) := by simp [rankV, hob.1, hob.2]
  simp -dsimp -implicitDefEqProofs (maxSteps := 2000000) (disch := first | assumption | omega | (simp only [nx]; omega) | ((repeat refine Fresh.push ?_ _); assumption) | (simp only [smA]; done) | (simp [oneCell, AW.next_push]; done) | fail) only [go_sem, Nat.reduceEqDiff, reduceIte, Nat.reduceAdd, Int.toNat_natCast, Nat.add_zero, Owes_true, e0, e1, e2, e7, e11, e12, e13]
  apply callV_of (e := rfl)
  · exact Rank_ok (ordI n s) _ w5 g5.2 hxA (Cutt.ofRow hFR hmF)
  rintro _ w6 ⟨rfl, g6⟩
  rw [hrE, hrV]
  have k26 : Keep w2.next w2 w6 := (g3.1.trans st4.keep).trans ((g5.1.trans (g6.1.mono g5.1.next)).mono (by have := st4.next; have := g3.1.next; omega))
  have hrow6 : RowS S w6 um (metL n C k2) := AOwnS.keep hrow k26
  have hmetA : ArrOf w6 1 icells um (metL n C k2) := RowA.arr (B := 0) (AOwnS.own hrow6) (by rw [metL_len]; omega)
  obtain ⟨pm, cm, rfl, _⟩ := id hmetA.open
  simp -dsimp -implicitDefEqProofs (maxSteps := 2000000) (disch := first | assumption | omega | (simp only [nx]; omega) | ((repeat refine Fresh.push ?_ _); assumption) | (simp only [smA]; done) | (simp [oneCell, AW.next_push]; done) | fail) only [go_sem, Nat.reduceEqDiff, reduceIte, Nat.reduceAdd, Int.toNat_natCast, Nat.add_zero, Owes_true, e0, e1, e2, e7, e11, e12, e13, d00]
  apply callV_of (e := rfl)
  · exact Seek_ok _ (s : Int) _ w6 hmetA
  rintro _ _ ⟨rfl, q, rfl, hq⟩
  have hqn : decide (q ≥ 0) = false := by
    rcases hq with ⟨j, _, hj, hw, _⟩ | ⟨hq, _⟩
    · rw [metL_len] at hj
      exact absurd hw (by rw [hs]; exact metL_new hj hlk')
    · rw [hq]; rfl
  simp -dsimp -implicitDefEqProofs (maxSteps := 2000000) (disch := first | assumption | omega | (simp only [nx]; omega) | ((repeat refine Fresh.push ?_ _); assumption) | (simp only [smA]; done) | (simp [oneCell, AW.next_push]; done) | fail) only [go_sem, Nat.reduceEqDiff, reduceIte, Nat.reduceAdd, Int.toNat_natCast, Nat.add_zero, Owes_true, e0, e1, e2, e7, e11, e12, e13, hqn]
  apply callV_of (e := rfl)
  · exact From_ok (s : Int) 0 _ w6
  rintro _ _ ⟨rfl, rfl⟩
  have hin : inR 0 (s : Int) ((fct n : Int) - 1) = true := (inR_iff _ _ _).2 (by omega)
  obtain ⟨v7, w7, happ, hrow7, m7, n7⟩ := hrow6.app g6.2 (by rw [metL_len]; omega) (s : Int)
  rw [hs, ← metL_succ] at hrow7
  have hz6 : RowA w2.next w6 _ _ := AOwnS.keep hz4' (g5.1.trans (g6.1.mono g5.1.next))
  have hz7 : RowA w2.next w7 _ _ := AOwnS.other (S := fun j => w2.next ≤ j) hz6 m7 fun j hj hSj => by have := (hS1 j hSj).2; omega
  have hw24 : w2.next ≤ w4.next := by have := st4.next; have := g3.1.next; omega
  have hF6 : RowA w4.next w6 _ F := AOwnS.keep hFR g6.1
  have hF7 : RowA w4.next w7 _ F := AOwnS.other (S := fun j => w4.next ≤ j) hF6 m7 fun j hj hSj => by have := (hS1 j hSj).2; omega
  have k07 : Keep w.next w w7 := (g2.1.trans (k26.mono g2.1.next)).trans (m7.keep (fun j hj => (hS1 j hj).1) ((g2.1.trans (k26.mono g2.1.next)).next))
  simp -dsimp -implicitDefEqProofs (maxSteps := 2000000) (disch := first | assumption | omega | (simp only [nx]; omega) | ((repeat refine Fresh.push ?_ _); assumption) | (simp only [smA]; done) | (simp [oneCell, AW.next_push]; done) | fail) only [go_sem, Nat.reduceEqDiff, reduceIte, Nat.reduceAdd, Int.toNat_natCast, Nat.add_zero, Owes_true, e0, e1, e2, e7, e11, e12, e13, hin, happ]
  apply callV_of (e := rfl)
  · exact Unrank_okR (n : Int) (k2 : Int) w7 m7.fresh
  rintro _ w8 ⟨g8, py, my, cy, rfl, _, hyA, hyR⟩
  have huE : unrE (n : Int) (k2 : Int) = 0 := by
    unfold unrE
    rw [show inR 1 (n : Int) 8 = true from (inR_iff _ _ _).2 (by omega), show inR 0 (k2 : Int) ((fct (n : Int).toNat : Int) - 1) = true from (inR_iff _ _ _).2 ⟨by omega, by show (k2 : Int) ≤ (fct n : Int) - 1; omega⟩]
    rfl
  rw [huE] at hyA hyR ⊢
  have hyA : ArrOf w8 1 icells (.slice py my cy) (ordI n k2) := hyA rfl
  obtain ⟨by', G, rfl, rfl, hmG, hGt, hG8, hGR⟩ := hyR rfl
  have holy := ordI_len n k2
  obtain rfl := arr_len hyA
  have hob2 := ord_back hn1.1 hn1.2 hlk'
  have hrE2 : rankE (ordI n k2) = 0 := by simp [rankE, hob2.1]
  have hrV2 : rankV (ordI n k2) = (k2 : Int) := by simp [rankV, hob2.1, hob2.2]
  simp -dsimp -implicitDefEqProofs (maxSteps := 2000000) (disch := first | assumption | omega | (simp only [nx]; omega) | ((repeat refine Fresh.push ?_ _); assumption) | (simp only [smA]; done) | (simp [oneCell, AW.next_push]; done) | fail) only [go_sem, Nat.reduceEqDiff, reduceIte, Nat.reduceAdd, Int.toNat_natCast, Nat.add_zero, Owes_true, e0, e1, e2, e7, e12, e13]
  apply callV_of (e := rfl)
  · exact Rank_ok (ordI n k2) _ w8 g8.2 hyA (Cutt.ofRow hGR hmG)
  rintro _ w9 ⟨rfl, g9⟩
  rw [hrE2, hrV2]
  have dkk : decide ((k2 : Int) = (k2 : Int)) = true := decide_eq_true rfl
  have hnle : ¬ (k2 : Int) ≤ (k2 : Int) - 1 := by omega
  have hquo : (n : Int).tdiv 2 = ((n / 2 : Nat) : Int) := rfl
  have h20 : ¬ (2 : Int) = 0 := by omega
  have g79 := g8.trans g9
  have hz9 : RowA w2.next w9 _ _ := AOwnS.keep hz7 g79.1
  have hF9 : RowA w4.next w9 _ F := AOwnS.keep hF7 g79.1
  have hzA9 := RowA.arr hz9 (by rw [hlenS]; omega)
  rw [← hlenS] at hzA9
  simp -dsimp -implicitDefEqProofs (maxSteps := 2000000) (disch := first | assumption | omega | (simp only [nx]; omega) | ((repeat refine Fresh.push ?_ _); assumption) | (simp only [smA]; done) | (simp [oneCell, AW.next_push]; done) | fail) only [go_sem, Nat.reduceEqDiff, reduceIte, Nat.reduceAdd, Int.toNat_natCast, Nat.add_zero, Owes_true, e0, e1, e2, e7, e12, e13, d00, dkk, hnle, hquo, h20]
  apply callV_of (e := rfl)
  · exact Draw_ok (n : Int) ((n / 2 : Nat) : Int) (L.set p (k2 : Int)) _ w9 g9.2 (by rw [← hlenS]; exact hzA9)
  rintro _ w10 hD10
  obtain ⟨g10, p10, m10, c10, rfl, hA10⟩ := hD10.list
  rw [hdE (n / 2) (by omega)] at hA10 ⊢
  have hA10 : ArrOf w10 1 icells (.slice p10 m10 c10) (drawL (n : Int) ((n / 2 : Nat) : Int) (L.set p (k2 : Int))) := hA10
  rw [hdL] at hA10
  have hF10 : RowA w4.next w10 _ F := AOwnS.keep hF9 g10.1
  have hxA10 := ArrOf.takeI (RowA.arr hF10 (by omega)) (a := n / 2) (by omega)
  have htt : F.take (n / 2) = (ordI n s).take (n / 2) := by
    rw [← hFt, List.take_take, Nat.min_eq_left (by omega)]
  rw [htt] at hxA10
  have hcutx := row_cut hF10 hmF (a := n / 2) (by omega)
  have dln : decide (((ordI n s).length : Int) = (n : Int)) = true := decide_eq_true (by rw [hol])
  simp -dsimp -implicitDefEqProofs (maxSteps := 2000000) (disch := first | assumption | omega | (simp only [nx]; omega) | ((repeat refine Fresh.push ?_ _); assumption) | (simp only [smA]; done) | (simp [oneCell, AW.next_push]; done) | fail) only [go_sem, Nat.reduceEqDiff, reduceIte, Nat.reduceAdd, Int.toNat_natCast, Nat.add_zero, Owes_true, e0, e1, e2, e7, e12, e13, d00, dln, hquo, h20, hcutx]
  apply callV_of (e := rfl)
  · exact Same_ok _ _ _ _ w10 hA10 hxA10
  rintro _ _ ⟨rfl, rfl⟩
  have dss : decide ((ordI n s).take (n / 2) = (ordI n s).take (n / 2)) = true := decide_eq_true rfl
  have hrow10 : RowS (fun j => S j ∨ j = w6.next + 1) w10 v7 (metL n C (k2 + 1)) := AOwnS.keep hrow7 (g79.trans g10).1
  have hnx7 := g79.1.next
  have hnx10 := g10.1.next
  have hkk : ((k2 + 1 : Nat) : Int) - 1 = (k2 : Int) := by omega
  have hw26 := k26.next
  have hg210 : Grown w w10 := ⟨k07.trans ((g79.trans g10).1.mono k07.next), g10.2⟩
  have hw2n := g2.1.next
  simp -dsimp -implicitDefEqProofs (maxSteps := 2000000) (disch := first | assumption | omega | (simp only [nx]; omega) | ((repeat refine Fresh.push ?_ _); assumption) | (simp only [smA]; done) | (simp [oneCell, AW.next_push]; done) | fail) only [go_sem, Nat.reduceEqDiff, reduceIte, Nat.reduceAdd, Int.toNat_natCast, Nat.add_zero, Owes_true, e0, e1, e2, e7, e12, e13, dss]
  refine ⟨_, by omega, k2 + 1, by omega, rfl, rfl, by (simp -dsimp -implicitDefEqProofs (maxSteps := 2000000) (disch := first | assumption | omega | (simp only [nx]; omega) | ((repeat refine Fresh.push ?_ _); assumption) | (simp only [smA]; done) | (simp [oneCell, AW.next_push]; done) | fail) only [go_sem, Nat.reduceEqDiff, reduceIte, Nat.reduceAdd, Int.toNat_natCast, Nat.add_zero, Owes_true, e0, hkk]; try rfl), by (simp -dsimp -implicitDefEqProofs (maxSteps := 2000000) (disch := first | assumption | omega | (simp only [nx]; omega) | ((repeat refine Fresh.push ?_ _); assumption) | (simp only [smA]; done) | (simp [oneCell, AW.next_push]; done) | fail) only [go_sem, Nat.reduceEqDiff, reduceIte, Nat.reduceAdd, Int.toNat_natCast, Nat.add_zero, Owes_true, e1, hkk]; try rfl), by (simp -dsimp -implicitDefEqProofs (maxSteps := 2000000) (disch := first | assumption | omega | (simp only [nx]; omega) | ((repeat refine Fresh.push ?_ _); assumption) | (simp only [smA]; done) | (simp [oneCell, AW.next_push]; done) | fail) only [go_sem, Nat.reduceEqDiff, reduceIte, Nat.reduceAdd, Int.toNat_natCast, Nat.add_zero, Owes_true, e2, hkk]; try rfl), by (simp -dsimp -implicitDefEqProofs (maxSteps := 2000000) (disch := first | assumption | omega | (simp only [nx]; omega) | ((repeat refine Fresh.push ?_ _); assumption) | (simp only [smA]; done) | (simp [oneCell, AW.next_push]; done) | fail) only [go_sem, Nat.reduceEqDiff, reduceIte, Nat.reduceAdd, Int.toNat_natCast, Nat.add_zero, Owes_true, e7, hkk]; try rfl), by (simp -dsimp -implicitDefEqProofs (maxSteps := 2000000) (disch := first | assumption | omega | (simp only [nx]; omega) | ((repeat refine Fresh.push ?_ _); assumption) | (simp only [smA]; done) | (simp [oneCell, AW.next_push]; done) | fail) only [go_sem, Nat.reduceEqDiff, reduceIte, Nat.reduceAdd, Int.toNat_natCast, Nat.add_zero, Owes_true, e12, hkk]; try rfl), by (simp -dsimp -implicitDefEqProofs (maxSteps := 2000000) (disch := first | assumption | omega | (simp only [nx]; omega) | ((repeat refine Fresh.push ?_ _); assumption) | (simp only [smA]; done) | (simp [oneCell, AW.next_push]; done) | fail) only [go_sem, Nat.reduceEqDiff, reduceIte, Nat.reduceAdd, Int.toNat_natCast, Nat.add_zero, Owes_true, e13, hkk]; try rfl), (fun j => S j ∨ j = w6.next + 1), v7, (by simp -dsimp -implicitDefEqProofs (maxSteps := 2000000) (disch := first | assumption | omega | (simp only [nx]; omega) | ((repeat refine Fresh.push ?_ _); assumption) | (simp only [smA]; done) | (simp [oneCell, AW.next_push]; done) | fail) only [go_sem, Nat.reduceEqDiff, reduceIte, Nat.reduceAdd, Int.toNat_natCast, Nat.add_zero, Owes_true]; try rfl), hrow10, (fun j hj => hj.elim (fun q => ⟨(hS1 j q).1, by have := (hS1 j q).2; omega⟩) (fun q => ⟨by omega, by omega⟩)), hg210⟩
end Go.Proofs

namespace Go.Proofs
open Go Go.RowKit Go.Sim Go.ChangeShapes Go.WideShapes Go.ChangeAt
set_option maxRecDepth 100000
theorem Try.own : ownKnob Try.prog.godebug = none := by kernel_rfl
theorem Try.laidOut : laidOutB Try.prog = true := by kernel_rfl
end Go.Proofs
