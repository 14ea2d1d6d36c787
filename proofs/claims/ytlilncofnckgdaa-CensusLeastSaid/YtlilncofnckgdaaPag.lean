/- This program: its code, contracts, numbers, part 7. -/
import Derived.Test.YtlilncofnckgdaaPae
import Derived.Test.YtlilncofnckgdaaPaa
import Derived.Test.YtlilncofnckgdaaNc
import Derived.Test.YtlilncofnckgdaaPad
import Derived.Test.YtlilncofnckgdaaPaf
import Derived.Test.YtlilncofnckgdaaRows
import Derived.ProofKit
import Derived.SizedLaws
set_option linter.unusedVariables false
set_option linter.unusedSimpArgs false
namespace Go.Proofs
open Go Go.RowKit Go.Sim
set_option maxRecDepth 100000
end Go.Proofs

namespace Go.Proofs
open Go Go.RowKit Go.Sim
set_option maxRecDepth 100000
theorem Try.und22 : Try.prog.underlying 22 = some (.slice 3) := by kernel_rfl
theorem Try.und4 : Try.prog.underlying 4 = some .bool := by kernel_rfl
theorem Try.cells3 : Try.prog.cellsOf 3 = 1 := by kernel_rfl
theorem given_int {w : AW} {n : Nat} {cs : List Value} (h : Hd Try.prog w n 3 cs) : ∃ x : Int, cs = icells x ∧ -9223372036854775808 ≤ x ∧ x ≤ 9223372036854775807 := by
  cases n with
  | zero => exact h.elim
  | succ n =>
    simp only [Hd, Try.und3] at h
    obtain ⟨i, rfl, h1, h2⟩ := h
    exact ⟨i, rfl, h1, h2⟩
theorem rows_ofR {R : Int → Prop} {rows : List (List Value)} (h : ∀ r ∈ rows, ∃ x : Int, r = icells x ∧ R x) : ∃ xs : List Int, rows = xs.map icells ∧ ∀ x ∈ xs, R x := by
  induction rows with
  | nil => exact ⟨[], rfl, fun _ h => by cases h⟩
  | cons r rows ih =>
    obtain ⟨x, hx, hr⟩ := h r List.mem_cons_self
    obtain ⟨xs, hxs, hr2⟩ := ih fun q hq => h q (List.mem_cons_of_mem _ hq)
    exact ⟨x :: xs, by rw [hx, hxs]; rfl, fun y hy => by
      rcases List.mem_cons.1 hy with rfl | hy
      · exact hr
      · exact hr2 y hy⟩
def I64 (x : Int) : Prop := -9223372036854775808 ≤ x ∧ x ≤ 9223372036854775807
end Go.Proofs

namespace Go.Proofs
open Go Go.RowKit Go.Sim
set_option maxRecDepth 100000
end Go.Proofs

namespace Go.Proofs
open Go Go.RowKit Go.Sim
set_option maxRecDepth 100000
theorem given_intsD {w : AW} {n : Nat} {cs : List Value} (h : Hd Try.prog w n 22 cs) : ∃ v, cs = [v] ∧ ∃ xs, ArrOf w 1 icells v xs ∧ (∀ x ∈ xs, I64 x) ∧ Cutt w v xs.length := by
  cases n with
  | zero => exact h.elim
  | succ n =>
    simp only [Hd, Try.und22, Try.cells3] at h
    obtain ⟨v, rows, rfl, ha, hr, hgv⟩ := h
    obtain ⟨xs, rfl, hI⟩ := rows_ofR (R := I64) fun r hq => by obtain ⟨x, hx, h1, h2⟩ := given_int (hr r hq); exact ⟨x, hx, h1, h2⟩
    have hA : ArrOf w 1 icells v xs := ha
    refine ⟨v, rfl, xs, hA, hI, ?_⟩
    obtain ⟨p, cap, rfl, hc, _, hat⟩ := hA.open
    rcases Nat.eq_zero_or_pos xs.length with q | q
    · exact .inl q
    · obtain ⟨b, o, rfl, hb, _⟩ := hat 0 q
      obtain ⟨g1, cs, g2⟩ := hgv.1 b o none _ _ rfl q
      exact .inr ⟨b, o, cap, rfl, hc, g1, .inl ⟨cs, g2⟩⟩
theorem given_audit {w : AW} {n : Nat} {v : Value} (h : HdV Try.prog w n 24 v) : ∃ (A : AudN) (p q : Option Addr) (a c : Nat), v = .agg (audC p q a c A).toArray ∧ ArrOf w 1 icells (.slice p A.st.length a) A.st ∧ Cutt w (.slice p A.st.length a) A.st.length ∧ ArrOf w 1 icells (.slice q A.co.length c) A.co ∧ I64 A.lost ∧ I64 A.sure ∧ (∀ x ∈ A.st, I64 x) ∧ ∀ x ∈ A.co, I64 x := by
  simp only [HdV, Try.underlying24] at h
  obtain ⟨cs, rfl, h⟩ := h
  cases n with
  | zero => exact h.elim
  | succ n =>
    simp only [Hd, Try.underlying24] at h
    obtain ⟨parts, hc, hl, hp⟩ := h
    match parts, hl with
    | [p0, p1, p2, p3], _ =>
      obtain ⟨u, rfl, xs, hx, hxi, hxc⟩ := given_intsD (hp 0 _ p0 rfl rfl)
      obtain ⟨z, rfl, ys, hy, hyi, _⟩ := given_intsD (hp 1 _ p1 rfl rfl)
      obtain ⟨k, rfl, hk⟩ := given_int (hp 2 _ p2 rfl rfl)
      obtain ⟨s, rfl, hs⟩ := given_int (hp 3 _ p3 rfl rfl)
      obtain ⟨p, a, rfl, _⟩ := id hx.open
      obtain ⟨q, c, rfl, _⟩ := id hy.open
      refine ⟨⟨xs, ys, k, s⟩, p, q, a, c, ?_, hx, hxc, hy, hk, hs, hxi, hyi⟩
      rw [show cs = cs.toList.toArray from rfl, hc]; rfl
end Go.Proofs

namespace Go.Proofs
open Go Go.RowKit Go.Sim
set_option maxRecDepth 100000
theorem lst_len {A : AudN} : (lstL A).length ≤ 4 := by
  unfold lstL
  split
  · rename_i h
    have := (leastX_is h).1
    have := (audB_ok h).1.2.1
    omega
  · exact Nat.zero_le _
set_option maxHeartbeats 64000000 in
theorem least_law (w : AW) (xs : List Value) (f : Fresh w) (h : HdAll Try.prog w [24] xs) : CallT Try.prog Try.T1 (.fn (.func 4) #[]) xs.toArray w fun v _ => v = .bool true := by
  cases h with
  | cons n1 h1 h =>
  cases h
  rename_i v1
  obtain ⟨A, p, q, a, c, rfl, hs, hcut, hc, _, _, _, _⟩ := given_audit h1
  clear h1
  show CallT Try.prog Try.T1 (.fn (.func 4) #[]) #[.agg (audC p q a c A).toArray] w _
  have g1 := (Grown.refl f).push (.cells (audC p q a c A) 24 w.next 0 0)
  have O1 := Own.new f 24 (audC p q a c A)
  have hl := fun (w' : AW) (g' : Grown w w') => Least_ok A p q a c w' g'.2 (hs.grown g') (hcut.grown g'.1) (hc.grown g')
  have hlR := fun (w' : AW) (g' : Grown w w') => LeastR_ok A p q a c w' g'.2 (hs.grown g') (hc.grown g')
  refine callT_code rfl Try.func4 rfl Try.s4_eq rfl ?_
  unfold Try.s4
  unfold audC at *
  simp -dsimp -implicitDefEqProofs (maxSteps := 2000000) (disch := first | assumption | omega | (simp only [nx]; omega) | ((repeat refine Fresh.push ?_ _); assumption) | (simp only [smA]; done) | (simp [oneCell, AW.next_push]; done) | fail) only [go_sem, Nat.reduceEqDiff, reduceIte, Nat.reduceAdd, Int.toNat_natCast, Nat.add_zero, Owes_true, Try.results4]
  generalize w.push (.cells [.slice p A.st.length a, .slice q A.co.length c, .int .i64 A.lost, .int .i64 A.sure] 24 w.next 0 0) = w1 at *
  have a0 := O1.cell (o := 0) rfl rfl
  have a1 := O1.cell (o := 1) rfl rfl
  have a2 := O1.cell (o := 2) rfl rfl
  have a3 := O1.cell (o := 3) rfl rfl
  try simp -dsimp -implicitDefEqProofs (maxSteps := 2000000) (disch := first | assumption | omega | (simp only [nx]; omega) | ((repeat refine Fresh.push ?_ _); assumption) | (simp only [smA]; done) | (simp [oneCell, AW.next_push]; done) | fail) only [go_sem, Nat.reduceEqDiff, reduceIte, Nat.reduceAdd, Int.toNat_natCast, Nat.add_zero, Owes_true, Try.results4, a0, a1, a2, a3, Nat.zero_add]
  apply callV_of (e := rfl)
  · exact hl w1 g1
  rintro _ w2 ⟨g2, v, rfl, hv⟩
  have gg2 := g1.trans g2
  have O2 := O1.keep g2.1
  have b0 := O2.cell (o := 0) rfl rfl
  have b1 := O2.cell (o := 1) rfl rfl
  have b2 := O2.cell (o := 2) rfl rfl
  have b3 := O2.cell (o := 3) rfl rfl
  have hA : ArrOf w2 1 icells v (lstL A) := hv.own.arr icells_len (by have := lst_len (A := A); omega)
  simp -dsimp -implicitDefEqProofs (maxSteps := 2000000) (disch := first | assumption | omega | (simp only [nx]; omega) | ((repeat refine Fresh.push ?_ _); assumption) | (simp only [smA]; done) | (simp [oneCell, AW.next_push]; done) | fail) only [go_sem, Nat.reduceEqDiff, reduceIte, Nat.reduceAdd, Int.toNat_natCast, Nat.add_zero, Owes_true, Try.results4, b0, b1, b2, b3, Nat.zero_add]
  apply callV_of (e := rfl)
  · exact hlR w2 gg2
  rintro _ w3 ⟨g3, u, rfl, hu⟩
  simp -dsimp -implicitDefEqProofs (maxSteps := 2000000) (disch := first | assumption | omega | (simp only [nx]; omega) | ((repeat refine Fresh.push ?_ _); assumption) | (simp only [smA]; done) | (simp [oneCell, AW.next_push]; done) | fail) only [go_sem, Nat.reduceEqDiff, reduceIte, Nat.reduceAdd, Int.toNat_natCast, Nat.add_zero, Owes_true, Try.results4]
  apply callV_of (e := rfl)
  · exact Same_ok (lstL A) (lstL A) _ _ w3 (hA.grown g3) hu
  rintro _ _ ⟨rfl, rfl⟩
  have d1' : decide (lstL A = lstL A) = true := decide_eq_true rfl
  have d2' : decide (lstC A = lstC A) = true := decide_eq_true rfl
  have d3' : decide (audE A = audE A) = true := decide_eq_true rfl
  simp -dsimp -implicitDefEqProofs (maxSteps := 2000000) (disch := first | assumption | omega | (simp only [nx]; omega) | ((repeat refine Fresh.push ?_ _); assumption) | (simp only [smA]; done) | (simp [oneCell, AW.next_push]; done) | fail) only [go_sem, Nat.reduceEqDiff, reduceIte, Nat.reduceAdd, Int.toNat_natCast, Nat.add_zero, Owes_true, Try.results4, d1', d2', d3']
  apply callV_of (e := rfl)
  · exact callT_told (Q := fun v w' => v = .bool true ∧ w3 = w') (v := .bool true) (w' := w3) rfl ⟨rfl, rfl⟩
  rintro _ _ ⟨rfl, rfl⟩
  simp -dsimp -implicitDefEqProofs (maxSteps := 2000000) (disch := first | assumption | omega | (simp only [nx]; omega) | ((repeat refine Fresh.push ?_ _); assumption) | (simp only [smA]; done) | (simp [oneCell, AW.next_push]; done) | fail) only [go_sem, Nat.reduceEqDiff, reduceIte, Nat.reduceAdd, Int.toNat_natCast, Nat.add_zero, Owes_true, Try.results4]
end Go.Proofs

namespace Go.Proofs
open Go Go.RowKit Go.Sim Go.ChangeShapes Go.WideShapes Go.ChangeAt
set_option maxRecDepth 100000
theorem Try.own : ownKnob Try.prog.godebug = none := by kernel_rfl
theorem Try.laidOut : laidOutB Try.prog = true := by kernel_rfl
end Go.Proofs
