/- Markets turned around. -/
import Derived.Test.YtdbeiefgokocnaaVb
import Derived.Test.YtdbeiefgokocnaaLb
import Derived.Test.YtdbeiefgokocnaaOa
import Derived.Test.YtdbeiefgokocnaaFa
set_option linter.unusedVariables false
set_option linter.unusedSimpArgs false
/- Markets: turned around; an offer; spans, compared. -/
namespace Go.Proofs
open Go Go.RowKit Go.Sim
set_option maxRecDepth 100000
theorem Try.bytes66 : Try.prog.bytesOf 66 = 40 := by kernel_rfl
theorem Try.und64 : Try.prog.underlying 64 = some (.struct #[{ name := "T", type := 40, offset := 0, embedded := false, tag := "", pkgPath := "", byteOffset := 0 }, { name := "Wish", type := 3, offset := 3, embedded := false, tag := "", pkgPath := "", byteOffset := 24 }, { name := "More", type := 3, offset := 4, embedded := false, tag := "", pkgPath := "", byteOffset := 32 }]) := by kernel_rfl
theorem scel_one (s : SaleN) : ∀ y ∈ scel s, oneCell y = true := by
  intro y hy; simp [scel] at hy; rcases hy with h | h | h | h | h <;> subst h <;> rfl
theorem given_room {w : AW} {n : Nat} {vs vf a b c : Value} (h : HdV Try.prog w n 25 (.agg #[vs, vf, a, b, c])) : RoomAt Try.prog 66 vs := by
  simp only [HdV, Try.und25] at h
  obtain ⟨cs, e0, h⟩ := h
  cases e0
  cases n with
  | zero => exact h.elim
  | succ n =>
    simp only [Hd, Try.und25] at h
    obtain ⟨parts, e, hl, hp⟩ := h
    match parts, hl with
    | [p0, p1, p2, p3, p4], _ =>
      have h0 := hp 0 _ p0 rfl rfl
      cases n with
      | zero => exact h0.elim
      | succ n =>
        simp only [Hd, Try.und22] at h0
        obtain ⟨v, rows, rfl, _, _, _, hr⟩ := h0
        simp only [List.flatten_cons, List.cons_append, List.nil_append] at e
        injection e with e1 e2
        rw [e1]; exact hr
theorem given_terms {w : AW} {n : Nat} {cs : List Value} (h : Hd Try.prog w n 40 cs) : ∃ F L C : Int, cs = [.int .i64 F, .int .i64 L, .int .i64 C] := by
  cases n with
  | zero => exact h.elim
  | succ n =>
    simp only [Hd, Try.und40] at h
    obtain ⟨parts, rfl, hl, hp⟩ := h
    match parts, hl with
    | [p0, p1, p2], _ =>
      obtain ⟨x0, rfl⟩ := given_int (hp 0 _ p0 rfl rfl)
      obtain ⟨x1, rfl⟩ := given_int (hp 1 _ p1 rfl rfl)
      obtain ⟨x2, rfl⟩ := given_int (hp 2 _ p2 rfl rfl)
      exact ⟨x0, x1, x2, rfl⟩
theorem given_offer {w : AW} {n : Nat} {v : Value} (h : HdV Try.prog w n 64 v) : ∃ F L C a b : Int, v = .agg #[.int .i64 F, .int .i64 L, .int .i64 C, .int .i64 a, .int .i64 b] := by
  simp only [HdV, Try.und64] at h
  obtain ⟨cs, rfl, h⟩ := h
  cases n with
  | zero => exact h.elim
  | succ n =>
    simp only [Hd, Try.und64] at h
    obtain ⟨parts, e, hl, hp⟩ := h
    match parts, hl with
    | [p0, p1, p2], _ =>
      obtain ⟨F, L, C, rfl⟩ := given_terms (hp 0 _ p0 rfl rfl)
      obtain ⟨x1, rfl⟩ := given_int (hp 1 _ p1 rfl rfl)
      obtain ⟨x2, rfl⟩ := given_int (hp 2 _ p2 rfl rfl)
      refine ⟨F, L, C, x1, x2, ?_⟩
      rw [show cs = cs.toList.toArray from rfl, e]; rfl
theorem Try.nex27 (a b : Int) : eqQ Try.prog .neq 27 (.agg #[.int .i64 a, .int .i64 b]) (.agg #[.int .i64 a, .int .i64 b]) = some (.bool false) := by
  have h := eqQ_neq (P := Try.prog) (ty := 27) (xs := #[.int .i64 a, .int .i64 b]) (ys := #[.int .i64 a, .int .i64 b]) (b := [a == a, b == b].all id) (by kernel_rfl) rfl (eqStruct Try.und27 (by kernel_rfl) (n := 9999) (.cons (eqF_int (k := .i64) (by decide) Try.und3 Try.agg3 rfl rfl) (.cons (eqF_int (k := .i64) (by decide) Try.und3 Try.agg3 rfl rfl) .nil)))
  rw [h]; simp
theorem bsQ_15i {e : TypeId} {z0 z1 z2 z3 z4 : Value} (a b c g p : Int) : bsQ e 1 5 [z0, z1, z2, z3, z4] [(0, .agg #[.int .i64 a, .int .i64 b, .int .i64 c, .int .i64 g, .int .i64 p])] = some ([.int .i64 a, .int .i64 b, .int .i64 c, .int .i64 g, .int .i64 p], e, fun n => .slice (some ⟨n, 0, none⟩) 1 1) := by
  simp [bsQ, Instr.fill, Value.cells]
theorem Try.bs22 (t : Tmps) (l : List (Nat × Operand)) : makes (prg Try.prog) t (.buildSlice 22 1 ⟨l⟩) = bsQ 66 1 5 [.int .i64 0, .int .i64 0, .int .i64 0, .int .i64 0, .int .i64 0] (l.map fun p => (p.1, ev t p.2)) := makes_bs Try.ty22 Try.ty66 rfl (by kernel_rfl)
attribute [go_sem] bsQ_15i Try.bs22
theorem Mut_keep {b B : Nat} {u v w : AW} (h : Mut b u v) (k : Keep B v w) (f : Fresh w) (hB : u.next ≤ B) : Mut b u w :=
  ⟨fun i hi hn => (k.blk i (by omega)).trans (h.blk i hi hn), fun i hi => (k.fam i (by omega)).trans (h.fam i hi), Nat.le_trans h.next k.next, f⟩
theorem sortedL_rev (l : List Int) : sortedL l.reverse = sortedL l := by
  refine List.Perm.eq_of_pairwise ?_ (sortedL_pair _) (sortedL_pair _) ?_
  · intro a b _ _ h1 h2; omega
  · exact (List.mergeSort_perm _ _).trans ((List.reverse_perm l).trans (List.mergeSort_perm _ _).symm)
theorem craftsL_rev (x : MarkN) (S : List SaleN) (F : List Int) (kd : Int) : craftsL x S.reverse F kd = craftsL x S F kd := by
  rw [craftsL, craftsL, ← sortedL_rev (craftsTo _ _ _ S)]
  congr 1
  simp [craftsTo, List.filter_reverse, List.map_reverse]
theorem markB_rev (x : MarkN) (S : List SaleN) (F : List Int) : markB x S.reverse F = markB x S F := by
  simp only [markB, List.length_reverse, List.all_reverse]
theorem valE_rev (x : MarkN) (S : List SaleN) (F : List Int) (kd a b : Int) : valE x S.reverse F kd a b = valE x S F kd a b := by
  simp only [valE, markB_rev, craftsL_rev]
theorem valMn_rev (x : MarkN) (S : List SaleN) (F : List Int) (kd a b : Int) : valMn x S.reverse F kd a b = valMn x S F kd a b := by
  simp only [valMn, valE_rev, craftsL_rev]
theorem valMx_rev (x : MarkN) (S : List SaleN) (F : List Int) (kd a b : Int) : valMx x S.reverse F kd a b = valMx x S F kd a b := by
  simp only [valMx, valE_rev, craftsL_rev]
theorem most_in {F L C a : Int} (hF : 0 ≤ F ∧ F ≤ 64) (hL : 0 ≤ L ∧ L ≤ C) (ha : 0 ≤ a ∧ a ≤ 2147483648) : 0 ≤ mostZ F L C a ∧ mostZ F L C a ≤ C ∧ mostZ F L C a ≤ a ∧ mostZ F L C a ≤ max (a * F / 64) (min L a) ∧ min (min L a) C ≤ mostZ F L C a := by
  have h1 : a * F ≤ a * 64 := Int.mul_le_mul_of_nonneg_left hF.2 ha.1
  have h2 : 0 ≤ a * F := Int.mul_nonneg ha.1 hF.1
  unfold mostZ
  generalize a * F = X at *
  split <;> omega
theorem most_up {F L C a c : Int} (hF : 0 ≤ F ∧ F ≤ 64) (hL : 0 ≤ L ∧ L ≤ C) (ha : 0 ≤ a) (hc : a ≤ c) : mostZ F L C a ≤ mostZ F L C c := by
  have h1 : a * F ≤ a * 64 := Int.mul_le_mul_of_nonneg_left hF.2 ha
  have h2 : 0 ≤ a * F := Int.mul_nonneg ha hF.1
  have h3 : a * F ≤ c * F := Int.mul_le_mul_of_nonneg_right hc hF.1
  have h4 : c * F ≤ c * 64 := Int.mul_le_mul_of_nonneg_left hF.2 (by omega)
  unfold mostZ
  generalize a * F = X at *
  generalize c * F = Y at *
  split <;> split <;> omega
end Go.Proofs
