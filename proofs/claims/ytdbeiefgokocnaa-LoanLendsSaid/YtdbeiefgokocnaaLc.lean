/- What is given, and the law on the machine. -/
import Derived.Test.YtdbeiefgokocnaaLb
import Derived.Test.YtdbeiefgokocnaaNb
set_option linter.unusedVariables false
set_option linter.unusedSimpArgs false
/- Terms and rules: what is given, and the law. -/
namespace Go.Proofs
open Go Go.RowKit Go.Sim
set_option maxRecDepth 100000
theorem Try.und3 : Try.prog.underlying 3 = some (.int .i64) := by kernel_rfl
theorem Try.und27 : Try.prog.underlying 27 = some (.struct #[{ name := "Min", type := 3, offset := 0, embedded := false, tag := "", pkgPath := "", byteOffset := 0 }, { name := "Max", type := 3, offset := 1, embedded := false, tag := "", pkgPath := "", byteOffset := 8 }]) := by kernel_rfl
theorem Try.und41 : Try.prog.underlying 41 = some (.slice 94) := by kernel_rfl
theorem Try.und43 : Try.prog.underlying 43 = some (.struct #[{ name := "L", type := 41, offset := 0, embedded := false, tag := "", pkgPath := "", byteOffset := 0 }, { name := "Class", type := 9, offset := 1, embedded := false, tag := "", pkgPath := "", byteOffset := 24 }, { name := "Wish", type := 3, offset := 2, embedded := false, tag := "", pkgPath := "", byteOffset := 40 }]) := by kernel_rfl
theorem Try.und94 : Try.prog.underlying 94 = some (.struct #[{ name := "Class", type := 9, offset := 0, embedded := false, tag := "", pkgPath := "", byteOffset := 0 }, { name := "Terms", type := 40, offset := 1, embedded := false, tag := "", pkgPath := "", byteOffset := 16 }]) := by kernel_rfl
theorem Try.cells94 : Try.prog.cellsOf 94 = 4 := by kernel_rfl
theorem given_int {w : AW} {n : Nat} {cs : List Value} (h : Hd Try.prog w n 3 cs) : ∃ x : Int, cs = icells x := by
  cases n with
  | zero => exact h.elim
  | succ n =>
    simp only [Hd, Try.und3] at h
    obtain ⟨i, rfl, _⟩ := h
    exact ⟨i, rfl⟩
theorem given_text {w : AW} {n : Nat} {cs : List Value} (h : Hd Try.prog w n 9 cs) : ∃ s : ByteArray, cs = [.string s] ∧ s.size ≤ 140737488355328 := by
  cases n with
  | zero => exact h.elim
  | succ n =>
    simp only [Hd, Try.und9] at h
    exact h
theorem given_terms {w : AW} {n : Nat} {cs : List Value} (h : Hd Try.prog w n 40 cs) : ∃ F L C : Int, cs = [.int .i64 F, .int .i64 L, .int .i64 C] := by
  cases n with
  | zero => exact h.elim
  | succ n =>
    simp only [Hd, Try.und40] at h
    obtain ⟨parts, rfl, hl, hp⟩ := h
    match parts, hl with
    | [p0, p1, p2], _ =>
      obtain ⟨x0, rfl⟩ := given_int (hp 0 _ p0 rfl rfl)
      obtain ⟨x1, rfl⟩ := given_int (hp 1 _ p1 rfl rfl)
      obtain ⟨x2, rfl⟩ := given_int (hp 2 _ p2 rfl rfl)
      exact ⟨x0, x1, x2, rfl⟩
theorem given_termsV {w : AW} {n : Nat} {v : Value} (h : HdV Try.prog w n 40 v) : ∃ F L C : Int, v = .agg #[.int .i64 F, .int .i64 L, .int .i64 C] := by
  simp only [HdV, Try.und40] at h
  obtain ⟨cs, rfl, h⟩ := h
  obtain ⟨F, L, C, e⟩ := given_terms h
  exact ⟨F, L, C, by rw [show cs = cs.toList.toArray from rfl, e]⟩
theorem given_span {w : AW} {n : Nat} {v : Value} (h : HdV Try.prog w n 27 v) : ∃ a b : Int, v = .agg #[.int .i64 a, .int .i64 b] := by
  simp only [HdV, Try.und27] at h
  obtain ⟨cs, rfl, h⟩ := h
  cases n with
  | zero => exact h.elim
  | succ n =>
    simp only [Hd, Try.und27] at h
    obtain ⟨parts, e, hl, hp⟩ := h
    match parts, hl with
    | [p0, p1], _ =>
      obtain ⟨x0, rfl⟩ := given_int (hp 0 _ p0 rfl rfl)
      obtain ⟨x1, rfl⟩ := given_int (hp 1 _ p1 rfl rfl)
      exact ⟨x0, x1, by rw [show cs = cs.toList.toArray from rfl, e]; rfl⟩
theorem given_rule {w : AW} {n : Nat} {cs : List Value} (h : Hd Try.prog w n 94 cs) : ∃ r : RuleN, cs = rcells r ∧ r.s.size ≤ 140737488355328 := by
  cases n with
  | zero => exact h.elim
  | succ n =>
    simp only [Hd, Try.und94] at h
    obtain ⟨parts, rfl, hl, hp⟩ := h
    match parts, hl with
    | [p0, p1], _ =>
      obtain ⟨s, rfl, hs⟩ := given_text (hp 0 _ p0 rfl rfl)
      obtain ⟨F, L, C, rfl⟩ := given_terms (hp 1 _ p1 rfl rfl)
      exact ⟨⟨s, F, L, C⟩, rfl, hs⟩
theorem rules_of : ∀ {rows : List (List Value)}, (∀ r ∈ rows, ∃ x : RuleN, r = rcells x ∧ x.s.size ≤ 140737488355328) → ∃ rs : List RuleN, rows = rs.map rcells ∧ ∀ r ∈ rs, r.s.size ≤ 140737488355328
  | [], _ => ⟨[], rfl, fun r h => by simp at h⟩
  | r :: rows, h => by
    obtain ⟨x, hx, hs⟩ := h r List.mem_cons_self
    obtain ⟨xs, h2, h3⟩ := rules_of fun q hq => h q (List.mem_cons_of_mem _ hq)
    refine ⟨x :: xs, by rw [hx, h2]; rfl, fun q hq => ?_⟩
    rcases List.mem_cons.mp hq with e | e
    · rw [e]; exact hs
    · exact h3 q e
theorem given_ask {w : AW} {n : Nat} {v : Value} (h : HdV Try.prog w n 43 v) : ∃ (u : Value) (q : ByteArray) (x : Int) (rs : List RuleN), v = .agg #[u, .string q, .int .i64 x] ∧ ArrOf w 4 rcells u rs ∧ ∀ r ∈ rs, r.s.size ≤ 140737488355328 := by
  simp only [HdV, Try.und43] at h
  obtain ⟨cs, rfl, h⟩ := h
  cases n with
  | zero => exact h.elim
  | succ n =>
    simp only [Hd, Try.und43] at h
    obtain ⟨parts, e, hl, hp⟩ := h
    match parts, hl with
    | [p0, p1, p2], _ =>
      have h0 := hp 0 _ p0 rfl rfl
      obtain ⟨q, rfl, _⟩ := given_text (hp 1 _ p1 rfl rfl)
      obtain ⟨x, rfl⟩ := given_int (hp 2 _ p2 rfl rfl)
      cases n with
      | zero => exact h0.elim
      | succ n =>
        simp only [Hd, Try.und41, Try.cells94] at h0
        obtain ⟨u, rows, rfl, ha, hr, hgv⟩ := h0
        obtain ⟨rs, rfl, hs⟩ := rules_of fun r hq => given_rule (hr r hq)
        exact ⟨u, q, x, rs, by rw [show cs = cs.toList.toArray from rfl, e]; rfl, ha, hs⟩
theorem same_agg3 (a b c : Int) : same 12 (.agg #[.int .i64 a, .int .i64 b, .int .i64 c]) (.agg #[.int .i64 a, .int .i64 b, .int .i64 c]) = true := by simp [same, same.all, intEq_eq]
theorem Most_one {F L C a b E V E' V' : Int} (h : (termsB F L C = false ∧ E = 22 ∧ V = 0) ∨ (termsB F L C = true ∧ spanB a b 2147483648 = false ∧ E = 7 ∧ V = 0) ∨ (termsB F L C = true ∧ spanB a b 2147483648 = true ∧ E = 0 ∧ V = mostZ F L C a))
    (k : (termsB F L C = false ∧ E' = 22 ∧ V' = 0) ∨ (termsB F L C = true ∧ spanB a b 2147483648 = false ∧ E' = 7 ∧ V' = 0) ∨ (termsB F L C = true ∧ spanB a b 2147483648 = true ∧ E' = 0 ∧ V' = mostZ F L C a)) : E = E' ∧ V = V' := by
  rcases h with ⟨a1, rfl, rfl⟩ | ⟨a1, a2, rfl, rfl⟩ | ⟨a1, a2, rfl, rfl⟩ <;> rcases k with ⟨b1, rfl, rfl⟩ | ⟨b1, b2, rfl, rfl⟩ | ⟨b1, b2, rfl, rfl⟩ <;> simp_all
theorem Lend_one {F L C a b n E V E' V' : Int} (h : (termsB F L C = false ∧ E = 22 ∧ V = 0) ∨ (termsB F L C = true ∧ (spanB a b 2147483648 && inR 1 n 1073741824) = false ∧ E = 7 ∧ V = 0) ∨
   (termsB F L C = true ∧ (spanB a b 2147483648 && inR 1 n 1073741824) = true ∧ ((mostZ F L C a = 0 ∧ E = 4 ∧ V = 0) ∨ (mostZ F L C a ≠ 0 ∧ E = 0 ∧ V = min n (mostZ F L C a)))))
    (k : (termsB F L C = false ∧ E' = 22 ∧ V' = 0) ∨ (termsB F L C = true ∧ (spanB a b 2147483648 && inR 1 n 1073741824) = false ∧ E' = 7 ∧ V' = 0) ∨
   (termsB F L C = true ∧ (spanB a b 2147483648 && inR 1 n 1073741824) = true ∧ ((mostZ F L C a = 0 ∧ E' = 4 ∧ V' = 0) ∨ (mostZ F L C a ≠ 0 ∧ E' = 0 ∧ V' = min n (mostZ F L C a))))) : E = E' ∧ V = V' := by
  generalize (spanB a b 2147483648 && inR 1 n 1073741824) = B at *
  rcases h with ⟨a1, rfl, rfl⟩ | ⟨a1, a2, rfl, rfl⟩ | ⟨a1, a2, ⟨a3, rfl, rfl⟩ | ⟨a3, rfl, rfl⟩⟩ <;> rcases k with ⟨b1, rfl, rfl⟩ | ⟨b1, b2, rfl, rfl⟩ | ⟨b1, b2, ⟨b3, rfl, rfl⟩ | ⟨b3, rfl, rfl⟩⟩ <;> simp_all
set_option maxHeartbeats 2000000 in
theorem lends_law (w : AW) (xs : List Value) (f : Fresh w) (h : HdAll Try.prog w [40, 27, 43] xs) : CallT Try.prog Try.T1 (.fn (.func 4) #[]) xs.toArray w fun v _ => v = .bool true := by
  cases h with
  | cons n1 h1 h =>
  cases h with
  | cons n2 h2 h =>
  cases h with
  | cons n3 h3 h =>
  cases h
  obtain ⟨F, L, C, rfl⟩ := given_termsV h1
  obtain ⟨a, b, rfl⟩ := given_span h2
  obtain ⟨u, q, x, rs, rfl, hs, hsz⟩ := given_ask h3
  clear h1 h2 h3
  show CallT Try.prog Try.T1 (.fn (.func 4) #[]) #[.agg #[.int .i64 F, .int .i64 L, .int .i64 C], .agg #[.int .i64 a, .int .i64 b], .agg #[u, .string q, .int .i64 x]] w _
  obtain ⟨p, cap, rfl, _⟩ := id hs.open
  have g := (((Grown.refl f).push (.cells [.int .i64 F, .int .i64 L, .int .i64 C] 40 w.next 0 0)).push (.cells [.int .i64 a, .int .i64 b] 27 (w.next + 1) 0 0)).push (.cells [.slice p rs.length cap, .string q, .int .i64 x] 43 (w.next + 1 + 1) 0 0)
  have hA := ((Own.new f 40 [.int .i64 F, .int .i64 L, .int .i64 C]).push (.cells [.int .i64 a, .int .i64 b] 27 (w.next + 1) 0 0)).push (.cells [.slice p rs.length cap, .string q, .int .i64 x] 43 (w.next + 1 + 1) 0 0)
  have f1 := f.push (.cells [.int .i64 F, .int .i64 L, .int .i64 C] 40 w.next 0 0)
  have hB := (Own.new f1 27 [.int .i64 a, .int .i64 b]).push (.cells [.slice p rs.length cap, .string q, .int .i64 x] 43 (w.next + 1 + 1) 0 0)
  have f2 := f1.push (.cells [.int .i64 a, .int .i64 b] 27 (w.next + 1) 0 0)
  have hC := Own.new f2 43 [.slice p rs.length cap, .string q, .int .i64 x]
  simp only [AW.next_push] at hB hC
  have hsame := same_agg3 F L C
  refine callT_code rfl Try.func4 rfl Try.s4_eq rfl ?_
  unfold Try.s4
  simp -dsimp -implicitDefEqProofs (maxSteps := 2000000) (disch := first | assumption | omega | (simp only [AW.next_push, AW.next_put]; omega) | ((repeat refine Fresh.push ?_ _); assumption) | (simp only [same_int, same_bool, same_ptr, same_slice, same_sliceP, same_nil, same_agg2, same_string]; done) | (simp [oneCell, AW.next_push]; done) | fail) only [go_sem, Nat.reduceEqDiff, reduceIte, Nat.reduceAdd, Int.toNat_natCast, Nat.add_zero, Owes_true, Try.results4, Nat.zero_add]
  generalize hW : ((w.push (.cells [.int .i64 F, .int .i64 L, .int .i64 C] 40 w.next 0 0)).push (.cells [.int .i64 a, .int .i64 b] 27 (w.next + 1) 0 0)).push (.cells [.slice p rs.length cap, .string q, .int .i64 x] 43 (w.next + 1 + 1) 0 0) = W at *
  apply callV_of (e := rfl)
  · exact Most_ok F L C a b W g.2
  rintro _ w1 ⟨E1, V1, rfl, hg1, m1⟩
  have g1 := g.trans hg1
  have hA1 := hA.keep hg1.1
  have hB1 := hB.keep hg1.1
  have hC1 := hC.keep hg1.1
  have c0 := hA1.cell (o := 0) rfl rfl
  have c1 := hA1.cell (o := 1) rfl rfl
  have c2 := hA1.cell (o := 2) rfl rfl
  have d0 := hB1.cell (o := 0) rfl rfl
  have d1 := hB1.cell (o := 1) rfl rfl
  have x0 := hC1.cell (o := 0) rfl rfl
  have x1 := hC1.cell (o := 1) rfl rfl
  have x2 := hC1.cell (o := 2) rfl rfl
  simp -dsimp -implicitDefEqProofs (maxSteps := 2000000) (disch := first | assumption | omega | (simp only [AW.next_push, AW.next_put]; omega) | ((repeat refine Fresh.push ?_ _); assumption) | (simp only [same_int, same_bool, same_ptr, same_slice, same_sliceP, same_nil, same_agg2, same_string]; done) | (simp [oneCell, AW.next_push]; done) | fail) only [go_sem, Nat.reduceEqDiff, reduceIte, Nat.reduceAdd, Int.toNat_natCast, Nat.add_zero, Owes_true, Try.results4, Nat.zero_add, c0, c1, c2, d0, d1, x0, x1, x2]
  apply callV_of (e := rfl)
  · exact refMost_ok F L C a b w1 g1.2
  rintro _ w2 ⟨E2, V2, rfl, hg2, m2⟩
  have g2 := g1.trans hg2
  obtain ⟨rfl, rfl⟩ := Most_one m1 m2
  have hA2 := hA1.keep hg2.1
  have hB2 := hB1.keep hg2.1
  have hC2 := hC1.keep hg2.1
  have c0 := hA2.cell (o := 0) rfl rfl
  have c1 := hA2.cell (o := 1) rfl rfl
  have c2 := hA2.cell (o := 2) rfl rfl
  have d0 := hB2.cell (o := 0) rfl rfl
  have d1 := hB2.cell (o := 1) rfl rfl
  have x0 := hC2.cell (o := 0) rfl rfl
  have x1 := hC2.cell (o := 1) rfl rfl
  have x2 := hC2.cell (o := 2) rfl rfl
  simp -dsimp -implicitDefEqProofs (maxSteps := 2000000) (disch := first | assumption | omega | (simp only [AW.next_push, AW.next_put]; omega) | ((repeat refine Fresh.push ?_ _); assumption) | (simp only [same_int, same_bool, same_ptr, same_slice, same_sliceP, same_nil, same_agg2, same_string]; done) | (simp [oneCell, AW.next_push]; done) | fail) only [go_sem, Nat.reduceEqDiff, reduceIte, Nat.reduceAdd, Int.toNat_natCast, Nat.add_zero, Owes_true, Try.results4, Nat.zero_add, c0, c1, c2, d0, d1, x0, x1, x2, ne_eq, not_true]
  apply callV_of (e := rfl)
  · exact CheckTerms_ok F L C w2 g2.2
  rintro _ w3 ⟨rfl, hg3⟩
  have hle := hg3.1.wle g2.2
  have g3 := g2.trans hg3
  have hA3 := hA2.keep hg3.1
  have hB3 := hB2.keep hg3.1
  have hC3 := hC2.keep hg3.1
  have c0 := hA3.cell (o := 0) rfl rfl
  have c1 := hA3.cell (o := 1) rfl rfl
  have c2 := hA3.cell (o := 2) rfl rfl
  have d0 := hB3.cell (o := 0) rfl rfl
  have d1 := hB3.cell (o := 1) rfl rfl
  have x0 := hC3.cell (o := 0) rfl rfl
  have x1 := hC3.cell (o := 1) rfl rfl
  have x2 := hC3.cell (o := 2) rfl rfl
  simp -dsimp -implicitDefEqProofs (maxSteps := 2000000) (disch := first | assumption | omega | (simp only [AW.next_push, AW.next_put]; omega) | ((repeat refine Fresh.push ?_ _); assumption) | (simp only [same_int, same_bool, same_ptr, same_slice, same_sliceP, same_nil, same_agg2, same_string]; done) | (simp [oneCell, AW.next_push]; done) | fail) only [go_sem, Nat.reduceEqDiff, reduceIte, Nat.reduceAdd, Int.toNat_natCast, Nat.add_zero, Owes_true, Try.results4, Nat.zero_add, c0, c1, c2, d0, d1, x0, x1, x2]
  apply callV_of (e := rfl)
  · exact refCheckTerms_ok F L C w3 g3.2
  rintro _ w4 ⟨rfl, hg4⟩
  have g4 := g3.trans hg4
  have hA4 := hA3.keep hg4.1
  have hB4 := hB3.keep hg4.1
  have hC4 := hC3.keep hg4.1
  have c0 := hA4.cell (o := 0) rfl rfl
  have c1 := hA4.cell (o := 1) rfl rfl
  have c2 := hA4.cell (o := 2) rfl rfl
  have d0 := hB4.cell (o := 0) rfl rfl
  have d1 := hB4.cell (o := 1) rfl rfl
  have x0 := hC4.cell (o := 0) rfl rfl
  have x1 := hC4.cell (o := 1) rfl rfl
  have x2 := hC4.cell (o := 2) rfl rfl
  simp -dsimp -implicitDefEqProofs (maxSteps := 2000000) (disch := first | assumption | omega | (simp only [AW.next_push, AW.next_put]; omega) | ((repeat refine Fresh.push ?_ _); assumption) | (simp only [same_int, same_bool, same_ptr, same_slice, same_sliceP, same_nil, same_agg2, same_string]; done) | (simp [oneCell, AW.next_push]; done) | fail) only [go_sem, Nat.reduceEqDiff, reduceIte, Nat.reduceAdd, Int.toNat_natCast, Nat.add_zero, Owes_true, Try.results4, Nat.zero_add, c0, c1, c2, d0, d1, x0, x1, x2, ne_eq, not_true]
  apply callV_of (e := rfl)
  · exact Lend_ok F L C a b x w4 g4.2
  rintro _ w5 ⟨E3, V3, rfl, hg5, l1⟩
  have g5 := g4.trans hg5
  have hA5 := hA4.keep hg5.1
  have hB5 := hB4.keep hg5.1
  have hC5 := hC4.keep hg5.1
  have c0 := hA5.cell (o := 0) rfl rfl
  have c1 := hA5.cell (o := 1) rfl rfl
  have c2 := hA5.cell (o := 2) rfl rfl
  have d0 := hB5.cell (o := 0) rfl rfl
  have d1 := hB5.cell (o := 1) rfl rfl
  have x0 := hC5.cell (o := 0) rfl rfl
  have x1 := hC5.cell (o := 1) rfl rfl
  have x2 := hC5.cell (o := 2) rfl rfl
  simp -dsimp -implicitDefEqProofs (maxSteps := 2000000) (disch := first | assumption | omega | (simp only [AW.next_push, AW.next_put]; omega) | ((repeat refine Fresh.push ?_ _); assumption) | (simp only [same_int, same_bool, same_ptr, same_slice, same_sliceP, same_nil, same_agg2, same_string]; done) | (simp [oneCell, AW.next_push]; done) | fail) only [go_sem, Nat.reduceEqDiff, reduceIte, Nat.reduceAdd, Int.toNat_natCast, Nat.add_zero, Owes_true, Try.results4, Nat.zero_add, c0, c1, c2, d0, d1, x0, x1, x2]
  apply callV_of (e := rfl)
  · exact refLend_ok F L C a b x w5 g5.2
  rintro _ w6 ⟨E4, V4, rfl, hg6, l2⟩
  have g6 := g5.trans hg6
  obtain ⟨rfl, rfl⟩ := Lend_one l1 l2
  have hC6 := hC5.keep hg6.1
  have x0 := hC6.cell (o := 0) rfl rfl
  have x1 := hC6.cell (o := 1) rfl rfl
  simp -dsimp -implicitDefEqProofs (maxSteps := 2000000) (disch := first | assumption | omega | (simp only [AW.next_push, AW.next_put]; omega) | ((repeat refine Fresh.push ?_ _); assumption) | (simp only [same_int, same_bool, same_ptr, same_slice, same_sliceP, same_nil, same_agg2, same_string]; done) | (simp [oneCell, AW.next_push]; done) | fail) only [go_sem, Nat.reduceEqDiff, reduceIte, Nat.reduceAdd, Int.toNat_natCast, Nat.add_zero, Owes_true, Try.results4, Nat.zero_add, x0, x1, ne_eq, not_true]
  apply callV_of (e := rfl)
  · exact For_ok rs q _ w6 g6.2 (hs.grown g6)
  rintro _ w7 ⟨F1, L1, C1, E5, rfl, hg7, k1⟩
  have g7 := g6.trans hg7
  have f7 := g7.2
  have hC7 := (hC6.keep hg7.1).push (.cells [.int .i64 F1, .int .i64 L1, .int .i64 C1] 40 w7.next 0 0)
  have g8 := g7.push (.cells [.int .i64 F1, .int .i64 L1, .int .i64 C1] 40 w7.next 0 0)
  have hT := Own.new f7 40 [.int .i64 F1, .int .i64 L1, .int .i64 C1]
  have x0 := hC7.cell (o := 0) rfl rfl
  have x1 := hC7.cell (o := 1) rfl rfl
  simp -dsimp -implicitDefEqProofs (maxSteps := 2000000) (disch := first | assumption | omega | (simp only [AW.next_push, AW.next_put]; omega) | ((repeat refine Fresh.push ?_ _); assumption) | (simp only [same_int, same_bool, same_ptr, same_slice, same_sliceP, same_nil, same_agg2, same_string]; done) | (simp [oneCell, AW.next_push]; done) | fail) only [go_sem, Nat.reduceEqDiff, reduceIte, Nat.reduceAdd, Int.toNat_natCast, Nat.add_zero, Owes_true, Try.results4, Nat.zero_add, x0, x1]
  apply callV_of (e := rfl)
  · exact refFor_ok rs q _ _ g8.2 (hs.grown g8) hsz
  rintro _ w9 ⟨F2, L2, C2, E6, rfl, hg9, k2⟩
  obtain ⟨rfl, rfl, rfl, rfl⟩ := k1.one k2
  have g9 := g8.trans hg9
  have f9 := g9.2
  have hT9 := (hT.keep hg9.1).push (.cells [.int .i64 F1, .int .i64 L1, .int .i64 C1] 40 w9.next 0 0)
  have y0 := hT9.cell (o := 0) rfl rfl
  have y1 := hT9.cell (o := 1) rfl rfl
  have y2 := hT9.cell (o := 2) rfl rfl
  simp -dsimp -implicitDefEqProofs (maxSteps := 2000000) (disch := first | assumption | omega | (simp only [AW.next_push, AW.next_put]; omega) | ((repeat refine Fresh.push ?_ _); assumption) | (simp only [same_int, same_bool, same_ptr, same_slice, same_sliceP, same_nil, same_agg2, same_string]; done) | (simp [oneCell, AW.next_push]; done) | fail) only [go_sem, Nat.reduceEqDiff, reduceIte, Nat.reduceAdd, Int.toNat_natCast, Nat.add_zero, Owes_true, Try.results4, Nat.zero_add, y0, y1, y2]
  apply callV_of (e := rfl)
  · exact callT_told (Q := fun v w' => v = .bool true ∧ (w9.push (.cells [.int .i64 F1, .int .i64 L1, .int .i64 C1] 40 w9.next 0 0)) = w') (v := .bool true) (w' := w9.push (.cells [.int .i64 F1, .int .i64 L1, .int .i64 C1] 40 w9.next 0 0)) rfl ⟨rfl, rfl⟩
  rintro _ w8 ⟨rfl, rfl⟩
  simp -dsimp -implicitDefEqProofs (maxSteps := 2000000) (disch := first | assumption | omega | (simp only [AW.next_push, AW.next_put]; omega) | ((repeat refine Fresh.push ?_ _); assumption) | (simp only [same_int, same_bool, same_ptr, same_slice, same_sliceP, same_nil, same_agg2, same_string]; done) | (simp [oneCell, AW.next_push]; done) | fail) only [go_sem, Nat.reduceEqDiff, reduceIte, Nat.reduceAdd, Int.toNat_natCast, Nat.add_zero, Owes_true, Try.results4]
end Go.Proofs
