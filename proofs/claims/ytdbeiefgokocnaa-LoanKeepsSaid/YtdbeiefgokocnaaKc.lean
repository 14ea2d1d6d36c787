/- What is given, and the law on the machine. -/
import Derived.Test.YtdbeiefgokocnaaKb
import Derived.Test.YtdbeiefgokocnaaNb
set_option linter.unusedVariables false
set_option linter.unusedSimpArgs false
/- Deals: what is given, and the law. -/
namespace Go.Proofs
open Go Go.RowKit Go.Sim
set_option maxRecDepth 100000
theorem Try.und3 : Try.prog.underlying 3 = some (.int .i64) := by kernel_rfl
theorem Try.und23 : Try.prog.underlying 23 = some (.slice 3) := by kernel_rfl
theorem Try.und52 : Try.prog.underlying 52 = some (.struct #[{ name := "Rate", type := 3, offset := 0, embedded := false, tag := "", pkgPath := "", byteOffset := 0 }, { name := "Cap", type := 3, offset := 1, embedded := false, tag := "", pkgPath := "", byteOffset := 8 }]) := by kernel_rfl
theorem Try.und54 : Try.prog.underlying 54 = some (.struct #[{ name := "Rate", type := 3, offset := 0, embedded := false, tag := "", pkgPath := "", byteOffset := 0 }, { name := "Free", type := 3, offset := 1, embedded := false, tag := "", pkgPath := "", byteOffset := 8 }, { name := "Fee", type := 3, offset := 2, embedded := false, tag := "", pkgPath := "", byteOffset := 16 }, { name := "Term", type := 3, offset := 3, embedded := false, tag := "", pkgPath := "", byteOffset := 24 }, { name := "Grace", type := 3, offset := 4, embedded := false, tag := "", pkgPath := "", byteOffset := 32 }]) := by kernel_rfl
theorem Try.und56 : Try.prog.underlying 56 = some (.struct #[{ name := "Law", type := 52, offset := 0, embedded := false, tag := "", pkgPath := "", byteOffset := 0 }, { name := "Tariff", type := 54, offset := 2, embedded := false, tag := "", pkgPath := "", byteOffset := 16 }, { name := "Closed", type := 23, offset := 7, embedded := false, tag := "", pkgPath := "", byteOffset := 56 }, { name := "Start", type := 3, offset := 8, embedded := false, tag := "", pkgPath := "", byteOffset := 80 }, { name := "Sum", type := 3, offset := 9, embedded := false, tag := "", pkgPath := "", byteOffset := 88 }]) := by kernel_rfl
theorem Try.cells3 : Try.prog.cellsOf 3 = 1 := by kernel_rfl
theorem given_int {w : AW} {n : Nat} {cs : List Value} (h : Hd Try.prog w n 3 cs) : ∃ x : Int, cs = icells x := by
  cases n with
  | zero => exact h.elim
  | succ n =>
    simp only [Hd, Try.und3] at h
    obtain ⟨i, rfl, _⟩ := h
    exact ⟨i, rfl⟩
theorem given_ints {w : AW} {n : Nat} {cs : List Value} (h : Hd Try.prog w n 23 cs) : ∃ v, cs = [v] ∧ ∃ xs, ArrOf w 1 icells v xs := by
  cases n with
  | zero => exact h.elim
  | succ n =>
    simp only [Hd, Try.und23, Try.cells3] at h
    obtain ⟨v, rows, rfl, ha, hr, hgv⟩ := h
    obtain ⟨xs, rfl⟩ := rows_of fun r hq => given_int (hr r hq)
    exact ⟨v, rfl, xs, ha⟩
theorem given_law {w : AW} {n : Nat} {cs : List Value} (h : Hd Try.prog w n 52 cs) : ∃ r c : Int, cs = [.int .i64 r, .int .i64 c] := by
  cases n with
  | zero => exact h.elim
  | succ n =>
    simp only [Hd, Try.und52] at h
    obtain ⟨parts, rfl, hl, hp⟩ := h
    match parts, hl with
    | [a, b], _ =>
      obtain ⟨x, rfl⟩ := given_int (hp 0 _ a rfl rfl)
      obtain ⟨y, rfl⟩ := given_int (hp 1 _ b rfl rfl)
      exact ⟨x, y, rfl⟩
theorem given_tariff {w : AW} {n : Nat} {cs : List Value} (h : Hd Try.prog w n 54 cs) : ∃ a b c d e : Int, cs = [.int .i64 a, .int .i64 b, .int .i64 c, .int .i64 d, .int .i64 e] := by
  cases n with
  | zero => exact h.elim
  | succ n =>
    simp only [Hd, Try.und54] at h
    obtain ⟨parts, rfl, hl, hp⟩ := h
    match parts, hl with
    | [p0, p1, p2, p3, p4], _ =>
      obtain ⟨x0, rfl⟩ := given_int (hp 0 _ p0 rfl rfl)
      obtain ⟨x1, rfl⟩ := given_int (hp 1 _ p1 rfl rfl)
      obtain ⟨x2, rfl⟩ := given_int (hp 2 _ p2 rfl rfl)
      obtain ⟨x3, rfl⟩ := given_int (hp 3 _ p3 rfl rfl)
      obtain ⟨x4, rfl⟩ := given_int (hp 4 _ p4 rfl rfl)
      exact ⟨x0, x1, x2, x3, x4, rfl⟩
theorem given_deal {w : AW} {n : Nat} {v : Value} (h : HdV Try.prog w n 56 v) : ∃ (d : DealN) (u : Value) (cl : List Int), v = .agg #[.int .i64 d.r, .int .i64 d.c, .int .i64 d.a, .int .i64 d.fr, .int .i64 d.fe, .int .i64 d.tm, .int .i64 d.gr, u, .int .i64 d.st, .int .i64 d.sm] ∧ ArrOf w 1 icells u cl := by
  simp only [HdV, Try.und56] at h
  obtain ⟨cs, rfl, h⟩ := h
  cases n with
  | zero => exact h.elim
  | succ n =>
    simp only [Hd, Try.und56] at h
    obtain ⟨parts, e, hl, hp⟩ := h
    match parts, hl with
    | [p0, p1, p2, p3, p4], _ =>
      obtain ⟨r, c, rfl⟩ := given_law (hp 0 _ p0 rfl rfl)
      obtain ⟨a, fr, fe, tm, gr, rfl⟩ := given_tariff (hp 1 _ p1 rfl rfl)
      obtain ⟨u, rfl, cl, hc⟩ := given_ints (hp 2 _ p2 rfl rfl)
      obtain ⟨st, rfl⟩ := given_int (hp 3 _ p3 rfl rfl)
      obtain ⟨sm, rfl⟩ := given_int (hp 4 _ p4 rfl rfl)
      refine ⟨⟨r, c, a, fr, fe, tm, gr, st, sm⟩, u, cl, ?_, hc⟩
      rw [show cs = cs.toList.toArray from rfl, e]; rfl
theorem given_num {w : AW} {n : Nat} {v : Value} (h : HdV Try.prog w n 3 v) : ∃ x : Int, v = .int .i64 x := by
  simp only [HdV, Try.und3] at h
  obtain ⟨x, e⟩ := given_int h
  injection e with e
  exact ⟨x, e⟩
set_option maxHeartbeats 1000000 in
theorem keeps_law (w : AW) (xs : List Value) (f : Fresh w) (h : HdAll Try.prog w [56, 3] xs) : CallT Try.prog Try.T1 (.fn (.func 5) #[]) xs.toArray w fun v _ => v = .bool true := by
  cases h with
  | cons n1 h1 h =>
  cases h with
  | cons n2 h2 h =>
  cases h
  obtain ⟨d, u, cl, rfl, hs⟩ := given_deal h1
  obtain ⟨un, rfl⟩ := given_num h2
  clear h1 h2
  show CallT Try.prog Try.T1 (.fn (.func 5) #[]) #[.agg #[.int .i64 d.r, .int .i64 d.c, .int .i64 d.a, .int .i64 d.fr, .int .i64 d.fe, .int .i64 d.tm, .int .i64 d.gr, u, .int .i64 d.st, .int .i64 d.sm], .int .i64 un] w _
  obtain ⟨p, cap, rfl, _⟩ := id hs.open
  have g := (Grown.refl f).push (.cells [.int .i64 d.r, .int .i64 d.c, .int .i64 d.a, .int .i64 d.fr, .int .i64 d.fe, .int .i64 d.tm, .int .i64 d.gr, (.slice p cl.length cap), .int .i64 d.st, .int .i64 d.sm] 56 w.next 0 0)
  have hO := Own.new f 56 [.int .i64 d.r, .int .i64 d.c, .int .i64 d.a, .int .i64 d.fr, .int .i64 d.fe, .int .i64 d.tm, .int .i64 d.gr, (.slice p cl.length cap), .int .i64 d.st, .int .i64 d.sm]
  refine callT_code rfl Try.func5 rfl Try.s5_eq rfl ?_
  unfold Try.s5
  simp -dsimp -implicitDefEqProofs (maxSteps := 2000000) (disch := first | assumption | omega | (simp only [AW.next_push, AW.next_put]; omega) | ((repeat refine Fresh.push ?_ _); assumption) | (simp only [same_int, same_bool, same_ptr, same_slice, same_sliceP, same_nil, same_agg2, same_string]; done) | (simp [oneCell, AW.next_push]; done) | fail) only [go_sem, Nat.reduceEqDiff, reduceIte, Nat.reduceAdd, Int.toNat_natCast, Nat.add_zero, Owes_true, Try.results5, Nat.zero_add]
  apply callV_of (e := rfl)
  · exact Keep_ok d cl un _ _ g.2 (hs.grown g)
  rintro _ w1 ⟨s1, E1, L1, rfl, k1, a1, hg1⟩
  have g1 := g.trans hg1
  have hO1 := hO.keep hg1.1
  obtain ⟨q1, cap1, rfl, _⟩ := id a1.open
  have c0 := hO1.cell (o := 0) rfl rfl
  have c1 := hO1.cell (o := 1) rfl rfl
  have c2 := hO1.cell (o := 2) rfl rfl
  have c3 := hO1.cell (o := 3) rfl rfl
  have c4 := hO1.cell (o := 4) rfl rfl
  have c5 := hO1.cell (o := 5) rfl rfl
  have c6 := hO1.cell (o := 6) rfl rfl
  have c7 := hO1.cell (o := 7) rfl rfl
  have c8 := hO1.cell (o := 8) rfl rfl
  have c9 := hO1.cell (o := 9) rfl rfl
  simp -dsimp -implicitDefEqProofs (maxSteps := 2000000) (disch := first | assumption | omega | (simp only [AW.next_push, AW.next_put]; omega) | ((repeat refine Fresh.push ?_ _); assumption) | (simp only [same_int, same_bool, same_ptr, same_slice, same_sliceP, same_nil, same_agg2, same_string]; done) | (simp [oneCell, AW.next_push]; done) | fail) only [go_sem, Nat.reduceEqDiff, reduceIte, Nat.reduceAdd, Int.toNat_natCast, Nat.add_zero, Owes_true, Try.results5, Nat.zero_add, c0, c1, c2, c3, c4, c5, c6, c7, c8, c9]
  apply callV_of (e := rfl)
  · exact refKeep_ok d cl un _ w1 g1.2 (hs.grown g1)
  rintro _ w2 ⟨s2, E2, L2, rfl, k2, a2, hg2⟩
  have g2 := g1.trans hg2
  obtain ⟨q2, cap2, rfl, _⟩ := id a2.open
  obtain ⟨rfl, rfl⟩ := k1.one k2
  simp -dsimp -implicitDefEqProofs (maxSteps := 2000000) (disch := first | assumption | omega | (simp only [AW.next_push, AW.next_put]; omega) | ((repeat refine Fresh.push ?_ _); assumption) | (simp only [same_int, same_bool, same_ptr, same_slice, same_sliceP, same_nil, same_agg2, same_string]; done) | (simp [oneCell, AW.next_push]; done) | fail) only [go_sem, Nat.reduceEqDiff, reduceIte, Nat.reduceAdd, Int.toNat_natCast, Nat.add_zero, Owes_true, Try.results5]
  apply callV_of (e := rfl)
  · exact same_ok L1 L1 _ _ w2 g2.2 (a1.grown hg2) a2
  rintro _ w3 ⟨rfl, hg3⟩
  have e : decide (L1 = L1) = true := decide_eq_true rfl
  rw [e]
  simp -dsimp -implicitDefEqProofs (maxSteps := 2000000) (disch := first | assumption | omega | (simp only [AW.next_push, AW.next_put]; omega) | ((repeat refine Fresh.push ?_ _); assumption) | (simp only [same_int, same_bool, same_ptr, same_slice, same_sliceP, same_nil, same_agg2, same_string]; done) | (simp [oneCell, AW.next_push]; done) | fail) only [go_sem, Nat.reduceEqDiff, reduceIte, Nat.reduceAdd, Int.toNat_natCast, Nat.add_zero, Owes_true, Try.results5]
  apply callV_of (e := rfl)
  · exact callT_told (Q := fun v w' => v = .bool true ∧ w3 = w') (v := .bool true) (w' := w3) rfl ⟨rfl, rfl⟩
  rintro _ w8 ⟨rfl, rfl⟩
  simp -dsimp -implicitDefEqProofs (maxSteps := 2000000) (disch := first | assumption | omega | (simp only [AW.next_push, AW.next_put]; omega) | ((repeat refine Fresh.push ?_ _); assumption) | (simp only [same_int, same_bool, same_ptr, same_slice, same_sliceP, same_nil, same_agg2, same_string]; done) | (simp [oneCell, AW.next_push]; done) | fail) only [go_sem, Nat.reduceEqDiff, reduceIte, Nat.reduceAdd, Int.toNat_natCast, Nat.add_zero, Owes_true, Try.results5]
end Go.Proofs
