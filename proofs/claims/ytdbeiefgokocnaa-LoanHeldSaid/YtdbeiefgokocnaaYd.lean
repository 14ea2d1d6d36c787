/- Loans: what is given, and the law on the machine. -/
import Derived.Test.YtdbeiefgokocnaaYc
import Derived.Test.YtdbeiefgokocnaaNb
import Derived.Test.YtdbeiefgokocnaaTd
import Derived.Test.YtdbeiefgokocnaaTa
set_option linter.unusedVariables false
set_option linter.unusedSimpArgs false
/- Deals, acts and numbers: what is given; a ring. -/
namespace Go.Proofs
open Go Go.RowKit Go.Sim
set_option maxRecDepth 100000
theorem Try.und3 : Try.prog.underlying 3 = some (.int .i64) := Try.un3
theorem Try.und23 : Try.prog.underlying 23 = some (.slice 3) := by kernel_rfl
theorem Try.und52 : Try.prog.underlying 52 = some (.struct #[{ name := "Rate", type := 3, offset := 0, embedded := false, tag := "", pkgPath := "", byteOffset := 0 }, { name := "Cap", type := 3, offset := 1, embedded := false, tag := "", pkgPath := "", byteOffset := 8 }]) := by kernel_rfl
theorem Try.und54 : Try.prog.underlying 54 = some (.struct #[{ name := "Rate", type := 3, offset := 0, embedded := false, tag := "", pkgPath := "", byteOffset := 0 }, { name := "Free", type := 3, offset := 1, embedded := false, tag := "", pkgPath := "", byteOffset := 8 }, { name := "Fee", type := 3, offset := 2, embedded := false, tag := "", pkgPath := "", byteOffset := 16 }, { name := "Term", type := 3, offset := 3, embedded := false, tag := "", pkgPath := "", byteOffset := 24 }, { name := "Grace", type := 3, offset := 4, embedded := false, tag := "", pkgPath := "", byteOffset := 32 }]) := by kernel_rfl
theorem Try.und56 : Try.prog.underlying 56 = some (.struct #[{ name := "Law", type := 52, offset := 0, embedded := false, tag := "", pkgPath := "", byteOffset := 0 }, { name := "Tariff", type := 54, offset := 2, embedded := false, tag := "", pkgPath := "", byteOffset := 16 }, { name := "Closed", type := 23, offset := 7, embedded := false, tag := "", pkgPath := "", byteOffset := 56 }, { name := "Start", type := 3, offset := 8, embedded := false, tag := "", pkgPath := "", byteOffset := 80 }, { name := "Sum", type := 3, offset := 9, embedded := false, tag := "", pkgPath := "", byteOffset := 88 }]) := by kernel_rfl
theorem Try.cells3 : Try.prog.cellsOf 3 = 1 := by kernel_rfl
theorem given_int {w : AW} {n : Nat} {cs : List Value} (h : Hd Try.prog w n 3 cs) : ∃ x : Int, cs = icells x := by
  cases n with
  | zero => exact h.elim
  | succ n =>
    simp only [Hd, Try.und3] at h
    obtain ⟨i, rfl, _⟩ := h
    exact ⟨i, rfl⟩
theorem given_ints {w : AW} {n : Nat} {cs : List Value} (h : Hd Try.prog w n 23 cs) : ∃ v, cs = [v] ∧ ∃ xs, ArrOf w 1 icells v xs := by
  cases n with
  | zero => exact h.elim
  | succ n =>
    simp only [Hd, Try.und23, Try.cells3] at h
    obtain ⟨v, rows, rfl, ha, hr, hgv⟩ := h
    obtain ⟨xs, rfl⟩ := rows_of fun r hq => given_int (hr r hq)
    exact ⟨v, rfl, xs, ha⟩
theorem given_law {w : AW} {n : Nat} {cs : List Value} (h : Hd Try.prog w n 52 cs) : ∃ r c : Int, cs = [.int .i64 r, .int .i64 c] := by
  cases n with
  | zero => exact h.elim
  | succ n =>
    simp only [Hd, Try.und52] at h
    obtain ⟨parts, rfl, hl, hp⟩ := h
    match parts, hl with
    | [a, b], _ =>
      obtain ⟨x, rfl⟩ := given_int (hp 0 _ a rfl rfl)
      obtain ⟨y, rfl⟩ := given_int (hp 1 _ b rfl rfl)
      exact ⟨x, y, rfl⟩
theorem given_tariff {w : AW} {n : Nat} {cs : List Value} (h : Hd Try.prog w n 54 cs) : ∃ a b c d e : Int, cs = [.int .i64 a, .int .i64 b, .int .i64 c, .int .i64 d, .int .i64 e] := by
  cases n with
  | zero => exact h.elim
  | succ n =>
    simp only [Hd, Try.und54] at h
    obtain ⟨parts, rfl, hl, hp⟩ := h
    match parts, hl with
    | [p0, p1, p2, p3, p4], _ =>
      obtain ⟨x0, rfl⟩ := given_int (hp 0 _ p0 rfl rfl)
      obtain ⟨x1, rfl⟩ := given_int (hp 1 _ p1 rfl rfl)
      obtain ⟨x2, rfl⟩ := given_int (hp 2 _ p2 rfl rfl)
      obtain ⟨x3, rfl⟩ := given_int (hp 3 _ p3 rfl rfl)
      obtain ⟨x4, rfl⟩ := given_int (hp 4 _ p4 rfl rfl)
      exact ⟨x0, x1, x2, x3, x4, rfl⟩
theorem given_deal {w : AW} {n : Nat} {v : Value} (h : HdV Try.prog w n 56 v) : ∃ (d : DealN) (u : Value) (cl : List Int), v = .agg #[.int .i64 d.r, .int .i64 d.c, .int .i64 d.a, .int .i64 d.fr, .int .i64 d.fe, .int .i64 d.tm, .int .i64 d.gr, u, .int .i64 d.st, .int .i64 d.sm] ∧ ArrOf w 1 icells u cl := by
  simp only [HdV, Try.und56] at h
  obtain ⟨cs, rfl, h⟩ := h
  cases n with
  | zero => exact h.elim
  | succ n =>
    simp only [Hd, Try.und56] at h
    obtain ⟨parts, e, hl, hp⟩ := h
    match parts, hl with
    | [p0, p1, p2, p3, p4], _ =>
      obtain ⟨r, c, rfl⟩ := given_law (hp 0 _ p0 rfl rfl)
      obtain ⟨a, fr, fe, tm, gr, rfl⟩ := given_tariff (hp 1 _ p1 rfl rfl)
      obtain ⟨u, rfl, cl, hc⟩ := given_ints (hp 2 _ p2 rfl rfl)
      obtain ⟨st, rfl⟩ := given_int (hp 3 _ p3 rfl rfl)
      obtain ⟨sm, rfl⟩ := given_int (hp 4 _ p4 rfl rfl)
      refine ⟨⟨r, c, a, fr, fe, tm, gr, st, sm⟩, u, cl, ?_, hc⟩
      rw [show cs = cs.toList.toArray from rfl, e]; rfl
theorem given_num {w : AW} {n : Nat} {v : Value} (h : HdV Try.prog w n 3 v) : ∃ x : Int, v = .int .i64 x := by
  simp only [HdV, Try.und3] at h
  obtain ⟨x, e⟩ := given_int h
  injection e with e
  exact ⟨x, e⟩
theorem Try.und68 : Try.prog.underlying 68 = some (.slice 79) := by kernel_rfl
theorem Try.und79 : Try.prog.underlying 79 = some (.struct #[{ name := "Day", type := 3, offset := 0, embedded := false, tag := "", pkgPath := "", byteOffset := 0 }, { name := "Kind", type := 3, offset := 1, embedded := false, tag := "", pkgPath := "", byteOffset := 8 }, { name := "N", type := 3, offset := 2, embedded := false, tag := "", pkgPath := "", byteOffset := 16 }]) := by kernel_rfl
theorem Try.cells79 : Try.prog.cellsOf 79 = 3 := by kernel_rfl
theorem given_act {w : AW} {n : Nat} {cs : List Value} (h : Hd Try.prog w n 79 cs) : ∃ a : ActN, cs = acells a := by
  cases n with
  | zero => exact h.elim
  | succ n =>
    simp only [Hd, Try.und79] at h
    obtain ⟨parts, rfl, hl, hp⟩ := h
    match parts, hl with
    | [p0, p1, p2], _ =>
      obtain ⟨x0, rfl⟩ := given_int (hp 0 _ p0 rfl rfl)
      obtain ⟨x1, rfl⟩ := given_int (hp 1 _ p1 rfl rfl)
      obtain ⟨x2, rfl⟩ := given_int (hp 2 _ p2 rfl rfl)
      exact ⟨⟨x0, x1, x2⟩, rfl⟩
theorem given_acts {w : AW} {n : Nat} {v : Value} (h : HdV Try.prog w n 68 v) : ∃ l : List ActN, ArrOf w 3 acells v l := by
  simp only [HdV, Try.und68] at h
  cases n with
  | zero => exact h.elim
  | succ n =>
    simp only [Hd, Try.und68, Try.cells79] at h
    obtain ⟨v', rows, e, ha, hr, hgv⟩ := h
    injection e with e
    subst e
    obtain ⟨xs, rfl⟩ := rows_of fun r hq => given_act (hr r hq)
    exact ⟨xs, ha⟩
theorem given_list {w : AW} {n : Nat} {v : Value} (h : HdV Try.prog w n 23 v) : ∃ l : List Int, ArrOf w 1 icells v l := by
  simp only [HdV, Try.und23] at h
  obtain ⟨v', e, xs, ha⟩ := given_ints h
  injection e with e
  subst e
  exact ⟨xs, ha⟩
theorem Try.und87 : Try.prog.underlying 87 = some (.array 2 3) := by kernel_rfl
theorem Try.und84 : Try.prog.underlying 84 = some (.array 4 3) := by kernel_rfl
theorem Try.und2 : Try.prog.underlying 2 = some (.int .i64) := by kernel_rfl
theorem given_two {w : AW} {n : Nat} {v : Value} (h : HdV Try.prog w n 87 v) : ∃ a b : Int, v = .agg #[.int .i64 a, .int .i64 b] := by
  simp only [HdV, Try.und87] at h
  obtain ⟨cs, rfl, h⟩ := h
  cases n with
  | zero => exact h.elim
  | succ n =>
    simp only [Hd, Try.und87] at h
    obtain ⟨parts, e, hl, hp⟩ := h
    match parts, hl with
    | [p0, p1], _ =>
      obtain ⟨x0, rfl⟩ := given_int (hp p0 (by simp))
      obtain ⟨x1, rfl⟩ := given_int (hp p1 (by simp))
      exact ⟨x0, x1, by rw [show cs = cs.toList.toArray from rfl, e]; rfl⟩
theorem given_four {w : AW} {n : Nat} {v : Value} (h : HdV Try.prog w n 84 v) : ∃ a b c e : Int, v = .agg #[.int .i64 a, .int .i64 b, .int .i64 c, .int .i64 e] := by
  simp only [HdV, Try.und84] at h
  obtain ⟨cs, rfl, h⟩ := h
  cases n with
  | zero => exact h.elim
  | succ n =>
    simp only [Hd, Try.und84] at h
    obtain ⟨parts, e, hl, hp⟩ := h
    match parts, hl with
    | [p0, p1, p2, p3], _ =>
      obtain ⟨x0, rfl⟩ := given_int (hp p0 (by simp))
      obtain ⟨x1, rfl⟩ := given_int (hp p1 (by simp))
      obtain ⟨x2, rfl⟩ := given_int (hp p2 (by simp))
      obtain ⟨x3, rfl⟩ := given_int (hp p3 (by simp))
      exact ⟨x0, x1, x2, x3, by rw [show cs = cs.toList.toArray from rfl, e]; rfl⟩
theorem Try.ia87 (t : Tmps) (w : AW) (x y : Operand) : fast (prg Try.prog) t w (.indexAddr 87 x y) = indexA 1 2 (ev t x) (ev t y) := fast_indexAddrA Try.ty87 Try.ty3
theorem Try.ia84 (t : Tmps) (w : AW) (x y : Operand) : fast (prg Try.prog) t w (.indexAddr 84 x y) = indexA 1 4 (ev t x) (ev t y) := fast_indexAddrA Try.ty84 Try.ty3
theorem ix2_0 (b o : Nat) : indexA 1 2 (.pointer (some ⟨b, o, none⟩)) (.int .i64 0) = some (.pointer (some ⟨b, o, none⟩)) := indexA_eq (i := 0) (by decide)
theorem ix2_1 (b o : Nat) : indexA 1 2 (.pointer (some ⟨b, o, none⟩)) (.int .i64 1) = some (.pointer (some ⟨b, o + 1, none⟩)) := indexA_eq (i := 1) (by decide)
theorem ix4_0 (b o : Nat) : indexA 1 4 (.pointer (some ⟨b, o, none⟩)) (.int .i64 0) = some (.pointer (some ⟨b, o, none⟩)) := indexA_eq (i := 0) (by decide)
theorem ix4_1 (b o : Nat) : indexA 1 4 (.pointer (some ⟨b, o, none⟩)) (.int .i64 1) = some (.pointer (some ⟨b, o + 1, none⟩)) := indexA_eq (i := 1) (by decide)
theorem ix4_2 (b o : Nat) : indexA 1 4 (.pointer (some ⟨b, o, none⟩)) (.int .i64 2) = some (.pointer (some ⟨b, o + 2, none⟩)) := indexA_eq (i := 2) (by decide)
theorem ix4_3 (b o : Nat) : indexA 1 4 (.pointer (some ⟨b, o, none⟩)) (.int .i64 3) = some (.pointer (some ⟨b, o + 3, none⟩)) := indexA_eq (i := 3) (by decide)
attribute [go_sem] Try.ia87 Try.ia84 ix2_0 ix2_1 ix4_0 ix4_1 ix4_2 ix4_3
theorem bsQ_13 {e : TypeId} {z0 z1 z2 : Value} (a b c : Int) : bsQ e 1 3 [z0, z1, z2] [(0, .agg #[.int .i64 a, .int .i64 b, .int .i64 c])] = some ([.int .i64 a, .int .i64 b, .int .i64 c], e, fun n => .slice (some ⟨n, 0, none⟩) 1 1) := by
  simp [bsQ, Instr.fill, Value.cells]
theorem Try.bs68 (t : Tmps) (l : List (Nat × Operand)) : makes (prg Try.prog) t (.buildSlice 68 1 ⟨l⟩) = bsQ 79 1 3 [.int .i64 0, .int .i64 0, .int .i64 0] (l.map fun p => (p.1, ev t p.2)) := makes_bs Try.ty68 Try.ty79 rfl (by kernel_rfl)
theorem bld79 (a b c : Int) : bldQ [(0, 1), (1, 1), (2, 1)] [.int .i64 0, .int .i64 0, .int .i64 0] [(0, .int .i64 a), (1, .int .i64 b), (2, .int .i64 c)] = some (.agg #[.int .i64 a, .int .i64 b, .int .i64 c]) := by kernel_rfl
theorem bld79b (a b : Int) : bldQ [(0, 1), (1, 1), (2, 1)] [.int .i64 0, .int .i64 0, .int .i64 0] [(0, .int .i64 a), (1, .int .i64 b)] = some (.agg #[.int .i64 a, .int .i64 b, .int .i64 0]) := by kernel_rfl
attribute [go_sem] bsQ_13 Try.bs68 bld79 bld79b
/-- One act, in a new block. -/
theorem one_act {w : AW} (f : Fresh w) (D K N : Int) : ArrOf (w.push (.cells [.int .i64 D, .int .i64 K, .int .i64 N] 79 w.next 0 0)) 3 acells (.slice (some ⟨w.next, 0, none⟩) 1 1) [⟨D, K, N⟩] := by
  have hO := Own.new f 79 [.int .i64 D, .int .i64 K, .int .i64 N]
  refine ⟨_, _, _, rfl, rfl, by simp, by omega, fun _ => ⟨w.next, 0, rfl, by rw [AW.next_push]; omega, fun i j r x hi hx => ?_⟩⟩
  cases i with
  | zero =>
    simp only [List.map_cons, List.map_nil, List.getElem?_cons_zero, Option.some.injEq] at hi
    subst hi
    simp only [acells] at hx
    rw [Nat.zero_mul, Nat.zero_add]
    try rw [Nat.zero_add]
    refine hO.cell hx ?_
    have := List.mem_of_getElem? hx
    simp at this
    rcases this with h | h | h <;> subst h <;> rfl
  | succ i => simp at hi
theorem Ring_ok (n many : Int) (h1 : 1 ≤ many) (h2 : many ≤ 4611686018427387000) (w : AW) : CallT Try.prog Try.T1 (.fn (.func 33) #[]) #[.int .i64 n, .int .i64 many] w (fun r w' => ∃ k : Int, r = .int .i64 k ∧ 0 ≤ k ∧ k < many ∧ w = w') := by
  have a1 : n.tmod many < many := Int.tmod_lt_of_pos n (by omega)
  have a2 : -many < n.tmod many := by
    have := Int.tmod_lt_of_pos (-n) (show 0 < many by omega)
    rw [Int.neg_tmod] at this; omega
  have a3 : 0 ≤ (n.tmod many + many).tmod many := Int.tmod_nonneg _ (by omega)
  have a4 : (n.tmod many + many).tmod many < many := Int.tmod_lt_of_pos _ (by omega)
  have h0 : ¬ many ≤ 0 := by omega
  have hn0 : ¬ many = 0 := by omega
  refine callT_code rfl Try.func33 rfl Try.s33_eq rfl ?_
  unfold Try.s33
  simp -dsimp -implicitDefEqProofs (maxSteps := 2000000) (disch := first | assumption | omega | (simp only [AW.next_push, AW.next_put]; omega) | ((repeat refine Fresh.push ?_ _); assumption) | (simp only [same_int, same_bool, same_ptr, same_slice, same_sliceP, same_nil, same_agg2, same_string]; done) | (simp [oneCell, AW.next_push]; done) | fail) only [go_sem, Nat.reduceEqDiff, reduceIte, Nat.reduceAdd, Int.toNat_natCast, Nat.add_zero, Owes_true, Try.results33, h0, hn0]
  exact ⟨_, rfl, a3, a4, trivial⟩
end Go.Proofs

/- Loans: the law of holds. -/
namespace Go.Proofs
open Go Go.RowKit Go.Sim
set_option maxRecDepth 100000
set_option maxHeartbeats 2000000 in
theorem held_law (w : AW) (xs : List Value) (f : Fresh w) (h : HdAll Try.prog w [56, 87] xs) : CallT Try.prog Try.T1 (.fn (.func 11) #[]) xs.toArray w fun v _ => v = .bool true := by
  cases h with
  | cons n1 h1 h =>
  cases h with
  | cons n2 h2 h =>
  cases h
  obtain ⟨d, u, cl, rfl, hs⟩ := given_deal h1
  obtain ⟨m0, m1, rfl⟩ := given_two h2
  clear h1 h2
  show CallT Try.prog Try.T1 (.fn (.func 11) #[]) #[.agg #[.int .i64 d.r, .int .i64 d.c, .int .i64 d.a, .int .i64 d.fr, .int .i64 d.fe, .int .i64 d.tm, .int .i64 d.gr, u, .int .i64 d.st, .int .i64 d.sm], .agg #[.int .i64 m0, .int .i64 m1]] w _
  obtain ⟨p, cap, rfl, _⟩ := id hs.open
  have g0 := (Grown.refl f).push (.cells [.int .i64 d.r, .int .i64 d.c, .int .i64 d.a, .int .i64 d.fr, .int .i64 d.fe, .int .i64 d.tm, .int .i64 d.gr, (.slice p cl.length cap), .int .i64 d.st, .int .i64 d.sm] 56 w.next 0 0)
  have hO0 := Own.new f 56 [.int .i64 d.r, .int .i64 d.c, .int .i64 d.a, .int .i64 d.fr, .int .i64 d.fe, .int .i64 d.tm, .int .i64 d.gr, (.slice p cl.length cap), .int .i64 d.st, .int .i64 d.sm]
  have g := g0.push (.cells [.int .i64 m0, .int .i64 m1] 87 (w.next + 1) 0 0)
  have hO := hO0.push (.cells [.int .i64 m0, .int .i64 m1] 87 (w.next + 1) 0 0)
  have hM := Own.new g0.2 87 [.int .i64 m0, .int .i64 m1]
  simp only [AW.next_push] at hM
  have c0 := (hO).cell (o := 0) rfl rfl
  have c1 := (hO).cell (o := 1) rfl rfl
  have c2 := (hO).cell (o := 2) rfl rfl
  have c3 := (hO).cell (o := 3) rfl rfl
  have c4 := (hO).cell (o := 4) rfl rfl
  have c5 := (hO).cell (o := 5) rfl rfl
  have c6 := (hO).cell (o := 6) rfl rfl
  have c7 := (hO).cell (o := 7) rfl rfl
  have c8 := (hO).cell (o := 8) rfl rfl
  have c9 := (hO).cell (o := 9) rfl rfl
  refine callT_code rfl Try.func11 rfl Try.s11_eq rfl ?_
  unfold Try.s11
  simp -dsimp -implicitDefEqProofs (maxSteps := 2000000) (disch := first | assumption | omega | (simp only [AW.next_push, AW.next_put]; omega) | ((repeat refine Fresh.push ?_ _); assumption) | (simp only [same_int, same_bool, same_ptr, same_slice, same_sliceP, same_nil, same_agg2, same_string]; done) | (simp [oneCell, AW.next_push]; done) | fail) only [go_sem, Nat.reduceEqDiff, reduceIte, Nat.reduceAdd, Int.toNat_natCast, Nat.add_zero, Owes_true, Try.results11, Nat.zero_add, c0, c1, c2, c3, c4, c5, c6, c7, c8, c9]
  apply callV_of (e := rfl)
  · exact Check_ok d cl _ _ g.2 (hs.grown g)
  rintro _ w1 ⟨rfl, hg1⟩
  have g1 := g.trans hg1
  have hO1 := hO.keep hg1.1
  have hM1 := hM.keep hg1.1
  cases hd : dealB d cl with
  | false =>
    have hE : dealE d cl = 23 := dealE_bad hd
    have h230 : ¬ (23 : Int) = 0 := by decide
    simp -dsimp -implicitDefEqProofs (maxSteps := 2000000) (disch := first | assumption | omega | (simp only [AW.next_push, AW.next_put]; omega) | ((repeat refine Fresh.push ?_ _); assumption) | (simp only [same_int, same_bool, same_ptr, same_slice, same_sliceP, same_nil, same_agg2, same_string]; done) | (simp [oneCell, AW.next_push]; done) | fail) only [go_sem, Nat.reduceEqDiff, reduceIte, Nat.reduceAdd, Int.toNat_natCast, Nat.add_zero, Owes_true, Try.results11, hE, h230]
    apply callV_of (e := rfl)
    · exact callT_told (Q := fun v w' => v = .bool true ∧ w1 = w') (v := .bool true) (w' := w1) rfl ⟨rfl, rfl⟩
    rintro _ w8 ⟨rfl, rfl⟩
    simp -dsimp -implicitDefEqProofs (maxSteps := 2000000) (disch := first | assumption | omega | (simp only [AW.next_push, AW.next_put]; omega) | ((repeat refine Fresh.push ?_ _); assumption) | (simp only [same_int, same_bool, same_ptr, same_slice, same_sliceP, same_nil, same_agg2, same_string]; done) | (simp [oneCell, AW.next_push]; done) | fail) only [go_sem, Nat.reduceEqDiff, reduceIte, Nat.reduceAdd, Int.toNat_natCast, Nat.add_zero, Owes_true, Try.results11]
  | true =>
  have hE : dealE d cl = 0 := by rw [dealE, hd]; rfl
  have hi := (dealB_in hd).1
  have hst := hi.st
  have htm := hi.tm
  have hgr := hi.gr
  have c0 := (hO1).cell (o := 0) rfl rfl
  have c1 := (hO1).cell (o := 1) rfl rfl
  have c2 := (hO1).cell (o := 2) rfl rfl
  have c3 := (hO1).cell (o := 3) rfl rfl
  have c4 := (hO1).cell (o := 4) rfl rfl
  have c5 := (hO1).cell (o := 5) rfl rfl
  have c6 := (hO1).cell (o := 6) rfl rfl
  have c7 := (hO1).cell (o := 7) rfl rfl
  have c8 := (hO1).cell (o := 8) rfl rfl
  have c9 := (hO1).cell (o := 9) rfl rfl
  have u0 := hM1.cell (o := 0) rfl rfl
  have u1 := hM1.cell (o := 1) rfl rfl
  simp -dsimp -implicitDefEqProofs (maxSteps := 2000000) (disch := first | assumption | omega | (simp only [AW.next_push, AW.next_put]; omega) | ((repeat refine Fresh.push ?_ _); assumption) | (simp only [same_int, same_bool, same_ptr, same_slice, same_sliceP, same_nil, same_agg2, same_string]; done) | (simp [oneCell, AW.next_push]; done) | fail) only [go_sem, Nat.reduceEqDiff, reduceIte, Nat.reduceAdd, Int.toNat_natCast, Nat.add_zero, Owes_true, Try.results11, hE, Nat.zero_add, c0, c1, c2, c3, c4, c5, c6, c7, c8, c9]
  apply callV_of (e := rfl)
  · exact From_ok _ _ _ _
  rintro _ _ ⟨rfl, rfl⟩
  have hin : inR 0 d.st 36500 = true := (inR_iff _ _ _).2 hst
  simp -dsimp -implicitDefEqProofs (maxSteps := 2000000) (disch := first | assumption | omega | (simp only [AW.next_push, AW.next_put]; omega) | ((repeat refine Fresh.push ?_ _); assumption) | (simp only [same_int, same_bool, same_ptr, same_slice, same_sliceP, same_nil, same_agg2, same_string]; done) | (simp [oneCell, AW.next_push]; done) | fail) only [go_sem, Nat.reduceEqDiff, reduceIte, Nat.reduceAdd, Int.toNat_natCast, Nat.add_zero, Owes_true, Try.results11, hin, Nat.zero_add, c8, u0]
  apply callV_of (e := rfl)
  · exact Ring_ok m0 400 (by decide) (by decide) w1
  rintro _ _ ⟨k0, rfl, hk0, hk0', rfl⟩
  have hle := WLe.refl w1
  simp -dsimp -implicitDefEqProofs (maxSteps := 2000000) (disch := first | assumption | omega | (simp only [AW.next_push, AW.next_put]; omega) | ((repeat refine Fresh.push ?_ _); assumption) | (simp only [same_int, same_bool, same_ptr, same_slice, same_sliceP, same_nil, same_agg2, same_string]; done) | (simp [oneCell, AW.next_push]; done) | fail) only [go_sem, Nat.reduceEqDiff, reduceIte, Nat.reduceAdd, Int.toNat_natCast, Nat.add_zero, Owes_true, Try.results11, Nat.zero_add, u1, hle]
  apply callV_of (e := rfl)
  · exact Ring_ok m1 366 (by decide) (by decide) w1
  rintro _ _ ⟨k1, rfl, hk1, hk1', rfl⟩
  have hD : d.st ≤ min 36500 (d.st + k0) ∧ min 36500 (d.st + k0) ≤ 36500 := by omega
  simp -dsimp -implicitDefEqProofs (maxSteps := 2000000) (disch := first | assumption | omega | (simp only [AW.next_push, AW.next_put]; omega) | ((repeat refine Fresh.push ?_ _); assumption) | (simp only [same_int, same_bool, same_ptr, same_slice, same_sliceP, same_nil, same_agg2, same_string]; done) | (simp [oneCell, AW.next_push]; done) | fail) only [go_sem, Nat.reduceEqDiff, reduceIte, Nat.reduceAdd, Int.toNat_natCast, Nat.add_zero, Owes_true, Try.results11]
  generalize min 36500 (d.st + k0) = D at *
  by_cases hout : 36500 < D + (1 + k1)
  · simp -dsimp -implicitDefEqProofs (maxSteps := 2000000) (disch := first | assumption | omega | (simp only [AW.next_push, AW.next_put]; omega) | ((repeat refine Fresh.push ?_ _); assumption) | (simp only [same_int, same_bool, same_ptr, same_slice, same_sliceP, same_nil, same_agg2, same_string]; done) | (simp [oneCell, AW.next_push]; done) | fail) only [go_sem, Nat.reduceEqDiff, reduceIte, Nat.reduceAdd, Int.toNat_natCast, Nat.add_zero, Owes_true, Try.results11, hout]
    apply callV_of (e := rfl)
    · exact callT_told (Q := fun v w' => v = .bool true ∧ w1 = w') (v := .bool true) (w' := w1) rfl ⟨rfl, rfl⟩
    rintro _ w8 ⟨rfl, rfl⟩
    simp -dsimp -implicitDefEqProofs (maxSteps := 2000000) (disch := first | assumption | omega | (simp only [AW.next_push, AW.next_put]; omega) | ((repeat refine Fresh.push ?_ _); assumption) | (simp only [same_int, same_bool, same_ptr, same_slice, same_sliceP, same_nil, same_agg2, same_string]; done) | (simp [oneCell, AW.next_push]; done) | fail) only [go_sem, Nat.reduceEqDiff, reduceIte, Nat.reduceAdd, Int.toNat_natCast, Nat.add_zero, Owes_true, Try.results11]
  have hout' : ¬ 36500 < D + (1 + k1) := hout
  simp -dsimp -implicitDefEqProofs (maxSteps := 2000000) (disch := first | assumption | omega | (simp only [AW.next_push, AW.next_put]; omega) | ((repeat refine Fresh.push ?_ _); assumption) | (simp only [same_int, same_bool, same_ptr, same_slice, same_sliceP, same_nil, same_agg2, same_string]; done) | (simp [oneCell, AW.next_push]; done) | fail) only [go_sem, Nat.reduceEqDiff, reduceIte, Nat.reduceAdd, Int.toNat_natCast, Nat.add_zero, Owes_true, Try.results11, hout, Nat.zero_add, c0, c1, c2, c3, c4, c5, c6, c7, c8, c9]
  apply callV_of (e := rfl)
  · exact Owe_ok d cl [] D _ _ w1 g1.2 (hs.grown g1) (ArrOf.nil _ _ _)
  rintro _ w2 ⟨rfl, hg2⟩
  have g2 := g1.trans hg2
  have hO2 := hO1.keep hg2.1
  have hn := owe_nil hd hD.1 hD.2
  have ha : oweA d cl [] D = oweX d cl [] D := oweA_ok hn.1
  have hn1 := hn.1
  -- the first account
  generalize hX : oweX d cl [] D = X at *
  rw [ha, hn1]
  have g3 := g2.push (.cells (accells X) 70 w2.next 0 0)
  have hA3 := Own.new g2.2 70 (accells X)
  have hO3 := hO2.push (.cells (accells X) 70 w2.next 0 0)
  unfold accells at g3 hA3 hO3
  have f3 := g3.2
  have f2 := g2.2
  have g4 := g3.push (.cells [.int .i64 D, .int .i64 3, .int .i64 (1 + k1)] 79 (w2.next + 1) 0 0)
  have hl4 := one_act f3 D 3 (1 + k1)
  simp only [AW.next_push] at hl4
  have hO4 := hO3.push (.cells [.int .i64 D, .int .i64 3, .int .i64 (1 + k1)] 79 (w2.next + 1) 0 0)
  have hA4 := hA3.push (.cells [.int .i64 D, .int .i64 3, .int .i64 (1 + k1)] 79 (w2.next + 1) 0 0)
  have c0 := (hO3).cell (o := 0) rfl rfl
  have c1 := (hO3).cell (o := 1) rfl rfl
  have c2 := (hO3).cell (o := 2) rfl rfl
  have c3 := (hO3).cell (o := 3) rfl rfl
  have c4 := (hO3).cell (o := 4) rfl rfl
  have c5 := (hO3).cell (o := 5) rfl rfl
  have c6 := (hO3).cell (o := 6) rfl rfl
  have c7 := (hO3).cell (o := 7) rfl rfl
  have c8 := (hO3).cell (o := 8) rfl rfl
  have c9 := (hO3).cell (o := 9) rfl rfl
  simp -dsimp -implicitDefEqProofs (maxSteps := 2000000) (disch := first | assumption | omega | (simp only [AW.next_push, AW.next_put]; omega) | ((repeat refine Fresh.push ?_ _); assumption) | (simp only [same_int, same_bool, same_ptr, same_slice, same_sliceP, same_nil, same_agg2, same_string]; done) | (simp [oneCell, AW.next_push]; done) | fail) only [go_sem, Nat.reduceEqDiff, reduceIte, Nat.reduceAdd, Int.toNat_natCast, Nat.add_zero, Owes_true, Try.results11, accV, Nat.zero_add, c0, c1, c2, c3, c4, c5, c6, c7, c8, c9]
  generalize (w2.push (.cells [.int .i64 X.P, .int .i64 X.C, .int .i64 X.Q, .int .i64 X.A, .bool X.op] 70 w2.next 0 0)).push (.cells [.int .i64 D, .int .i64 3, .int .i64 (1 + k1)] 79 (w2.next + 1) 0 0) = w4 at *
  apply callV_of (e := rfl)
  · exact Owe_ok d cl [⟨D, 3, 1 + k1⟩] (D + (1 + k1)) _ _ w4 g4.2 (hs.grown g4) hl4
  rintro _ w5 ⟨rfl, hg5⟩
  have g5 := g4.trans hg5
  have hO5 := hO4.keep hg5.1
  have hA5 := hA4.keep hg5.1
  have hmath := held_math hd hD.1 (show 1 ≤ 1 + k1 by omega) (show 1 + k1 ≤ 366 by omega) (by omega)
  rw [hX] at hmath
  have g6 : ∀ Y : LN, Grown w (w5.push (.cells (accells Y) 70 w5.next 0 0)) := fun Y => g5.push _
  have f5 := g5.2
  rcases hmath with ⟨hl, hE5⟩ | ⟨hE5, q1, q2, q3, q4, q5⟩
  · have hb : oweE d cl [⟨D, 3, 1 + k1⟩] (D + (1 + k1)) ≠ 0 := by rw [hE5]; decide
    rw [hE5, oweA_bad hb]
    have h25 : ¬ (25 : Int) = 0 := by decide
    have hO6 := hO5.push (.cells (accells zacc) 70 w5.next 0 0)
    have hA6 := hA5.push (.cells (accells zacc) 70 w5.next 0 0)
    unfold accells zacc at hO6 hA6
    have c0 := (hO6).cell (o := 0) rfl rfl
    have c1 := (hO6).cell (o := 1) rfl rfl
    have c2 := (hO6).cell (o := 2) rfl rfl
    have c3 := (hO6).cell (o := 3) rfl rfl
    have c4 := (hO6).cell (o := 4) rfl rfl
    have c5 := (hO6).cell (o := 5) rfl rfl
    have c6 := (hO6).cell (o := 6) rfl rfl
    have c7 := (hO6).cell (o := 7) rfl rfl
    have c8 := (hO6).cell (o := 8) rfl rfl
    have c9 := (hO6).cell (o := 9) rfl rfl
    have v3 := hA6.cell (o := 3) rfl rfl
    simp -dsimp -implicitDefEqProofs (maxSteps := 2000000) (disch := first | assumption | omega | (simp only [AW.next_push, AW.next_put]; omega) | ((repeat refine Fresh.push ?_ _); assumption) | (simp only [same_int, same_bool, same_ptr, same_slice, same_sliceP, same_nil, same_agg2, same_string]; done) | (simp [oneCell, AW.next_push]; done) | fail) only [go_sem, Nat.reduceEqDiff, reduceIte, Nat.reduceAdd, Int.toNat_natCast, Nat.add_zero, Owes_true, Try.results11, accV, zacc, Nat.zero_add, ne_eq, not_true, h25, v3, c0, c1, c2, c3, c4, c5, c6, c7, c8, c9, hl]
    apply callV_of (e := rfl)
    · exact callT_told (Q := fun v w' => v = .bool true ∧ w5.push _ = w') (v := .bool true) (w' := w5.push _) rfl ⟨rfl, rfl⟩
    rintro _ w8 ⟨rfl, rfl⟩
    simp -dsimp -implicitDefEqProofs (maxSteps := 2000000) (disch := first | assumption | omega | (simp only [AW.next_push, AW.next_put]; omega) | ((repeat refine Fresh.push ?_ _); assumption) | (simp only [same_int, same_bool, same_ptr, same_slice, same_sliceP, same_nil, same_agg2, same_string]; done) | (simp [oneCell, AW.next_push]; done) | fail) only [go_sem, Nat.reduceEqDiff, reduceIte, Nat.reduceAdd, Int.toNat_natCast, Nat.add_zero, Owes_true, Try.results11]
  · rw [hE5, oweA_ok hE5]
    generalize oweX d cl [⟨D, 3, 1 + k1⟩] (D + (1 + k1)) = Y at *
    have hA6 := hA5.push (.cells (accells Y) 70 w5.next 0 0)
    have hB6 := Own.new f5 70 (accells Y)
    unfold accells at hA6 hB6
    simp only [q1, q2, q3, q4, q5] at hA6 hB6
    have v0 := hA6.cell (o := 0) rfl rfl
    have v1 := hA6.cell (o := 1) rfl rfl
    have v2 := hA6.cell (o := 2) rfl rfl
    have v3 := hA6.cell (o := 3) rfl rfl
    have v4 := hA6.cell (o := 4) rfl rfl
    have z0 := hB6.cell (o := 0) rfl rfl
    have z1 := hB6.cell (o := 1) rfl rfl
    have z2 := hB6.cell (o := 2) rfl rfl
    have z3 := hB6.cell (o := 3) rfl rfl
    have z4 := hB6.cell (o := 4) rfl rfl
    have e0 : ∀ z : Int, (z == z) = true := fun z => beq_self_eq_true z
    have e1 : ∀ z : Bool, (z == z) = true := fun z => beq_self_eq_true z
    simp -dsimp -implicitDefEqProofs (maxSteps := 2000000) (disch := first | assumption | omega | (simp only [AW.next_push, AW.next_put]; omega) | ((repeat refine Fresh.push ?_ _); assumption) | (simp only [same_int, same_bool, same_ptr, same_slice, same_sliceP, same_nil, same_agg2, same_string]; done) | (simp [oneCell, AW.next_push]; done) | fail) only [go_sem, Nat.reduceEqDiff, reduceIte, Nat.reduceAdd, Int.toNat_natCast, Nat.add_zero, Owes_true, Try.results11, accV, Nat.zero_add, ne_eq, not_true, v0, v1, v2, v3, v4, z0, z1, z2, z3, z4, q1, q2, q3, q4, q5, e0, e1, List.all_cons, List.all_nil, id]
    apply callV_of (e := rfl)
    · exact callT_told (Q := fun v w' => v = .bool true ∧ w5.push _ = w') (v := .bool true) (w' := w5.push _) rfl ⟨rfl, rfl⟩
    rintro _ w8 ⟨rfl, rfl⟩
    simp -dsimp -implicitDefEqProofs (maxSteps := 2000000) (disch := first | assumption | omega | (simp only [AW.next_push, AW.next_put]; omega) | ((repeat refine Fresh.push ?_ _); assumption) | (simp only [same_int, same_bool, same_ptr, same_slice, same_sliceP, same_nil, same_agg2, same_string]; done) | (simp [oneCell, AW.next_push]; done) | fail) only [go_sem, Nat.reduceEqDiff, reduceIte, Nat.reduceAdd, Int.toNat_natCast, Nat.add_zero, Owes_true, Try.results11]
end Go.Proofs
