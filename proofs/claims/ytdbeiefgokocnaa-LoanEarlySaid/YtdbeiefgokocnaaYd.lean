/- Loans: what is given, and the law on the machine. -/
import Derived.Test.YtdbeiefgokocnaaYc
import Derived.Test.YtdbeiefgokocnaaNb
import Derived.Test.YtdbeiefgokocnaaTd
import Derived.Test.YtdbeiefgokocnaaTa
set_option linter.unusedVariables false
set_option linter.unusedSimpArgs false
/- Deals, acts and numbers: what is given; a ring. -/
namespace Go.Proofs
open Go Go.RowKit Go.Sim
set_option maxRecDepth 100000
theorem Try.und3 : Try.prog.underlying 3 = some (.int .i64) := Try.un3
theorem Try.und23 : Try.prog.underlying 23 = some (.slice 3) := by kernel_rfl
theorem Try.und52 : Try.prog.underlying 52 = some (.struct #[{ name := "Rate", type := 3, offset := 0, embedded := false, tag := "", pkgPath := "", byteOffset := 0 }, { name := "Cap", type := 3, offset := 1, embedded := false, tag := "", pkgPath := "", byteOffset := 8 }]) := by kernel_rfl
theorem Try.und54 : Try.prog.underlying 54 = some (.struct #[{ name := "Rate", type := 3, offset := 0, embedded := false, tag := "", pkgPath := "", byteOffset := 0 }, { name := "Free", type := 3, offset := 1, embedded := false, tag := "", pkgPath := "", byteOffset := 8 }, { name := "Fee", type := 3, offset := 2, embedded := false, tag := "", pkgPath := "", byteOffset := 16 }, { name := "Term", type := 3, offset := 3, embedded := false, tag := "", pkgPath := "", byteOffset := 24 }, { name := "Grace", type := 3, offset := 4, embedded := false, tag := "", pkgPath := "", byteOffset := 32 }]) := by kernel_rfl
theorem Try.und56 : Try.prog.underlying 56 = some (.struct #[{ name := "Law", type := 52, offset := 0, embedded := false, tag := "", pkgPath := "", byteOffset := 0 }, { name := "Tariff", type := 54, offset := 2, embedded := false, tag := "", pkgPath := "", byteOffset := 16 }, { name := "Closed", type := 23, offset := 7, embedded := false, tag := "", pkgPath := "", byteOffset := 56 }, { name := "Start", type := 3, offset := 8, embedded := false, tag := "", pkgPath := "", byteOffset := 80 }, { name := "Sum", type := 3, offset := 9, embedded := false, tag := "", pkgPath := "", byteOffset := 88 }]) := by kernel_rfl
theorem Try.cells3 : Try.prog.cellsOf 3 = 1 := by kernel_rfl
theorem given_int {w : AW} {n : Nat} {cs : List Value} (h : Hd Try.prog w n 3 cs) : ∃ x : Int, cs = icells x := by
  cases n with
  | zero => exact h.elim
  | succ n =>
    simp only [Hd, Try.und3] at h
    obtain ⟨i, rfl, _⟩ := h
    exact ⟨i, rfl⟩
theorem given_ints {w : AW} {n : Nat} {cs : List Value} (h : Hd Try.prog w n 23 cs) : ∃ v, cs = [v] ∧ ∃ xs, ArrOf w 1 icells v xs := by
  cases n with
  | zero => exact h.elim
  | succ n =>
    simp only [Hd, Try.und23, Try.cells3] at h
    obtain ⟨v, rows, rfl, ha, hr, hgv⟩ := h
    obtain ⟨xs, rfl⟩ := rows_of fun r hq => given_int (hr r hq)
    exact ⟨v, rfl, xs, ha⟩
theorem given_law {w : AW} {n : Nat} {cs : List Value} (h : Hd Try.prog w n 52 cs) : ∃ r c : Int, cs = [.int .i64 r, .int .i64 c] := by
  cases n with
  | zero => exact h.elim
  | succ n =>
    simp only [Hd, Try.und52] at h
    obtain ⟨parts, rfl, hl, hp⟩ := h
    match parts, hl with
    | [a, b], _ =>
      obtain ⟨x, rfl⟩ := given_int (hp 0 _ a rfl rfl)
      obtain ⟨y, rfl⟩ := given_int (hp 1 _ b rfl rfl)
      exact ⟨x, y, rfl⟩
theorem given_tariff {w : AW} {n : Nat} {cs : List Value} (h : Hd Try.prog w n 54 cs) : ∃ a b c d e : Int, cs = [.int .i64 a, .int .i64 b, .int .i64 c, .int .i64 d, .int .i64 e] := by
  cases n with
  | zero => exact h.elim
  | succ n =>
    simp only [Hd, Try.und54] at h
    obtain ⟨parts, rfl, hl, hp⟩ := h
    match parts, hl with
    | [p0, p1, p2, p3, p4], _ =>
      obtain ⟨x0, rfl⟩ := given_int (hp 0 _ p0 rfl rfl)
      obtain ⟨x1, rfl⟩ := given_int (hp 1 _ p1 rfl rfl)
      obtain ⟨x2, rfl⟩ := given_int (hp 2 _ p2 rfl rfl)
      obtain ⟨x3, rfl⟩ := given_int (hp 3 _ p3 rfl rfl)
      obtain ⟨x4, rfl⟩ := given_int (hp 4 _ p4 rfl rfl)
      exact ⟨x0, x1, x2, x3, x4, rfl⟩
theorem given_deal {w : AW} {n : Nat} {v : Value} (h : HdV Try.prog w n 56 v) : ∃ (d : DealN) (u : Value) (cl : List Int), v = .agg #[.int .i64 d.r, .int .i64 d.c, .int .i64 d.a, .int .i64 d.fr, .int .i64 d.fe, .int .i64 d.tm, .int .i64 d.gr, u, .int .i64 d.st, .int .i64 d.sm] ∧ ArrOf w 1 icells u cl := by
  simp only [HdV, Try.und56] at h
  obtain ⟨cs, rfl, h⟩ := h
  cases n with
  | zero => exact h.elim
  | succ n =>
    simp only [Hd, Try.und56] at h
    obtain ⟨parts, e, hl, hp⟩ := h
    match parts, hl with
    | [p0, p1, p2, p3, p4], _ =>
      obtain ⟨r, c, rfl⟩ := given_law (hp 0 _ p0 rfl rfl)
      obtain ⟨a, fr, fe, tm, gr, rfl⟩ := given_tariff (hp 1 _ p1 rfl rfl)
      obtain ⟨u, rfl, cl, hc⟩ := given_ints (hp 2 _ p2 rfl rfl)
      obtain ⟨st, rfl⟩ := given_int (hp 3 _ p3 rfl rfl)
      obtain ⟨sm, rfl⟩ := given_int (hp 4 _ p4 rfl rfl)
      refine ⟨⟨r, c, a, fr, fe, tm, gr, st, sm⟩, u, cl, ?_, hc⟩
      rw [show cs = cs.toList.toArray from rfl, e]; rfl
theorem given_num {w : AW} {n : Nat} {v : Value} (h : HdV Try.prog w n 3 v) : ∃ x : Int, v = .int .i64 x := by
  simp only [HdV, Try.und3] at h
  obtain ⟨x, e⟩ := given_int h
  injection e with e
  exact ⟨x, e⟩
theorem Try.und68 : Try.prog.underlying 68 = some (.slice 79) := by kernel_rfl
theorem Try.und79 : Try.prog.underlying 79 = some (.struct #[{ name := "Day", type := 3, offset := 0, embedded := false, tag := "", pkgPath := "", byteOffset := 0 }, { name := "Kind", type := 3, offset := 1, embedded := false, tag := "", pkgPath := "", byteOffset := 8 }, { name := "N", type := 3, offset := 2, embedded := false, tag := "", pkgPath := "", byteOffset := 16 }]) := by kernel_rfl
theorem Try.cells79 : Try.prog.cellsOf 79 = 3 := by kernel_rfl
theorem given_act {w : AW} {n : Nat} {cs : List Value} (h : Hd Try.prog w n 79 cs) : ∃ a : ActN, cs = acells a := by
  cases n with
  | zero => exact h.elim
  | succ n =>
    simp only [Hd, Try.und79] at h
    obtain ⟨parts, rfl, hl, hp⟩ := h
    match parts, hl with
    | [p0, p1, p2], _ =>
      obtain ⟨x0, rfl⟩ := given_int (hp 0 _ p0 rfl rfl)
      obtain ⟨x1, rfl⟩ := given_int (hp 1 _ p1 rfl rfl)
      obtain ⟨x2, rfl⟩ := given_int (hp 2 _ p2 rfl rfl)
      exact ⟨⟨x0, x1, x2⟩, rfl⟩
theorem given_acts {w : AW} {n : Nat} {v : Value} (h : HdV Try.prog w n 68 v) : ∃ l : List ActN, ArrOf w 3 acells v l := by
  simp only [HdV, Try.und68] at h
  cases n with
  | zero => exact h.elim
  | succ n =>
    simp only [Hd, Try.und68, Try.cells79] at h
    obtain ⟨v', rows, e, ha, hr, hgv⟩ := h
    injection e with e
    subst e
    obtain ⟨xs, rfl⟩ := rows_of fun r hq => given_act (hr r hq)
    exact ⟨xs, ha⟩
theorem given_list {w : AW} {n : Nat} {v : Value} (h : HdV Try.prog w n 23 v) : ∃ l : List Int, ArrOf w 1 icells v l := by
  simp only [HdV, Try.und23] at h
  obtain ⟨v', e, xs, ha⟩ := given_ints h
  injection e with e
  subst e
  exact ⟨xs, ha⟩
theorem Try.und87 : Try.prog.underlying 87 = some (.array 2 3) := by kernel_rfl
theorem Try.und84 : Try.prog.underlying 84 = some (.array 4 3) := by kernel_rfl
theorem Try.und2 : Try.prog.underlying 2 = some (.int .i64) := by kernel_rfl
theorem given_two {w : AW} {n : Nat} {v : Value} (h : HdV Try.prog w n 87 v) : ∃ a b : Int, v = .agg #[.int .i64 a, .int .i64 b] := by
  simp only [HdV, Try.und87] at h
  obtain ⟨cs, rfl, h⟩ := h
  cases n with
  | zero => exact h.elim
  | succ n =>
    simp only [Hd, Try.und87] at h
    obtain ⟨parts, e, hl, hp⟩ := h
    match parts, hl with
    | [p0, p1], _ =>
      obtain ⟨x0, rfl⟩ := given_int (hp p0 (by simp))
      obtain ⟨x1, rfl⟩ := given_int (hp p1 (by simp))
      exact ⟨x0, x1, by rw [show cs = cs.toList.toArray from rfl, e]; rfl⟩
theorem given_four {w : AW} {n : Nat} {v : Value} (h : HdV Try.prog w n 84 v) : ∃ a b c e : Int, v = .agg #[.int .i64 a, .int .i64 b, .int .i64 c, .int .i64 e] := by
  simp only [HdV, Try.und84] at h
  obtain ⟨cs, rfl, h⟩ := h
  cases n with
  | zero => exact h.elim
  | succ n =>
    simp only [Hd, Try.und84] at h
    obtain ⟨parts, e, hl, hp⟩ := h
    match parts, hl with
    | [p0, p1, p2, p3], _ =>
      obtain ⟨x0, rfl⟩ := given_int (hp p0 (by simp))
      obtain ⟨x1, rfl⟩ := given_int (hp p1 (by simp))
      obtain ⟨x2, rfl⟩ := given_int (hp p2 (by simp))
      obtain ⟨x3, rfl⟩ := given_int (hp p3 (by simp))
      exact ⟨x0, x1, x2, x3, by rw [show cs = cs.toList.toArray from rfl, e]; rfl⟩
theorem Try.ia87 (t : Tmps) (w : AW) (x y : Operand) : fast (prg Try.prog) t w (.indexAddr 87 x y) = indexA 1 2 (ev t x) (ev t y) := fast_indexAddrA Try.ty87 Try.ty3
theorem Try.ia84 (t : Tmps) (w : AW) (x y : Operand) : fast (prg Try.prog) t w (.indexAddr 84 x y) = indexA 1 4 (ev t x) (ev t y) := fast_indexAddrA Try.ty84 Try.ty3
theorem ix2_0 (b o : Nat) : indexA 1 2 (.pointer (some ⟨b, o, none⟩)) (.int .i64 0) = some (.pointer (some ⟨b, o, none⟩)) := indexA_eq (i := 0) (by decide)
theorem ix2_1 (b o : Nat) : indexA 1 2 (.pointer (some ⟨b, o, none⟩)) (.int .i64 1) = some (.pointer (some ⟨b, o + 1, none⟩)) := indexA_eq (i := 1) (by decide)
theorem ix4_0 (b o : Nat) : indexA 1 4 (.pointer (some ⟨b, o, none⟩)) (.int .i64 0) = some (.pointer (some ⟨b, o, none⟩)) := indexA_eq (i := 0) (by decide)
theorem ix4_1 (b o : Nat) : indexA 1 4 (.pointer (some ⟨b, o, none⟩)) (.int .i64 1) = some (.pointer (some ⟨b, o + 1, none⟩)) := indexA_eq (i := 1) (by decide)
theorem ix4_2 (b o : Nat) : indexA 1 4 (.pointer (some ⟨b, o, none⟩)) (.int .i64 2) = some (.pointer (some ⟨b, o + 2, none⟩)) := indexA_eq (i := 2) (by decide)
theorem ix4_3 (b o : Nat) : indexA 1 4 (.pointer (some ⟨b, o, none⟩)) (.int .i64 3) = some (.pointer (some ⟨b, o + 3, none⟩)) := indexA_eq (i := 3) (by decide)
attribute [go_sem] Try.ia87 Try.ia84 ix2_0 ix2_1 ix4_0 ix4_1 ix4_2 ix4_3
theorem bsQ_13 {e : TypeId} {z0 z1 z2 : Value} (a b c : Int) : bsQ e 1 3 [z0, z1, z2] [(0, .agg #[.int .i64 a, .int .i64 b, .int .i64 c])] = some ([.int .i64 a, .int .i64 b, .int .i64 c], e, fun n => .slice (some ⟨n, 0, none⟩) 1 1) := by
  simp [bsQ, Instr.fill, Value.cells]
theorem Try.bs68 (t : Tmps) (l : List (Nat × Operand)) : makes (prg Try.prog) t (.buildSlice 68 1 ⟨l⟩) = bsQ 79 1 3 [.int .i64 0, .int .i64 0, .int .i64 0] (l.map fun p => (p.1, ev t p.2)) := makes_bs Try.ty68 Try.ty79 rfl (by kernel_rfl)
theorem bld79 (a b c : Int) : bldQ [(0, 1), (1, 1), (2, 1)] [.int .i64 0, .int .i64 0, .int .i64 0] [(0, .int .i64 a), (1, .int .i64 b), (2, .int .i64 c)] = some (.agg #[.int .i64 a, .int .i64 b, .int .i64 c]) := by kernel_rfl
theorem bld79b (a b : Int) : bldQ [(0, 1), (1, 1), (2, 1)] [.int .i64 0, .int .i64 0, .int .i64 0] [(0, .int .i64 a), (1, .int .i64 b)] = some (.agg #[.int .i64 a, .int .i64 b, .int .i64 0]) := by kernel_rfl
attribute [go_sem] bsQ_13 Try.bs68 bld79 bld79b
/-- One act, in a new block. -/
theorem one_act {w : AW} (f : Fresh w) (D K N : Int) : ArrOf (w.push (.cells [.int .i64 D, .int .i64 K, .int .i64 N] 79 w.next 0 0)) 3 acells (.slice (some ⟨w.next, 0, none⟩) 1 1) [⟨D, K, N⟩] := by
  have hO := Own.new f 79 [.int .i64 D, .int .i64 K, .int .i64 N]
  refine ⟨_, _, _, rfl, rfl, by simp, by omega, fun _ => ⟨w.next, 0, rfl, by rw [AW.next_push]; omega, fun i j r x hi hx => ?_⟩⟩
  cases i with
  | zero =>
    simp only [List.map_cons, List.map_nil, List.getElem?_cons_zero, Option.some.injEq] at hi
    subst hi
    simp only [acells] at hx
    rw [Nat.zero_mul, Nat.zero_add]
    try rw [Nat.zero_add]
    refine hO.cell hx ?_
    have := List.mem_of_getElem? hx
    simp at this
    rcases this with h | h | h <;> subst h <;> rfl
  | succ i => simp at hi
theorem Ring_ok (n many : Int) (h1 : 1 ≤ many) (h2 : many ≤ 4611686018427387000) (w : AW) : CallT Try.prog Try.T1 (.fn (.func 33) #[]) #[.int .i64 n, .int .i64 many] w (fun r w' => ∃ k : Int, r = .int .i64 k ∧ 0 ≤ k ∧ k < many ∧ w = w') := by
  have a1 : n.tmod many < many := Int.tmod_lt_of_pos n (by omega)
  have a2 : -many < n.tmod many := by
    have := Int.tmod_lt_of_pos (-n) (show 0 < many by omega)
    rw [Int.neg_tmod] at this; omega
  have a3 : 0 ≤ (n.tmod many + many).tmod many := Int.tmod_nonneg _ (by omega)
  have a4 : (n.tmod many + many).tmod many < many := Int.tmod_lt_of_pos _ (by omega)
  have h0 : ¬ many ≤ 0 := by omega
  have hn0 : ¬ many = 0 := by omega
  refine callT_code rfl Try.func33 rfl Try.s33_eq rfl ?_
  unfold Try.s33
  simp -dsimp -implicitDefEqProofs (maxSteps := 2000000) (disch := first | assumption | omega | (simp only [AW.next_push, AW.next_put]; omega) | ((repeat refine Fresh.push ?_ _); assumption) | (simp only [same_int, same_bool, same_ptr, same_slice, same_sliceP, same_nil, same_agg2, same_string]; done) | (simp [oneCell, AW.next_push]; done) | fail) only [go_sem, Nat.reduceEqDiff, reduceIte, Nat.reduceAdd, Int.toNat_natCast, Nat.add_zero, Owes_true, Try.results33, h0, hn0]
  exact ⟨_, rfl, a3, a4, trivial⟩
end Go.Proofs

/- Loans: the law of early payments. -/
namespace Go.Proofs
open Go Go.RowKit Go.Sim
set_option maxRecDepth 100000
theorem owe_lok {d : DealN} {cl : List Int} {l : List ActN} {day : Int} (h : oweE d cl l day = 0) : ∃ j, LOk d j (oweX d cl l day) := by
  have hr := owe_ran.1 h
  have hi := (dealB_in hr.deal).1
  obtain ⟨j, _, hj⟩ := go_keeps hr.deal (begin_ok' hi) hr.acts
  exact ⟨j, pass_keeps hr.deal hj hr.dy hr.day⟩
def lateE (E : Int) : Prop := E = 25 ∨ E = 6
set_option maxHeartbeats 12000000 in
theorem early_law (w : AW) (xs : List Value) (f : Fresh w) (h : HdAll Try.prog w [56, 84] xs) : CallT Try.prog Try.T1 (.fn (.func 10) #[]) xs.toArray w fun v _ => v = .bool true := by
  cases h with
  | cons n1 h1 h =>
  cases h with
  | cons n2 h2 h =>
  cases h
  obtain ⟨d, u, cl, rfl, hs⟩ := given_deal h1
  obtain ⟨m0, m1, m2, m3, rfl⟩ := given_four h2
  clear h1 h2
  show CallT Try.prog Try.T1 (.fn (.func 10) #[]) #[.agg #[.int .i64 d.r, .int .i64 d.c, .int .i64 d.a, .int .i64 d.fr, .int .i64 d.fe, .int .i64 d.tm, .int .i64 d.gr, u, .int .i64 d.st, .int .i64 d.sm], .agg #[.int .i64 m0, .int .i64 m1, .int .i64 m2, .int .i64 m3]] w _
  obtain ⟨p, cap, rfl, _⟩ := id hs.open
  have g0 := (Grown.refl f).push (.cells [.int .i64 d.r, .int .i64 d.c, .int .i64 d.a, .int .i64 d.fr, .int .i64 d.fe, .int .i64 d.tm, .int .i64 d.gr, (.slice p cl.length cap), .int .i64 d.st, .int .i64 d.sm] 56 w.next 0 0)
  have hO0 := Own.new f 56 [.int .i64 d.r, .int .i64 d.c, .int .i64 d.a, .int .i64 d.fr, .int .i64 d.fe, .int .i64 d.tm, .int .i64 d.gr, (.slice p cl.length cap), .int .i64 d.st, .int .i64 d.sm]
  have g := g0.push (.cells [.int .i64 m0, .int .i64 m1, .int .i64 m2, .int .i64 m3] 84 (w.next + 1) 0 0)
  have hO := hO0.push (.cells [.int .i64 m0, .int .i64 m1, .int .i64 m2, .int .i64 m3] 84 (w.next + 1) 0 0)
  have hM := Own.new g0.2 84 [.int .i64 m0, .int .i64 m1, .int .i64 m2, .int .i64 m3]
  simp only [AW.next_push] at hM
  have c0 := (hO).cell (o := 0) rfl rfl
  have c1 := (hO).cell (o := 1) rfl rfl
  have c2 := (hO).cell (o := 2) rfl rfl
  have c3 := (hO).cell (o := 3) rfl rfl
  have c4 := (hO).cell (o := 4) rfl rfl
  have c5 := (hO).cell (o := 5) rfl rfl
  have c6 := (hO).cell (o := 6) rfl rfl
  have c7 := (hO).cell (o := 7) rfl rfl
  have c8 := (hO).cell (o := 8) rfl rfl
  have c9 := (hO).cell (o := 9) rfl rfl
  refine callT_code rfl Try.func10 rfl Try.s10_eq rfl ?_
  unfold Try.s10
  simp -dsimp -implicitDefEqProofs (maxSteps := 2000000) (disch := first | assumption | omega | (simp only [AW.next_push, AW.next_put]; omega) | ((repeat refine Fresh.push ?_ _); assumption) | (simp only [same_int, same_bool, same_ptr, same_slice, same_sliceP, same_nil, same_agg2, same_string]; done) | (simp [oneCell, AW.next_push]; done) | fail) only [go_sem, Nat.reduceEqDiff, reduceIte, Nat.reduceAdd, Int.toNat_natCast, Nat.add_zero, Owes_true, Try.results10, Nat.zero_add, c0, c1, c2, c3, c4, c5, c6, c7, c8, c9]
  apply callV_of (e := rfl)
  · exact Check_ok d cl _ _ g.2 (hs.grown g)
  rintro _ w1 ⟨rfl, hg1⟩
  have g1 := g.trans hg1
  have hO1 := hO.keep hg1.1
  have hM1 := hM.keep hg1.1
  cases hd : dealB d cl with
  | false =>
    have hE : dealE d cl = 23 := dealE_bad hd
    have h230 : ¬ (23 : Int) = 0 := by decide
    simp -dsimp -implicitDefEqProofs (maxSteps := 2000000) (disch := first | assumption | omega | (simp only [AW.next_push, AW.next_put]; omega) | ((repeat refine Fresh.push ?_ _); assumption) | (simp only [same_int, same_bool, same_ptr, same_slice, same_sliceP, same_nil, same_agg2, same_string]; done) | (simp [oneCell, AW.next_push]; done) | fail) only [go_sem, Nat.reduceEqDiff, reduceIte, Nat.reduceAdd, Int.toNat_natCast, Nat.add_zero, Owes_true, Try.results10, hE, h230]
    apply callV_of (e := rfl)
    · exact callT_told (Q := fun v w' => v = .bool true ∧ w1 = w') (v := .bool true) (w' := w1) rfl ⟨rfl, rfl⟩
    rintro _ w8 ⟨rfl, rfl⟩
    simp -dsimp -implicitDefEqProofs (maxSteps := 2000000) (disch := first | assumption | omega | (simp only [AW.next_push, AW.next_put]; omega) | ((repeat refine Fresh.push ?_ _); assumption) | (simp only [same_int, same_bool, same_ptr, same_slice, same_sliceP, same_nil, same_agg2, same_string]; done) | (simp [oneCell, AW.next_push]; done) | fail) only [go_sem, Nat.reduceEqDiff, reduceIte, Nat.reduceAdd, Int.toNat_natCast, Nat.add_zero, Owes_true, Try.results10]
  | true =>
  have hE : dealE d cl = 0 := by rw [dealE, hd]; rfl
  have hi := (dealB_in hd).1
  have hst := hi.st
  have hsm := hi.sm
  have c0 := (hO1).cell (o := 0) rfl rfl
  have c1 := (hO1).cell (o := 1) rfl rfl
  have c2 := (hO1).cell (o := 2) rfl rfl
  have c3 := (hO1).cell (o := 3) rfl rfl
  have c4 := (hO1).cell (o := 4) rfl rfl
  have c5 := (hO1).cell (o := 5) rfl rfl
  have c6 := (hO1).cell (o := 6) rfl rfl
  have c7 := (hO1).cell (o := 7) rfl rfl
  have c8 := (hO1).cell (o := 8) rfl rfl
  have c9 := (hO1).cell (o := 9) rfl rfl
  have u0 := hM1.cell (o := 0) rfl rfl
  have u1 := hM1.cell (o := 1) rfl rfl
  have u2 := hM1.cell (o := 2) rfl rfl
  have u3 := hM1.cell (o := 3) rfl rfl
  simp -dsimp -implicitDefEqProofs (maxSteps := 2000000) (disch := first | assumption | omega | (simp only [AW.next_push, AW.next_put]; omega) | ((repeat refine Fresh.push ?_ _); assumption) | (simp only [same_int, same_bool, same_ptr, same_slice, same_sliceP, same_nil, same_agg2, same_string]; done) | (simp [oneCell, AW.next_push]; done) | fail) only [go_sem, Nat.reduceEqDiff, reduceIte, Nat.reduceAdd, Int.toNat_natCast, Nat.add_zero, Owes_true, Try.results10, hE, Nat.zero_add, c0, c1, c2, c3, c4, c5, c6, c7, c8, c9]
  apply callV_of (e := rfl)
  · exact From_ok _ _ _ _
  rintro _ _ ⟨rfl, rfl⟩
  have hin : inR 0 d.st 36500 = true := (inR_iff _ _ _).2 hst
  have hs1 : ¬ d.sm < 1 := by omega
  have hle := WLe.refl w1
  simp -dsimp -implicitDefEqProofs (maxSteps := 2000000) (disch := first | assumption | omega | (simp only [AW.next_push, AW.next_put]; omega) | ((repeat refine Fresh.push ?_ _); assumption) | (simp only [same_int, same_bool, same_ptr, same_slice, same_sliceP, same_nil, same_agg2, same_string]; done) | (simp [oneCell, AW.next_push]; done) | fail) only [go_sem, Nat.reduceEqDiff, reduceIte, Nat.reduceAdd, Int.toNat_natCast, Nat.add_zero, Owes_true, Try.results10, hin, Nat.zero_add, hs1, c8, c9, u0]
  apply callV_of (e := rfl)
  · exact Ring_ok m0 d.sm (by omega) (by omega) w1
  rintro _ _ ⟨k0, rfl, hk0, hk0', rfl⟩
  simp -dsimp -implicitDefEqProofs (maxSteps := 2000000) (disch := first | assumption | omega | (simp only [AW.next_push, AW.next_put]; omega) | ((repeat refine Fresh.push ?_ _); assumption) | (simp only [same_int, same_bool, same_ptr, same_slice, same_sliceP, same_nil, same_agg2, same_string]; done) | (simp [oneCell, AW.next_push]; done) | fail) only [go_sem, Nat.reduceEqDiff, reduceIte, Nat.reduceAdd, Int.toNat_natCast, Nat.add_zero, Owes_true, Try.results10, Nat.zero_add, c8, u1]
  apply callV_of (e := rfl)
  · exact Ring_ok m1 400 (by decide) (by decide) w1
  rintro _ _ ⟨k1, rfl, hk1, hk1', rfl⟩
  have hD1 : d.st ≤ min 36500 (d.st + k1) ∧ min 36500 (d.st + k1) ≤ 36500 := by omega
  simp -dsimp -implicitDefEqProofs (maxSteps := 2000000) (disch := first | assumption | omega | (simp only [AW.next_push, AW.next_put]; omega) | ((repeat refine Fresh.push ?_ _); assumption) | (simp only [same_int, same_bool, same_ptr, same_slice, same_sliceP, same_nil, same_agg2, same_string]; done) | (simp [oneCell, AW.next_push]; done) | fail) only [go_sem, Nat.reduceEqDiff, reduceIte, Nat.reduceAdd, Int.toNat_natCast, Nat.add_zero, Owes_true, Try.results10, Nat.zero_add, hle, u2]
  generalize min 36500 (d.st + k1) = D1 at *
  apply callV_of (e := rfl)
  · exact Ring_ok m2 100 (by decide) (by decide) w1
  rintro _ _ ⟨k2, rfl, hk2, hk2', rfl⟩
  have hD2 : D1 ≤ min 36500 (D1 + k2) ∧ min 36500 (D1 + k2) ≤ 36500 := by omega
  simp -dsimp -implicitDefEqProofs (maxSteps := 2000000) (disch := first | assumption | omega | (simp only [AW.next_push, AW.next_put]; omega) | ((repeat refine Fresh.push ?_ _); assumption) | (simp only [same_int, same_bool, same_ptr, same_slice, same_sliceP, same_nil, same_agg2, same_string]; done) | (simp [oneCell, AW.next_push]; done) | fail) only [go_sem, Nat.reduceEqDiff, reduceIte, Nat.reduceAdd, Int.toNat_natCast, Nat.add_zero, Owes_true, Try.results10, Nat.zero_add, u3]
  generalize min 36500 (D1 + k2) = D2 at *
  apply callV_of (e := rfl)
  · exact Ring_ok m3 400 (by decide) (by decide) w1
  rintro _ _ ⟨k3, rfl, hk3, hk3', rfl⟩
  have hD3 : D2 ≤ min 36500 (D2 + k3) ∧ min 36500 (D2 + k3) ≤ 36500 := by omega
  have f1 := g1.2
  have g2 := g1.push (.cells [.int .i64 D1, .int .i64 1, .int .i64 (1 + k0)] 79 w1.next 0 0)
  have hl2 := one_act f1 D1 1 (1 + k0)
  have hO2 := hO1.push (.cells [.int .i64 D1, .int .i64 1, .int .i64 (1 + k0)] 79 w1.next 0 0)
  simp -dsimp -implicitDefEqProofs (maxSteps := 2000000) (disch := first | assumption | omega | (simp only [AW.next_push, AW.next_put]; omega) | ((repeat refine Fresh.push ?_ _); assumption) | (simp only [same_int, same_bool, same_ptr, same_slice, same_sliceP, same_nil, same_agg2, same_string]; done) | (simp [oneCell, AW.next_push]; done) | fail) only [go_sem, Nat.reduceEqDiff, reduceIte, Nat.reduceAdd, Int.toNat_natCast, Nat.add_zero, Owes_true, Try.results10, Nat.zero_add, c0, c1, c2, c3, c4, c5, c6, c7, c8, c9]
  generalize min 36500 (D2 + k3) = D3 at *
  generalize w1.push (.cells [.int .i64 D1, .int .i64 1, .int .i64 (1 + k0)] 79 w1.next 0 0) = w2 at *
  apply callV_of (e := rfl)
  · exact Owe_ok d cl [⟨D1, 1, 1 + k0⟩] D3 _ _ w2 g2.2 (hs.grown g2) hl2
  rintro _ w3 ⟨rfl, hg3⟩
  have g3 := g2.trans hg3
  have hO3 := hO2.keep hg3.1
  have f3 := g3.2
  have hp1 := pays_late hd (p := 1 + k0) hD1.1 (by omega : D1 ≤ D3) hD3.2 (by omega) (by omega)
  have hp2 := pays_late hd (p := 1 + k0) (by omega : d.st ≤ D2) hD3.1 hD3.2 (by omega) (by omega)
  have hmath := early_math hd (p := 1 + k0) hD1.1 hD2.1 hD3.1 (by omega)
  have hE1 : oweE d cl [⟨D1, 1, 1 + k0⟩] D3 = 0 → ∃ j, LOk d j (oweX d cl [⟨D1, 1, 1 + k0⟩] D3) := owe_lok
  have hE2 : oweE d cl [⟨D2, 1, 1 + k0⟩] D3 = 0 → ∃ j, LOk d j (oweX d cl [⟨D2, 1, 1 + k0⟩] D3) := owe_lok
  have hA1 : oweE d cl [⟨D1, 1, 1 + k0⟩] D3 = 0 → oweA d cl [⟨D1, 1, 1 + k0⟩] D3 = oweX d cl [⟨D1, 1, 1 + k0⟩] D3 := oweA_ok
  have hA2 : oweE d cl [⟨D2, 1, 1 + k0⟩] D3 = 0 → oweA d cl [⟨D2, 1, 1 + k0⟩] D3 = oweX d cl [⟨D2, 1, 1 + k0⟩] D3 := oweA_ok
  generalize oweE d cl [⟨D1, 1, 1 + k0⟩] D3 = E1 at *
  generalize oweA d cl [⟨D1, 1, 1 + k0⟩] D3 = X1 at *
  have g4 := g3.push (.cells (accells X1) 70 w3.next 0 0)
  have hX4 := Own.new f3 70 (accells X1)
  have hO4 := hO3.push (.cells (accells X1) 70 w3.next 0 0)
  have f4 := g4.2
  have g5 := g4.push (.cells [.int .i64 D2, .int .i64 1, .int .i64 (1 + k0)] 79 (w3.next + 1) 0 0)
  have hl5 := one_act f4 D2 1 (1 + k0)
  simp only [AW.next_push] at hl5
  have hX5 := hX4.push (.cells [.int .i64 D2, .int .i64 1, .int .i64 (1 + k0)] 79 (w3.next + 1) 0 0)
  have hO5 := hO4.push (.cells [.int .i64 D2, .int .i64 1, .int .i64 (1 + k0)] 79 (w3.next + 1) 0 0)
  unfold accells at g4 hX4 hO4 f4 g5 hl5 hX5 hO5
  have c0 := (hO4).cell (o := 0) rfl rfl
  have c1 := (hO4).cell (o := 1) rfl rfl
  have c2 := (hO4).cell (o := 2) rfl rfl
  have c3 := (hO4).cell (o := 3) rfl rfl
  have c4 := (hO4).cell (o := 4) rfl rfl
  have c5 := (hO4).cell (o := 5) rfl rfl
  have c6 := (hO4).cell (o := 6) rfl rfl
  have c7 := (hO4).cell (o := 7) rfl rfl
  have c8 := (hO4).cell (o := 8) rfl rfl
  have c9 := (hO4).cell (o := 9) rfl rfl
  simp -dsimp -implicitDefEqProofs (maxSteps := 2000000) (disch := first | assumption | omega | (simp only [AW.next_push, AW.next_put]; omega) | ((repeat refine Fresh.push ?_ _); assumption) | (simp only [same_int, same_bool, same_ptr, same_slice, same_sliceP, same_nil, same_agg2, same_string]; done) | (simp [oneCell, AW.next_push]; done) | fail) only [go_sem, Nat.reduceEqDiff, reduceIte, Nat.reduceAdd, Int.toNat_natCast, Nat.add_zero, Owes_true, Try.results10, accV, Nat.zero_add, c0, c1, c2, c3, c4, c5, c6, c7, c8, c9]
  generalize (w3.push (.cells [.int .i64 X1.P, .int .i64 X1.C, .int .i64 X1.Q, .int .i64 X1.A, .bool X1.op] 70 w3.next 0 0)).push (.cells [.int .i64 D2, .int .i64 1, .int .i64 (1 + k0)] 79 (w3.next + 1) 0 0) = w5 at *
  apply callV_of (e := rfl)
  · exact Owe_ok d cl [⟨D2, 1, 1 + k0⟩] D3 _ _ w5 g5.2 (hs.grown g5) hl5
  rintro _ w6 ⟨rfl, hg6⟩
  have g6 := g5.trans hg6
  have hX6 := hX5.keep hg6.1
  have f6 := g6.2
  generalize oweE d cl [⟨D2, 1, 1 + k0⟩] D3 = E2 at *
  generalize oweA d cl [⟨D2, 1, 1 + k0⟩] D3 = X2 at *
  have hX7 := hX6.push (.cells (accells X2) 70 w6.next 0 0)
  have hY7 := Own.new f6 70 (accells X2)
  unfold accells at hX7 hY7
  have v0 := hX7.cell (o := 0) rfl rfl
  have v1 := hX7.cell (o := 1) rfl rfl
  have z0 := hY7.cell (o := 0) rfl rfl
  have z1 := hY7.cell (o := 1) rfl rfl
  have l1 : ¬ (25 : Int) = 0 := by decide
  have l2 : ¬ (6 : Int) = 0 := by decide
  have l3 : ¬ (6 : Int) = 25 := by decide
  have l4 : ¬ (0 : Int) = 25 := by decide
  have l5 : ¬ (0 : Int) = 6 := by decide
  have l6 : ¬ (25 : Int) = 6 := by decide
  rcases hp1 with rfl | rfl | ⟨rfl, hx1⟩
  · rcases hp2 with rfl | rfl | ⟨rfl, hx2⟩
    all_goals
      simp -dsimp -implicitDefEqProofs (maxSteps := 2000000) (disch := first | assumption | omega | (simp only [AW.next_push, AW.next_put]; omega) | ((repeat refine Fresh.push ?_ _); assumption) | (simp only [same_int, same_bool, same_ptr, same_slice, same_sliceP, same_nil, same_agg2, same_string]; done) | (simp [oneCell, AW.next_push]; done) | fail) only [go_sem, Nat.reduceEqDiff, reduceIte, Nat.reduceAdd, Int.toNat_natCast, Nat.add_zero, Owes_true, Try.results10, accV, Nat.zero_add, ne_eq, not_true, l1, l2, l3, l4, l5, l6]
      apply callV_of (e := rfl)
      · exact callT_told (Q := fun v w' => v = .bool true ∧ _ = w') (v := .bool true) (w' := _) rfl ⟨rfl, rfl⟩
      rintro _ w8 ⟨rfl, rfl⟩
      simp -dsimp -implicitDefEqProofs (maxSteps := 2000000) (disch := first | assumption | omega | (simp only [AW.next_push, AW.next_put]; omega) | ((repeat refine Fresh.push ?_ _); assumption) | (simp only [same_int, same_bool, same_ptr, same_slice, same_sliceP, same_nil, same_agg2, same_string]; done) | (simp [oneCell, AW.next_push]; done) | fail) only [go_sem, Nat.reduceEqDiff, reduceIte, Nat.reduceAdd, Int.toNat_natCast, Nat.add_zero, Owes_true, Try.results10]
  · rcases hp2 with rfl | rfl | ⟨rfl, hx2⟩
    all_goals
      simp -dsimp -implicitDefEqProofs (maxSteps := 2000000) (disch := first | assumption | omega | (simp only [AW.next_push, AW.next_put]; omega) | ((repeat refine Fresh.push ?_ _); assumption) | (simp only [same_int, same_bool, same_ptr, same_slice, same_sliceP, same_nil, same_agg2, same_string]; done) | (simp [oneCell, AW.next_push]; done) | fail) only [go_sem, Nat.reduceEqDiff, reduceIte, Nat.reduceAdd, Int.toNat_natCast, Nat.add_zero, Owes_true, Try.results10, accV, Nat.zero_add, ne_eq, not_true, l1, l2, l3, l4, l5, l6]
      apply callV_of (e := rfl)
      · exact callT_told (Q := fun v w' => v = .bool true ∧ _ = w') (v := .bool true) (w' := _) rfl ⟨rfl, rfl⟩
      rintro _ w8 ⟨rfl, rfl⟩
      simp -dsimp -implicitDefEqProofs (maxSteps := 2000000) (disch := first | assumption | omega | (simp only [AW.next_push, AW.next_put]; omega) | ((repeat refine Fresh.push ?_ _); assumption) | (simp only [same_int, same_bool, same_ptr, same_slice, same_sliceP, same_nil, same_agg2, same_string]; done) | (simp [oneCell, AW.next_push]; done) | fail) only [go_sem, Nat.reduceEqDiff, reduceIte, Nat.reduceAdd, Int.toNat_natCast, Nat.add_zero, Owes_true, Try.results10]
  · rcases hp2 with rfl | rfl | ⟨rfl, hx2⟩
    · simp -dsimp -implicitDefEqProofs (maxSteps := 2000000) (disch := first | assumption | omega | (simp only [AW.next_push, AW.next_put]; omega) | ((repeat refine Fresh.push ?_ _); assumption) | (simp only [same_int, same_bool, same_ptr, same_slice, same_sliceP, same_nil, same_agg2, same_string]; done) | (simp [oneCell, AW.next_push]; done) | fail) only [go_sem, Nat.reduceEqDiff, reduceIte, Nat.reduceAdd, Int.toNat_natCast, Nat.add_zero, Owes_true, Try.results10, accV, Nat.zero_add, ne_eq, not_true, l1, l2, l3, l4, l5, l6]
      apply callV_of (e := rfl)
      · exact callT_told (Q := fun v w' => v = .bool true ∧ _ = w') (v := .bool true) (w' := _) rfl ⟨rfl, rfl⟩
      rintro _ w8 ⟨rfl, rfl⟩
      simp -dsimp -implicitDefEqProofs (maxSteps := 2000000) (disch := first | assumption | omega | (simp only [AW.next_push, AW.next_put]; omega) | ((repeat refine Fresh.push ?_ _); assumption) | (simp only [same_int, same_bool, same_ptr, same_slice, same_sliceP, same_nil, same_agg2, same_string]; done) | (simp [oneCell, AW.next_push]; done) | fail) only [go_sem, Nat.reduceEqDiff, reduceIte, Nat.reduceAdd, Int.toNat_natCast, Nat.add_zero, Owes_true, Try.results10]
    · simp -dsimp -implicitDefEqProofs (maxSteps := 2000000) (disch := first | assumption | omega | (simp only [AW.next_push, AW.next_put]; omega) | ((repeat refine Fresh.push ?_ _); assumption) | (simp only [same_int, same_bool, same_ptr, same_slice, same_sliceP, same_nil, same_agg2, same_string]; done) | (simp [oneCell, AW.next_push]; done) | fail) only [go_sem, Nat.reduceEqDiff, reduceIte, Nat.reduceAdd, Int.toNat_natCast, Nat.add_zero, Owes_true, Try.results10, accV, Nat.zero_add, ne_eq, not_true, l1, l2, l3, l4, l5, l6]
      apply callV_of (e := rfl)
      · exact callT_told (Q := fun v w' => v = .bool true ∧ _ = w') (v := .bool true) (w' := _) rfl ⟨rfl, rfl⟩
      rintro _ w8 ⟨rfl, rfl⟩
      simp -dsimp -implicitDefEqProofs (maxSteps := 2000000) (disch := first | assumption | omega | (simp only [AW.next_push, AW.next_put]; omega) | ((repeat refine Fresh.push ?_ _); assumption) | (simp only [same_int, same_bool, same_ptr, same_slice, same_sliceP, same_nil, same_agg2, same_string]; done) | (simp [oneCell, AW.next_push]; done) | fail) only [go_sem, Nat.reduceEqDiff, reduceIte, Nat.reduceAdd, Int.toNat_natCast, Nat.add_zero, Owes_true, Try.results10]
    have hA1' := hA1 rfl
    have hA2' := hA2 rfl
    obtain ⟨j1, q1⟩ := hE1 rfl
    obtain ⟨j2, q2⟩ := hE2 rfl
    rw [← hA1'] at q1 hx1
    rw [← hA2'] at q2 hx2
    rw [← hx1, ← hx2] at hmath
    have b1 := q1.P
    have b2 := q2.P
    have b3 := q1.charge hd
    have b4 := q2.charge hd
    have r1 := hmath.1
    have r2 : X1.P ≤ X2.P + X2.C - X1.C := by omega
    simp -dsimp -implicitDefEqProofs (maxSteps := 2000000) (disch := first | assumption | omega | (simp only [AW.next_push, AW.next_put]; omega) | ((repeat refine Fresh.push ?_ _); assumption) | (simp only [same_int, same_bool, same_ptr, same_slice, same_sliceP, same_nil, same_agg2, same_string]; done) | (simp [oneCell, AW.next_push]; done) | fail) only [go_sem, Nat.reduceEqDiff, reduceIte, Nat.reduceAdd, Int.toNat_natCast, Nat.add_zero, Owes_true, Try.results10, accV, Nat.zero_add, ne_eq, not_true, v0, v1, z0, z1, r1, r2]
    apply callV_of (e := rfl)
    · exact callT_told (Q := fun v w' => v = .bool true ∧ _ = w') (v := .bool true) (w' := _) rfl ⟨rfl, rfl⟩
    rintro _ w8 ⟨rfl, rfl⟩
    simp -dsimp -implicitDefEqProofs (maxSteps := 2000000) (disch := first | assumption | omega | (simp only [AW.next_push, AW.next_put]; omega) | ((repeat refine Fresh.push ?_ _); assumption) | (simp only [same_int, same_bool, same_ptr, same_slice, same_sliceP, same_nil, same_agg2, same_string]; done) | (simp [oneCell, AW.next_push]; done) | fail) only [go_sem, Nat.reduceEqDiff, reduceIte, Nat.reduceAdd, Int.toNat_natCast, Nat.add_zero, Owes_true, Try.results10]
end Go.Proofs
