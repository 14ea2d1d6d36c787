/- Markets: what is given, and P2.8 on the machine. -/
import Derived.Test.YtdbeiefgokocnaaVa
import Derived.Test.YtdbeiefgokocnaaNb
import Derived.Test.YtdbeiefgokocnaaTc
import Derived.Test.YtdbeiefgokocnaaTa
set_option linter.unusedVariables false
set_option linter.unusedSimpArgs false
/- Markets, wares and numbers: what is given; a ring. -/
namespace Go.Proofs
open Go Go.RowKit Go.Sim
set_option maxRecDepth 100000
theorem Try.und3 : Try.prog.underlying 3 = some (.int .i64) := by kernel_rfl
theorem Try.und22 : Try.prog.underlying 22 = some (.slice 66) := by kernel_rfl
theorem Try.und23 : Try.prog.underlying 23 = some (.slice 3) := by kernel_rfl
theorem Try.und66 : Try.prog.underlying 66 = some (.struct #[{ name := "Kind", type := 3, offset := 0, embedded := false, tag := "", pkgPath := "", byteOffset := 0 }, { name := "Day", type := 3, offset := 1, embedded := false, tag := "", pkgPath := "", byteOffset := 8 }, { name := "Weight", type := 3, offset := 2, embedded := false, tag := "", pkgPath := "", byteOffset := 16 }, { name := "Metal", type := 3, offset := 3, embedded := false, tag := "", pkgPath := "", byteOffset := 24 }, { name := "Price", type := 3, offset := 4, embedded := false, tag := "", pkgPath := "", byteOffset := 32 }]) := by kernel_rfl
theorem Try.und25 : Try.prog.underlying 25 = some (.struct #[{ name := "Sales", type := 22, offset := 0, embedded := false, tag := "", pkgPath := "", byteOffset := 0 }, { name := "Fade", type := 23, offset := 1, embedded := false, tag := "", pkgPath := "", byteOffset := 24 }, { name := "Metal", type := 3, offset := 2, embedded := false, tag := "", pkgPath := "", byteOffset := 48 }, { name := "Day", type := 3, offset := 3, embedded := false, tag := "", pkgPath := "", byteOffset := 56 }, { name := "Few", type := 3, offset := 4, embedded := false, tag := "", pkgPath := "", byteOffset := 64 }]) := by kernel_rfl
theorem Try.und27 : Try.prog.underlying 27 = some (.struct #[{ name := "Min", type := 3, offset := 0, embedded := false, tag := "", pkgPath := "", byteOffset := 0 }, { name := "Max", type := 3, offset := 1, embedded := false, tag := "", pkgPath := "", byteOffset := 8 }]) := by kernel_rfl
theorem Try.und29 : Try.prog.underlying 29 = some (.struct #[{ name := "Kind", type := 3, offset := 0, embedded := false, tag := "", pkgPath := "", byteOffset := 0 }, { name := "Weight", type := 27, offset := 1, embedded := false, tag := "", pkgPath := "", byteOffset := 8 }]) := by kernel_rfl
theorem Try.und59 : Try.prog.underlying 59 = some (.array 3 3) := by kernel_rfl
theorem Try.cells3 : Try.prog.cellsOf 3 = 1 := by kernel_rfl
theorem Try.cells66 : Try.prog.cellsOf 66 = 5 := by kernel_rfl
theorem given_int {w : AW} {n : Nat} {cs : List Value} (h : Hd Try.prog w n 3 cs) : ∃ x : Int, cs = icells x := by
  cases n with
  | zero => exact h.elim
  | succ n =>
    simp only [Hd, Try.und3] at h
    obtain ⟨i, rfl, _⟩ := h
    exact ⟨i, rfl⟩
theorem given_ints {w : AW} {n : Nat} {cs : List Value} (h : Hd Try.prog w n 23 cs) : ∃ v, cs = [v] ∧ ∃ xs, ArrOf w 1 icells v xs := by
  cases n with
  | zero => exact h.elim
  | succ n =>
    simp only [Hd, Try.und23, Try.cells3] at h
    obtain ⟨v, rows, rfl, ha, hr, hgv⟩ := h
    obtain ⟨xs, rfl⟩ := rows_of fun r hq => given_int (hr r hq)
    exact ⟨v, rfl, xs, ha⟩
theorem given_sale {w : AW} {n : Nat} {cs : List Value} (h : Hd Try.prog w n 66 cs) : ∃ s : SaleN, cs = scel s := by
  cases n with
  | zero => exact h.elim
  | succ n =>
    simp only [Hd, Try.und66] at h
    obtain ⟨parts, rfl, hl, hp⟩ := h
    match parts, hl with
    | [p0, p1, p2, p3, p4], _ =>
      obtain ⟨x0, rfl⟩ := given_int (hp 0 _ p0 rfl rfl)
      obtain ⟨x1, rfl⟩ := given_int (hp 1 _ p1 rfl rfl)
      obtain ⟨x2, rfl⟩ := given_int (hp 2 _ p2 rfl rfl)
      obtain ⟨x3, rfl⟩ := given_int (hp 3 _ p3 rfl rfl)
      obtain ⟨x4, rfl⟩ := given_int (hp 4 _ p4 rfl rfl)
      exact ⟨⟨x0, x1, x2, x3, x4⟩, rfl⟩
theorem given_sales {w : AW} {n : Nat} {cs : List Value} (h : Hd Try.prog w n 22 cs) : ∃ v, cs = [v] ∧ ∃ xs, ArrOf w 5 scel v xs := by
  cases n with
  | zero => exact h.elim
  | succ n =>
    simp only [Hd, Try.und22, Try.cells66] at h
    obtain ⟨v, rows, rfl, ha, hr, hgv⟩ := h
    obtain ⟨xs, rfl⟩ := rows_of fun r hq => given_sale (hr r hq)
    exact ⟨v, rfl, xs, ha⟩
theorem given_market {w : AW} {n : Nat} {v : Value} (h : HdV Try.prog w n 25 v) : ∃ (x : MarkN) (S : List SaleN) (F : List Int) (vs vf : Value), v = .agg #[vs, vf, .int .i64 x.m, .int .i64 x.d, .int .i64 x.f] ∧ ArrOf w 5 scel vs S ∧ ArrOf w 1 icells vf F := by
  simp only [HdV, Try.und25] at h
  obtain ⟨cs, rfl, h⟩ := h
  cases n with
  | zero => exact h.elim
  | succ n =>
    simp only [Hd, Try.und25] at h
    obtain ⟨parts, e, hl, hp⟩ := h
    match parts, hl with
    | [p0, p1, p2, p3, p4], _ =>
      obtain ⟨u, rfl, S, hS⟩ := given_sales (hp 0 _ p0 rfl rfl)
      obtain ⟨u2, rfl, F, hF⟩ := given_ints (hp 1 _ p1 rfl rfl)
      obtain ⟨m, rfl⟩ := given_int (hp 2 _ p2 rfl rfl)
      obtain ⟨d, rfl⟩ := given_int (hp 3 _ p3 rfl rfl)
      obtain ⟨f, rfl⟩ := given_int (hp 4 _ p4 rfl rfl)
      refine ⟨⟨m, d, f⟩, S, F, u, u2, ?_, hS, hF⟩
      rw [show cs = cs.toList.toArray from rfl, e]; rfl
theorem given_span {w : AW} {n : Nat} {cs : List Value} (h : Hd Try.prog w n 27 cs) : ∃ a b : Int, cs = [.int .i64 a, .int .i64 b] := by
  cases n with
  | zero => exact h.elim
  | succ n =>
    simp only [Hd, Try.und27] at h
    obtain ⟨parts, rfl, hl, hp⟩ := h
    match parts, hl with
    | [p0, p1], _ =>
      obtain ⟨x0, rfl⟩ := given_int (hp 0 _ p0 rfl rfl)
      obtain ⟨x1, rfl⟩ := given_int (hp 1 _ p1 rfl rfl)
      exact ⟨x0, x1, rfl⟩
theorem given_ware {w : AW} {n : Nat} {v : Value} (h : HdV Try.prog w n 29 v) : ∃ k a b : Int, v = .agg #[.int .i64 k, .int .i64 a, .int .i64 b] := by
  simp only [HdV, Try.und29] at h
  obtain ⟨cs, rfl, h⟩ := h
  cases n with
  | zero => exact h.elim
  | succ n =>
    simp only [Hd, Try.und29] at h
    obtain ⟨parts, e, hl, hp⟩ := h
    match parts, hl with
    | [p0, p1], _ =>
      obtain ⟨x0, rfl⟩ := given_int (hp 0 _ p0 rfl rfl)
      obtain ⟨a, b, rfl⟩ := given_span (hp 1 _ p1 rfl rfl)
      refine ⟨x0, a, b, ?_⟩
      rw [show cs = cs.toList.toArray from rfl, e]; rfl
theorem given_three {w : AW} {n : Nat} {v : Value} (h : HdV Try.prog w n 59 v) : ∃ a b c : Int, v = .agg #[.int .i64 a, .int .i64 b, .int .i64 c] := by
  simp only [HdV, Try.und59] at h
  obtain ⟨cs, rfl, h⟩ := h
  cases n with
  | zero => exact h.elim
  | succ n =>
    simp only [Hd, Try.und59] at h
    obtain ⟨parts, e, hl, hp⟩ := h
    match parts, hl with
    | [p0, p1, p2], _ =>
      obtain ⟨x0, rfl⟩ := given_int (hp p0 (by simp))
      obtain ⟨x1, rfl⟩ := given_int (hp p1 (by simp))
      obtain ⟨x2, rfl⟩ := given_int (hp p2 (by simp))
      exact ⟨x0, x1, x2, by rw [show cs = cs.toList.toArray from rfl, e]; rfl⟩
theorem Try.ia59 (t : Tmps) (w : AW) (x y : Operand) : fast (prg Try.prog) t w (.indexAddr 59 x y) = indexA 1 3 (ev t x) (ev t y) := fast_indexAddrA Try.ty59 Try.ty3
theorem ix3_0 (b o : Nat) : indexA 1 3 (.pointer (some ⟨b, o, none⟩)) (.int .i64 0) = some (.pointer (some ⟨b, o, none⟩)) := indexA_eq (i := 0) (by decide)
theorem ix3_1 (b o : Nat) : indexA 1 3 (.pointer (some ⟨b, o, none⟩)) (.int .i64 1) = some (.pointer (some ⟨b, o + 1, none⟩)) := indexA_eq (i := 1) (by decide)
theorem ix3_2 (b o : Nat) : indexA 1 3 (.pointer (some ⟨b, o, none⟩)) (.int .i64 2) = some (.pointer (some ⟨b, o + 2, none⟩)) := indexA_eq (i := 2) (by decide)
attribute [go_sem] Try.ia59 ix3_0 ix3_1 ix3_2
theorem Ring_ok (n many : Int) (h1 : 1 ≤ many) (h2 : many ≤ 4611686018427387000) (w : AW) : CallT Try.prog Try.T1 (.fn (.func 33) #[]) #[.int .i64 n, .int .i64 many] w (fun r w' => ∃ k : Int, r = .int .i64 k ∧ 0 ≤ k ∧ k < many ∧ w = w') := by
  have a1 : n.tmod many < many := Int.tmod_lt_of_pos n (by omega)
  have a2 : -many < n.tmod many := by
    have := Int.tmod_lt_of_pos (-n) (show 0 < many by omega)
    rw [Int.neg_tmod] at this; omega
  have a3 : 0 ≤ (n.tmod many + many).tmod many := Int.tmod_nonneg _ (by omega)
  have a4 : (n.tmod many + many).tmod many < many := Int.tmod_lt_of_pos _ (by omega)
  have h0 : ¬ many ≤ 0 := by omega
  have hn0 : ¬ many = 0 := by omega
  refine callT_code rfl Try.func33 rfl Try.s33_eq rfl ?_
  unfold Try.s33
  simp -dsimp -implicitDefEqProofs (maxSteps := 2000000) (disch := first | assumption | omega | (simp only [AW.next_push, AW.next_put]; omega) | ((repeat refine Fresh.push ?_ _); assumption) | (simp only [same_int, same_bool, same_ptr, same_slice, same_sliceP, same_nil, same_agg2, same_string]; done) | (simp [oneCell, AW.next_push]; done) | fail) only [go_sem, Nat.reduceEqDiff, reduceIte, Nat.reduceAdd, Int.toNat_natCast, Nat.add_zero, Owes_true, Try.results33, h0, hn0]
  exact ⟨_, rfl, a3, a4, trivial⟩
end Go.Proofs

/- Markets: the value holds craft and metal, on the machine. -/
namespace Go.Proofs
open Go Go.RowKit Go.Sim
set_option maxRecDepth 100000
theorem sortedL_pair (l : List Int) : (sortedL l).Pairwise (· ≤ ·) := by
  have h := List.pairwise_mergeSort (le := fun x y : Int => decide (x ≤ y)) (by intro a b c h1 h2; simp only [decide_eq_true_eq] at *; omega) (by intro a b; simp only [Bool.or_eq_true, decide_eq_true_eq]; omega) l
  refine h.imp ?_
  intro a b hab
  simpa using hab
theorem sortedL_le {l : List Int} {i j : Nat} (hij : i ≤ j) (hj : j < (sortedL l).length) : (sortedL l)[i] ≤ (sortedL l)[j] := by
  by_cases h : i = j
  · subst h; exact Int.le_refl _
  · exact List.pairwise_iff_getElem.mp (sortedL_pair l) i j (by omega) hj (by omega)
theorem Try.eqx27 (a b : Int) : eqQ Try.prog .eql 27 (.agg #[.int .i64 a, .int .i64 b]) (.agg #[.int .i64 a, .int .i64 b]) = some (.bool true) := by
  have h := eqQ_eql (P := Try.prog) (ty := 27) (xs := #[.int .i64 a, .int .i64 b]) (ys := #[.int .i64 a, .int .i64 b]) (b := [a == a, b == b].all id) (by kernel_rfl) rfl (eqStruct Try.und27 (by kernel_rfl) (n := 9999) (.cons (eqF_int (k := .i64) (by decide) Try.und3 Try.agg3 rfl rfl) (.cons (eqF_int (k := .i64) (by decide) Try.und3 Try.agg3 rfl rfl) .nil)))
  rw [h]; simp
theorem valE_more {x : MarkN} {S : List SaleN} {F : List Int} {kd a b : Int} (h : valE x S F kd a b = 0) {m : Int} (h1 : x.m ≤ m) (h2 : m ≤ 100000) : valE ⟨m, x.d, x.f⟩ S F kd a b = 0 := by
  have hi := (valE_in h).mark.m
  have hb : ∀ y : MarkN, craftsL ⟨m, x.d, x.f⟩ S F kd = craftsL x S F kd := fun _ => rfl
  have q1 : inR 0 m 100000 = true := (inR_iff _ _ _).2 ⟨by omega, h2⟩
  have q2 : inR 0 x.m 100000 = true := (inR_iff _ _ _).2 ⟨hi.1, hi.2⟩
  have hm : markB ⟨m, x.d, x.f⟩ S F = markB x S F := by simp only [markB, q1, q2]
  unfold valE at h ⊢
  rw [hm, hb x]
  exact h
set_option maxHeartbeats 8000000 in
theorem true_law (w : AW) (xs : List Value) (f : Fresh w) (h : HdAll Try.prog w [25, 29, 59] xs) : CallT Try.prog Try.T1 (.fn (.func 6) #[]) xs.toArray w fun v _ => v = .bool true := by
  cases h with
  | cons n1 h1 h =>
  cases h with
  | cons n2 h2 h =>
  cases h with
  | cons n3 h3 h =>
  cases h
  obtain ⟨x, S, F, vs, vf, rfl, hS, hs⟩ := given_market h1
  obtain ⟨kd, a, b, rfl⟩ := given_ware h2
  obtain ⟨N0, N1, N2, rfl⟩ := given_three h3
  clear h1 h2 h3
  obtain ⟨p, cap, rfl, _⟩ := id hS.open
  obtain ⟨q, cap2, rfl, _⟩ := id hs.open
  have hvs : oneCell (.slice p S.length cap) = true := rfl
  have hvf : oneCell (.slice q F.length cap2) = true := rfl
  show CallT Try.prog Try.T1 (.fn (.func 6) #[]) #[.agg #[.slice p S.length cap, .slice q F.length cap2, .int .i64 x.m, .int .i64 x.d, .int .i64 x.f], .agg #[.int .i64 kd, .int .i64 a, .int .i64 b], .agg #[.int .i64 N0, .int .i64 N1, .int .i64 N2]] w _
  have g0 := (Grown.refl f).push (.cells [.slice p S.length cap, .slice q F.length cap2, .int .i64 x.m, .int .i64 x.d, .int .i64 x.f] 25 w.next 0 0)
  have gw := g0.push (.cells [.int .i64 kd, .int .i64 a, .int .i64 b] 29 (w.next + 1) 0 0)
  have g := gw.push (.cells [.int .i64 N0, .int .i64 N1, .int .i64 N2] 59 (w.next + 1 + 1) 0 0)
  have hO := ((Own.new f 25 [.slice p S.length cap, .slice q F.length cap2, .int .i64 x.m, .int .i64 x.d, .int .i64 x.f]).push (.cells [.int .i64 kd, .int .i64 a, .int .i64 b] 29 (w.next + 1) 0 0)).push (.cells [.int .i64 N0, .int .i64 N1, .int .i64 N2] 59 (w.next + 1 + 1) 0 0)
  have hW0 := Own.new g0.2 29 [.int .i64 kd, .int .i64 a, .int .i64 b]
  rw [AW.next_push] at hW0
  have hW := hW0.push (.cells [.int .i64 N0, .int .i64 N1, .int .i64 N2] 59 (w.next + 1 + 1) 0 0)
  have hN := Own.new gw.2 59 [.int .i64 N0, .int .i64 N1, .int .i64 N2]
  simp only [AW.next_push] at hN
  have c0 := (hO).cell (o := 0) rfl hvs
  have c1 := (hO).cell (o := 1) rfl hvf
  have c2 := (hO).cell (o := 2) rfl rfl
  have c3 := (hO).cell (o := 3) rfl rfl
  have c4 := (hO).cell (o := 4) rfl rfl
  have u0 := (hW).cell (o := 0) rfl rfl
  have u1 := (hW).cell (o := 1) rfl rfl
  have u2 := (hW).cell (o := 2) rfl rfl
  refine callT_code rfl Try.func6 rfl Try.s6_eq rfl ?_
  unfold Try.s6
  simp -dsimp -implicitDefEqProofs (maxSteps := 2000000) (disch := first | assumption | omega | (simp only [AW.next_push, AW.next_put]; omega) | ((repeat refine Fresh.push ?_ _); assumption) | (simp only [same_int, same_bool, same_ptr, same_slice, same_sliceP, same_nil, same_agg2, same_string]; done) | (simp [oneCell, AW.next_push]; done) | fail) only [go_sem, Nat.reduceEqDiff, reduceIte, Nat.reduceAdd, Int.toNat_natCast, Nat.add_zero, Owes_true, Try.results6, Nat.zero_add, c0, c1, c2, c3, c4, u0, u1, u2]
  apply callV_of (e := rfl)
  · exact Value_ok x S F _ _ kd a b _ g.2 (hS.grown g) (hs.grown g)
  rintro _ w1 ⟨rfl, hg1⟩
  have g1' := g.trans hg1
  have f1 := g1'.2
  have hV := Own.new f1 27 [.int .i64 (valMn x S F kd a b), .int .i64 (valMx x S F kd a b)]
  have hO1 := (hO.keep hg1.1).push (.cells [.int .i64 (valMn x S F kd a b), .int .i64 (valMx x S F kd a b)] 27 w1.next 0 0)
  have hW1 := (hW.keep hg1.1).push (.cells [.int .i64 (valMn x S F kd a b), .int .i64 (valMx x S F kd a b)] 27 w1.next 0 0)
  have hN1 := (hN.keep hg1.1).push (.cells [.int .i64 (valMn x S F kd a b), .int .i64 (valMx x S F kd a b)] 27 w1.next 0 0)
  have g1 := g1'.push (.cells [.int .i64 (valMn x S F kd a b), .int .i64 (valMx x S F kd a b)] 27 w1.next 0 0)
  have v0 := (hV).cell (o := 0) rfl rfl
  have v1 := (hV).cell (o := 1) rfl rfl
  by_cases hE : valE x S F kd a b = 0
  case neg =>
    have z1 : valMn x S F kd a b = 0 := by rw [valMn, if_neg hE]
    have z2 : valMx x S F kd a b = 0 := by rw [valMx, if_neg hE]
    rw [z1, z2] at v0 v1 ⊢
    have heq := Try.eqx27 0 0
    simp -dsimp -implicitDefEqProofs (maxSteps := 2000000) (disch := first | assumption | omega | (simp only [AW.next_push, AW.next_put]; omega) | ((repeat refine Fresh.push ?_ _); assumption) | (simp only [same_int, same_bool, same_ptr, same_slice, same_sliceP, same_nil, same_agg2, same_string]; done) | (simp [oneCell, AW.next_push]; done) | fail) only [go_sem, Nat.reduceEqDiff, reduceIte, Nat.reduceAdd, Int.toNat_natCast, Nat.add_zero, Owes_true, Try.results6, hE, Nat.zero_add, v0, v1, bldQ_zero, heq]
    apply callV_of (e := rfl)
    · exact callT_told (Q := fun v w' => v = .bool true ∧ _ = w') (v := .bool true) (w' := _) rfl ⟨rfl, rfl⟩
    rintro _ _ ⟨rfl, rfl⟩
    simp -dsimp -implicitDefEqProofs (maxSteps := 2000000) (disch := first | assumption | omega | (simp only [AW.next_push, AW.next_put]; omega) | ((repeat refine Fresh.push ?_ _); assumption) | (simp only [same_int, same_bool, same_ptr, same_slice, same_sliceP, same_nil, same_agg2, same_string]; done) | (simp [oneCell, AW.next_push]; done) | fail) only [go_sem, Nat.reduceEqDiff, reduceIte, Nat.reduceAdd, Int.toNat_natCast, Nat.add_zero, Owes_true, Try.results6]
  have hvi := valE_in hE
  have hmi := hvi.mark
  have hMn : valMn x S F kd a b = (craftsL x S F kd).getD (((craftsL x S F kd).length - 1) / 4) 0 + x.m * a := by rw [valMn, if_pos hE]
  have hMx : valMx x S F kd a b = (craftsL x S F kd).getD ((craftsL x S F kd).length - 1 - ((craftsL x S F kd).length - 1) / 4) 0 + x.m * b := by rw [valMx, if_pos hE]
  generalize valMn x S F kd a b = Mn at *
  generalize valMx x S F kd a b = Mx at *
  have c0 := (hO1).cell (o := 0) rfl hvs
  have c1 := (hO1).cell (o := 1) rfl hvf
  have c2 := (hO1).cell (o := 2) rfl rfl
  have c3 := (hO1).cell (o := 3) rfl rfl
  have c4 := (hO1).cell (o := 4) rfl rfl
  have u0 := (hW1).cell (o := 0) rfl rfl
  have u1 := (hW1).cell (o := 1) rfl rfl
  have u2 := (hW1).cell (o := 2) rfl rfl
  simp -dsimp -implicitDefEqProofs (maxSteps := 2000000) (disch := first | assumption | omega | (simp only [AW.next_push, AW.next_put]; omega) | ((repeat refine Fresh.push ?_ _); assumption) | (simp only [same_int, same_bool, same_ptr, same_slice, same_sliceP, same_nil, same_agg2, same_string]; done) | (simp [oneCell, AW.next_push]; done) | fail) only [go_sem, Nat.reduceEqDiff, reduceIte, Nat.reduceAdd, Int.toNat_natCast, Nat.add_zero, Owes_true, Try.results6, hE, Nat.zero_add, c0, c1, c2, c3, c4, u0, ne_eq, not_true]
  apply callV_of (e := rfl)
  · exact Crafts_ok x S F _ _ kd _ g1.2 (hS.grown g1) (hs.grown g1)
  rintro _ w2 ⟨sl, L, rfl, hL, hg2, hz, _⟩
  have g2 := g1.trans hg2
  have hO2 := hO1.keep hg2.1
  have hW2 := hW1.keep hg2.1
  have hN2 := hN1.keep hg2.1
  have hV2 := hV.keep hg2.1
  have hmk : markB x S F = true := by
    cases q : markB x S F with
    | true => rfl
    | false => rw [valE, if_pos q] at hE; exact absurd hE (by decide)
  have hcE : craftE x S F kd = 0 := by rw [craftE, if_neg (by rw [hmk]; simp), if_neg (by rw [hvi.k]; simp)]
  obtain ⟨hLe, _, _⟩ := hz hcE
  subst hLe
  clear hz
  rw [hcE]
  have hf1 := hmi.f
  have hml := hmi.len
  have hmm := hmi.m
  have hab := hvi.a
  have hmore := fun (m : Int) (h1 : x.m ≤ m) (h2 : m ≤ 100000) => valE_more hE h1 h2
  obtain ⟨L, hLL, hfew, hin, hll, hsrt, hMn, hMx, hvn, hvx⟩ : ∃ L, craftsL x S F kd = L ∧ x.f ≤ (L.length : Int) ∧ (∀ y ∈ L, 0 ≤ y ∧ y ≤ 1073741824) ∧ L.length ≤ S.length ∧ (∀ i j (hij : i ≤ j) (hj : j < L.length), L[i] ≤ L[j]) ∧
      Mn = L.getD ((L.length - 1) / 4) 0 + x.m * a ∧ Mx = L.getD (L.length - 1 - (L.length - 1) / 4) 0 + x.m * b ∧
      (∀ m : Int, valE ⟨m, x.d, x.f⟩ S F kd a b = 0 → valMn ⟨m, x.d, x.f⟩ S F kd a b = L.getD ((L.length - 1) / 4) 0 + m * a) ∧
      (∀ m : Int, valE ⟨m, x.d, x.f⟩ S F kd a b = 0 → valMx ⟨m, x.d, x.f⟩ S F kd a b = L.getD (L.length - 1 - (L.length - 1) / 4) 0 + m * b) :=
    ⟨_, rfl, hvi.n, craftsL_in hmi hvi.k, craftsL_len x S F kd, fun i j hij hj => sortedL_le hij hj, hMn, hMx, fun m hm => by rw [valMn, if_pos hm]; rfl, fun m hm => by rw [valMx, if_pos hm]; rfl⟩
  rw [hLL] at hL
  have hq1 : (L.length - 1) / 4 < L.length := by omega
  have hq2 : L.length - 1 - (L.length - 1) / 4 < L.length := by omega
  rw [getD_at hq1] at hMn hvn
  rw [getD_at hq2] at hMx hvx
  obtain ⟨rp, rc, rfl, _, _, hat⟩ := id hL.open
  generalize hQ : (L.length - 1) / 4 = Q at *
  have hin1 := hin _ (List.getElem_mem hq1)
  have hin2 := hin _ (List.getElem_mem hq2)
  have hlo : ∀ i (hi : i < L.length), Q ≤ i → L[Q] ≤ L[i] := fun i hi h1 => hsrt Q i h1 hi
  have hhi : ∀ i (hi : i < L.length), i ≤ L.length - 1 - Q → L[i] ≤ L[L.length - 1 - Q] := fun i hi h1 => hsrt i _ h1 hq2
  have hmid := hsrt Q (L.length - 1 - Q) (by omega) hq2
  generalize L[Q] = y1 at *
  generalize L[L.length - 1 - Q] = y2 at *
  have m1 : x.m * a ≤ 100000 * 1000 := Int.mul_le_mul hmm.2 (by omega) (by omega) (by omega)
  have m2 : 0 ≤ x.m * a := Int.mul_nonneg hmm.1 (by omega)
  have m3 : x.m * b ≤ 100000 * 1000 := Int.mul_le_mul hmm.2 (by omega) (by omega) (by omega)
  have m4 : 0 ≤ x.m * b := Int.mul_nonneg hmm.1 (by omega)
  have hn0 : ¬ (L.length : Int) = 0 := by omega
  have hnf : ¬ (L.length : Int) < x.f := by omega
  have r1 : inR 0 x.m 100000 = true := (inR_iff _ _ _).2 ⟨by omega, by omega⟩
  have r2 : inR 0 a 1000 = true := (inR_iff _ _ _).2 ⟨by omega, by omega⟩
  have r3 : inR 0 b 1000 = true := (inR_iff _ _ _).2 ⟨by omega, by omega⟩
  have c0 := (hO2).cell (o := 0) rfl hvs
  have c1 := (hO2).cell (o := 1) rfl hvf
  have c2 := (hO2).cell (o := 2) rfl rfl
  have c3 := (hO2).cell (o := 3) rfl rfl
  have c4 := (hO2).cell (o := 4) rfl rfl
  have u0 := (hW2).cell (o := 0) rfl rfl
  have u1 := (hW2).cell (o := 1) rfl rfl
  have u2 := (hW2).cell (o := 2) rfl rfl
  have t0 := (hN2).cell (o := 0) rfl rfl
  have t1 := (hN2).cell (o := 1) rfl rfl
  have t2 := (hN2).cell (o := 2) rfl rfl
  have v0 := (hV2).cell (o := 0) rfl rfl
  have v1 := (hV2).cell (o := 1) rfl rfl
  simp -dsimp -implicitDefEqProofs (maxSteps := 2000000) (disch := first | assumption | omega | (simp only [AW.next_push, AW.next_put]; omega) | ((repeat refine Fresh.push ?_ _); assumption) | (simp only [same_int, same_bool, same_ptr, same_slice, same_sliceP, same_nil, same_agg2, same_string]; done) | (simp [oneCell, AW.next_push]; done) | fail) only [go_sem, Nat.reduceEqDiff, reduceIte, Nat.reduceAdd, Int.toNat_natCast, Nat.add_zero, Owes_true, Try.results6, Nat.zero_add, hn0, hnf, c2, c4, ne_eq, not_true]
  apply callV_of (e := rfl)
  · exact From_ok _ _ _ _
  rintro _ _ ⟨rfl, rfl⟩
  simp -dsimp -implicitDefEqProofs (maxSteps := 2000000) (disch := first | assumption | omega | (simp only [AW.next_push, AW.next_put]; omega) | ((repeat refine Fresh.push ?_ _); assumption) | (simp only [same_int, same_bool, same_ptr, same_slice, same_sliceP, same_nil, same_agg2, same_string]; done) | (simp [oneCell, AW.next_push]; done) | fail) only [go_sem, Nat.reduceEqDiff, reduceIte, Nat.reduceAdd, Int.toNat_natCast, Nat.add_zero, Owes_true, Try.results6, r1, Nat.zero_add, u1]
  apply callV_of (e := rfl)
  · exact From_ok _ _ _ _
  rintro _ _ ⟨rfl, rfl⟩
  simp -dsimp -implicitDefEqProofs (maxSteps := 2000000) (disch := first | assumption | omega | (simp only [AW.next_push, AW.next_put]; omega) | ((repeat refine Fresh.push ?_ _); assumption) | (simp only [same_int, same_bool, same_ptr, same_slice, same_sliceP, same_nil, same_agg2, same_string]; done) | (simp [oneCell, AW.next_push]; done) | fail) only [go_sem, Nat.reduceEqDiff, reduceIte, Nat.reduceAdd, Int.toNat_natCast, Nat.add_zero, Owes_true, Try.results6, r2, Nat.zero_add, u2]
  apply callV_of (e := rfl)
  · exact From_ok _ _ _ _
  rintro _ _ ⟨rfl, rfl⟩
  have hle := WLe.refl w2
  simp -dsimp -implicitDefEqProofs (maxSteps := 2000000) (disch := first | assumption | omega | (simp only [AW.next_push, AW.next_put]; omega) | ((repeat refine Fresh.push ?_ _); assumption) | (simp only [same_int, same_bool, same_ptr, same_slice, same_sliceP, same_nil, same_agg2, same_string]; done) | (simp [oneCell, AW.next_push]; done) | fail) only [go_sem, Nat.reduceEqDiff, reduceIte, Nat.reduceAdd, Int.toNat_natCast, Nat.add_zero, Owes_true, Try.results6, r3]
  refine loopR (fun k t ds w3 => ∃ i : Nat, i ≤ L.length ∧ k = L.length - i ∧ ds = [] ∧ ev t (.tmp 3) = .pointer (some ⟨w.next, 0, none⟩) ∧ ev t (.tmp 4) = .pointer (some ⟨w.next + 1, 0, none⟩) ∧ ev t (.tmp 5) = .pointer (some ⟨w.next + 1 + 1, 0, none⟩) ∧ ev t (.tmp 7) = .pointer (some ⟨w1.next, 0, none⟩) ∧ ev t (.tmp 9) = .slice rp L.length rc ∧ ev t (.tmp 11) = .int .i64 (i : Int) ∧ w2 = w3 ∧ (∃ M : Int, ev t (.tmp 10) = .int .i64 M ∧ 0 ≤ M ∧ M ≤ i ∧ min (i : Int) ((L.length : Int) - Q) - Q ≤ M)) (L.length) ?_ ?_
  · refine ⟨0, by omega, by omega, rfl, ?_, ?_, ?_, ?_, ?_, ?_, rfl, ⟨0, by simp -dsimp -implicitDefEqProofs (maxSteps := 2000000) (disch := first | assumption | omega | (simp only [AW.next_push, AW.next_put]; omega) | ((repeat refine Fresh.push ?_ _); assumption) | (simp only [same_int, same_bool, same_ptr, same_slice, same_sliceP, same_nil, same_agg2, same_string]; done) | (simp [oneCell, AW.next_push]; done) | fail) only [go_sem, Nat.reduceEqDiff, reduceIte, Nat.reduceAdd, Int.toNat_natCast, Nat.add_zero, Owes_true], by omega, by omega, by omega⟩⟩ <;> simp -dsimp -implicitDefEqProofs (maxSteps := 2000000) (disch := first | assumption | omega | (simp only [AW.next_push, AW.next_put]; omega) | ((repeat refine Fresh.push ?_ _); assumption) | (simp only [same_int, same_bool, same_ptr, same_slice, same_sliceP, same_nil, same_agg2, same_string]; done) | (simp [oneCell, AW.next_push]; done) | fail) only [go_sem, Nat.reduceEqDiff, reduceIte, Nat.reduceAdd, Int.toNat_natCast, Nat.add_zero, Owes_true] <;> rfl
  rintro k t ds w3 ⟨i, hii, rfl, rfl, e3, e4, e5, e7, e9, e11, hw, hM⟩
  subst hw
  obtain ⟨M, e10, hM0, hM1, hM2⟩ := hM
  by_cases hlt : (i : Int) < (L.length : Int)
  case neg =>
    obtain rfl : i = L.length := by omega
    have hw1 : 1 ≤ b - a + 1 := by omega
    simp -dsimp -implicitDefEqProofs (maxSteps := 2000000) (disch := first | assumption | omega | (simp only [AW.next_push, AW.next_put]; omega) | ((repeat refine Fresh.push ?_ _); assumption) | (simp only [same_int, same_bool, same_ptr, same_slice, same_sliceP, same_nil, same_agg2, same_string]; done) | (simp [oneCell, AW.next_push]; done) | fail) only [go_sem, Nat.reduceEqDiff, reduceIte, Nat.reduceAdd, Int.toNat_natCast, Nat.add_zero, Owes_true, Try.results6, e3, e4, e5, e7, e9, e10, e11, hlt, Nat.zero_add, u1, u2, t0]
    apply callV_of (e := rfl)
    · exact Ring_ok N0 (b - a + 1) hw1 (by omega) w2
    rintro _ _ ⟨k1, rfl, k10, k11, rfl⟩
    have hlq : ((L.length : Int) - 1).tdiv 4 = (Q : Int) := by
      rw [Int.tdiv_eq_ediv_of_nonneg (by omega)]; omega
    have hn4 : ¬ (4 : Int) = 0 := by decide
    simp -dsimp -implicitDefEqProofs (maxSteps := 2000000) (disch := first | assumption | omega | (simp only [AW.next_push, AW.next_put]; omega) | ((repeat refine Fresh.push ?_ _); assumption) | (simp only [same_int, same_bool, same_ptr, same_slice, same_sliceP, same_nil, same_agg2, same_string]; done) | (simp [oneCell, AW.next_push]; done) | fail) only [go_sem, Nat.reduceEqDiff, reduceIte, Nat.reduceAdd, Int.toNat_natCast, Nat.add_zero, Owes_true, Try.results6, e3, e4, e5, e7, e9, e10, e11, hle, hlq, hn4, Nat.zero_add, t1]
    apply callV_of (e := rfl)
    · exact Ring_ok N1 ((L.length : Int) - 2 * (Q : Int)) (by omega) (by omega) w2
    rintro _ _ ⟨k2, rfl, k20, k21, rfl⟩
    obtain ⟨K2, rfl⟩ := Int.eq_ofNat_of_zero_le k20
    have hJ : Q + K2 < L.length := by omega
    have hJn : (Q : Int) + (K2 : Int) = ((Q + K2 : Nat) : Int) := by omega
    have hJl : ((Q + K2 : Nat) : Int) < (L.length : Int) := by omega
    obtain ⟨b1, o1, rfl, hb1, hcell⟩ := hat _ hJ
    have a0 := hcell w2 (.refl _ _) 0 _ rfl
    rw [Nat.add_zero] at a0
    have j1 := hlo _ hJ (by omega)
    have j2 := hhi _ hJ (by omega)
    have j3 := hin _ (List.getElem_mem hJ)
    generalize L[Q + K2] = y at *
    have p1 : x.m * a ≤ x.m * (a + k1) := Int.mul_le_mul_of_nonneg_left (by omega) hmm.1
    have p2 : x.m * (a + k1) ≤ x.m * b := Int.mul_le_mul_of_nonneg_left (by omega) hmm.1
    have r4 : inR Mn (y + x.m * (a + k1)) Mx = true := (inR_iff _ _ _).2 ⟨by omega, by omega⟩
    have h2M : ¬ 2 * M < (L.length : Int) := by omega
    generalize hJx : Q + K2 = J at *
    simp -dsimp -implicitDefEqProofs (maxSteps := 2000000) (disch := first | assumption | omega | (simp only [AW.next_push, AW.next_put]; omega) | ((repeat refine Fresh.push ?_ _); assumption) | (simp only [same_int, same_bool, same_ptr, same_slice, same_sliceP, same_nil, same_agg2, same_string]; done) | (simp [oneCell, AW.next_push]; done) | fail) only [go_sem, Nat.reduceEqDiff, reduceIte, Nat.reduceAdd, Int.toNat_natCast, Nat.add_zero, Owes_true, Try.results6, e3, e4, e5, e7, e9, e10, e11, Nat.zero_add, hJn, hJl, indexV_eq, a0, v0, v1, c2]
    apply callV_of (e := rfl)
    · exact From_ok _ _ _ _
    rintro _ _ ⟨rfl, rfl⟩
    simp -dsimp -implicitDefEqProofs (maxSteps := 2000000) (disch := first | assumption | omega | (simp only [AW.next_push, AW.next_put]; omega) | ((repeat refine Fresh.push ?_ _); assumption) | (simp only [same_int, same_bool, same_ptr, same_slice, same_sliceP, same_nil, same_agg2, same_string]; done) | (simp [oneCell, AW.next_push]; done) | fail) only [go_sem, Nat.reduceEqDiff, reduceIte, Nat.reduceAdd, Int.toNat_natCast, Nat.add_zero, Owes_true, Try.results6, e3, e4, e5, e7, e9, e10, e11, r4, h2M, Nat.zero_add, c2, t2]
    apply callV_of (e := rfl)
    · exact Ring_ok N2 (100001 - x.m) (by omega) (by omega) w2
    rintro _ _ ⟨k3, rfl, k30, k31, rfl⟩
    have st := storeV_own1 (o := 2) (v := .int .i64 (x.m + k3)) hO2 (by simp) rfl
    have hO3 := hO2.put [.slice p S.length cap, .slice q F.length cap2, .int .i64 (x.m + k3), .int .i64 x.d, .int .i64 x.f]
    have mm3 := (Mut.refl g2.2).put hO2 (.cells [.slice p S.length cap, .slice q F.length cap2, .int .i64 (x.m + k3), .int .i64 x.d, .int .i64 x.f] 25 w.next 0 0)
    have hW3 := mm3.own hW2 (by omega)
    have hV3 := mm3.own hV2 (by have h7 := g1'.1.next; have h8 := hO1.lt; have h9 := hO.lt; have h10 := hg1.1.next; omega)
    have g3 : Grown w (w2.put w.next (.cells [.slice p S.length cap, .slice q F.length cap2, .int .i64 (x.m + k3), .int .i64 x.d, .int .i64 x.f] 25 w.next 0 0)) := ⟨g2.1.put (by omega) _, g2.2.put hO2.lt _⟩
    simp only [setL] at st
    simp -dsimp -implicitDefEqProofs (maxSteps := 2000000) (disch := first | assumption | omega | (simp only [AW.next_push, AW.next_put]; omega) | ((repeat refine Fresh.push ?_ _); assumption) | (simp only [same_int, same_bool, same_ptr, same_slice, same_sliceP, same_nil, same_agg2, same_string]; done) | (simp [oneCell, AW.next_push]; done) | fail) only [go_sem, Nat.reduceEqDiff, reduceIte, Nat.reduceAdd, Int.toNat_natCast, Nat.add_zero, Owes_true, Try.results6, e3, e4, e5, e7, e9, e10, e11, hle, Nat.zero_add, st]
    generalize w2.put w.next (.cells [.slice p S.length cap, .slice q F.length cap2, .int .i64 (x.m + k3), .int .i64 x.d, .int .i64 x.f] 25 w.next 0 0) = w3 at *
    have c0 := (hO3).cell (o := 0) rfl hvs
    have c1 := (hO3).cell (o := 1) rfl hvf
    have c2 := (hO3).cell (o := 2) rfl rfl
    have c3 := (hO3).cell (o := 3) rfl rfl
    have c4 := (hO3).cell (o := 4) rfl rfl
    have u0 := (hW3).cell (o := 0) rfl rfl
    have u1 := (hW3).cell (o := 1) rfl rfl
    have u2 := (hW3).cell (o := 2) rfl rfl
    simp -dsimp -implicitDefEqProofs (maxSteps := 2000000) (disch := first | assumption | omega | (simp only [AW.next_push, AW.next_put]; omega) | ((repeat refine Fresh.push ?_ _); assumption) | (simp only [same_int, same_bool, same_ptr, same_slice, same_sliceP, same_nil, same_agg2, same_string]; done) | (simp [oneCell, AW.next_push]; done) | fail) only [go_sem, Nat.reduceEqDiff, reduceIte, Nat.reduceAdd, Int.toNat_natCast, Nat.add_zero, Owes_true, Try.results6, e3, e4, e5, e7, e9, e10, e11, Nat.zero_add, c0, c1, c2, c3, c4, u0, u1, u2]
    apply callV_of (e := rfl)
    · exact Value_ok ⟨x.m + k3, x.d, x.f⟩ S F _ _ kd a b w3 g3.2 (hS.grown g3) (hs.grown g3)
    rintro _ w4 ⟨rfl, hg4⟩
    have hE' := hmore (x.m + k3) (by omega) (by omega)
    rw [hvn _ hE', hvx _ hE', hE']
    have s1 : x.m * a ≤ (x.m + k3) * a := Int.mul_le_mul_of_nonneg_right (by omega) (by omega)
    have s2 : x.m * b ≤ (x.m + k3) * b := Int.mul_le_mul_of_nonneg_right (by omega) (by omega)
    have hV4 := (hV3.keep hg4.1).push (.cells [.int .i64 (y1 + (x.m + k3) * a), .int .i64 (y2 + (x.m + k3) * b)] 27 w4.next 0 0)
    have f4 := (g3.trans hg4).2
    have hU := Own.new f4 27 [.int .i64 (y1 + (x.m + k3) * a), .int .i64 (y2 + (x.m + k3) * b)]
    have v0 := (hV4).cell (o := 0) rfl rfl
    have v1 := (hV4).cell (o := 1) rfl rfl
    have z0 := (hU).cell (o := 0) rfl rfl
    have z1 := (hU).cell (o := 1) rfl rfl
    have l1 : Mn ≤ y1 + (x.m + k3) * a := by omega
    have l2 : Mx ≤ y2 + (x.m + k3) * b := by omega
    have l1d : decide (y1 + (x.m + k3) * a ≥ Mn) = true := decide_eq_true l1
    have l2d : decide (y2 + (x.m + k3) * b ≥ Mx) = true := decide_eq_true l2
    simp -dsimp -implicitDefEqProofs (maxSteps := 2000000) (disch := first | assumption | omega | (simp only [AW.next_push, AW.next_put]; omega) | ((repeat refine Fresh.push ?_ _); assumption) | (simp only [same_int, same_bool, same_ptr, same_slice, same_sliceP, same_nil, same_agg2, same_string]; done) | (simp [oneCell, AW.next_push]; done) | fail) only [go_sem, Nat.reduceEqDiff, reduceIte, Nat.reduceAdd, Int.toNat_natCast, Nat.add_zero, Owes_true, Try.results6, e3, e4, e5, e7, e9, e10, e11, Nat.zero_add, v0, v1, z0, z1, l1, l2, l1d, l2d]
    apply callV_of (e := rfl)
    · exact callT_told (Q := fun v w' => v = .bool true ∧ _ = w') (v := .bool true) (w' := _) rfl ⟨rfl, rfl⟩
    rintro _ _ ⟨rfl, rfl⟩
    simp -dsimp -implicitDefEqProofs (maxSteps := 2000000) (disch := first | assumption | omega | (simp only [AW.next_push, AW.next_put]; omega) | ((repeat refine Fresh.push ?_ _); assumption) | (simp only [same_int, same_bool, same_ptr, same_slice, same_sliceP, same_nil, same_agg2, same_string]; done) | (simp [oneCell, AW.next_push]; done) | fail) only [go_sem, Nat.reduceEqDiff, reduceIte, Nat.reduceAdd, Int.toNat_natCast, Nat.add_zero, Owes_true, Try.results6]
  have hlt' : i < L.length := by omega
  obtain ⟨b1, o1, rfl, hb1, hcell⟩ := hat _ hlt'
  have a0 := hcell w2 (.refl _ _) 0 _ rfl
  rw [Nat.add_zero] at a0
  have j3 := hin _ (List.getElem_mem hlt')
  have jlo := hlo i hlt'
  have jhi := hhi i hlt'
  have e1 : Mn - x.m * a = y1 := by omega
  have e2 : Mx - x.m * b = y2 := by omega
  have hneg : ¬ L[i] < 0 := by omega
  have hout : inR (Mn - x.m * a) L[i] (Mx - x.m * b) = false → (i : Int) < Q ∨ (L.length : Int) - 1 - Q < i := fun hq => by
    by_cases z1 : Q ≤ i
    · by_cases z2 : i ≤ L.length - 1 - Q
      · have : inR (Mn - x.m * a) L[i] (Mx - x.m * b) = true := (inR_iff _ _ _).2 ⟨by have := jlo z1; omega, by have := jhi z2; omega⟩
        rw [hq] at this; cases this
      · right; omega
    · left; omega
  by_cases hi0 : i = 0
  · have hnp : ¬ (0 : Int) < (i : Int) := by omega
    simp -dsimp -implicitDefEqProofs (maxSteps := 2000000) (disch := first | assumption | omega | (simp only [AW.next_push, AW.next_put]; omega) | ((repeat refine Fresh.push ?_ _); assumption) | (simp only [same_int, same_bool, same_ptr, same_slice, same_sliceP, same_nil, same_agg2, same_string]; done) | (simp [oneCell, AW.next_push]; done) | fail) only [go_sem, Nat.reduceEqDiff, reduceIte, Nat.reduceAdd, Int.toNat_natCast, Nat.add_zero, Owes_true, Try.results6, e3, e4, e5, e7, e9, e10, e11, hlt, hnp, indexV_eq, a0, hneg, Nat.zero_add]
    simp -dsimp -implicitDefEqProofs (maxSteps := 2000000) (disch := first | assumption | omega | (simp only [AW.next_push, AW.next_put]; omega) | ((repeat refine Fresh.push ?_ _); assumption) | (simp only [same_int, same_bool, same_ptr, same_slice, same_sliceP, same_nil, same_agg2, same_string]; done) | (simp [oneCell, AW.next_push]; done) | fail) only [go_sem, Nat.reduceEqDiff, reduceIte, Nat.reduceAdd, Int.toNat_natCast, Nat.add_zero, Owes_true, Try.results6, e3, e4, e5, e7, e9, e10, e11, v0, v1, c2, u1, u2, indexV_eq, hlt, a0, Nat.zero_add]
    apply callV_of (e := rfl)
    · exact From_ok _ _ _ _
    rintro _ _ ⟨rfl, rfl⟩
    cases hq : inR (Mn - x.m * a) L[i] (Mx - x.m * b) with
    | true =>
      simp -dsimp -implicitDefEqProofs (maxSteps := 2000000) (disch := first | assumption | omega | (simp only [AW.next_push, AW.next_put]; omega) | ((repeat refine Fresh.push ?_ _); assumption) | (simp only [same_int, same_bool, same_ptr, same_slice, same_sliceP, same_nil, same_agg2, same_string]; done) | (simp [oneCell, AW.next_push]; done) | fail) only [go_sem, Nat.reduceEqDiff, reduceIte, Nat.reduceAdd, Int.toNat_natCast, Nat.add_zero, Owes_true, Try.results6, e3, e4, e5, e7, e9, e10, e11]
      refine ⟨_, by omega, i + 1, by omega, rfl, rfl, by (simp -dsimp -implicitDefEqProofs (maxSteps := 2000000) (disch := first | assumption | omega | (simp only [AW.next_push, AW.next_put]; omega) | ((repeat refine Fresh.push ?_ _); assumption) | (simp only [same_int, same_bool, same_ptr, same_slice, same_sliceP, same_nil, same_agg2, same_string]; done) | (simp [oneCell, AW.next_push]; done) | fail) only [go_sem, Nat.reduceEqDiff, reduceIte, Nat.reduceAdd, Int.toNat_natCast, Nat.add_zero, Owes_true, e3]; try rfl), by (simp -dsimp -implicitDefEqProofs (maxSteps := 2000000) (disch := first | assumption | omega | (simp only [AW.next_push, AW.next_put]; omega) | ((repeat refine Fresh.push ?_ _); assumption) | (simp only [same_int, same_bool, same_ptr, same_slice, same_sliceP, same_nil, same_agg2, same_string]; done) | (simp [oneCell, AW.next_push]; done) | fail) only [go_sem, Nat.reduceEqDiff, reduceIte, Nat.reduceAdd, Int.toNat_natCast, Nat.add_zero, Owes_true, e4]; try rfl), by (simp -dsimp -implicitDefEqProofs (maxSteps := 2000000) (disch := first | assumption | omega | (simp only [AW.next_push, AW.next_put]; omega) | ((repeat refine Fresh.push ?_ _); assumption) | (simp only [same_int, same_bool, same_ptr, same_slice, same_sliceP, same_nil, same_agg2, same_string]; done) | (simp [oneCell, AW.next_push]; done) | fail) only [go_sem, Nat.reduceEqDiff, reduceIte, Nat.reduceAdd, Int.toNat_natCast, Nat.add_zero, Owes_true, e5]; try rfl), by (simp -dsimp -implicitDefEqProofs (maxSteps := 2000000) (disch := first | assumption | omega | (simp only [AW.next_push, AW.next_put]; omega) | ((repeat refine Fresh.push ?_ _); assumption) | (simp only [same_int, same_bool, same_ptr, same_slice, same_sliceP, same_nil, same_agg2, same_string]; done) | (simp [oneCell, AW.next_push]; done) | fail) only [go_sem, Nat.reduceEqDiff, reduceIte, Nat.reduceAdd, Int.toNat_natCast, Nat.add_zero, Owes_true, e7]; try rfl), by (simp -dsimp -implicitDefEqProofs (maxSteps := 2000000) (disch := first | assumption | omega | (simp only [AW.next_push, AW.next_put]; omega) | ((repeat refine Fresh.push ?_ _); assumption) | (simp only [same_int, same_bool, same_ptr, same_slice, same_sliceP, same_nil, same_agg2, same_string]; done) | (simp [oneCell, AW.next_push]; done) | fail) only [go_sem, Nat.reduceEqDiff, reduceIte, Nat.reduceAdd, Int.toNat_natCast, Nat.add_zero, Owes_true, e9]; try rfl), by (simp -dsimp -implicitDefEqProofs (maxSteps := 2000000) (disch := first | assumption | omega | (simp only [AW.next_push, AW.next_put]; omega) | ((repeat refine Fresh.push ?_ _); assumption) | (simp only [same_int, same_bool, same_ptr, same_slice, same_sliceP, same_nil, same_agg2, same_string]; done) | (simp [oneCell, AW.next_push]; done) | fail) only [go_sem, Nat.reduceEqDiff, reduceIte, Nat.reduceAdd, Int.toNat_natCast, Nat.add_zero, Owes_true, e11]; try rfl), rfl, ⟨M + 1, by simp -dsimp -implicitDefEqProofs (maxSteps := 2000000) (disch := first | assumption | omega | (simp only [AW.next_push, AW.next_put]; omega) | ((repeat refine Fresh.push ?_ _); assumption) | (simp only [same_int, same_bool, same_ptr, same_slice, same_sliceP, same_nil, same_agg2, same_string]; done) | (simp [oneCell, AW.next_push]; done) | fail) only [go_sem, Nat.reduceEqDiff, reduceIte, Nat.reduceAdd, Int.toNat_natCast, Nat.add_zero, Owes_true], by omega, by omega, by omega⟩⟩
    | false =>
      have := hout hq
      simp -dsimp -implicitDefEqProofs (maxSteps := 2000000) (disch := first | assumption | omega | (simp only [AW.next_push, AW.next_put]; omega) | ((repeat refine Fresh.push ?_ _); assumption) | (simp only [same_int, same_bool, same_ptr, same_slice, same_sliceP, same_nil, same_agg2, same_string]; done) | (simp [oneCell, AW.next_push]; done) | fail) only [go_sem, Nat.reduceEqDiff, reduceIte, Nat.reduceAdd, Int.toNat_natCast, Nat.add_zero, Owes_true, Try.results6, e3, e4, e5, e7, e9, e10, e11]
      refine ⟨_, by omega, i + 1, by omega, rfl, rfl, by (simp -dsimp -implicitDefEqProofs (maxSteps := 2000000) (disch := first | assumption | omega | (simp only [AW.next_push, AW.next_put]; omega) | ((repeat refine Fresh.push ?_ _); assumption) | (simp only [same_int, same_bool, same_ptr, same_slice, same_sliceP, same_nil, same_agg2, same_string]; done) | (simp [oneCell, AW.next_push]; done) | fail) only [go_sem, Nat.reduceEqDiff, reduceIte, Nat.reduceAdd, Int.toNat_natCast, Nat.add_zero, Owes_true, e3]; try rfl), by (simp -dsimp -implicitDefEqProofs (maxSteps := 2000000) (disch := first | assumption | omega | (simp only [AW.next_push, AW.next_put]; omega) | ((repeat refine Fresh.push ?_ _); assumption) | (simp only [same_int, same_bool, same_ptr, same_slice, same_sliceP, same_nil, same_agg2, same_string]; done) | (simp [oneCell, AW.next_push]; done) | fail) only [go_sem, Nat.reduceEqDiff, reduceIte, Nat.reduceAdd, Int.toNat_natCast, Nat.add_zero, Owes_true, e4]; try rfl), by (simp -dsimp -implicitDefEqProofs (maxSteps := 2000000) (disch := first | assumption | omega | (simp only [AW.next_push, AW.next_put]; omega) | ((repeat refine Fresh.push ?_ _); assumption) | (simp only [same_int, same_bool, same_ptr, same_slice, same_sliceP, same_nil, same_agg2, same_string]; done) | (simp [oneCell, AW.next_push]; done) | fail) only [go_sem, Nat.reduceEqDiff, reduceIte, Nat.reduceAdd, Int.toNat_natCast, Nat.add_zero, Owes_true, e5]; try rfl), by (simp -dsimp -implicitDefEqProofs (maxSteps := 2000000) (disch := first | assumption | omega | (simp only [AW.next_push, AW.next_put]; omega) | ((repeat refine Fresh.push ?_ _); assumption) | (simp only [same_int, same_bool, same_ptr, same_slice, same_sliceP, same_nil, same_agg2, same_string]; done) | (simp [oneCell, AW.next_push]; done) | fail) only [go_sem, Nat.reduceEqDiff, reduceIte, Nat.reduceAdd, Int.toNat_natCast, Nat.add_zero, Owes_true, e7]; try rfl), by (simp -dsimp -implicitDefEqProofs (maxSteps := 2000000) (disch := first | assumption | omega | (simp only [AW.next_push, AW.next_put]; omega) | ((repeat refine Fresh.push ?_ _); assumption) | (simp only [same_int, same_bool, same_ptr, same_slice, same_sliceP, same_nil, same_agg2, same_string]; done) | (simp [oneCell, AW.next_push]; done) | fail) only [go_sem, Nat.reduceEqDiff, reduceIte, Nat.reduceAdd, Int.toNat_natCast, Nat.add_zero, Owes_true, e9]; try rfl), by (simp -dsimp -implicitDefEqProofs (maxSteps := 2000000) (disch := first | assumption | omega | (simp only [AW.next_push, AW.next_put]; omega) | ((repeat refine Fresh.push ?_ _); assumption) | (simp only [same_int, same_bool, same_ptr, same_slice, same_sliceP, same_nil, same_agg2, same_string]; done) | (simp [oneCell, AW.next_push]; done) | fail) only [go_sem, Nat.reduceEqDiff, reduceIte, Nat.reduceAdd, Int.toNat_natCast, Nat.add_zero, Owes_true, e11]; try rfl), rfl, ⟨M, by simp -dsimp -implicitDefEqProofs (maxSteps := 2000000) (disch := first | assumption | omega | (simp only [AW.next_push, AW.next_put]; omega) | ((repeat refine Fresh.push ?_ _); assumption) | (simp only [same_int, same_bool, same_ptr, same_slice, same_sliceP, same_nil, same_agg2, same_string]; done) | (simp [oneCell, AW.next_push]; done) | fail) only [go_sem, Nat.reduceEqDiff, reduceIte, Nat.reduceAdd, Int.toNat_natCast, Nat.add_zero, Owes_true, e10], by omega, by omega, by omega⟩⟩
  · obtain ⟨j, hij⟩ : ∃ j, i = j + 1 := ⟨i - 1, by omega⟩
    have hnp : (0 : Int) < (i : Int) := by omega
    have hj : (i : Int) - 1 = (j : Int) := by omega
    have hjl : j < L.length := by omega
    have hjl' : (j : Int) < (L.length : Int) := by omega
    obtain ⟨b2, o2, hp2, hb2, hcell2⟩ := hat j hjl
    injection hp2 with hp2
    injection hp2 with hp3 hp4 hp5
    subst hp3 hp4
    have d0 := hcell2 w2 (.refl _ _) 0 _ rfl
    rw [Nat.add_zero] at d0
    have hord : ¬ L[i] < L[j] := by have := hsrt j i (by omega) hlt'; omega
    have hordd : decide (L[j] > L[i]) = false := decide_eq_false hord
    simp -dsimp -implicitDefEqProofs (maxSteps := 2000000) (disch := first | assumption | omega | (simp only [AW.next_push, AW.next_put]; omega) | ((repeat refine Fresh.push ?_ _); assumption) | (simp only [same_int, same_bool, same_ptr, same_slice, same_sliceP, same_nil, same_agg2, same_string]; done) | (simp [oneCell, AW.next_push]; done) | fail) only [go_sem, Nat.reduceEqDiff, reduceIte, Nat.reduceAdd, Int.toNat_natCast, Nat.add_zero, Owes_true, Try.results6, e3, e4, e5, e7, e9, e10, e11, hlt, hnp, hj, hjl', indexV_eq, a0, d0, hneg, hord, hordd, Nat.zero_add]
    simp -dsimp -implicitDefEqProofs (maxSteps := 2000000) (disch := first | assumption | omega | (simp only [AW.next_push, AW.next_put]; omega) | ((repeat refine Fresh.push ?_ _); assumption) | (simp only [same_int, same_bool, same_ptr, same_slice, same_sliceP, same_nil, same_agg2, same_string]; done) | (simp [oneCell, AW.next_push]; done) | fail) only [go_sem, Nat.reduceEqDiff, reduceIte, Nat.reduceAdd, Int.toNat_natCast, Nat.add_zero, Owes_true, Try.results6, e3, e4, e5, e7, e9, e10, e11, v0, v1, c2, u1, u2, indexV_eq, hlt, a0, Nat.zero_add]
    apply callV_of (e := rfl)
    · exact From_ok _ _ _ _
    rintro _ _ ⟨rfl, rfl⟩
    cases hq : inR (Mn - x.m * a) L[i] (Mx - x.m * b) with
    | true =>
      simp -dsimp -implicitDefEqProofs (maxSteps := 2000000) (disch := first | assumption | omega | (simp only [AW.next_push, AW.next_put]; omega) | ((repeat refine Fresh.push ?_ _); assumption) | (simp only [same_int, same_bool, same_ptr, same_slice, same_sliceP, same_nil, same_agg2, same_string]; done) | (simp [oneCell, AW.next_push]; done) | fail) only [go_sem, Nat.reduceEqDiff, reduceIte, Nat.reduceAdd, Int.toNat_natCast, Nat.add_zero, Owes_true, Try.results6, e3, e4, e5, e7, e9, e10, e11]
      refine ⟨_, by omega, i + 1, by omega, rfl, rfl, by (simp -dsimp -implicitDefEqProofs (maxSteps := 2000000) (disch := first | assumption | omega | (simp only [AW.next_push, AW.next_put]; omega) | ((repeat refine Fresh.push ?_ _); assumption) | (simp only [same_int, same_bool, same_ptr, same_slice, same_sliceP, same_nil, same_agg2, same_string]; done) | (simp [oneCell, AW.next_push]; done) | fail) only [go_sem, Nat.reduceEqDiff, reduceIte, Nat.reduceAdd, Int.toNat_natCast, Nat.add_zero, Owes_true, e3]; try rfl), by (simp -dsimp -implicitDefEqProofs (maxSteps := 2000000) (disch := first | assumption | omega | (simp only [AW.next_push, AW.next_put]; omega) | ((repeat refine Fresh.push ?_ _); assumption) | (simp only [same_int, same_bool, same_ptr, same_slice, same_sliceP, same_nil, same_agg2, same_string]; done) | (simp [oneCell, AW.next_push]; done) | fail) only [go_sem, Nat.reduceEqDiff, reduceIte, Nat.reduceAdd, Int.toNat_natCast, Nat.add_zero, Owes_true, e4]; try rfl), by (simp -dsimp -implicitDefEqProofs (maxSteps := 2000000) (disch := first | assumption | omega | (simp only [AW.next_push, AW.next_put]; omega) | ((repeat refine Fresh.push ?_ _); assumption) | (simp only [same_int, same_bool, same_ptr, same_slice, same_sliceP, same_nil, same_agg2, same_string]; done) | (simp [oneCell, AW.next_push]; done) | fail) only [go_sem, Nat.reduceEqDiff, reduceIte, Nat.reduceAdd, Int.toNat_natCast, Nat.add_zero, Owes_true, e5]; try rfl), by (simp -dsimp -implicitDefEqProofs (maxSteps := 2000000) (disch := first | assumption | omega | (simp only [AW.next_push, AW.next_put]; omega) | ((repeat refine Fresh.push ?_ _); assumption) | (simp only [same_int, same_bool, same_ptr, same_slice, same_sliceP, same_nil, same_agg2, same_string]; done) | (simp [oneCell, AW.next_push]; done) | fail) only [go_sem, Nat.reduceEqDiff, reduceIte, Nat.reduceAdd, Int.toNat_natCast, Nat.add_zero, Owes_true, e7]; try rfl), by (simp -dsimp -implicitDefEqProofs (maxSteps := 2000000) (disch := first | assumption | omega | (simp only [AW.next_push, AW.next_put]; omega) | ((repeat refine Fresh.push ?_ _); assumption) | (simp only [same_int, same_bool, same_ptr, same_slice, same_sliceP, same_nil, same_agg2, same_string]; done) | (simp [oneCell, AW.next_push]; done) | fail) only [go_sem, Nat.reduceEqDiff, reduceIte, Nat.reduceAdd, Int.toNat_natCast, Nat.add_zero, Owes_true, e9]; try rfl), by (simp -dsimp -implicitDefEqProofs (maxSteps := 2000000) (disch := first | assumption | omega | (simp only [AW.next_push, AW.next_put]; omega) | ((repeat refine Fresh.push ?_ _); assumption) | (simp only [same_int, same_bool, same_ptr, same_slice, same_sliceP, same_nil, same_agg2, same_string]; done) | (simp [oneCell, AW.next_push]; done) | fail) only [go_sem, Nat.reduceEqDiff, reduceIte, Nat.reduceAdd, Int.toNat_natCast, Nat.add_zero, Owes_true, e11]; try rfl), rfl, ⟨M + 1, by simp -dsimp -implicitDefEqProofs (maxSteps := 2000000) (disch := first | assumption | omega | (simp only [AW.next_push, AW.next_put]; omega) | ((repeat refine Fresh.push ?_ _); assumption) | (simp only [same_int, same_bool, same_ptr, same_slice, same_sliceP, same_nil, same_agg2, same_string]; done) | (simp [oneCell, AW.next_push]; done) | fail) only [go_sem, Nat.reduceEqDiff, reduceIte, Nat.reduceAdd, Int.toNat_natCast, Nat.add_zero, Owes_true], by omega, by omega, by omega⟩⟩
    | false =>
      have := hout hq
      simp -dsimp -implicitDefEqProofs (maxSteps := 2000000) (disch := first | assumption | omega | (simp only [AW.next_push, AW.next_put]; omega) | ((repeat refine Fresh.push ?_ _); assumption) | (simp only [same_int, same_bool, same_ptr, same_slice, same_sliceP, same_nil, same_agg2, same_string]; done) | (simp [oneCell, AW.next_push]; done) | fail) only [go_sem, Nat.reduceEqDiff, reduceIte, Nat.reduceAdd, Int.toNat_natCast, Nat.add_zero, Owes_true, Try.results6, e3, e4, e5, e7, e9, e10, e11]
      refine ⟨_, by omega, i + 1, by omega, rfl, rfl, by (simp -dsimp -implicitDefEqProofs (maxSteps := 2000000) (disch := first | assumption | omega | (simp only [AW.next_push, AW.next_put]; omega) | ((repeat refine Fresh.push ?_ _); assumption) | (simp only [same_int, same_bool, same_ptr, same_slice, same_sliceP, same_nil, same_agg2, same_string]; done) | (simp [oneCell, AW.next_push]; done) | fail) only [go_sem, Nat.reduceEqDiff, reduceIte, Nat.reduceAdd, Int.toNat_natCast, Nat.add_zero, Owes_true, e3]; try rfl), by (simp -dsimp -implicitDefEqProofs (maxSteps := 2000000) (disch := first | assumption | omega | (simp only [AW.next_push, AW.next_put]; omega) | ((repeat refine Fresh.push ?_ _); assumption) | (simp only [same_int, same_bool, same_ptr, same_slice, same_sliceP, same_nil, same_agg2, same_string]; done) | (simp [oneCell, AW.next_push]; done) | fail) only [go_sem, Nat.reduceEqDiff, reduceIte, Nat.reduceAdd, Int.toNat_natCast, Nat.add_zero, Owes_true, e4]; try rfl), by (simp -dsimp -implicitDefEqProofs (maxSteps := 2000000) (disch := first | assumption | omega | (simp only [AW.next_push, AW.next_put]; omega) | ((repeat refine Fresh.push ?_ _); assumption) | (simp only [same_int, same_bool, same_ptr, same_slice, same_sliceP, same_nil, same_agg2, same_string]; done) | (simp [oneCell, AW.next_push]; done) | fail) only [go_sem, Nat.reduceEqDiff, reduceIte, Nat.reduceAdd, Int.toNat_natCast, Nat.add_zero, Owes_true, e5]; try rfl), by (simp -dsimp -implicitDefEqProofs (maxSteps := 2000000) (disch := first | assumption | omega | (simp only [AW.next_push, AW.next_put]; omega) | ((repeat refine Fresh.push ?_ _); assumption) | (simp only [same_int, same_bool, same_ptr, same_slice, same_sliceP, same_nil, same_agg2, same_string]; done) | (simp [oneCell, AW.next_push]; done) | fail) only [go_sem, Nat.reduceEqDiff, reduceIte, Nat.reduceAdd, Int.toNat_natCast, Nat.add_zero, Owes_true, e7]; try rfl), by (simp -dsimp -implicitDefEqProofs (maxSteps := 2000000) (disch := first | assumption | omega | (simp only [AW.next_push, AW.next_put]; omega) | ((repeat refine Fresh.push ?_ _); assumption) | (simp only [same_int, same_bool, same_ptr, same_slice, same_sliceP, same_nil, same_agg2, same_string]; done) | (simp [oneCell, AW.next_push]; done) | fail) only [go_sem, Nat.reduceEqDiff, reduceIte, Nat.reduceAdd, Int.toNat_natCast, Nat.add_zero, Owes_true, e9]; try rfl), by (simp -dsimp -implicitDefEqProofs (maxSteps := 2000000) (disch := first | assumption | omega | (simp only [AW.next_push, AW.next_put]; omega) | ((repeat refine Fresh.push ?_ _); assumption) | (simp only [same_int, same_bool, same_ptr, same_slice, same_sliceP, same_nil, same_agg2, same_string]; done) | (simp [oneCell, AW.next_push]; done) | fail) only [go_sem, Nat.reduceEqDiff, reduceIte, Nat.reduceAdd, Int.toNat_natCast, Nat.add_zero, Owes_true, e11]; try rfl), rfl, ⟨M, by simp -dsimp -implicitDefEqProofs (maxSteps := 2000000) (disch := first | assumption | omega | (simp only [AW.next_push, AW.next_put]; omega) | ((repeat refine Fresh.push ?_ _); assumption) | (simp only [same_int, same_bool, same_ptr, same_slice, same_sliceP, same_nil, same_agg2, same_string]; done) | (simp [oneCell, AW.next_push]; done) | fail) only [go_sem, Nat.reduceEqDiff, reduceIte, Nat.reduceAdd, Int.toNat_natCast, Nat.add_zero, Owes_true, e10], by omega, by omega, by omega⟩⟩
end Go.Proofs
