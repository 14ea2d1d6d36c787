/- What is given, and the law on the machine. -/
import Derived.Test.YtdbeiefgokocnaaGreatYc
import Derived.Test.YtdbeiefgokocnaaGreatNb
import Derived.Test.YtdbeiefgokocnaaGreatRb
set_option linter.unusedVariables false
set_option linter.unusedSimpArgs false
/- Deals, acts and numbers: what is given. -/
namespace Go.Proofs
open Go Go.RowKit Go.Sim
set_option maxRecDepth 100000
theorem Tryz.und3 : Tryz.prog.underlying 3 = some (.int .i64) := Tryz.un3
theorem Tryz.und26 : Tryz.prog.underlying 26 = some (.slice 3) := by kernel_rfl
theorem Tryz.und23 : Tryz.prog.underlying 23 = some (.struct #[{ name := "Rate", type := 3, offset := 0, embedded := false, tag := "", pkgPath := "", byteOffset := 0 }, { name := "Cap", type := 3, offset := 1, embedded := false, tag := "", pkgPath := "", byteOffset := 8 }]) := by kernel_rfl
theorem Tryz.und25 : Tryz.prog.underlying 25 = some (.struct #[{ name := "Rate", type := 3, offset := 0, embedded := false, tag := "", pkgPath := "", byteOffset := 0 }, { name := "Free", type := 3, offset := 1, embedded := false, tag := "", pkgPath := "", byteOffset := 8 }, { name := "Fee", type := 3, offset := 2, embedded := false, tag := "", pkgPath := "", byteOffset := 16 }, { name := "Term", type := 3, offset := 3, embedded := false, tag := "", pkgPath := "", byteOffset := 24 }, { name := "Grace", type := 3, offset := 4, embedded := false, tag := "", pkgPath := "", byteOffset := 32 }]) := by kernel_rfl
theorem Tryz.und28 : Tryz.prog.underlying 28 = some (.struct #[{ name := "Law", type := 23, offset := 0, embedded := false, tag := "", pkgPath := "", byteOffset := 0 }, { name := "Tariff", type := 25, offset := 2, embedded := false, tag := "", pkgPath := "", byteOffset := 16 }, { name := "Closed", type := 26, offset := 7, embedded := false, tag := "", pkgPath := "", byteOffset := 56 }, { name := "Start", type := 3, offset := 8, embedded := false, tag := "", pkgPath := "", byteOffset := 80 }, { name := "Sum", type := 3, offset := 9, embedded := false, tag := "", pkgPath := "", byteOffset := 88 }]) := by kernel_rfl
theorem Tryz.cells3 : Tryz.prog.cellsOf 3 = 1 := by kernel_rfl
theorem given_int {w : AW} {n : Nat} {cs : List Value} (h : Hd Tryz.prog w n 3 cs) : ∃ x : Int, cs = icells x := by
  cases n with
  | zero => exact h.elim
  | succ n =>
    simp only [Hd, Tryz.und3] at h
    obtain ⟨i, rfl, _⟩ := h
    exact ⟨i, rfl⟩
theorem given_ints {w : AW} {n : Nat} {cs : List Value} (h : Hd Tryz.prog w n 26 cs) : ∃ v, cs = [v] ∧ ∃ xs, ArrOf w 1 icells v xs := by
  cases n with
  | zero => exact h.elim
  | succ n =>
    simp only [Hd, Tryz.und26, Tryz.cells3] at h
    obtain ⟨v, rows, rfl, ha, hr, hgv⟩ := h
    obtain ⟨xs, rfl⟩ := rows_of fun r hq => given_int (hr r hq)
    exact ⟨v, rfl, xs, ha⟩
theorem given_law {w : AW} {n : Nat} {cs : List Value} (h : Hd Tryz.prog w n 23 cs) : ∃ r c : Int, cs = [.int .i64 r, .int .i64 c] := by
  cases n with
  | zero => exact h.elim
  | succ n =>
    simp only [Hd, Tryz.und23] at h
    obtain ⟨parts, rfl, hl, hp⟩ := h
    match parts, hl with
    | [a, b], _ =>
      obtain ⟨x, rfl⟩ := given_int (hp 0 _ a rfl rfl)
      obtain ⟨y, rfl⟩ := given_int (hp 1 _ b rfl rfl)
      exact ⟨x, y, rfl⟩
theorem given_tariff {w : AW} {n : Nat} {cs : List Value} (h : Hd Tryz.prog w n 25 cs) : ∃ a b c d e : Int, cs = [.int .i64 a, .int .i64 b, .int .i64 c, .int .i64 d, .int .i64 e] := by
  cases n with
  | zero => exact h.elim
  | succ n =>
    simp only [Hd, Tryz.und25] at h
    obtain ⟨parts, rfl, hl, hp⟩ := h
    match parts, hl with
    | [p0, p1, p2, p3, p4], _ =>
      obtain ⟨x0, rfl⟩ := given_int (hp 0 _ p0 rfl rfl)
      obtain ⟨x1, rfl⟩ := given_int (hp 1 _ p1 rfl rfl)
      obtain ⟨x2, rfl⟩ := given_int (hp 2 _ p2 rfl rfl)
      obtain ⟨x3, rfl⟩ := given_int (hp 3 _ p3 rfl rfl)
      obtain ⟨x4, rfl⟩ := given_int (hp 4 _ p4 rfl rfl)
      exact ⟨x0, x1, x2, x3, x4, rfl⟩
theorem given_deal {w : AW} {n : Nat} {v : Value} (h : HdV Tryz.prog w n 28 v) : ∃ (d : DealN) (u : Value) (cl : List Int), v = .agg #[.int .i64 d.r, .int .i64 d.c, .int .i64 d.a, .int .i64 d.fr, .int .i64 d.fe, .int .i64 d.tm, .int .i64 d.gr, u, .int .i64 d.st, .int .i64 d.sm] ∧ ArrOf w 1 icells u cl := by
  simp only [HdV, Tryz.und28] at h
  obtain ⟨cs, rfl, h⟩ := h
  cases n with
  | zero => exact h.elim
  | succ n =>
    simp only [Hd, Tryz.und28] at h
    obtain ⟨parts, e, hl, hp⟩ := h
    match parts, hl with
    | [p0, p1, p2, p3, p4], _ =>
      obtain ⟨r, c, rfl⟩ := given_law (hp 0 _ p0 rfl rfl)
      obtain ⟨a, fr, fe, tm, gr, rfl⟩ := given_tariff (hp 1 _ p1 rfl rfl)
      obtain ⟨u, rfl, cl, hc⟩ := given_ints (hp 2 _ p2 rfl rfl)
      obtain ⟨st, rfl⟩ := given_int (hp 3 _ p3 rfl rfl)
      obtain ⟨sm, rfl⟩ := given_int (hp 4 _ p4 rfl rfl)
      refine ⟨⟨r, c, a, fr, fe, tm, gr, st, sm⟩, u, cl, ?_, hc⟩
      rw [show cs = cs.toList.toArray from rfl, e]; rfl
theorem given_num {w : AW} {n : Nat} {v : Value} (h : HdV Tryz.prog w n 3 v) : ∃ x : Int, v = .int .i64 x := by
  simp only [HdV, Tryz.und3] at h
  obtain ⟨x, e⟩ := given_int h
  injection e with e
  exact ⟨x, e⟩
theorem Tryz.und29 : Tryz.prog.underlying 29 = some (.slice 85) := by kernel_rfl
theorem Tryz.und85 : Tryz.prog.underlying 85 = some (.struct #[{ name := "Day", type := 3, offset := 0, embedded := false, tag := "", pkgPath := "", byteOffset := 0 }, { name := "Kind", type := 3, offset := 1, embedded := false, tag := "", pkgPath := "", byteOffset := 8 }, { name := "N", type := 3, offset := 2, embedded := false, tag := "", pkgPath := "", byteOffset := 16 }]) := by kernel_rfl
theorem Tryz.cells85 : Tryz.prog.cellsOf 85 = 3 := by kernel_rfl
theorem given_act {w : AW} {n : Nat} {cs : List Value} (h : Hd Tryz.prog w n 85 cs) : ∃ a : ActN, cs = acells a := by
  cases n with
  | zero => exact h.elim
  | succ n =>
    simp only [Hd, Tryz.und85] at h
    obtain ⟨parts, rfl, hl, hp⟩ := h
    match parts, hl with
    | [p0, p1, p2], _ =>
      obtain ⟨x0, rfl⟩ := given_int (hp 0 _ p0 rfl rfl)
      obtain ⟨x1, rfl⟩ := given_int (hp 1 _ p1 rfl rfl)
      obtain ⟨x2, rfl⟩ := given_int (hp 2 _ p2 rfl rfl)
      exact ⟨⟨x0, x1, x2⟩, rfl⟩
theorem given_acts {w : AW} {n : Nat} {v : Value} (h : HdV Tryz.prog w n 29 v) : ∃ l : List ActN, ArrOf w 3 acells v l := by
  simp only [HdV, Tryz.und29] at h
  cases n with
  | zero => exact h.elim
  | succ n =>
    simp only [Hd, Tryz.und29, Tryz.cells85] at h
    obtain ⟨v', rows, e, ha, hr, hgv⟩ := h
    injection e with e
    subst e
    obtain ⟨xs, rfl⟩ := rows_of fun r hq => given_act (hr r hq)
    exact ⟨xs, ha⟩
theorem given_list {w : AW} {n : Nat} {v : Value} (h : HdV Tryz.prog w n 26 v) : ∃ l : List Int, ArrOf w 1 icells v l := by
  simp only [HdV, Tryz.und26] at h
  obtain ⟨v', e, xs, ha⟩ := given_ints h
  injection e with e
  subst e
  exact ⟨xs, ha⟩
end Go.Proofs

/- Loans: Check, Run, Owe and Legal return what the chapter says, on the machine. -/
namespace Go.Proofs
open Go Go.RowKit Go.Sim
set_option maxRecDepth 100000
theorem Tryz.eqx37 (a b c d : Int) (p : Bool) : eqQ Tryz.prog .eql 37 (.agg #[.int .i64 a, .int .i64 b, .int .i64 c, .int .i64 d, .bool p]) (.agg #[.int .i64 a, .int .i64 b, .int .i64 c, .int .i64 d, .bool p]) = some (.bool true) := by
  rw [Tryz.eq37]; simp
theorem Tryz.nex37 (a b c d : Int) (p : Bool) : eqQ Tryz.prog .neq 37 (.agg #[.int .i64 a, .int .i64 b, .int .i64 c, .int .i64 d, .bool p]) (.agg #[.int .i64 a, .int .i64 b, .int .i64 c, .int .i64 d, .bool p]) = some (.bool false) := by
  have h := eqQ_neq (P := Tryz.prog) (ty := 37) (xs := #[.int .i64 a, .int .i64 b, .int .i64 c, .int .i64 d, .bool p]) (ys := #[.int .i64 a, .int .i64 b, .int .i64 c, .int .i64 d, .bool p]) (b := [a == a, b == b, c == c, d == d, p == p].all id) (by kernel_rfl) rfl (eqStruct Tryz.un37 (by kernel_rfl) (n := 9999) (.cons (eqF_int (k := .i64) (by decide) Tryz.un3 Tryz.agg3 rfl rfl) (.cons (eqF_int (k := .i64) (by decide) Tryz.un3 Tryz.agg3 rfl rfl) (.cons (eqF_int (k := .i64) (by decide) Tryz.un3 Tryz.agg3 rfl rfl) (.cons (eqF_int (k := .i64) (by decide) Tryz.un3 Tryz.agg3 rfl rfl) (.cons (eqF_bool (by decide) Tryz.un4 Tryz.agg4 rfl rfl) .nil))))))
  rw [h]; simp
theorem same_deal (d : DealN) (p : Option Addr) (n c : Nat) : same 12 (.agg #[.int .i64 d.r, .int .i64 d.c, .int .i64 d.a, .int .i64 d.fr, .int .i64 d.fe, .int .i64 d.tm, .int .i64 d.gr, (.slice p n c), .int .i64 d.st, .int .i64 d.sm]) (.agg #[.int .i64 d.r, .int .i64 d.c, .int .i64 d.a, .int .i64 d.fr, .int .i64 d.fe, .int .i64 d.tm, .int .i64 d.gr, (.slice p n c), .int .i64 d.st, .int .i64 d.sm]) = true := by
  cases p with
  | none => simp [same, same.all, intEq_eq]
  | some a => obtain ⟨b, o, x⟩ := a; cases x <;> simp [same, same.all, intEq_eq]
set_option maxHeartbeats 1000000 in
theorem accounts_ok (xs : List LN) (v u : Value) (w : AW) (hx : ArrOf w 5 accells v xs) (hy : ArrOf w 5 accells u xs) :
    CallT Tryz.prog Tryz.T1 (.fn (.func 6) #[]) #[v, u] w (Ret (.bool true) fun w' => w = w') := by
  obtain ⟨p, cap, rfl, hcap, hmax, hat⟩ := hx.open
  obtain ⟨q, cap2, rfl, hcap2, hmax2, hat2⟩ := hy.open
  have hle := WLe.refl w
  refine callT_code rfl Tryz.func6 rfl Tryz.s6_eq rfl ?_
  unfold Tryz.s6
  simp -dsimp -implicitDefEqProofs (maxSteps := 2000000) (disch := first | assumption | omega | (simp only [AW.next_push, AW.next_put]; omega) | ((repeat refine Fresh.push ?_ _); assumption) | (simp only [same_int, same_bool, same_ptr, same_slice, same_sliceP, same_nil, same_agg2, same_string]; done) | (simp [oneCell, AW.next_push]; done) | fail) only [go_sem, Nat.reduceEqDiff, reduceIte, Nat.reduceAdd, Int.toNat_natCast, Nat.add_zero, Owes_true, Tryz.results6]
  refine loopR (fun k t ds w1 => ∃ i : Nat, i ≤ xs.length ∧ k = xs.length - i ∧ ds = [] ∧ ev t (.tmp 0) = .slice p xs.length cap ∧ ev t (.tmp 1) = .slice q xs.length cap2 ∧ ev t (.tmp 5) = .bool true ∧ ev t (.tmp 6) = .int .i64 (i : Int) ∧ w = w1) (xs.length) ?_ ?_
  · refine ⟨0, by omega, by omega, rfl, ?_, ?_, ?_, ?_, rfl⟩ <;> simp -dsimp -implicitDefEqProofs (maxSteps := 2000000) (disch := first | assumption | omega | (simp only [AW.next_push, AW.next_put]; omega) | ((repeat refine Fresh.push ?_ _); assumption) | (simp only [same_int, same_bool, same_ptr, same_slice, same_sliceP, same_nil, same_agg2, same_string]; done) | (simp [oneCell, AW.next_push]; done) | fail) only [go_sem, Nat.reduceEqDiff, reduceIte, Nat.reduceAdd, Int.toNat_natCast, Nat.add_zero, Owes_true] <;> rfl
  rintro k t ds w1 ⟨i, hii, rfl, rfl, e0, e1, e5, e6, hw⟩
  subst hw
  by_cases hlt : (i : Int) < (xs.length : Int)
  case neg =>
    simp -dsimp -implicitDefEqProofs (maxSteps := 2000000) (disch := first | assumption | omega | (simp only [AW.next_push, AW.next_put]; omega) | ((repeat refine Fresh.push ?_ _); assumption) | (simp only [same_int, same_bool, same_ptr, same_slice, same_sliceP, same_nil, same_agg2, same_string]; done) | (simp [oneCell, AW.next_push]; done) | fail) only [go_sem, Nat.reduceEqDiff, reduceIte, Nat.reduceAdd, Int.toNat_natCast, Nat.add_zero, Owes_true, Tryz.results6, e0, e1, e5, e6, hlt]
    exact ⟨rfl, rfl⟩
  have hlt1 : i < xs.length := by omega
  obtain ⟨b1, o1, rfl, hb1, hcell⟩ := hat i hlt1
  obtain ⟨b2, o2, rfl, hb2, hcell2⟩ := hat2 i hlt1
  have a0 := hcell w (.refl _ _) 0 _ rfl
  have a1 := hcell w (.refl _ _) 1 _ rfl
  have a2 := hcell w (.refl _ _) 2 _ rfl
  have a3 := hcell w (.refl _ _) 3 _ rfl
  have a4 := hcell w (.refl _ _) 4 _ rfl
  have d0 := hcell2 w (.refl _ _) 0 _ rfl
  have d1 := hcell2 w (.refl _ _) 1 _ rfl
  have d2 := hcell2 w (.refl _ _) 2 _ rfl
  have d3 := hcell2 w (.refl _ _) 3 _ rfl
  have d4 := hcell2 w (.refl _ _) 4 _ rfl
  rw [Nat.add_zero] at a0 d0
  have s5 := same_agg5 xs[i].P xs[i].C xs[i].Q xs[i].A xs[i].op
  have hq := Tryz.eqx37 xs[i].P xs[i].C xs[i].Q xs[i].A xs[i].op
  simp -dsimp -implicitDefEqProofs (maxSteps := 2000000) (disch := first | assumption | omega | (simp only [AW.next_push, AW.next_put]; omega) | ((repeat refine Fresh.push ?_ _); assumption) | (simp only [same_int, same_bool, same_ptr, same_slice, same_sliceP, same_nil, same_agg2, same_string]; done) | (simp [oneCell, AW.next_push]; done) | fail) only [go_sem, Nat.reduceEqDiff, reduceIte, Nat.reduceAdd, Int.toNat_natCast, Nat.add_zero, Owes_true, Tryz.results6, e0, e1, e5, e6, hlt, indexV_eq, a0, a1, a2, a3, a4, d0, d1, d2, d3, d4, s5, hq, hle]
  refine ⟨_, by omega, i + 1, by omega, rfl, rfl, by (simp -dsimp -implicitDefEqProofs (maxSteps := 2000000) (disch := first | assumption | omega | (simp only [AW.next_push, AW.next_put]; omega) | ((repeat refine Fresh.push ?_ _); assumption) | (simp only [same_int, same_bool, same_ptr, same_slice, same_sliceP, same_nil, same_agg2, same_string]; done) | (simp [oneCell, AW.next_push]; done) | fail) only [go_sem, Nat.reduceEqDiff, reduceIte, Nat.reduceAdd, Int.toNat_natCast, Nat.add_zero, Owes_true, e0]; try rfl), by (simp -dsimp -implicitDefEqProofs (maxSteps := 2000000) (disch := first | assumption | omega | (simp only [AW.next_push, AW.next_put]; omega) | ((repeat refine Fresh.push ?_ _); assumption) | (simp only [same_int, same_bool, same_ptr, same_slice, same_sliceP, same_nil, same_agg2, same_string]; done) | (simp [oneCell, AW.next_push]; done) | fail) only [go_sem, Nat.reduceEqDiff, reduceIte, Nat.reduceAdd, Int.toNat_natCast, Nat.add_zero, Owes_true, e1]; try rfl), by (simp -dsimp -implicitDefEqProofs (maxSteps := 2000000) (disch := first | assumption | omega | (simp only [AW.next_push, AW.next_put]; omega) | ((repeat refine Fresh.push ?_ _); assumption) | (simp only [same_int, same_bool, same_ptr, same_slice, same_sliceP, same_nil, same_agg2, same_string]; done) | (simp [oneCell, AW.next_push]; done) | fail) only [go_sem, Nat.reduceEqDiff, reduceIte, Nat.reduceAdd, Int.toNat_natCast, Nat.add_zero, Owes_true, e5]; try rfl), by (simp -dsimp -implicitDefEqProofs (maxSteps := 2000000) (disch := first | assumption | omega | (simp only [AW.next_push, AW.next_put]; omega) | ((repeat refine Fresh.push ?_ _); assumption) | (simp only [same_int, same_bool, same_ptr, same_slice, same_sliceP, same_nil, same_agg2, same_string]; done) | (simp [oneCell, AW.next_push]; done) | fail) only [go_sem, Nat.reduceEqDiff, reduceIte, Nat.reduceAdd, Int.toNat_natCast, Nat.add_zero, Owes_true, e6]; try rfl), rfl⟩
set_option maxHeartbeats 4000000 in
theorem runs_law (w : AW) (xs : List Value) (f : Fresh w) (h : HdAll Tryz.prog w [28, 29, 3] xs) : CallT Tryz.prog Tryz.T1 (.fn (.func 3) #[]) xs.toArray w fun v _ => v = .bool true := by
  cases h with
  | cons n1 h1 h =>
  cases h with
  | cons n2 h2 h =>
  cases h with
  | cons n3 h3 h =>
  cases h
  obtain ⟨d, u, cl, rfl, hs⟩ := given_deal h1
  obtain ⟨l, ht⟩ := given_acts h2
  obtain ⟨day, rfl⟩ := given_num h3
  clear h1 h2 h3
  obtain ⟨p, cap, rfl, _⟩ := id hs.open
  obtain ⟨q, cap2, rfl, _⟩ := id ht.open
  show CallT Tryz.prog Tryz.T1 (.fn (.func 3) #[]) #[.agg #[.int .i64 d.r, .int .i64 d.c, .int .i64 d.a, .int .i64 d.fr, .int .i64 d.fe, .int .i64 d.tm, .int .i64 d.gr, (.slice p cl.length cap), .int .i64 d.st, .int .i64 d.sm], .slice q l.length cap2, .int .i64 day] w _
  have g := (Grown.refl f).push (.cells [.int .i64 d.r, .int .i64 d.c, .int .i64 d.a, .int .i64 d.fr, .int .i64 d.fe, .int .i64 d.tm, .int .i64 d.gr, (.slice p cl.length cap), .int .i64 d.st, .int .i64 d.sm] 28 w.next 0 0)
  have hO := Own.new f 28 [.int .i64 d.r, .int .i64 d.c, .int .i64 d.a, .int .i64 d.fr, .int .i64 d.fe, .int .i64 d.tm, .int .i64 d.gr, (.slice p cl.length cap), .int .i64 d.st, .int .i64 d.sm]
  have c0 := (hO).cell (o := 0) rfl rfl
  have c1 := (hO).cell (o := 1) rfl rfl
  have c2 := (hO).cell (o := 2) rfl rfl
  have c3 := (hO).cell (o := 3) rfl rfl
  have c4 := (hO).cell (o := 4) rfl rfl
  have c5 := (hO).cell (o := 5) rfl rfl
  have c6 := (hO).cell (o := 6) rfl rfl
  have c7 := (hO).cell (o := 7) rfl rfl
  have c8 := (hO).cell (o := 8) rfl rfl
  have c9 := (hO).cell (o := 9) rfl rfl
  refine callT_code rfl Tryz.func3 rfl Tryz.s3_eq rfl ?_
  unfold Tryz.s3
  simp -dsimp -implicitDefEqProofs (maxSteps := 2000000) (disch := first | assumption | omega | (simp only [AW.next_push, AW.next_put]; omega) | ((repeat refine Fresh.push ?_ _); assumption) | (simp only [same_int, same_bool, same_ptr, same_slice, same_sliceP, same_nil, same_agg2, same_string]; done) | (simp [oneCell, AW.next_push]; done) | fail) only [go_sem, Nat.reduceEqDiff, reduceIte, Nat.reduceAdd, Int.toNat_natCast, Nat.add_zero, Owes_true, Tryz.results3, Nat.zero_add, c0, c1, c2, c3, c4, c5, c6, c7, c8, c9]
  apply callV_of (e := rfl)
  · exact Run_ok d cl l _ _ _ g.2 (hs.grown g) (ht.grown g)
  rintro _ w1 ⟨s1, ys1, rfl, y1, hg1, hc1⟩
  have g1 := g.trans hg1
  have hO1 := hO.keep hg1.1
  obtain ⟨q1, cap3, rfl, _⟩ := id y1.open
  have c0 := (hO1).cell (o := 0) rfl rfl
  have c1 := (hO1).cell (o := 1) rfl rfl
  have c2 := (hO1).cell (o := 2) rfl rfl
  have c3 := (hO1).cell (o := 3) rfl rfl
  have c4 := (hO1).cell (o := 4) rfl rfl
  have c5 := (hO1).cell (o := 5) rfl rfl
  have c6 := (hO1).cell (o := 6) rfl rfl
  have c7 := (hO1).cell (o := 7) rfl rfl
  have c8 := (hO1).cell (o := 8) rfl rfl
  have c9 := (hO1).cell (o := 9) rfl rfl
  simp -dsimp -implicitDefEqProofs (maxSteps := 2000000) (disch := first | assumption | omega | (simp only [AW.next_push, AW.next_put]; omega) | ((repeat refine Fresh.push ?_ _); assumption) | (simp only [same_int, same_bool, same_ptr, same_slice, same_sliceP, same_nil, same_agg2, same_string]; done) | (simp [oneCell, AW.next_push]; done) | fail) only [go_sem, Nat.reduceEqDiff, reduceIte, Nat.reduceAdd, Int.toNat_natCast, Nat.add_zero, Owes_true, Tryz.results3, Nat.zero_add, c0, c1, c2, c3, c4, c5, c6, c7, c8, c9]
  apply callV_of (e := rfl)
  · exact refRunOk d cl l _ _ w1 g1.2 (hs.grown g1) (ht.grown g1)
  rintro _ w2 ⟨s2, ys2, rfl, y2, hg2, hc2⟩
  have g2 := g1.trans hg2
  have hO2 := hO1.keep hg2.1
  have hys : ys1 = ys2 := by
    rcases hc1 with ⟨z1, z2⟩ | ⟨z1, z2, z3, _⟩ <;> rcases hc2 with ⟨x1, x2⟩ | ⟨x1, x2, x3, _⟩
    · rw [z2, x2]
    · exact absurd x1 z1
    · exact absurd z1 x1
    · rw [z3, x3]
  subst hys
  obtain ⟨q2, cap4, rfl, _⟩ := id y2.open
  simp -dsimp -implicitDefEqProofs (maxSteps := 2000000) (disch := first | assumption | omega | (simp only [AW.next_push, AW.next_put]; omega) | ((repeat refine Fresh.push ?_ _); assumption) | (simp only [same_int, same_bool, same_ptr, same_slice, same_sliceP, same_nil, same_agg2, same_string]; done) | (simp [oneCell, AW.next_push]; done) | fail) only [go_sem, Nat.reduceEqDiff, reduceIte, Nat.reduceAdd, Int.toNat_natCast, Nat.add_zero, Owes_true, Tryz.results3]
  apply callV_of (e := rfl)
  · exact accounts_ok ys1 _ _ w2 (y1.grown hg2) y2
  rintro _ _ ⟨rfl, rfl⟩
  have hle := WLe.refl w2
  have c0 := (hO2).cell (o := 0) rfl rfl
  have c1 := (hO2).cell (o := 1) rfl rfl
  have c2 := (hO2).cell (o := 2) rfl rfl
  have c3 := (hO2).cell (o := 3) rfl rfl
  have c4 := (hO2).cell (o := 4) rfl rfl
  have c5 := (hO2).cell (o := 5) rfl rfl
  have c6 := (hO2).cell (o := 6) rfl rfl
  have c7 := (hO2).cell (o := 7) rfl rfl
  have c8 := (hO2).cell (o := 8) rfl rfl
  have c9 := (hO2).cell (o := 9) rfl rfl
  have hsd := same_deal d p cl.length cap
  simp -dsimp -implicitDefEqProofs (maxSteps := 2000000) (disch := first | assumption | omega | (simp only [AW.next_push, AW.next_put]; omega) | ((repeat refine Fresh.push ?_ _); assumption) | (simp only [same_int, same_bool, same_ptr, same_slice, same_sliceP, same_nil, same_agg2, same_string]; done) | (simp [oneCell, AW.next_push]; done) | fail) only [go_sem, Nat.reduceEqDiff, reduceIte, Nat.reduceAdd, Int.toNat_natCast, Nat.add_zero, Owes_true, Tryz.results3, hle, Nat.zero_add, c0, c1, c2, c3, c4, c5, c6, c7, c8, c9, hsd]
  apply callV_of (e := rfl)
  · exact Check_ok d cl _ w2 g2.2 (hs.grown g2)
  rintro _ w3 ⟨rfl, hg3⟩
  have g3 := g2.trans hg3
  have hle3 := hg3.1.wle g2.2
  have hO3 := hO2.keep hg3.1
  simp -dsimp -implicitDefEqProofs (maxSteps := 2000000) (disch := first | assumption | omega | (simp only [AW.next_push, AW.next_put]; omega) | ((repeat refine Fresh.push ?_ _); assumption) | (simp only [same_int, same_bool, same_ptr, same_slice, same_sliceP, same_nil, same_agg2, same_string]; done) | (simp [oneCell, AW.next_push]; done) | fail) only [go_sem, Nat.reduceEqDiff, reduceIte, Nat.reduceAdd, Int.toNat_natCast, Nat.add_zero, Owes_true, Tryz.results3, hle3]
  apply callV_of (e := rfl)
  · exact refCheck_ok d cl _ w3 g3.2 (hs.grown g3)
  rintro _ w4 ⟨rfl, hg4⟩
  have g4 := g3.trans hg4
  have hle4 := hg4.1.wle g3.2
  have hO4 := hO3.keep hg4.1
  have c0 := (hO4).cell (o := 0) rfl rfl
  have c1 := (hO4).cell (o := 1) rfl rfl
  have c2 := (hO4).cell (o := 2) rfl rfl
  have c3 := (hO4).cell (o := 3) rfl rfl
  have c4 := (hO4).cell (o := 4) rfl rfl
  have c5 := (hO4).cell (o := 5) rfl rfl
  have c6 := (hO4).cell (o := 6) rfl rfl
  have c7 := (hO4).cell (o := 7) rfl rfl
  have c8 := (hO4).cell (o := 8) rfl rfl
  have c9 := (hO4).cell (o := 9) rfl rfl
  simp -dsimp -implicitDefEqProofs (maxSteps := 2000000) (disch := first | assumption | omega | (simp only [AW.next_push, AW.next_put]; omega) | ((repeat refine Fresh.push ?_ _); assumption) | (simp only [same_int, same_bool, same_ptr, same_slice, same_sliceP, same_nil, same_agg2, same_string]; done) | (simp [oneCell, AW.next_push]; done) | fail) only [go_sem, Nat.reduceEqDiff, reduceIte, Nat.reduceAdd, Int.toNat_natCast, Nat.add_zero, Owes_true, Tryz.results3, hle4, Nat.zero_add, c0, c1, c2, c3, c4, c5, c6, c7, c8, c9]
  apply callV_of (e := rfl)
  · exact Owe_ok d cl l day _ _ w4 g4.2 (hs.grown g4) (ht.grown g4)
  rintro _ w5 ⟨rfl, hg5⟩
  have g5 := g4.trans hg5
  have hO5 := hO4.keep hg5.1
  unfold accV
  generalize hz : oweA d cl l day = z
  have f5 := g5.2
  have g6 := g5.push (.cells (accells z) 37 w5.next 0 0)
  have hA6 := Own.new f5 37 (accells z)
  have hO6 := hO5.push (.cells (accells z) 37 w5.next 0 0)
  unfold accells at g6 hA6 hO6
  have c0 := (hO6).cell (o := 0) rfl rfl
  have c1 := (hO6).cell (o := 1) rfl rfl
  have c2 := (hO6).cell (o := 2) rfl rfl
  have c3 := (hO6).cell (o := 3) rfl rfl
  have c4 := (hO6).cell (o := 4) rfl rfl
  have c5 := (hO6).cell (o := 5) rfl rfl
  have c6 := (hO6).cell (o := 6) rfl rfl
  have c7 := (hO6).cell (o := 7) rfl rfl
  have c8 := (hO6).cell (o := 8) rfl rfl
  have c9 := (hO6).cell (o := 9) rfl rfl
  simp -dsimp -implicitDefEqProofs (maxSteps := 2000000) (disch := first | assumption | omega | (simp only [AW.next_push, AW.next_put]; omega) | ((repeat refine Fresh.push ?_ _); assumption) | (simp only [same_int, same_bool, same_ptr, same_slice, same_sliceP, same_nil, same_agg2, same_string]; done) | (simp [oneCell, AW.next_push]; done) | fail) only [go_sem, Nat.reduceEqDiff, reduceIte, Nat.reduceAdd, Int.toNat_natCast, Nat.add_zero, Owes_true, Tryz.results3, Nat.zero_add, c0, c1, c2, c3, c4, c5, c6, c7, c8, c9]
  apply callV_of (e := rfl)
  · exact refOwe_ok d cl l day _ _ _ g6.2 (hs.grown g6) (ht.grown g6)
  rintro _ w7 ⟨rfl, hg7⟩
  have g7 := g6.trans hg7
  have hA7 := hA6.keep hg7.1
  have hO7 := hO6.keep hg7.1
  rw [hz]
  unfold accV
  have f7 := g7.2
  have g8 := g7.push (.cells (accells z) 37 w7.next 0 0)
  have hB8 := Own.new f7 37 (accells z)
  have hA8 := hA7.push (.cells (accells z) 37 w7.next 0 0)
  have hO8 := hO7.push (.cells (accells z) 37 w7.next 0 0)
  unfold accells at g8 hA8 hB8 hO8
  have x0 := (hA8).cell (o := 0) rfl rfl
  have x1 := (hA8).cell (o := 1) rfl rfl
  have x2 := (hA8).cell (o := 2) rfl rfl
  have x3 := (hA8).cell (o := 3) rfl rfl
  have x4 := (hA8).cell (o := 4) rfl rfl
  have y0 := (hB8).cell (o := 0) rfl rfl
  have y1 := (hB8).cell (o := 1) rfl rfl
  have y2 := (hB8).cell (o := 2) rfl rfl
  have y3 := (hB8).cell (o := 3) rfl rfl
  have y4 := (hB8).cell (o := 4) rfl rfl
  have hne := Tryz.nex37 z.P z.C z.Q z.A z.op
  have c0 := (hO8).cell (o := 0) rfl rfl
  have c1 := (hO8).cell (o := 1) rfl rfl
  have c2 := (hO8).cell (o := 2) rfl rfl
  have c3 := (hO8).cell (o := 3) rfl rfl
  have c4 := (hO8).cell (o := 4) rfl rfl
  have c5 := (hO8).cell (o := 5) rfl rfl
  have c6 := (hO8).cell (o := 6) rfl rfl
  have c7 := (hO8).cell (o := 7) rfl rfl
  have c8 := (hO8).cell (o := 8) rfl rfl
  have c9 := (hO8).cell (o := 9) rfl rfl
  simp -dsimp -implicitDefEqProofs (maxSteps := 2000000) (disch := first | assumption | omega | (simp only [AW.next_push, AW.next_put]; omega) | ((repeat refine Fresh.push ?_ _); assumption) | (simp only [same_int, same_bool, same_ptr, same_slice, same_sliceP, same_nil, same_agg2, same_string]; done) | (simp [oneCell, AW.next_push]; done) | fail) only [go_sem, Nat.reduceEqDiff, reduceIte, Nat.reduceAdd, Int.toNat_natCast, Nat.add_zero, Owes_true, Tryz.results3, Nat.zero_add, c0, c1, c2, c3, c4, c5, c6, c7, c8, c9, x0, x1, x2, x3, x4, y0, y1, y2, y3, y4, hne]
  apply callV_of (e := rfl)
  · exact Legal_ok d cl l day _ _ _ g8.2 (hs.grown g8) (ht.grown g8)
  rintro _ w9 ⟨m1, rfl, l1, l2, hg9⟩
  have g9 := g8.trans hg9
  have hO9 := hO8.keep hg9.1
  have c0 := (hO9).cell (o := 0) rfl rfl
  have c1 := (hO9).cell (o := 1) rfl rfl
  have c2 := (hO9).cell (o := 2) rfl rfl
  have c3 := (hO9).cell (o := 3) rfl rfl
  have c4 := (hO9).cell (o := 4) rfl rfl
  have c5 := (hO9).cell (o := 5) rfl rfl
  have c6 := (hO9).cell (o := 6) rfl rfl
  have c7 := (hO9).cell (o := 7) rfl rfl
  have c8 := (hO9).cell (o := 8) rfl rfl
  have c9 := (hO9).cell (o := 9) rfl rfl
  simp -dsimp -implicitDefEqProofs (maxSteps := 2000000) (disch := first | assumption | omega | (simp only [AW.next_push, AW.next_put]; omega) | ((repeat refine Fresh.push ?_ _); assumption) | (simp only [same_int, same_bool, same_ptr, same_slice, same_sliceP, same_nil, same_agg2, same_string]; done) | (simp [oneCell, AW.next_push]; done) | fail) only [go_sem, Nat.reduceEqDiff, reduceIte, Nat.reduceAdd, Int.toNat_natCast, Nat.add_zero, Owes_true, Tryz.results3, Nat.zero_add, c0, c1, c2, c3, c4, c5, c6, c7, c8, c9]
  apply callV_of (e := rfl)
  · exact refLegalOn_ok d cl l day _ _ _ g9.2 (hs.grown g9) (ht.grown g9)
  rintro _ w10 ⟨m2, rfl, l3, l4, hg10⟩
  have hm : m1 = m2 := by
    by_cases z0 : oweE d cl l day = 0
    · rw [l1 z0, l3 z0]
    · rw [l2 z0, l4 z0]
  subst hm
  simp -dsimp -implicitDefEqProofs (maxSteps := 2000000) (disch := first | assumption | omega | (simp only [AW.next_push, AW.next_put]; omega) | ((repeat refine Fresh.push ?_ _); assumption) | (simp only [same_int, same_bool, same_ptr, same_slice, same_sliceP, same_nil, same_agg2, same_string]; done) | (simp [oneCell, AW.next_push]; done) | fail) only [go_sem, Nat.reduceEqDiff, reduceIte, Nat.reduceAdd, Int.toNat_natCast, Nat.add_zero, Owes_true, Tryz.results3]
  apply callV_of (e := rfl)
  · exact callT_told (Q := fun v w' => v = .bool true ∧ w10 = w') (v := .bool true) (w' := w10) rfl ⟨rfl, rfl⟩
  rintro _ _ ⟨rfl, rfl⟩
  simp -dsimp -implicitDefEqProofs (maxSteps := 2000000) (disch := first | assumption | omega | (simp only [AW.next_push, AW.next_put]; omega) | ((repeat refine Fresh.push ?_ _); assumption) | (simp only [same_int, same_bool, same_ptr, same_slice, same_sliceP, same_nil, same_agg2, same_string]; done) | (simp [oneCell, AW.next_push]; done) | fail) only [go_sem, Nat.reduceEqDiff, reduceIte, Nat.reduceAdd, Int.toNat_natCast, Nat.add_zero, Owes_true, Tryz.results3]
end Go.Proofs
