/- Loans: contracts of what passes, of charges and acts. -/
import Derived.Test.YtdbeiefgokocnaaGreatYa
import Derived.Test.YtdbeiefgokocnaaGreatTc
import Derived.Test.YtdbeiefgokocnaaGreatTa
import Derived.Test.YtdbeiefgokocnaaGreatNb
set_option linter.unusedVariables false
set_option linter.unusedSimpArgs false
/- Loans: days that are open, the law's charge, the charge. -/
namespace Go.Proofs
open Go Go.RowKit Go.Sim
set_option maxRecDepth 100000
theorem same_agg4 (a b c e : Int) : same 12 (.agg #[.int .i64 a, .int .i64 b, .int .i64 c, .int .i64 e]) (.agg #[.int .i64 a, .int .i64 b, .int .i64 c, .int .i64 e]) = true := by simp [same, same.all, intEq_eq]
theorem same_agg5 (a b c e : Int) (p : Bool) : same 12 (.agg #[.int .i64 a, .int .i64 b, .int .i64 c, .int .i64 e, .bool p]) (.agg #[.int .i64 a, .int .i64 b, .int .i64 c, .int .i64 e, .bool p]) = true := by cases p <;> simp [same, same.all, intEq_eq]
theorem same_agg5' (a b c e g : Int) : same 12 (.agg #[.int .i64 a, .int .i64 b, .int .i64 c, .int .i64 e, .int .i64 g]) (.agg #[.int .i64 a, .int .i64 b, .int .i64 c, .int .i64 e, .int .i64 g]) = true := by simp [same, same.all, intEq_eq]
def lcells (d : DealN) (v : Value) (x : LN) : List Value :=
  [.int .i64 x.P, .int .i64 x.C, .int .i64 x.Q, .int .i64 x.A, .bool x.op, .int .i64 d.r, .int .i64 d.c, .int .i64 d.a, .int .i64 d.fr, .int .i64 d.fe, .int .i64 d.tm, .int .i64 d.gr, v, .int .i64 d.st, .int .i64 d.sm, .int .i64 x.n, .int .i64 x.lw, .int .i64 x.cs, .int .i64 x.fe, .int .i64 x.dy, .int .i64 x.he]
theorem put_cell {w : AW} {b o : Nat} {d : DealN} {v V : Value} {x x' : LN} (hO : Own w b 60 (lcells d v x)) (f : Fresh w) (ho : o < 21) (hV : oneCell V = true) (he : setL (lcells d v x) o V = lcells d v x') :
    ∃ w1, storeV w false 1 (.pointer (some ⟨b, o, none⟩)) V = some w1 ∧ Own w1 b 60 (lcells d v x') ∧ Mut b w w1 := by
  have h := storeV_own1 (o := o) (v := V) hO ho hV
  rw [he] at h
  exact ⟨_, h, hO.put _, (Mut.refl f).put hO _⟩
set_option maxHeartbeats 1000000 in
theorem openDays_ok (cl : List Int) (a b : Int) (v : Value) (w : AW) (hs : ArrOf w 1 icells v cl) (hl : cl.length ≤ 64) (ha : 0 ≤ a ∧ a ≤ 100000) (hb : 0 ≤ b ∧ b ≤ 100000) : CallT Tryz.prog Tryz.T1 (.fn (.func 55) #[]) #[v, .int .i64 a, .int .i64 b] w (Ret (.int .i64 (oD cl a b)) fun w' => w = w') := by
  obtain ⟨p, cap, rfl, hcap, hmax, hat⟩ := id hs.open
  refine callT_code rfl Tryz.func55 rfl Tryz.s55_eq rfl ?_
  unfold Tryz.s55
  simp -dsimp -implicitDefEqProofs (maxSteps := 2000000) (disch := first | assumption | omega | (simp only [AW.next_push, AW.next_put]; omega) | ((repeat refine Fresh.push ?_ _); assumption) | (simp only [same_int, same_bool, same_ptr, same_slice, same_sliceP, same_nil, same_agg2, same_string]; done) | (simp [oneCell, AW.next_push]; done) | fail) only [go_sem, Nat.reduceEqDiff, reduceIte, Nat.reduceAdd, Int.toNat_natCast, Nat.add_zero, Owes_true, Tryz.results55]
  refine loopR (fun k t ds w2 => ∃ i : Nat, i ≤ cl.length ∧ k = cl.length - i ∧ ds = [] ∧ ev t (.tmp 1) = .int .i64 a ∧ ev t (.tmp 2) = .int .i64 b ∧ ev t (.tmp 7) = .int .i64 (odTo (cAt cl) a b i) ∧ ev t (.tmp 15) = .int .i64 (cl.length : Int) ∧ ev t (.tmp 14) = .slice p cl.length cap ∧ ev t (.tmp 16) = .int .i64 (i : Int) ∧ w = w2) (cl.length) ?_ ?_
  · refine ⟨0, by omega, by omega, rfl, ?_, ?_, ?_, ?_, ?_, ?_, rfl⟩ <;> simp -dsimp -implicitDefEqProofs (maxSteps := 2000000) (disch := first | assumption | omega | (simp only [AW.next_push, AW.next_put]; omega) | ((repeat refine Fresh.push ?_ _); assumption) | (simp only [same_int, same_bool, same_ptr, same_slice, same_sliceP, same_nil, same_agg2, same_string]; done) | (simp [oneCell, AW.next_push]; done) | fail) only [go_sem, Nat.reduceEqDiff, reduceIte, Nat.reduceAdd, Int.toNat_natCast, Nat.add_zero, Owes_true] <;> rfl
  rintro k t ds w2 ⟨i, hii, rfl, rfl, e1, e2, e7, e15, e14, e16, hw⟩
  subst hw
  by_cases hlt : (i : Int) < (cl.length : Int)
  case neg =>
    obtain rfl : i = cl.length := by omega
    simp -dsimp -implicitDefEqProofs (maxSteps := 2000000) (disch := first | assumption | omega | (simp only [AW.next_push, AW.next_put]; omega) | ((repeat refine Fresh.push ?_ _); assumption) | (simp only [same_int, same_bool, same_ptr, same_slice, same_sliceP, same_nil, same_agg2, same_string]; done) | (simp [oneCell, AW.next_push]; done) | fail) only [go_sem, Nat.reduceEqDiff, reduceIte, Nat.reduceAdd, Int.toNat_natCast, Nat.add_zero, Owes_true, Tryz.results55, e1, e2, e7, e14, e15, e16, hlt]
    exact ⟨rfl, rfl⟩
  have hlt' : i < cl.length := by omega
  obtain ⟨b1, o1, rfl, hb1, hcell⟩ := hat i hlt'
  have hc0 := hcell w (.refl _ _) 0 _ rfl
  rw [Nat.add_zero] at hc0
  have hgd : cAt cl i = cl[i] := getD_at hlt'
  have hin := odTo_le (cAt cl) a b i
  have hnext : odTo (cAt cl) a b (i + 1) = if a < cl[i] ∧ cl[i] ≤ b then odTo (cAt cl) a b i - 1 else odTo (cAt cl) a b i := by rw [← hgd]; rfl
  generalize odTo (cAt cl) a b i = L at *
  by_cases q1 : a < cl[i]
  · by_cases q2 : cl[i] ≤ b
    · rw [if_pos ⟨q1, q2⟩] at hnext
      simp -dsimp -implicitDefEqProofs (maxSteps := 2000000) (disch := first | assumption | omega | (simp only [AW.next_push, AW.next_put]; omega) | ((repeat refine Fresh.push ?_ _); assumption) | (simp only [same_int, same_bool, same_ptr, same_slice, same_sliceP, same_nil, same_agg2, same_string]; done) | (simp [oneCell, AW.next_push]; done) | fail) only [go_sem, Nat.reduceEqDiff, reduceIte, Nat.reduceAdd, Int.toNat_natCast, Nat.add_zero, Owes_true, Tryz.results55, e1, e2, e7, e14, e15, e16, hlt, indexV_eq, hc0, q1, q2]
      refine ⟨_, by omega, i + 1, by omega, rfl, rfl, by (simp -dsimp -implicitDefEqProofs (maxSteps := 2000000) (disch := first | assumption | omega | (simp only [AW.next_push, AW.next_put]; omega) | ((repeat refine Fresh.push ?_ _); assumption) | (simp only [same_int, same_bool, same_ptr, same_slice, same_sliceP, same_nil, same_agg2, same_string]; done) | (simp [oneCell, AW.next_push]; done) | fail) only [go_sem, Nat.reduceEqDiff, reduceIte, Nat.reduceAdd, Int.toNat_natCast, Nat.add_zero, Owes_true, e1, hnext]; try rfl), by (simp -dsimp -implicitDefEqProofs (maxSteps := 2000000) (disch := first | assumption | omega | (simp only [AW.next_push, AW.next_put]; omega) | ((repeat refine Fresh.push ?_ _); assumption) | (simp only [same_int, same_bool, same_ptr, same_slice, same_sliceP, same_nil, same_agg2, same_string]; done) | (simp [oneCell, AW.next_push]; done) | fail) only [go_sem, Nat.reduceEqDiff, reduceIte, Nat.reduceAdd, Int.toNat_natCast, Nat.add_zero, Owes_true, e2, hnext]; try rfl), by (simp -dsimp -implicitDefEqProofs (maxSteps := 2000000) (disch := first | assumption | omega | (simp only [AW.next_push, AW.next_put]; omega) | ((repeat refine Fresh.push ?_ _); assumption) | (simp only [same_int, same_bool, same_ptr, same_slice, same_sliceP, same_nil, same_agg2, same_string]; done) | (simp [oneCell, AW.next_push]; done) | fail) only [go_sem, Nat.reduceEqDiff, reduceIte, Nat.reduceAdd, Int.toNat_natCast, Nat.add_zero, Owes_true, e7, hnext]; try rfl), by (simp -dsimp -implicitDefEqProofs (maxSteps := 2000000) (disch := first | assumption | omega | (simp only [AW.next_push, AW.next_put]; omega) | ((repeat refine Fresh.push ?_ _); assumption) | (simp only [same_int, same_bool, same_ptr, same_slice, same_sliceP, same_nil, same_agg2, same_string]; done) | (simp [oneCell, AW.next_push]; done) | fail) only [go_sem, Nat.reduceEqDiff, reduceIte, Nat.reduceAdd, Int.toNat_natCast, Nat.add_zero, Owes_true, e15, hnext]; try rfl), by (simp -dsimp -implicitDefEqProofs (maxSteps := 2000000) (disch := first | assumption | omega | (simp only [AW.next_push, AW.next_put]; omega) | ((repeat refine Fresh.push ?_ _); assumption) | (simp only [same_int, same_bool, same_ptr, same_slice, same_sliceP, same_nil, same_agg2, same_string]; done) | (simp [oneCell, AW.next_push]; done) | fail) only [go_sem, Nat.reduceEqDiff, reduceIte, Nat.reduceAdd, Int.toNat_natCast, Nat.add_zero, Owes_true, e14, hnext]; try rfl), by (simp -dsimp -implicitDefEqProofs (maxSteps := 2000000) (disch := first | assumption | omega | (simp only [AW.next_push, AW.next_put]; omega) | ((repeat refine Fresh.push ?_ _); assumption) | (simp only [same_int, same_bool, same_ptr, same_slice, same_sliceP, same_nil, same_agg2, same_string]; done) | (simp [oneCell, AW.next_push]; done) | fail) only [go_sem, Nat.reduceEqDiff, reduceIte, Nat.reduceAdd, Int.toNat_natCast, Nat.add_zero, Owes_true, e16, hnext]; try rfl), rfl⟩
    · rw [if_neg (fun h => q2 h.2)] at hnext
      simp -dsimp -implicitDefEqProofs (maxSteps := 2000000) (disch := first | assumption | omega | (simp only [AW.next_push, AW.next_put]; omega) | ((repeat refine Fresh.push ?_ _); assumption) | (simp only [same_int, same_bool, same_ptr, same_slice, same_sliceP, same_nil, same_agg2, same_string]; done) | (simp [oneCell, AW.next_push]; done) | fail) only [go_sem, Nat.reduceEqDiff, reduceIte, Nat.reduceAdd, Int.toNat_natCast, Nat.add_zero, Owes_true, Tryz.results55, e1, e2, e7, e14, e15, e16, hlt, indexV_eq, hc0, q1, q2]
      refine ⟨_, by omega, i + 1, by omega, rfl, rfl, by (simp -dsimp -implicitDefEqProofs (maxSteps := 2000000) (disch := first | assumption | omega | (simp only [AW.next_push, AW.next_put]; omega) | ((repeat refine Fresh.push ?_ _); assumption) | (simp only [same_int, same_bool, same_ptr, same_slice, same_sliceP, same_nil, same_agg2, same_string]; done) | (simp [oneCell, AW.next_push]; done) | fail) only [go_sem, Nat.reduceEqDiff, reduceIte, Nat.reduceAdd, Int.toNat_natCast, Nat.add_zero, Owes_true, e1, hnext]; try rfl), by (simp -dsimp -implicitDefEqProofs (maxSteps := 2000000) (disch := first | assumption | omega | (simp only [AW.next_push, AW.next_put]; omega) | ((repeat refine Fresh.push ?_ _); assumption) | (simp only [same_int, same_bool, same_ptr, same_slice, same_sliceP, same_nil, same_agg2, same_string]; done) | (simp [oneCell, AW.next_push]; done) | fail) only [go_sem, Nat.reduceEqDiff, reduceIte, Nat.reduceAdd, Int.toNat_natCast, Nat.add_zero, Owes_true, e2, hnext]; try rfl), by (simp -dsimp -implicitDefEqProofs (maxSteps := 2000000) (disch := first | assumption | omega | (simp only [AW.next_push, AW.next_put]; omega) | ((repeat refine Fresh.push ?_ _); assumption) | (simp only [same_int, same_bool, same_ptr, same_slice, same_sliceP, same_nil, same_agg2, same_string]; done) | (simp [oneCell, AW.next_push]; done) | fail) only [go_sem, Nat.reduceEqDiff, reduceIte, Nat.reduceAdd, Int.toNat_natCast, Nat.add_zero, Owes_true, e7, hnext]; try rfl), by (simp -dsimp -implicitDefEqProofs (maxSteps := 2000000) (disch := first | assumption | omega | (simp only [AW.next_push, AW.next_put]; omega) | ((repeat refine Fresh.push ?_ _); assumption) | (simp only [same_int, same_bool, same_ptr, same_slice, same_sliceP, same_nil, same_agg2, same_string]; done) | (simp [oneCell, AW.next_push]; done) | fail) only [go_sem, Nat.reduceEqDiff, reduceIte, Nat.reduceAdd, Int.toNat_natCast, Nat.add_zero, Owes_true, e15, hnext]; try rfl), by (simp -dsimp -implicitDefEqProofs (maxSteps := 2000000) (disch := first | assumption | omega | (simp only [AW.next_push, AW.next_put]; omega) | ((repeat refine Fresh.push ?_ _); assumption) | (simp only [same_int, same_bool, same_ptr, same_slice, same_sliceP, same_nil, same_agg2, same_string]; done) | (simp [oneCell, AW.next_push]; done) | fail) only [go_sem, Nat.reduceEqDiff, reduceIte, Nat.reduceAdd, Int.toNat_natCast, Nat.add_zero, Owes_true, e14, hnext]; try rfl), by (simp -dsimp -implicitDefEqProofs (maxSteps := 2000000) (disch := first | assumption | omega | (simp only [AW.next_push, AW.next_put]; omega) | ((repeat refine Fresh.push ?_ _); assumption) | (simp only [same_int, same_bool, same_ptr, same_slice, same_sliceP, same_nil, same_agg2, same_string]; done) | (simp [oneCell, AW.next_push]; done) | fail) only [go_sem, Nat.reduceEqDiff, reduceIte, Nat.reduceAdd, Int.toNat_natCast, Nat.add_zero, Owes_true, e16, hnext]; try rfl), rfl⟩
  · rw [if_neg (fun h => q1 h.1)] at hnext
    simp -dsimp -implicitDefEqProofs (maxSteps := 2000000) (disch := first | assumption | omega | (simp only [AW.next_push, AW.next_put]; omega) | ((repeat refine Fresh.push ?_ _); assumption) | (simp only [same_int, same_bool, same_ptr, same_slice, same_sliceP, same_nil, same_agg2, same_string]; done) | (simp [oneCell, AW.next_push]; done) | fail) only [go_sem, Nat.reduceEqDiff, reduceIte, Nat.reduceAdd, Int.toNat_natCast, Nat.add_zero, Owes_true, Tryz.results55, e1, e2, e7, e14, e15, e16, hlt, indexV_eq, hc0, q1]
    refine ⟨_, by omega, i + 1, by omega, rfl, rfl, by (simp -dsimp -implicitDefEqProofs (maxSteps := 2000000) (disch := first | assumption | omega | (simp only [AW.next_push, AW.next_put]; omega) | ((repeat refine Fresh.push ?_ _); assumption) | (simp only [same_int, same_bool, same_ptr, same_slice, same_sliceP, same_nil, same_agg2, same_string]; done) | (simp [oneCell, AW.next_push]; done) | fail) only [go_sem, Nat.reduceEqDiff, reduceIte, Nat.reduceAdd, Int.toNat_natCast, Nat.add_zero, Owes_true, e1, hnext]; try rfl), by (simp -dsimp -implicitDefEqProofs (maxSteps := 2000000) (disch := first | assumption | omega | (simp only [AW.next_push, AW.next_put]; omega) | ((repeat refine Fresh.push ?_ _); assumption) | (simp only [same_int, same_bool, same_ptr, same_slice, same_sliceP, same_nil, same_agg2, same_string]; done) | (simp [oneCell, AW.next_push]; done) | fail) only [go_sem, Nat.reduceEqDiff, reduceIte, Nat.reduceAdd, Int.toNat_natCast, Nat.add_zero, Owes_true, e2, hnext]; try rfl), by (simp -dsimp -implicitDefEqProofs (maxSteps := 2000000) (disch := first | assumption | omega | (simp only [AW.next_push, AW.next_put]; omega) | ((repeat refine Fresh.push ?_ _); assumption) | (simp only [same_int, same_bool, same_ptr, same_slice, same_sliceP, same_nil, same_agg2, same_string]; done) | (simp [oneCell, AW.next_push]; done) | fail) only [go_sem, Nat.reduceEqDiff, reduceIte, Nat.reduceAdd, Int.toNat_natCast, Nat.add_zero, Owes_true, e7, hnext]; try rfl), by (simp -dsimp -implicitDefEqProofs (maxSteps := 2000000) (disch := first | assumption | omega | (simp only [AW.next_push, AW.next_put]; omega) | ((repeat refine Fresh.push ?_ _); assumption) | (simp only [same_int, same_bool, same_ptr, same_slice, same_sliceP, same_nil, same_agg2, same_string]; done) | (simp [oneCell, AW.next_push]; done) | fail) only [go_sem, Nat.reduceEqDiff, reduceIte, Nat.reduceAdd, Int.toNat_natCast, Nat.add_zero, Owes_true, e15, hnext]; try rfl), by (simp -dsimp -implicitDefEqProofs (maxSteps := 2000000) (disch := first | assumption | omega | (simp only [AW.next_push, AW.next_put]; omega) | ((repeat refine Fresh.push ?_ _); assumption) | (simp only [same_int, same_bool, same_ptr, same_slice, same_sliceP, same_nil, same_agg2, same_string]; done) | (simp [oneCell, AW.next_push]; done) | fail) only [go_sem, Nat.reduceEqDiff, reduceIte, Nat.reduceAdd, Int.toNat_natCast, Nat.add_zero, Owes_true, e14, hnext]; try rfl), by (simp -dsimp -implicitDefEqProofs (maxSteps := 2000000) (disch := first | assumption | omega | (simp only [AW.next_push, AW.next_put]; omega) | ((repeat refine Fresh.push ?_ _); assumption) | (simp only [same_int, same_bool, same_ptr, same_slice, same_sliceP, same_nil, same_agg2, same_string]; done) | (simp [oneCell, AW.next_push]; done) | fail) only [go_sem, Nat.reduceEqDiff, reduceIte, Nat.reduceAdd, Int.toNat_natCast, Nat.add_zero, Owes_true, e16, hnext]; try rfl), rfl⟩
/-- Sums that fit. -/
structure Fits (d : DealN) (x : LN) : Prop where
  lw : 0 ≤ x.lw ∧ x.lw ≤ 39191576576000
  cs : 0 ≤ x.cs ∧ x.cs ≤ x.lw
  fe : 0 ≤ x.fe ∧ x.fe ≤ 400000
set_option maxHeartbeats 1000000 in
theorem legal_ok (d : DealN) (x : LN) (b : Nat) (v : Value) (w : AW) (f : Fresh w) (hv : oneCell v = true) (hO : Own w b 60 (lcells d v x)) (hd : DealIn d) (hf : Fits d x) :
    CallT Tryz.prog Tryz.T1 (.fn (.func 25) #[]) #[.pointer (some ⟨b, 0, none⟩)] w (Ret (.int .i64 (lwF d x.lw)) (Grown w)) := by
  obtain ⟨P, C, Q, A, op, n, lw, cs, fe, dy, he⟩ := x
  have hr := hd.r; have hc := hd.c; have hsm := hd.sm; have hl := hf.lw
  simp only at hl
  have m1 := mul_mono2 hl.2 hr.2 hr.1 (by omega)
  have m2 := mul_mono2 hsm.2 hc.2 hc.1 (by omega)
  have p1 : 0 ≤ lw * d.r := mul_nonneg' hl.1 hr.1
  have p2 : 0 ≤ d.sm * d.c := mul_nonneg' (by omega) hc.1
  have q1 : (lw * d.r).tdiv 1000000 = lw * d.r / 1000000 := Int.tdiv_eq_ediv_of_nonneg p1
  have q2 : (d.sm * d.c).tdiv 64 = d.sm * d.c / 64 := Int.tdiv_eq_ediv_of_nonneg p2
  have n1 : ¬ (1000000 : Int) = 0 := by decide
  have n2 : ¬ (64 : Int) = 0 := by decide
  have b1 : 0 ≤ lw * d.r / 1000000 ∧ lw * d.r / 1000000 ≤ lw * d.r := by omega
  have b2 : 0 ≤ d.sm * d.c / 64 ∧ d.sm * d.c / 64 ≤ d.sm * d.c := by omega
  have c0 := (hO).cell (o := 0) rfl rfl
  have c1 := (hO).cell (o := 1) rfl rfl
  have c2 := (hO).cell (o := 2) rfl rfl
  have c3 := (hO).cell (o := 3) rfl rfl
  have c4 := (hO).cell (o := 4) rfl rfl
  have c5 := (hO).cell (o := 5) rfl rfl
  have c6 := (hO).cell (o := 6) rfl rfl
  have c7 := (hO).cell (o := 7) rfl rfl
  have c8 := (hO).cell (o := 8) rfl rfl
  have c9 := (hO).cell (o := 9) rfl rfl
  have c10 := (hO).cell (o := 10) rfl rfl
  have c11 := (hO).cell (o := 11) rfl rfl
  have c12 := (hO).cell (o := 12) rfl hv
  have c13 := (hO).cell (o := 13) rfl rfl
  have c14 := (hO).cell (o := 14) rfl rfl
  have c15 := (hO).cell (o := 15) rfl rfl
  have c16 := (hO).cell (o := 16) rfl rfl
  have c17 := (hO).cell (o := 17) rfl rfl
  have c18 := (hO).cell (o := 18) rfl rfl
  have c19 := (hO).cell (o := 19) rfl rfl
  have c20 := (hO).cell (o := 20) rfl rfl
  have g := (Grown.refl f).push (.cells [.int .i64 d.r, .int .i64 d.c] 23 w.next 0 0)
  have hN := Own.new f 23 [.int .i64 d.r, .int .i64 d.c]
  have hO1 := hO.push (.cells [.int .i64 d.r, .int .i64 d.c] 23 w.next 0 0)
  have u0 := hN.cell (o := 0) rfl rfl
  have u1 := hN.cell (o := 1) rfl rfl
  have k14 := hO1.cell (o := 14) rfl rfl
  have k16 := hO1.cell (o := 16) rfl rfl
  refine callT_code rfl Tryz.func25 rfl Tryz.s25_eq rfl ?_
  unfold Tryz.s25
  simp -dsimp -implicitDefEqProofs (maxSteps := 2000000) (disch := first | assumption | omega | (simp only [AW.next_push, AW.next_put]; omega) | ((repeat refine Fresh.push ?_ _); assumption) | (simp only [same_int, same_bool, same_ptr, same_slice, same_sliceP, same_nil, same_agg2, same_string]; done) | (simp [oneCell, AW.next_push]; done) | fail) only [go_sem, Nat.reduceEqDiff, reduceIte, Nat.reduceAdd, Int.toNat_natCast, Nat.add_zero, Owes_true, Tryz.results25, Nat.zero_add, c5, c6, k14, k16, u0, u1, q1, q2, n1, n2]
  exact ⟨rfl, g⟩
set_option maxHeartbeats 1000000 in
theorem charge_ok (d : DealN) (x : LN) (a0 a1 a2 a3 : Int) (b : Nat) (v : Value) (w : AW) (f : Fresh w) (hv : oneCell v = true) (hO : Own w b 60 (lcells d v x)) (hd : DealIn d) (hf : Fits d x)
    (hs : a0 = x.n → a1 = x.lw → a2 = x.cs → a3 = x.fe → x.C = chF d x.lw x.cs x.fe) :
    CallT Tryz.prog Tryz.T1 (.fn (.func 56) #[]) #[.pointer (some ⟨b, 0, none⟩), .agg #[.int .i64 a0, .int .i64 a1, .int .i64 a2, .int .i64 a3]] w (fun r w' => r = .tuple #[] ∧ Own w' b 60 (lcells d v { x with C := chF d x.lw x.cs x.fe }) ∧ Mut b w w') := by
  obtain ⟨P, C, Q, A, op, n, lw, cs, fe, dy, he⟩ := x
  have ha := hd.a; have hl := hf.lw; have hcs := hf.cs; have hfe := hf.fe
  simp only at hl hcs hfe hs
  have g := (Grown.refl f).push (.cells [.int .i64 a0, .int .i64 a1, .int .i64 a2, .int .i64 a3] 58 w.next 0 0)
  have hN := Own.new f 58 [.int .i64 a0, .int .i64 a1, .int .i64 a2, .int .i64 a3]
  have hO1 := hO.push (.cells [.int .i64 a0, .int .i64 a1, .int .i64 a2, .int .i64 a3] 58 w.next 0 0)
  have hm1 := (Mut.refl (b := b) f).push (.cells [.int .i64 a0, .int .i64 a1, .int .i64 a2, .int .i64 a3] 58 w.next 0 0)
  have u0 := hN.cell (o := 0) rfl rfl
  have u1 := hN.cell (o := 1) rfl rfl
  have u2 := hN.cell (o := 2) rfl rfl
  have u3 := hN.cell (o := 3) rfl rfl
  have c0 := (hO1).cell (o := 0) rfl rfl
  have c1 := (hO1).cell (o := 1) rfl rfl
  have c2 := (hO1).cell (o := 2) rfl rfl
  have c3 := (hO1).cell (o := 3) rfl rfl
  have c4 := (hO1).cell (o := 4) rfl rfl
  have c5 := (hO1).cell (o := 5) rfl rfl
  have c6 := (hO1).cell (o := 6) rfl rfl
  have c7 := (hO1).cell (o := 7) rfl rfl
  have c8 := (hO1).cell (o := 8) rfl rfl
  have c9 := (hO1).cell (o := 9) rfl rfl
  have c10 := (hO1).cell (o := 10) rfl rfl
  have c11 := (hO1).cell (o := 11) rfl rfl
  have c12 := (hO1).cell (o := 12) rfl hv
  have c13 := (hO1).cell (o := 13) rfl rfl
  have c14 := (hO1).cell (o := 14) rfl rfl
  have c15 := (hO1).cell (o := 15) rfl rfl
  have c16 := (hO1).cell (o := 16) rfl rfl
  have c17 := (hO1).cell (o := 17) rfl rfl
  have c18 := (hO1).cell (o := 18) rfl rfl
  have c19 := (hO1).cell (o := 19) rfl rfl
  have c20 := (hO1).cell (o := 20) rfl rfl
  have m1 := mul_mono2 (show cs ≤ 39191576576000 by omega) ha.2 ha.1 (by omega)
  have p1 : 0 ≤ cs * d.a := mul_nonneg' hcs.1 ha.1
  have q1 : (cs * d.a).tdiv 1000000 = cs * d.a / 1000000 := Int.tdiv_eq_ediv_of_nonneg p1
  have n1 : ¬ (1000000 : Int) = 0 := by decide
  have b1 : 0 ≤ cs * d.a / 1000000 ∧ cs * d.a / 1000000 ≤ cs * d.a := by omega
  have hlf := lwF_pos hd hl.1
  have s1 := same_agg4 n lw cs fe
  have s2 := same_agg4 a0 a1 a2 a3
  refine callT_code rfl Tryz.func56 rfl Tryz.s56_eq rfl ?_
  unfold Tryz.s56
  cases hq : [n == a0, lw == a1, cs == a2, fe == a3].all id with
  | true =>
    simp only [List.all_cons, List.all_nil, id, Bool.and_true, Bool.and_eq_true, beq_iff_eq] at hq
    obtain ⟨rfl, rfl, rfl, rfl⟩ := hq
    have e0 : ∀ z : Int, (z == z) = true := fun z => beq_self_eq_true z
    simp -dsimp -implicitDefEqProofs (maxSteps := 2000000) (disch := first | assumption | omega | (simp only [AW.next_push, AW.next_put]; omega) | ((repeat refine Fresh.push ?_ _); assumption) | (simp only [same_int, same_bool, same_ptr, same_slice, same_sliceP, same_nil, same_agg2, same_string]; done) | (simp [oneCell, AW.next_push]; done) | fail) only [go_sem, Nat.reduceEqDiff, reduceIte, Nat.reduceAdd, Int.toNat_natCast, Nat.add_zero, Owes_true, Tryz.results56, Nat.zero_add, c15, c16, c17, c18, u0, u1, u2, u3, List.all_cons, List.all_nil, id, e0]
    refine ⟨trivial, ?_, hm1⟩
    rw [← hs rfl rfl rfl rfl]; exact hO1
  | false =>
    simp -dsimp -implicitDefEqProofs (maxSteps := 2000000) (disch := first | assumption | omega | (simp only [AW.next_push, AW.next_put]; omega) | ((repeat refine Fresh.push ?_ _); assumption) | (simp only [same_int, same_bool, same_ptr, same_slice, same_sliceP, same_nil, same_agg2, same_string]; done) | (simp [oneCell, AW.next_push]; done) | fail) only [go_sem, Nat.reduceEqDiff, reduceIte, Nat.reduceAdd, Int.toNat_natCast, Nat.add_zero, Owes_true, Tryz.results56, Nat.zero_add, c15, c16, c17, c18, u0, u1, u2, u3, hq, c7, q1, n1]
    apply callV_of (e := rfl)
    · exact legal_ok d ⟨P, C, Q, A, op, n, lw, cs, fe, dy, he⟩ b v _ hm1.fresh hv hO1 hd hf
    rintro _ w2 ⟨rfl, hg2⟩
    have hO2 := hO1.keep hg2.1
    have hle := hg2.1.wle hm1.fresh
    obtain ⟨w3, k3, hO3, hm3⟩ := put_cell (o := 1) (V := .int .i64 (chF d lw cs fe)) (x' := ⟨P, chF d lw cs fe, Q, A, op, n, lw, cs, fe, dy, he⟩) hO2 hg2.2 (by decide) rfl rfl
    have hch : min (cs * d.a / 1000000 + fe) (lwF d lw) = chF d lw cs fe := rfl
    simp -dsimp -implicitDefEqProofs (maxSteps := 2000000) (disch := first | assumption | omega | (simp only [AW.next_push, AW.next_put]; omega) | ((repeat refine Fresh.push ?_ _); assumption) | (simp only [same_int, same_bool, same_ptr, same_slice, same_sliceP, same_nil, same_agg2, same_string]; done) | (simp [oneCell, AW.next_push]; done) | fail) only [go_sem, Nat.reduceEqDiff, reduceIte, Nat.reduceAdd, Int.toNat_natCast, Nat.add_zero, Owes_true, Tryz.results56, Nat.zero_add, hle, hch, k3]
    exact ⟨trivial, hO3, (hm1.grown hg2).trans hm3⟩
end Go.Proofs

/- Loans: on to another day. -/
namespace Go.Proofs
open Go Go.RowKit Go.Sim
set_option maxRecDepth 100000
theorem Arr.one {B : Nat} {w : AW} {z : Nat} {v : Value} {rows : List (List Value)} (h : Arr B w z v rows) : oneCell v = true := by
  obtain ⟨_, _, _, rfl, _⟩ := h; rfl
theorem LOk.fits {d : DealN} {cl : List Int} (hd : dealB d cl = true) {j : Nat} {x : LN} (h : LOk d j x) (hj : j ≤ 40) : Fits d x := by
  have hi := (dealB_in hd).1
  have hn := h.n; have hdy := h.dy; have hst := hi.st; have hsm := hi.sm; have hlw := h.lw; have hcs := h.cs; have hfe := h.fe
  have m := mul_mono2 (show x.n ≤ 36500 by omega) hsm.2 (by omega) (by omega)
  exact ⟨⟨hlw.1, by omega⟩, hcs, ⟨hfe.1, by omega⟩⟩
theorem closed_len {d : DealN} {cl : List Int} (hd : dealB d cl = true) : cl.length ≤ 64 := by
  simp only [dealB, Bool.and_eq_true] at hd
  have hcl := hd.1.1.2
  rw [closedB, Bool.and_eq_true] at hcl; exact of_decide_eq_true hcl.1
set_option maxHeartbeats 2000000 in
theorem pass_ok (d : DealN) (cl : List Int) (x : LN) (day : Int) (j b B : Nat) (v : Value) (w : AW) (f : Fresh w) (hs : Arr B w 1 v (cl.map icells)) (hB : B ≤ b) (hO : Own w b 60 (lcells d v x)) (hd : dealB d cl = true) (h : LOk d j x) (hj : j ≤ 33) (h1 : x.dy ≤ day) (h2 : day ≤ 36500) :
    CallT Tryz.prog Tryz.T1 (.fn (.func 38) #[]) #[.pointer (some ⟨b, 0, none⟩), .int .i64 day] w (fun r w' => r = .tuple #[] ∧ Own w' b 60 (lcells d v (passL d cl x day)) ∧ Mut b w w') := by
  have hv := Arr.one hs
  have hi := (dealB_in hd).1
  have hfit := (pass_keeps hd h h1 h2).fits hd (by omega)
  have hin := passN_in hd h h1
  have hft0 := h.fits hd (by omega)
  obtain ⟨P, C, Q, A, op, n, lw, cs, fe, dy, he⟩ := x
  have hdy := h.dy; have hhe := h.he; have hP := h.P; have hn := h.n; have hA := h.A; have hst := hi.st; have hfr := hi.fr; have hsm := hi.sm
  have hl := hft0.lw; have hc := hft0.cs; have hf := hft0.fe
  have hC := h.C
  simp only at hdy hhe hP hn hA hl hc hf h1 hC
  obtain ⟨w1, k1, hO1, m1⟩ := put_cell (o := 19) (V := .int .i64 day) (x' := ⟨P, C, Q, A, op, n, lw, cs, fe, day, he⟩) hO f (by decide) rfl rfl
  have c0 := (hO).cell (o := 0) rfl rfl
  have c1 := (hO).cell (o := 1) rfl rfl
  have c2 := (hO).cell (o := 2) rfl rfl
  have c3 := (hO).cell (o := 3) rfl rfl
  have c4 := (hO).cell (o := 4) rfl rfl
  have c5 := (hO).cell (o := 5) rfl rfl
  have c6 := (hO).cell (o := 6) rfl rfl
  have c7 := (hO).cell (o := 7) rfl rfl
  have c8 := (hO).cell (o := 8) rfl rfl
  have c9 := (hO).cell (o := 9) rfl rfl
  have c10 := (hO).cell (o := 10) rfl rfl
  have c11 := (hO).cell (o := 11) rfl rfl
  have c12 := (hO).cell (o := 12) rfl hv
  have c13 := (hO).cell (o := 13) rfl rfl
  have c14 := (hO).cell (o := 14) rfl rfl
  have c15 := (hO).cell (o := 15) rfl rfl
  have c16 := (hO).cell (o := 16) rfl rfl
  have c17 := (hO).cell (o := 17) rfl rfl
  have c18 := (hO).cell (o := 18) rfl rfl
  have c19 := (hO).cell (o := 19) rfl rfl
  have c20 := (hO).cell (o := 20) rfl rfl
  refine callT_code rfl Tryz.func38 rfl Tryz.s38_eq rfl ?_
  unfold Tryz.s38
  simp -dsimp -implicitDefEqProofs (maxSteps := 2000000) (disch := first | assumption | omega | (simp only [AW.next_push, AW.next_put]; omega) | ((repeat refine Fresh.push ?_ _); assumption) | (simp only [same_int, same_bool, same_ptr, same_slice, same_sliceP, same_nil, same_agg2, same_string]; done) | (simp [oneCell, AW.next_push]; done) | fail) only [go_sem, Nat.reduceEqDiff, reduceIte, Nat.reduceAdd, Int.toNat_natCast, Nat.add_zero, Owes_true, Tryz.results38, Nat.zero_add, c19, c20, k1]
  have c0 := (hO1).cell (o := 0) rfl rfl
  have c1 := (hO1).cell (o := 1) rfl rfl
  have c2 := (hO1).cell (o := 2) rfl rfl
  have c3 := (hO1).cell (o := 3) rfl rfl
  have c4 := (hO1).cell (o := 4) rfl rfl
  have c5 := (hO1).cell (o := 5) rfl rfl
  have c6 := (hO1).cell (o := 6) rfl rfl
  have c7 := (hO1).cell (o := 7) rfl rfl
  have c8 := (hO1).cell (o := 8) rfl rfl
  have c9 := (hO1).cell (o := 9) rfl rfl
  have c10 := (hO1).cell (o := 10) rfl rfl
  have c11 := (hO1).cell (o := 11) rfl rfl
  have c12 := (hO1).cell (o := 12) rfl hv
  have c13 := (hO1).cell (o := 13) rfl rfl
  have c14 := (hO1).cell (o := 14) rfl rfl
  have c15 := (hO1).cell (o := 15) rfl rfl
  have c16 := (hO1).cell (o := 16) rfl rfl
  have c17 := (hO1).cell (o := 17) rfl rfl
  have c18 := (hO1).cell (o := 18) rfl rfl
  have c19 := (hO1).cell (o := 19) rfl rfl
  have c20 := (hO1).cell (o := 20) rfl rfl
  cases op with
  | false =>
    simp -dsimp -implicitDefEqProofs (maxSteps := 2000000) (disch := first | assumption | omega | (simp only [AW.next_push, AW.next_put]; omega) | ((repeat refine Fresh.push ?_ _); assumption) | (simp only [same_int, same_bool, same_ptr, same_slice, same_sliceP, same_nil, same_agg2, same_string]; done) | (simp [oneCell, AW.next_push]; done) | fail) only [go_sem, Nat.reduceEqDiff, reduceIte, Nat.reduceAdd, Int.toNat_natCast, Nat.add_zero, Owes_true, Tryz.results38, Nat.zero_add, c4]
    exact ⟨trivial, hO1, m1⟩
  | true =>
  have f1 := m1.fresh
  have hO2 := hO1.push (.cells [.int .i64 n, .int .i64 lw, .int .i64 cs, .int .i64 fe] 58 w1.next 0 0)
  have hS2 := Own.new f1 58 [.int .i64 n, .int .i64 lw, .int .i64 cs, .int .i64 fe]
  have m2 := m1.push (.cells [.int .i64 n, .int .i64 lw, .int .i64 cs, .int .i64 fe] 58 w1.next 0 0)
  have hne : w1.next ≠ b := by have := hO1.lt; omega
  have hs2 := hs.keep (m2.keep hB (by have := hO.lt; omega)) (Nat.le_refl _)
  simp -dsimp -implicitDefEqProofs (maxSteps := 2000000) (disch := first | assumption | omega | (simp only [AW.next_push, AW.next_put]; omega) | ((repeat refine Fresh.push ?_ _); assumption) | (simp only [same_int, same_bool, same_ptr, same_slice, same_sliceP, same_nil, same_agg2, same_string]; done) | (simp [oneCell, AW.next_push]; done) | fail) only [go_sem, Nat.reduceEqDiff, reduceIte, Nat.reduceAdd, Int.toNat_natCast, Nat.add_zero, Owes_true, Tryz.results38, Nat.zero_add, c4, c15, c16, c17, c18]
  have c0 := (hO2).cell (o := 0) rfl rfl
  have c1 := (hO2).cell (o := 1) rfl rfl
  have c2 := (hO2).cell (o := 2) rfl rfl
  have c3 := (hO2).cell (o := 3) rfl rfl
  have c4 := (hO2).cell (o := 4) rfl rfl
  have c5 := (hO2).cell (o := 5) rfl rfl
  have c6 := (hO2).cell (o := 6) rfl rfl
  have c7 := (hO2).cell (o := 7) rfl rfl
  have c8 := (hO2).cell (o := 8) rfl rfl
  have c9 := (hO2).cell (o := 9) rfl rfl
  have c10 := (hO2).cell (o := 10) rfl rfl
  have c11 := (hO2).cell (o := 11) rfl rfl
  have c12 := (hO2).cell (o := 12) rfl hv
  have c13 := (hO2).cell (o := 13) rfl rfl
  have c14 := (hO2).cell (o := 14) rfl rfl
  have c15 := (hO2).cell (o := 15) rfl rfl
  have c16 := (hO2).cell (o := 16) rfl rfl
  have c17 := (hO2).cell (o := 17) rfl rfl
  have c18 := (hO2).cell (o := 18) rfl rfl
  have c19 := (hO2).cell (o := 19) rfl rfl
  have c20 := (hO2).cell (o := 20) rfl rfl
  generalize w1.push (.cells [.int .i64 n, .int .i64 lw, .int .i64 cs, .int .i64 fe] 58 w1.next 0 0) = w2 at *
  simp -dsimp -implicitDefEqProofs (maxSteps := 2000000) (disch := first | assumption | omega | (simp only [AW.next_push, AW.next_put]; omega) | ((repeat refine Fresh.push ?_ _); assumption) | (simp only [same_int, same_bool, same_ptr, same_slice, same_sliceP, same_nil, same_agg2, same_string]; done) | (simp [oneCell, AW.next_push]; done) | fail) only [go_sem, Nat.reduceEqDiff, reduceIte, Nat.reduceAdd, Int.toNat_natCast, Nat.add_zero, Owes_true, Tryz.results38, Nat.zero_add, c12]
  apply callV_of (e := rfl)
  · exact openDays_ok cl (max dy he) day v w2 (hs2.mono (by have := hO2.lt; omega)) (closed_len hd) (by omega) (by omega)
  rintro _ _ ⟨rfl, rfl⟩
  have hk : passN cl ⟨P, C, Q, A, true, n, lw, cs, fe, dy, he⟩ day = oD cl (max dy he) day := rfl
  simp only [passL, hk] at hfit hin ⊢
  generalize oD cl (max dy he) day = k at *
  have a1 : 0 ≤ k * P := mul_nonneg' hin.1 hP.1
  have a2 : k * P ≤ 36500 * 1073741824 := mul_mono2 (by omega) (by omega) hP.1 (by omega)
  have a4 : 0 ≤ max 0 (k - max 0 (d.fr - n)) * P := mul_nonneg' (by omega) hP.1
  have a5 : max 0 (k - max 0 (d.fr - n)) * P ≤ k * P := mul_mono (by omega) hP.1
  obtain ⟨w3, k3, hO3, m3⟩ := put_cell (o := 15) (V := .int .i64 (n + k)) (x' := ⟨P, C, Q, A, true, n + k, lw, cs, fe, day, he⟩) hO2 m2.fresh (by decide) rfl rfl
  obtain ⟨w4, k4, hO4, m4⟩ := put_cell (o := 16) (V := .int .i64 (lw + k * P)) (x' := ⟨P, C, Q, A, true, n + k, lw + k * P, cs, fe, day, he⟩) hO3 m3.fresh (by decide) rfl rfl
  obtain ⟨w5, k5, hO5, m5⟩ := put_cell (o := 17) (V := .int .i64 (cs + max 0 (k - max 0 (d.fr - n)) * P)) (x' := ⟨P, C, Q, A, true, n + k, lw + k * P, cs + max 0 (k - max 0 (d.fr - n)) * P, fe, day, he⟩) hO4 m4.fresh (by decide) rfl rfl
  obtain ⟨w6, k6, hO6, m6⟩ := put_cell (o := 3) (V := .int .i64 (A + k)) (x' := ⟨P, C, Q, A + k, true, n + k, lw + k * P, cs + max 0 (k - max 0 (d.fr - n)) * P, fe, day, he⟩) hO5 m5.fresh (by decide) rfl rfl
  simp -dsimp -implicitDefEqProofs (maxSteps := 2000000) (disch := first | assumption | omega | (simp only [AW.next_push, AW.next_put]; omega) | ((repeat refine Fresh.push ?_ _); assumption) | (simp only [same_int, same_bool, same_ptr, same_slice, same_sliceP, same_nil, same_agg2, same_string]; done) | (simp [oneCell, AW.next_push]; done) | fail) only [go_sem, Nat.reduceEqDiff, reduceIte, Nat.reduceAdd, Int.toNat_natCast, Nat.add_zero, Owes_true, Tryz.results38, Nat.zero_add, c8, c15, k3]
  have c0 := (hO3).cell (o := 0) rfl rfl
  have c1 := (hO3).cell (o := 1) rfl rfl
  have c2 := (hO3).cell (o := 2) rfl rfl
  have c3 := (hO3).cell (o := 3) rfl rfl
  have c4 := (hO3).cell (o := 4) rfl rfl
  have c5 := (hO3).cell (o := 5) rfl rfl
  have c6 := (hO3).cell (o := 6) rfl rfl
  have c7 := (hO3).cell (o := 7) rfl rfl
  have c8 := (hO3).cell (o := 8) rfl rfl
  have c9 := (hO3).cell (o := 9) rfl rfl
  have c10 := (hO3).cell (o := 10) rfl rfl
  have c11 := (hO3).cell (o := 11) rfl rfl
  have c12 := (hO3).cell (o := 12) rfl hv
  have c13 := (hO3).cell (o := 13) rfl rfl
  have c14 := (hO3).cell (o := 14) rfl rfl
  have c15 := (hO3).cell (o := 15) rfl rfl
  have c16 := (hO3).cell (o := 16) rfl rfl
  have c17 := (hO3).cell (o := 17) rfl rfl
  have c18 := (hO3).cell (o := 18) rfl rfl
  have c19 := (hO3).cell (o := 19) rfl rfl
  have c20 := (hO3).cell (o := 20) rfl rfl
  simp -dsimp -implicitDefEqProofs (maxSteps := 2000000) (disch := first | assumption | omega | (simp only [AW.next_push, AW.next_put]; omega) | ((repeat refine Fresh.push ?_ _); assumption) | (simp only [same_int, same_bool, same_ptr, same_slice, same_sliceP, same_nil, same_agg2, same_string]; done) | (simp [oneCell, AW.next_push]; done) | fail) only [go_sem, Nat.reduceEqDiff, reduceIte, Nat.reduceAdd, Int.toNat_natCast, Nat.add_zero, Owes_true, Tryz.results38, Nat.zero_add, c16, c0, k4]
  have c0 := (hO4).cell (o := 0) rfl rfl
  have c1 := (hO4).cell (o := 1) rfl rfl
  have c2 := (hO4).cell (o := 2) rfl rfl
  have c3 := (hO4).cell (o := 3) rfl rfl
  have c4 := (hO4).cell (o := 4) rfl rfl
  have c5 := (hO4).cell (o := 5) rfl rfl
  have c6 := (hO4).cell (o := 6) rfl rfl
  have c7 := (hO4).cell (o := 7) rfl rfl
  have c8 := (hO4).cell (o := 8) rfl rfl
  have c9 := (hO4).cell (o := 9) rfl rfl
  have c10 := (hO4).cell (o := 10) rfl rfl
  have c11 := (hO4).cell (o := 11) rfl rfl
  have c12 := (hO4).cell (o := 12) rfl hv
  have c13 := (hO4).cell (o := 13) rfl rfl
  have c14 := (hO4).cell (o := 14) rfl rfl
  have c15 := (hO4).cell (o := 15) rfl rfl
  have c16 := (hO4).cell (o := 16) rfl rfl
  have c17 := (hO4).cell (o := 17) rfl rfl
  have c18 := (hO4).cell (o := 18) rfl rfl
  have c19 := (hO4).cell (o := 19) rfl rfl
  have c20 := (hO4).cell (o := 20) rfl rfl
  simp -dsimp -implicitDefEqProofs (maxSteps := 2000000) (disch := first | assumption | omega | (simp only [AW.next_push, AW.next_put]; omega) | ((repeat refine Fresh.push ?_ _); assumption) | (simp only [same_int, same_bool, same_ptr, same_slice, same_sliceP, same_nil, same_agg2, same_string]; done) | (simp [oneCell, AW.next_push]; done) | fail) only [go_sem, Nat.reduceEqDiff, reduceIte, Nat.reduceAdd, Int.toNat_natCast, Nat.add_zero, Owes_true, Tryz.results38, Nat.zero_add, c17, c0, k5]
  have c0 := (hO5).cell (o := 0) rfl rfl
  have c1 := (hO5).cell (o := 1) rfl rfl
  have c2 := (hO5).cell (o := 2) rfl rfl
  have c3 := (hO5).cell (o := 3) rfl rfl
  have c4 := (hO5).cell (o := 4) rfl rfl
  have c5 := (hO5).cell (o := 5) rfl rfl
  have c6 := (hO5).cell (o := 6) rfl rfl
  have c7 := (hO5).cell (o := 7) rfl rfl
  have c8 := (hO5).cell (o := 8) rfl rfl
  have c9 := (hO5).cell (o := 9) rfl rfl
  have c10 := (hO5).cell (o := 10) rfl rfl
  have c11 := (hO5).cell (o := 11) rfl rfl
  have c12 := (hO5).cell (o := 12) rfl hv
  have c13 := (hO5).cell (o := 13) rfl rfl
  have c14 := (hO5).cell (o := 14) rfl rfl
  have c15 := (hO5).cell (o := 15) rfl rfl
  have c16 := (hO5).cell (o := 16) rfl rfl
  have c17 := (hO5).cell (o := 17) rfl rfl
  have c18 := (hO5).cell (o := 18) rfl rfl
  have c19 := (hO5).cell (o := 19) rfl rfl
  have c20 := (hO5).cell (o := 20) rfl rfl
  simp -dsimp -implicitDefEqProofs (maxSteps := 2000000) (disch := first | assumption | omega | (simp only [AW.next_push, AW.next_put]; omega) | ((repeat refine Fresh.push ?_ _); assumption) | (simp only [same_int, same_bool, same_ptr, same_slice, same_sliceP, same_nil, same_agg2, same_string]; done) | (simp [oneCell, AW.next_push]; done) | fail) only [go_sem, Nat.reduceEqDiff, reduceIte, Nat.reduceAdd, Int.toNat_natCast, Nat.add_zero, Owes_true, Tryz.results38, Nat.zero_add, c3, k6]
  have hS6 := m6.own (m5.own (m4.own (m3.own hS2 hne) hne) hne) hne
  have u0 := hS6.cell (o := 0) rfl rfl
  have u1 := hS6.cell (o := 1) rfl rfl
  have u2 := hS6.cell (o := 2) rfl rfl
  have u3 := hS6.cell (o := 3) rfl rfl
  simp -dsimp -implicitDefEqProofs (maxSteps := 2000000) (disch := first | assumption | omega | (simp only [AW.next_push, AW.next_put]; omega) | ((repeat refine Fresh.push ?_ _); assumption) | (simp only [same_int, same_bool, same_ptr, same_slice, same_sliceP, same_nil, same_agg2, same_string]; done) | (simp [oneCell, AW.next_push]; done) | fail) only [go_sem, Nat.reduceEqDiff, reduceIte, Nat.reduceAdd, Int.toNat_natCast, Nat.add_zero, Owes_true, Tryz.results38, Nat.zero_add, u0, u1, u2, u3]
  have hsame : n = n + k → lw = lw + k * P → cs = cs + max 0 (k - max 0 (d.fr - n)) * P → fe = fe → C = chF d (lw + k * P) (cs + max 0 (k - max 0 (d.fr - n)) * P) fe := by
    intro q1 q2 q3 _; rw [← q2, ← q3]; exact hC
  apply callV_of (e := rfl)
  · exact charge_ok d ⟨P, C, Q, A + k, true, n + k, lw + k * P, cs + max 0 (k - max 0 (d.fr - n)) * P, fe, day, he⟩ n lw cs fe b v w6 m6.fresh hv hO6 hi ⟨hfit.lw, hfit.cs, hfit.fe⟩ hsame
  rintro _ w7 ⟨rfl, hO7, m7⟩
  simp -dsimp -implicitDefEqProofs (maxSteps := 2000000) (disch := first | assumption | omega | (simp only [AW.next_push, AW.next_put]; omega) | ((repeat refine Fresh.push ?_ _); assumption) | (simp only [same_int, same_bool, same_ptr, same_slice, same_sliceP, same_nil, same_agg2, same_string]; done) | (simp [oneCell, AW.next_push]; done) | fail) only [go_sem, Nat.reduceEqDiff, reduceIte, Nat.reduceAdd, Int.toNat_natCast, Nat.add_zero, Owes_true, Tryz.results38]
  refine ⟨trivial, ?_, (((((m2.trans m3).trans m4).trans m5).trans m6).trans m7)⟩
  rw [hk]
  exact hO7
end Go.Proofs

/- Loans: acts. -/
namespace Go.Proofs
open Go Go.RowKit Go.Sim
set_option maxRecDepth 100000
theorem LOk.charge {d : DealN} {cl : List Int} (hd : dealB d cl = true) {j : Nat} {x : LN} (h : LOk d j x) : 0 ≤ x.C ∧ x.C ≤ d.sm := by
  have hi := (dealB_in hd).1
  have hsm := hi.sm
  have h1 := chF_pos hi h.lw.1 h.cs.1 h.fe.1
  have h2 : d.sm * d.c / 64 ≤ d.sm := by
    have := mul_mono2 (Int.le_refl d.sm) hi.c.2 hi.c.1 (by omega)
    omega
  rw [h.C]
  refine ⟨h1, ?_⟩
  unfold chF lwF; omega
def payE (x : LN) (m : Int) : Int := if x.C - x.Q + x.P ≤ m then 6 else 0
set_option maxHeartbeats 1000000 in
theorem pay_ok (d : DealN) (cl : List Int) (x : LN) (m : Int) (j b : Nat) (v : Value) (w : AW) (f : Fresh w) (hv : oneCell v = true) (hO : Own w b 60 (lcells d v x)) (hd : dealB d cl = true) (h : LOk d j x) (hm : 1 ≤ m ∧ m ≤ 1073741824) :
    CallT Tryz.prog Tryz.T1 (.fn (.func 58) #[]) #[.pointer (some ⟨b, 0, none⟩), .int .i64 m] w (fun r w' => r = .int .i64 (payE x m) ∧ Own w' b 60 (lcells d v (if payE x m = 0 then payL x m else x)) ∧ Mut b w w') := by
  have hch := h.charge hd
  have hsm := (dealB_in hd).1.sm
  obtain ⟨P, C, Q, A, op, n, lw, cs, fe, dy, he⟩ := x
  have hQ := h.Q; have hP := h.P
  simp only at hQ hP hch
  have c0 := (hO).cell (o := 0) rfl rfl
  have c1 := (hO).cell (o := 1) rfl rfl
  have c2 := (hO).cell (o := 2) rfl rfl
  have c3 := (hO).cell (o := 3) rfl rfl
  have c4 := (hO).cell (o := 4) rfl rfl
  have c5 := (hO).cell (o := 5) rfl rfl
  have c6 := (hO).cell (o := 6) rfl rfl
  have c7 := (hO).cell (o := 7) rfl rfl
  have c8 := (hO).cell (o := 8) rfl rfl
  have c9 := (hO).cell (o := 9) rfl rfl
  have c10 := (hO).cell (o := 10) rfl rfl
  have c11 := (hO).cell (o := 11) rfl rfl
  have c12 := (hO).cell (o := 12) rfl hv
  have c13 := (hO).cell (o := 13) rfl rfl
  have c14 := (hO).cell (o := 14) rfl rfl
  have c15 := (hO).cell (o := 15) rfl rfl
  have c16 := (hO).cell (o := 16) rfl rfl
  have c17 := (hO).cell (o := 17) rfl rfl
  have c18 := (hO).cell (o := 18) rfl rfl
  have c19 := (hO).cell (o := 19) rfl rfl
  have c20 := (hO).cell (o := 20) rfl rfl
  refine callT_code rfl Tryz.func58 rfl Tryz.s58_eq rfl ?_
  unfold Tryz.s58
  by_cases q : C - Q + P ≤ m
  · have hE : payE ⟨P, C, Q, A, op, n, lw, cs, fe, dy, he⟩ m = 6 := by unfold payE; rw [if_pos q]
    simp -dsimp -implicitDefEqProofs (maxSteps := 2000000) (disch := first | assumption | omega | (simp only [AW.next_push, AW.next_put]; omega) | ((repeat refine Fresh.push ?_ _); assumption) | (simp only [same_int, same_bool, same_ptr, same_slice, same_sliceP, same_nil, same_agg2, same_string]; done) | (simp [oneCell, AW.next_push]; done) | fail) only [go_sem, Nat.reduceEqDiff, reduceIte, Nat.reduceAdd, Int.toNat_natCast, Nat.add_zero, Owes_true, Tryz.results58, Nat.zero_add, c0, c1, c2, q]
    rw [hE]
    exact ⟨rfl, hO, Mut.refl f⟩
  · have hE : payE ⟨P, C, Q, A, op, n, lw, cs, fe, dy, he⟩ m = 0 := by unfold payE; rw [if_neg q]
    obtain ⟨w1, k1, hO1, m1⟩ := put_cell (o := 2) (V := .int .i64 (Q + min m (C - Q))) (x' := ⟨P, C, Q + min m (C - Q), A, op, n, lw, cs, fe, dy, he⟩) hO f (by decide) rfl rfl
    obtain ⟨w2, k2, hO2, m2⟩ := put_cell (o := 0) (V := .int .i64 (P - max 0 (m - (C - Q)))) (x' := ⟨P - max 0 (m - (C - Q)), C, Q + min m (C - Q), A, op, n, lw, cs, fe, dy, he⟩) hO1 m1.fresh (by decide) rfl rfl
    simp -dsimp -implicitDefEqProofs (maxSteps := 2000000) (disch := first | assumption | omega | (simp only [AW.next_push, AW.next_put]; omega) | ((repeat refine Fresh.push ?_ _); assumption) | (simp only [same_int, same_bool, same_ptr, same_slice, same_sliceP, same_nil, same_agg2, same_string]; done) | (simp [oneCell, AW.next_push]; done) | fail) only [go_sem, Nat.reduceEqDiff, reduceIte, Nat.reduceAdd, Int.toNat_natCast, Nat.add_zero, Owes_true, Tryz.results58, Nat.zero_add, c0, c1, c2, q, k1]
    have c0 := (hO1).cell (o := 0) rfl rfl
    have c1 := (hO1).cell (o := 1) rfl rfl
    have c2 := (hO1).cell (o := 2) rfl rfl
    have c3 := (hO1).cell (o := 3) rfl rfl
    have c4 := (hO1).cell (o := 4) rfl rfl
    have c5 := (hO1).cell (o := 5) rfl rfl
    have c6 := (hO1).cell (o := 6) rfl rfl
    have c7 := (hO1).cell (o := 7) rfl rfl
    have c8 := (hO1).cell (o := 8) rfl rfl
    have c9 := (hO1).cell (o := 9) rfl rfl
    have c10 := (hO1).cell (o := 10) rfl rfl
    have c11 := (hO1).cell (o := 11) rfl rfl
    have c12 := (hO1).cell (o := 12) rfl hv
    have c13 := (hO1).cell (o := 13) rfl rfl
    have c14 := (hO1).cell (o := 14) rfl rfl
    have c15 := (hO1).cell (o := 15) rfl rfl
    have c16 := (hO1).cell (o := 16) rfl rfl
    have c17 := (hO1).cell (o := 17) rfl rfl
    have c18 := (hO1).cell (o := 18) rfl rfl
    have c19 := (hO1).cell (o := 19) rfl rfl
    have c20 := (hO1).cell (o := 20) rfl rfl
    simp -dsimp -implicitDefEqProofs (maxSteps := 2000000) (disch := first | assumption | omega | (simp only [AW.next_push, AW.next_put]; omega) | ((repeat refine Fresh.push ?_ _); assumption) | (simp only [same_int, same_bool, same_ptr, same_slice, same_sliceP, same_nil, same_agg2, same_string]; done) | (simp [oneCell, AW.next_push]; done) | fail) only [go_sem, Nat.reduceEqDiff, reduceIte, Nat.reduceAdd, Int.toNat_natCast, Nat.add_zero, Owes_true, Tryz.results58, Nat.zero_add, c0, k2]
    rw [hE]
    exact ⟨rfl, hO2, m1.trans m2⟩
set_option maxHeartbeats 1000000 in
theorem renew_ok (d : DealN) (cl : List Int) (x : LN) (m : Int) (j b : Nat) (v : Value) (w : AW) (f : Fresh w) (hv : oneCell v = true) (hO : Own w b 60 (lcells d v x)) (hd : dealB d cl = true) (h : LOk d j x) (hj : j ≤ 33) :
    CallT Tryz.prog Tryz.T1 (.fn (.func 59) #[]) #[.pointer (some ⟨b, 0, none⟩), .int .i64 m] w (fun r w' => r = .int .i64 0 ∧ Own w' b 60 (lcells d v (renewL d x)) ∧ Mut b w w') := by
  have hfit := h.fits hd (by omega)
  have hi := (dealB_in hd).1
  have hC := h.C
  have hfe := h.fe
  have hfee := hi.fe
  obtain ⟨P, C, Q, A, op, n, lw, cs, fe, dy, he⟩ := x
  simp only at hC hfe
  have s1 := same_agg4 n lw cs fe
  have f1 := f
  have hO2 := hO.push (.cells [.int .i64 n, .int .i64 lw, .int .i64 cs, .int .i64 fe] 58 w.next 0 0)
  have hS2 := Own.new f1 58 [.int .i64 n, .int .i64 lw, .int .i64 cs, .int .i64 fe]
  have m2 := (Mut.refl (b := b) f).push (.cells [.int .i64 n, .int .i64 lw, .int .i64 cs, .int .i64 fe] 58 w.next 0 0)
  have hne : w.next ≠ b := by have := hO.lt; omega
  have c0 := (hO).cell (o := 0) rfl rfl
  have c1 := (hO).cell (o := 1) rfl rfl
  have c2 := (hO).cell (o := 2) rfl rfl
  have c3 := (hO).cell (o := 3) rfl rfl
  have c4 := (hO).cell (o := 4) rfl rfl
  have c5 := (hO).cell (o := 5) rfl rfl
  have c6 := (hO).cell (o := 6) rfl rfl
  have c7 := (hO).cell (o := 7) rfl rfl
  have c8 := (hO).cell (o := 8) rfl rfl
  have c9 := (hO).cell (o := 9) rfl rfl
  have c10 := (hO).cell (o := 10) rfl rfl
  have c11 := (hO).cell (o := 11) rfl rfl
  have c12 := (hO).cell (o := 12) rfl hv
  have c13 := (hO).cell (o := 13) rfl rfl
  have c14 := (hO).cell (o := 14) rfl rfl
  have c15 := (hO).cell (o := 15) rfl rfl
  have c16 := (hO).cell (o := 16) rfl rfl
  have c17 := (hO).cell (o := 17) rfl rfl
  have c18 := (hO).cell (o := 18) rfl rfl
  have c19 := (hO).cell (o := 19) rfl rfl
  have c20 := (hO).cell (o := 20) rfl rfl
  refine callT_code rfl Tryz.func59 rfl Tryz.s59_eq rfl ?_
  unfold Tryz.s59
  simp -dsimp -implicitDefEqProofs (maxSteps := 2000000) (disch := first | assumption | omega | (simp only [AW.next_push, AW.next_put]; omega) | ((repeat refine Fresh.push ?_ _); assumption) | (simp only [same_int, same_bool, same_ptr, same_slice, same_sliceP, same_nil, same_agg2, same_string]; done) | (simp [oneCell, AW.next_push]; done) | fail) only [go_sem, Nat.reduceEqDiff, reduceIte, Nat.reduceAdd, Int.toNat_natCast, Nat.add_zero, Owes_true, Tryz.results59, Nat.zero_add, c15, c16, c17, c18]
  have c0 := (hO2).cell (o := 0) rfl rfl
  have c1 := (hO2).cell (o := 1) rfl rfl
  have c2 := (hO2).cell (o := 2) rfl rfl
  have c3 := (hO2).cell (o := 3) rfl rfl
  have c4 := (hO2).cell (o := 4) rfl rfl
  have c5 := (hO2).cell (o := 5) rfl rfl
  have c6 := (hO2).cell (o := 6) rfl rfl
  have c7 := (hO2).cell (o := 7) rfl rfl
  have c8 := (hO2).cell (o := 8) rfl rfl
  have c9 := (hO2).cell (o := 9) rfl rfl
  have c10 := (hO2).cell (o := 10) rfl rfl
  have c11 := (hO2).cell (o := 11) rfl rfl
  have c12 := (hO2).cell (o := 12) rfl hv
  have c13 := (hO2).cell (o := 13) rfl rfl
  have c14 := (hO2).cell (o := 14) rfl rfl
  have c15 := (hO2).cell (o := 15) rfl rfl
  have c16 := (hO2).cell (o := 16) rfl rfl
  have c17 := (hO2).cell (o := 17) rfl rfl
  have c18 := (hO2).cell (o := 18) rfl rfl
  have c19 := (hO2).cell (o := 19) rfl rfl
  have c20 := (hO2).cell (o := 20) rfl rfl
  generalize w.push (.cells [.int .i64 n, .int .i64 lw, .int .i64 cs, .int .i64 fe] 58 w.next 0 0) = w2 at *
  obtain ⟨w3, k3, hO3, m3⟩ := put_cell (o := 18) (V := .int .i64 (fe + d.fe)) (x' := ⟨P, C, Q, A, op, n, lw, cs, fe + d.fe, dy, he⟩) hO2 m2.fresh (by decide) rfl rfl
  simp -dsimp -implicitDefEqProofs (maxSteps := 2000000) (disch := first | assumption | omega | (simp only [AW.next_push, AW.next_put]; omega) | ((repeat refine Fresh.push ?_ _); assumption) | (simp only [same_int, same_bool, same_ptr, same_slice, same_sliceP, same_nil, same_agg2, same_string]; done) | (simp [oneCell, AW.next_push]; done) | fail) only [go_sem, Nat.reduceEqDiff, reduceIte, Nat.reduceAdd, Int.toNat_natCast, Nat.add_zero, Owes_true, Tryz.results59, Nat.zero_add, c18, c9, k3]
  have hS3 := m3.own hS2 hne
  have u0 := hS3.cell (o := 0) rfl rfl
  have u1 := hS3.cell (o := 1) rfl rfl
  have u2 := hS3.cell (o := 2) rfl rfl
  have u3 := hS3.cell (o := 3) rfl rfl
  simp -dsimp -implicitDefEqProofs (maxSteps := 2000000) (disch := first | assumption | omega | (simp only [AW.next_push, AW.next_put]; omega) | ((repeat refine Fresh.push ?_ _); assumption) | (simp only [same_int, same_bool, same_ptr, same_slice, same_sliceP, same_nil, same_agg2, same_string]; done) | (simp [oneCell, AW.next_push]; done) | fail) only [go_sem, Nat.reduceEqDiff, reduceIte, Nat.reduceAdd, Int.toNat_natCast, Nat.add_zero, Owes_true, Tryz.results59, Nat.zero_add, u0, u1, u2, u3]
  have hsame : n = n → lw = lw → cs = cs → fe = fe + d.fe → C = chF d lw cs (fe + d.fe) := by
    intro _ _ _ q4; rw [← q4]; exact hC
  apply callV_of (e := rfl)
  · exact charge_ok d ⟨P, C, Q, A, op, n, lw, cs, fe + d.fe, dy, he⟩ n lw cs fe b v w3 m3.fresh hv hO3 hi ⟨hfit.lw, hfit.cs, ⟨by show 0 ≤ fe + d.fe; omega, by show fe + d.fe ≤ 400000; omega⟩⟩ hsame
  rintro _ w4 ⟨rfl, hO4, m4⟩
  simp only at hO4
  obtain ⟨w5, k5, hO5, m5⟩ := put_cell (o := 2) (V := .int .i64 (chF d lw cs (fe + d.fe))) (x' := ⟨P, chF d lw cs (fe + d.fe), chF d lw cs (fe + d.fe), A, op, n, lw, cs, fe + d.fe, dy, he⟩) hO4 m4.fresh (by decide) rfl rfl
  obtain ⟨w6, k6, hO6, m6⟩ := put_cell (o := 3) (V := .int .i64 0) (x' := ⟨P, chF d lw cs (fe + d.fe), chF d lw cs (fe + d.fe), 0, op, n, lw, cs, fe + d.fe, dy, he⟩) hO5 m5.fresh (by decide) rfl rfl
  have c0 := (hO4).cell (o := 0) rfl rfl
  have c1 := (hO4).cell (o := 1) rfl rfl
  have c2 := (hO4).cell (o := 2) rfl rfl
  have c3 := (hO4).cell (o := 3) rfl rfl
  have c4 := (hO4).cell (o := 4) rfl rfl
  have c5 := (hO4).cell (o := 5) rfl rfl
  have c6 := (hO4).cell (o := 6) rfl rfl
  have c7 := (hO4).cell (o := 7) rfl rfl
  have c8 := (hO4).cell (o := 8) rfl rfl
  have c9 := (hO4).cell (o := 9) rfl rfl
  have c10 := (hO4).cell (o := 10) rfl rfl
  have c11 := (hO4).cell (o := 11) rfl rfl
  have c12 := (hO4).cell (o := 12) rfl hv
  have c13 := (hO4).cell (o := 13) rfl rfl
  have c14 := (hO4).cell (o := 14) rfl rfl
  have c15 := (hO4).cell (o := 15) rfl rfl
  have c16 := (hO4).cell (o := 16) rfl rfl
  have c17 := (hO4).cell (o := 17) rfl rfl
  have c18 := (hO4).cell (o := 18) rfl rfl
  have c19 := (hO4).cell (o := 19) rfl rfl
  have c20 := (hO4).cell (o := 20) rfl rfl
  simp only at c1
  simp -dsimp -implicitDefEqProofs (maxSteps := 2000000) (disch := first | assumption | omega | (simp only [AW.next_push, AW.next_put]; omega) | ((repeat refine Fresh.push ?_ _); assumption) | (simp only [same_int, same_bool, same_ptr, same_slice, same_sliceP, same_nil, same_agg2, same_string]; done) | (simp [oneCell, AW.next_push]; done) | fail) only [go_sem, Nat.reduceEqDiff, reduceIte, Nat.reduceAdd, Int.toNat_natCast, Nat.add_zero, Owes_true, Tryz.results59, Nat.zero_add, c1, k5, k6]
  exact ⟨trivial, hO6, (((m2.trans m3).trans m4).trans m5).trans m6⟩
set_option maxHeartbeats 1000000 in
theorem hold_ok (d : DealN) (x : LN) (m : Int) (b : Nat) (v : Value) (w : AW) (f : Fresh w) (hv : oneCell v = true) (hO : Own w b 60 (lcells d v x)) (hdy : 0 ≤ x.dy ∧ x.dy ≤ 36500) (hm : 1 ≤ m ∧ m ≤ 366) :
    CallT Tryz.prog Tryz.T1 (.fn (.func 60) #[]) #[.pointer (some ⟨b, 0, none⟩), .int .i64 m] w (fun r w' => r = .int .i64 (if x.dy < x.he then 26 else 0) ∧ Own w' b 60 (lcells d v (if x.dy < x.he then x else holdL x m)) ∧ Mut b w w') := by
  obtain ⟨P, C, Q, A, op, n, lw, cs, fe, dy, he⟩ := x
  simp only at hdy
  have c0 := (hO).cell (o := 0) rfl rfl
  have c1 := (hO).cell (o := 1) rfl rfl
  have c2 := (hO).cell (o := 2) rfl rfl
  have c3 := (hO).cell (o := 3) rfl rfl
  have c4 := (hO).cell (o := 4) rfl rfl
  have c5 := (hO).cell (o := 5) rfl rfl
  have c6 := (hO).cell (o := 6) rfl rfl
  have c7 := (hO).cell (o := 7) rfl rfl
  have c8 := (hO).cell (o := 8) rfl rfl
  have c9 := (hO).cell (o := 9) rfl rfl
  have c10 := (hO).cell (o := 10) rfl rfl
  have c11 := (hO).cell (o := 11) rfl rfl
  have c12 := (hO).cell (o := 12) rfl hv
  have c13 := (hO).cell (o := 13) rfl rfl
  have c14 := (hO).cell (o := 14) rfl rfl
  have c15 := (hO).cell (o := 15) rfl rfl
  have c16 := (hO).cell (o := 16) rfl rfl
  have c17 := (hO).cell (o := 17) rfl rfl
  have c18 := (hO).cell (o := 18) rfl rfl
  have c19 := (hO).cell (o := 19) rfl rfl
  have c20 := (hO).cell (o := 20) rfl rfl
  refine callT_code rfl Tryz.func60 rfl Tryz.s60_eq rfl ?_
  unfold Tryz.s60
  by_cases q : dy < he
  · simp -dsimp -implicitDefEqProofs (maxSteps := 2000000) (disch := first | assumption | omega | (simp only [AW.next_push, AW.next_put]; omega) | ((repeat refine Fresh.push ?_ _); assumption) | (simp only [same_int, same_bool, same_ptr, same_slice, same_sliceP, same_nil, same_agg2, same_string]; done) | (simp [oneCell, AW.next_push]; done) | fail) only [go_sem, Nat.reduceEqDiff, reduceIte, Nat.reduceAdd, Int.toNat_natCast, Nat.add_zero, Owes_true, Tryz.results60, Nat.zero_add, c19, c20, q]
    exact ⟨trivial, hO, Mut.refl f⟩
  · obtain ⟨w1, k1, hO1, m1⟩ := put_cell (o := 20) (V := .int .i64 (dy + m)) (x' := ⟨P, C, Q, A, op, n, lw, cs, fe, dy, dy + m⟩) hO f (by decide) rfl rfl
    simp -dsimp -implicitDefEqProofs (maxSteps := 2000000) (disch := first | assumption | omega | (simp only [AW.next_push, AW.next_put]; omega) | ((repeat refine Fresh.push ?_ _); assumption) | (simp only [same_int, same_bool, same_ptr, same_slice, same_sliceP, same_nil, same_agg2, same_string]; done) | (simp [oneCell, AW.next_push]; done) | fail) only [go_sem, Nat.reduceEqDiff, reduceIte, Nat.reduceAdd, Int.toNat_natCast, Nat.add_zero, Owes_true, Tryz.results60, Nat.zero_add, c19, c20, q, k1]
    exact ⟨trivial, hO1, m1⟩
set_option maxHeartbeats 1000000 in
theorem redeem_ok (d : DealN) (x : LN) (m : Int) (b : Nat) (v : Value) (w : AW) (f : Fresh w) (hv : oneCell v = true) (hO : Own w b 60 (lcells d v x)) :
    CallT Tryz.prog Tryz.T1 (.fn (.func 61) #[]) #[.pointer (some ⟨b, 0, none⟩), .int .i64 m] w (fun r w' => r = .int .i64 0 ∧ Own w' b 60 (lcells d v (redeemL x)) ∧ Mut b w w') := by
  obtain ⟨P, C, Q, A, op, n, lw, cs, fe, dy, he⟩ := x
  obtain ⟨w1, k1, hO1, m1⟩ := put_cell (o := 2) (V := .int .i64 C) (x' := ⟨P, C, C, A, op, n, lw, cs, fe, dy, he⟩) hO f (by decide) rfl rfl
  obtain ⟨w2, k2, hO2, m2⟩ := put_cell (o := 0) (V := .int .i64 0) (x' := ⟨0, C, C, A, op, n, lw, cs, fe, dy, he⟩) hO1 m1.fresh (by decide) rfl rfl
  obtain ⟨w3, k3, hO3, m3⟩ := put_cell (o := 4) (V := .bool false) (x' := ⟨0, C, C, A, false, n, lw, cs, fe, dy, he⟩) hO2 m2.fresh (by decide) rfl rfl
  have c0 := (hO).cell (o := 0) rfl rfl
  have c1 := (hO).cell (o := 1) rfl rfl
  have c2 := (hO).cell (o := 2) rfl rfl
  have c3 := (hO).cell (o := 3) rfl rfl
  have c4 := (hO).cell (o := 4) rfl rfl
  have c5 := (hO).cell (o := 5) rfl rfl
  have c6 := (hO).cell (o := 6) rfl rfl
  have c7 := (hO).cell (o := 7) rfl rfl
  have c8 := (hO).cell (o := 8) rfl rfl
  have c9 := (hO).cell (o := 9) rfl rfl
  have c10 := (hO).cell (o := 10) rfl rfl
  have c11 := (hO).cell (o := 11) rfl rfl
  have c12 := (hO).cell (o := 12) rfl hv
  have c13 := (hO).cell (o := 13) rfl rfl
  have c14 := (hO).cell (o := 14) rfl rfl
  have c15 := (hO).cell (o := 15) rfl rfl
  have c16 := (hO).cell (o := 16) rfl rfl
  have c17 := (hO).cell (o := 17) rfl rfl
  have c18 := (hO).cell (o := 18) rfl rfl
  have c19 := (hO).cell (o := 19) rfl rfl
  have c20 := (hO).cell (o := 20) rfl rfl
  refine callT_code rfl Tryz.func61 rfl Tryz.s61_eq rfl ?_
  unfold Tryz.s61
  simp -dsimp -implicitDefEqProofs (maxSteps := 2000000) (disch := first | assumption | omega | (simp only [AW.next_push, AW.next_put]; omega) | ((repeat refine Fresh.push ?_ _); assumption) | (simp only [same_int, same_bool, same_ptr, same_slice, same_sliceP, same_nil, same_agg2, same_string]; done) | (simp [oneCell, AW.next_push]; done) | fail) only [go_sem, Nat.reduceEqDiff, reduceIte, Nat.reduceAdd, Int.toNat_natCast, Nat.add_zero, Owes_true, Tryz.results61, Nat.zero_add, c1, k1, k2, k3]
  exact ⟨trivial, hO3, (m1.trans m2).trans m3⟩
end Go.Proofs

/- Loans: an act is done. -/
namespace Go.Proofs
open Go Go.RowKit Go.Sim
set_option maxRecDepth 100000
theorem same_fn0 (f : Nat) : same 12 (.func (.func f) #[] #[]) (.func (.func f) #[] #[]) = true := by simp [same, same.all]
theorem tar_in {d : DealN} {cl : List Int} (hd : dealB d cl = true) : tarB d.a d.fr d.fe d.tm d.gr = true := (dealB_in hd).2
theorem fit_kinds {D K N : Int} {last : Bool} (h : fitB ⟨D, K, N⟩ last = true) : (K = 1 ∧ 1 ≤ N ∧ N ≤ 1073741824) ∨ (K = 2 ∧ N = 0) ∨ (K = 3 ∧ 1 ≤ N ∧ N ≤ 366) ∨ (K = 4 ∧ N = 0 ∧ last = true) := by
  unfold fitB at h
  simp only at h
  by_cases k1 : K = 1
  · rw [if_pos k1, inR_iff] at h; exact .inl ⟨k1, h⟩
  rw [if_neg k1] at h
  by_cases k2 : K = 2
  · rw [if_pos k2] at h; exact .inr (.inl ⟨k2, of_decide_eq_true h⟩)
  rw [if_neg k2] at h
  by_cases k3 : K = 3
  · rw [if_pos k3, inR_iff] at h; exact .inr (.inr (.inl ⟨k3, h⟩))
  rw [if_neg k3] at h
  by_cases k4 : K = 4
  · rw [if_pos k4, Bool.and_eq_true] at h; exact .inr (.inr (.inr ⟨k4, of_decide_eq_true h.2, h.1⟩))
  · rw [if_neg k4] at h; cases h
set_option maxHeartbeats 2000000 in
theorem do_ok (d : DealN) (cl : List Int) (x : LN) (D K N : Int) (last : Bool) (j b : Nat) (v : Value) (w : AW) (f : Fresh w) (hv : oneCell v = true) (hO : Own w b 60 (lcells d v x)) (hd : dealB d cl = true) (h : LOk d j x) (hj : j ≤ 33) (hk : fitB ⟨D, K, N⟩ last = true) :
    CallT Tryz.prog Tryz.T1 (.fn (.func 39) #[]) #[.pointer (some ⟨b, 0, none⟩), .agg #[.int .i64 D, .int .i64 K, .int .i64 N]] w (fun r w' => r = .int .i64 (actE d x ⟨D, K, N⟩) ∧ Own w' b 60 (lcells d v (if actE d x ⟨D, K, N⟩ = 0 then actL d x ⟨D, K, N⟩ else x)) ∧ Mut b w w') := by
  have m1 := (Mut.refl (b := b) f).push (.cells [.int .i64 D, .int .i64 K, .int .i64 N] 85 w.next 0 0)
  have hO1 := hO.push (.cells [.int .i64 D, .int .i64 K, .int .i64 N] 85 w.next 0 0)
  have hS1 := Own.new f 85 [.int .i64 D, .int .i64 K, .int .i64 N]
  have hne : w.next ≠ b := by have := hO.lt; omega
  have htm := (dealB_in hd).1.tm; have hgr := (dealB_in hd).1.gr
  have hdyx := h.dy
  have hst := (dealB_in hd).1.st
  have t5 := same_agg5' d.a d.fr d.fe d.tm d.gr
  have c0 := (hO1).cell (o := 0) rfl rfl
  have c1 := (hO1).cell (o := 1) rfl rfl
  have c2 := (hO1).cell (o := 2) rfl rfl
  have c3 := (hO1).cell (o := 3) rfl rfl
  have c4 := (hO1).cell (o := 4) rfl rfl
  have c5 := (hO1).cell (o := 5) rfl rfl
  have c6 := (hO1).cell (o := 6) rfl rfl
  have c7 := (hO1).cell (o := 7) rfl rfl
  have c8 := (hO1).cell (o := 8) rfl rfl
  have c9 := (hO1).cell (o := 9) rfl rfl
  have c10 := (hO1).cell (o := 10) rfl rfl
  have c11 := (hO1).cell (o := 11) rfl rfl
  have c12 := (hO1).cell (o := 12) rfl hv
  have c13 := (hO1).cell (o := 13) rfl rfl
  have c14 := (hO1).cell (o := 14) rfl rfl
  have c15 := (hO1).cell (o := 15) rfl rfl
  have c16 := (hO1).cell (o := 16) rfl rfl
  have c17 := (hO1).cell (o := 17) rfl rfl
  have c18 := (hO1).cell (o := 18) rfl rfl
  have c19 := (hO1).cell (o := 19) rfl rfl
  have c20 := (hO1).cell (o := 20) rfl rfl
  refine callT_code rfl Tryz.func39 rfl Tryz.s39_eq rfl ?_
  unfold Tryz.s39
  simp -dsimp -implicitDefEqProofs (maxSteps := 2000000) (disch := first | assumption | omega | (simp only [AW.next_push, AW.next_put]; omega) | ((repeat refine Fresh.push ?_ _); assumption) | (simp only [same_int, same_bool, same_ptr, same_slice, same_sliceP, same_nil, same_agg2, same_string]; done) | (simp [oneCell, AW.next_push]; done) | fail) only [go_sem, Nat.reduceEqDiff, reduceIte, Nat.reduceAdd, Int.toNat_natCast, Nat.add_zero, Owes_true, Tryz.results39, Nat.zero_add, c3, c7, c8, c9, c10, c11]
  apply callV_of (e := rfl)
  · exact oldest_ok d.a d.fr d.fe d.tm d.gr (tar_in hd) _ m1.fresh
  rintro _ w2 ⟨rfl, hg2⟩
  have hle := hg2.1.wle m1.fresh
  have hO2 := hO1.keep hg2.1
  have hS2 := hS1.keep hg2.1
  have m2 := m1.grown hg2
  have f2 := hg2.2
  have u1 := hS2.cell (o := 1) rfl rfl
  have u2 := hS2.cell (o := 2) rfl rfl
  by_cases hl : d.tm + d.gr < x.A
  · have hE : actE d x ⟨D, K, N⟩ = 25 := by unfold actE; rw [if_pos hl]
    have h25 : ¬ (25 : Int) = 0 := by decide
    simp -dsimp -implicitDefEqProofs (maxSteps := 2000000) (disch := first | assumption | omega | (simp only [AW.next_push, AW.next_put]; omega) | ((repeat refine Fresh.push ?_ _); assumption) | (simp only [same_int, same_bool, same_ptr, same_slice, same_sliceP, same_nil, same_agg2, same_string]; done) | (simp [oneCell, AW.next_push]; done) | fail) only [go_sem, Nat.reduceEqDiff, reduceIte, Nat.reduceAdd, Int.toNat_natCast, Nat.add_zero, Owes_true, Tryz.results39, Nat.zero_add, hle, hl]
    rw [hE, if_neg h25]
    exact ⟨rfl, hO2, m2⟩
  have s1 := same_fn0 58
  have s2 := same_fn0 59
  have s3 := same_fn0 60
  have s4 := same_fn0 61
  have hN2 := Own.new f2 113 [.nilFunc, .func (.func 58) #[] #[], .func (.func 59) #[] #[], .func (.func 60) #[] #[], .func (.func 61) #[] #[]]
  have hO3 := hO2.push (.cells [.nilFunc, .func (.func 58) #[] #[], .func (.func 59) #[] #[], .func (.func 60) #[] #[], .func (.func 61) #[] #[]] 113 w2.next 0 0)
  have hS3 := hS2.push (.cells [.nilFunc, .func (.func 58) #[] #[], .func (.func 59) #[] #[], .func (.func 60) #[] #[], .func (.func 61) #[] #[]] 113 w2.next 0 0)
  have m3 := m2.push (.cells [.nilFunc, .func (.func 58) #[] #[], .func (.func 59) #[] #[], .func (.func 60) #[] #[], .func (.func 61) #[] #[]] 113 w2.next 0 0)
  have v1 := hN2.cell (o := 1) rfl rfl
  have v2 := hN2.cell (o := 2) rfl rfl
  have v3 := hN2.cell (o := 3) rfl rfl
  have v4 := hN2.cell (o := 4) rfl rfl
  have u1 := hS3.cell (o := 1) rfl rfl
  have u2 := hS3.cell (o := 2) rfl rfl
  have i1 : indexA 1 5 (.pointer (some ⟨w2.next, 0, none⟩)) (.int .i64 1) = some (.pointer (some ⟨w2.next, 1, none⟩)) := indexA_eq (i := 1) (by decide)
  have i2 : indexA 1 5 (.pointer (some ⟨w2.next, 0, none⟩)) (.int .i64 2) = some (.pointer (some ⟨w2.next, 2, none⟩)) := indexA_eq (i := 2) (by decide)
  have i3 : indexA 1 5 (.pointer (some ⟨w2.next, 0, none⟩)) (.int .i64 3) = some (.pointer (some ⟨w2.next, 3, none⟩)) := indexA_eq (i := 3) (by decide)
  have i4 : indexA 1 5 (.pointer (some ⟨w2.next, 0, none⟩)) (.int .i64 4) = some (.pointer (some ⟨w2.next, 4, none⟩)) := indexA_eq (i := 4) (by decide)
  rcases fit_kinds hk with ⟨rfl, hn⟩ | ⟨rfl, hn⟩ | ⟨rfl, hn⟩ | ⟨rfl, hn, hlast⟩
  · have hE : actE d x ⟨D, 1, N⟩ = payE x N := by rw [actE_pay, if_neg hl]; rfl
    simp -dsimp -implicitDefEqProofs (maxSteps := 2000000) (disch := first | assumption | omega | (simp only [AW.next_push, AW.next_put]; omega) | ((repeat refine Fresh.push ?_ _); assumption) | (simp only [same_int, same_bool, same_ptr, same_slice, same_sliceP, same_nil, same_agg2, same_string]; done) | (simp [oneCell, AW.next_push]; done) | fail) only [go_sem, Nat.reduceEqDiff, reduceIte, Nat.reduceAdd, Int.toNat_natCast, Nat.add_zero, Owes_true, Tryz.results39, Nat.zero_add, hle, hl, u1, u2, v1, i1]
    apply callV_of (e := rfl)
    · exact pay_ok d cl x N j b v _ m3.fresh hv hO3 hd h hn
    rintro _ w4 ⟨rfl, hO4, m4⟩
    simp -dsimp -implicitDefEqProofs (maxSteps := 2000000) (disch := first | assumption | omega | (simp only [AW.next_push, AW.next_put]; omega) | ((repeat refine Fresh.push ?_ _); assumption) | (simp only [same_int, same_bool, same_ptr, same_slice, same_sliceP, same_nil, same_agg2, same_string]; done) | (simp [oneCell, AW.next_push]; done) | fail) only [go_sem, Nat.reduceEqDiff, reduceIte, Nat.reduceAdd, Int.toNat_natCast, Nat.add_zero, Owes_true, Tryz.results39]
    rw [hE, actL_pay]
    exact ⟨rfl, hO4, m3.trans m4⟩
  · have hE : actE d x ⟨D, 2, N⟩ = 0 := by unfold actE; rw [if_neg hl]; rfl
    simp -dsimp -implicitDefEqProofs (maxSteps := 2000000) (disch := first | assumption | omega | (simp only [AW.next_push, AW.next_put]; omega) | ((repeat refine Fresh.push ?_ _); assumption) | (simp only [same_int, same_bool, same_ptr, same_slice, same_sliceP, same_nil, same_agg2, same_string]; done) | (simp [oneCell, AW.next_push]; done) | fail) only [go_sem, Nat.reduceEqDiff, reduceIte, Nat.reduceAdd, Int.toNat_natCast, Nat.add_zero, Owes_true, Tryz.results39, Nat.zero_add, hle, hl, u1, u2, v2, i2]
    apply callV_of (e := rfl)
    · exact renew_ok d cl x N j b v _ m3.fresh hv hO3 hd h hj
    rintro _ w4 ⟨rfl, hO4, m4⟩
    simp -dsimp -implicitDefEqProofs (maxSteps := 2000000) (disch := first | assumption | omega | (simp only [AW.next_push, AW.next_put]; omega) | ((repeat refine Fresh.push ?_ _); assumption) | (simp only [same_int, same_bool, same_ptr, same_slice, same_sliceP, same_nil, same_agg2, same_string]; done) | (simp [oneCell, AW.next_push]; done) | fail) only [go_sem, Nat.reduceEqDiff, reduceIte, Nat.reduceAdd, Int.toNat_natCast, Nat.add_zero, Owes_true, Tryz.results39]
    rw [hE, if_pos rfl]
    exact ⟨rfl, hO4, m3.trans m4⟩
  · have hE : actE d x ⟨D, 3, N⟩ = if x.dy < x.he then 26 else 0 := by rw [actE_hold, if_neg hl]
    simp -dsimp -implicitDefEqProofs (maxSteps := 2000000) (disch := first | assumption | omega | (simp only [AW.next_push, AW.next_put]; omega) | ((repeat refine Fresh.push ?_ _); assumption) | (simp only [same_int, same_bool, same_ptr, same_slice, same_sliceP, same_nil, same_agg2, same_string]; done) | (simp [oneCell, AW.next_push]; done) | fail) only [go_sem, Nat.reduceEqDiff, reduceIte, Nat.reduceAdd, Int.toNat_natCast, Nat.add_zero, Owes_true, Tryz.results39, Nat.zero_add, hle, hl, u1, u2, v3, i3]
    apply callV_of (e := rfl)
    · exact hold_ok d x N b v _ m3.fresh hv hO3 (by omega) hn
    rintro _ w4 ⟨rfl, hO4, m4⟩
    simp -dsimp -implicitDefEqProofs (maxSteps := 2000000) (disch := first | assumption | omega | (simp only [AW.next_push, AW.next_put]; omega) | ((repeat refine Fresh.push ?_ _); assumption) | (simp only [same_int, same_bool, same_ptr, same_slice, same_sliceP, same_nil, same_agg2, same_string]; done) | (simp [oneCell, AW.next_push]; done) | fail) only [go_sem, Nat.reduceEqDiff, reduceIte, Nat.reduceAdd, Int.toNat_natCast, Nat.add_zero, Owes_true, Tryz.results39]
    rw [hE]
    refine ⟨rfl, ?_, m3.trans m4⟩
    rw [actL_hold]
    by_cases q : x.dy < x.he
    · rw [if_pos q] at hO4 ⊢; exact hO4
    · rw [if_neg q] at hO4 ⊢; exact hO4
  · have hE : actE d x ⟨D, 4, N⟩ = 0 := by unfold actE; rw [if_neg hl]; rfl
    simp -dsimp -implicitDefEqProofs (maxSteps := 2000000) (disch := first | assumption | omega | (simp only [AW.next_push, AW.next_put]; omega) | ((repeat refine Fresh.push ?_ _); assumption) | (simp only [same_int, same_bool, same_ptr, same_slice, same_sliceP, same_nil, same_agg2, same_string]; done) | (simp [oneCell, AW.next_push]; done) | fail) only [go_sem, Nat.reduceEqDiff, reduceIte, Nat.reduceAdd, Int.toNat_natCast, Nat.add_zero, Owes_true, Tryz.results39, Nat.zero_add, hle, hl, u1, u2, v4, i4]
    apply callV_of (e := rfl)
    · exact redeem_ok d x N b v _ m3.fresh hv hO3
    rintro _ w4 ⟨rfl, hO4, m4⟩
    simp -dsimp -implicitDefEqProofs (maxSteps := 2000000) (disch := first | assumption | omega | (simp only [AW.next_push, AW.next_put]; omega) | ((repeat refine Fresh.push ?_ _); assumption) | (simp only [same_int, same_bool, same_ptr, same_slice, same_sliceP, same_nil, same_agg2, same_string]; done) | (simp [oneCell, AW.next_push]; done) | fail) only [go_sem, Nat.reduceEqDiff, reduceIte, Nat.reduceAdd, Int.toNat_natCast, Nat.add_zero, Owes_true, Tryz.results39]
    rw [hE, if_pos rfl]
    exact ⟨rfl, hO4, m3.trans m4⟩
end Go.Proofs
