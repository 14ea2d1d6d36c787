/- Markets: the law on the machine. -/
import Derived.Test.YtdbeiefgokocnaaVe
import Derived.Test.YtdbeiefgokocnaaVb
import Derived.Test.YtdbeiefgokocnaaTa
import Derived.Test.YtdbeiefgokocnaaKb
set_option linter.unusedVariables false
set_option linter.unusedSimpArgs false
/- Markets: Crafts, CheckMarket and Value are the chapter's, on the machine. -/
namespace Go.Proofs
open Go Go.RowKit Go.Sim
set_option maxRecDepth 100000
theorem Try.eqx27s (a b : Int) : eqQ Try.prog .eql 27 (.agg #[.int .i64 a, .int .i64 b]) (.agg #[.int .i64 a, .int .i64 b]) = some (.bool true) := by
  have h := eqQ_eql (P := Try.prog) (ty := 27) (xs := #[.int .i64 a, .int .i64 b]) (ys := #[.int .i64 a, .int .i64 b]) (b := [a == a, b == b].all id) (by kernel_rfl) rfl (eqStruct Try.und27 (by kernel_rfl) (n := 9999) (.cons (eqF_int (k := .i64) (by decide) Try.und3 Try.agg3 rfl rfl) (.cons (eqF_int (k := .i64) (by decide) Try.und3 Try.agg3 rfl rfl) .nil)))
  rw [h]; simp
theorem same_slice11 (p : Option Addr) (n c : Nat) : same 11 (.slice p n c) (.slice p n c) = true := by
  cases p with
  | none => simp [same]
  | some a => obtain ⟨b, o, s⟩ := a; cases s <;> simp [same]
theorem given_numO {w : AW} {n : Nat} {v : Value} (h : HdV Try.prog w n 3 v) : ∃ x : Int, v = .int .i64 x := by
  simp only [HdV, Try.und3] at h
  obtain ⟨x, e⟩ := given_int h
  injection e with e
  exact ⟨x, e⟩
set_option maxHeartbeats 8000000 in
theorem values_law (w : AW) (xs : List Value) (f : Fresh w) (h : HdAll Try.prog w [25, 3, 29] xs) : CallT Try.prog Try.T1 (.fn (.func 3) #[]) xs.toArray w fun v _ => v = .bool true := by
  cases h with
  | cons n1 h1 h =>
  cases h with
  | cons n2 h2 h =>
  cases h with
  | cons n3 h3 h =>
  cases h
  obtain ⟨x, S, F, vs, vf, rfl, hS, hs⟩ := given_market h1
  obtain ⟨kk, rfl⟩ := given_numO h2
  obtain ⟨kd, a, b, rfl⟩ := given_ware h3
  clear h1 h2 h3
  obtain ⟨p, cap, rfl, _⟩ := id hS.open
  obtain ⟨q, cap2, rfl, _⟩ := id hs.open
  have hvs : oneCell (.slice p S.length cap) = true := rfl
  have hvf : oneCell (.slice q F.length cap2) = true := rfl
  show CallT Try.prog Try.T1 (.fn (.func 3) #[]) #[.agg #[.slice p S.length cap, .slice q F.length cap2, .int .i64 x.m, .int .i64 x.d, .int .i64 x.f], .int .i64 kk, .agg #[.int .i64 kd, .int .i64 a, .int .i64 b]] w _
  have g0 := (Grown.refl f).push (.cells [.slice p S.length cap, .slice q F.length cap2, .int .i64 x.m, .int .i64 x.d, .int .i64 x.f] 25 w.next 0 0)
  have g := g0.push (.cells [.int .i64 kd, .int .i64 a, .int .i64 b] 29 (w.next + 1) 0 0)
  have hO := (Own.new f 25 [.slice p S.length cap, .slice q F.length cap2, .int .i64 x.m, .int .i64 x.d, .int .i64 x.f]).push (.cells [.int .i64 kd, .int .i64 a, .int .i64 b] 29 (w.next + 1) 0 0)
  have hW := Own.new g0.2 29 [.int .i64 kd, .int .i64 a, .int .i64 b]
  rw [AW.next_push] at hW
  have c0 := (hO).cell (o := 0) rfl hvs
  have c1 := (hO).cell (o := 1) rfl hvf
  have c2 := (hO).cell (o := 2) rfl rfl
  have c3 := (hO).cell (o := 3) rfl rfl
  have c4 := (hO).cell (o := 4) rfl rfl
  refine callT_code rfl Try.func3 rfl Try.s3_eq rfl ?_
  unfold Try.s3
  simp -dsimp -implicitDefEqProofs (maxSteps := 2000000) (disch := first | assumption | omega | (simp only [AW.next_push, AW.next_put]; omega) | ((repeat refine Fresh.push ?_ _); assumption) | (simp only [same_int, same_bool, same_ptr, same_slice, same_sliceP, same_nil, same_agg2, same_string]; done) | (simp [oneCell, AW.next_push]; done) | fail) only [go_sem, Nat.reduceEqDiff, reduceIte, Nat.reduceAdd, Int.toNat_natCast, Nat.add_zero, Owes_true, Try.results3, Nat.zero_add, c0, c1, c2, c3, c4]
  apply callV_of (e := rfl)
  · exact Crafts_ok x S F _ _ kk _ g.2 (hS.grown g) (hs.grown g)
  rintro _ w1 ⟨s1, L, rfl, hL, hg1, hz, hnz⟩
  have g1 := g.trans hg1
  have hO1 := hO.keep hg1.1
  have hW1 := hW.keep hg1.1
  have c0 := (hO1).cell (o := 0) rfl hvs
  have c1 := (hO1).cell (o := 1) rfl hvf
  have c2 := (hO1).cell (o := 2) rfl rfl
  have c3 := (hO1).cell (o := 3) rfl rfl
  have c4 := (hO1).cell (o := 4) rfl rfl
  simp -dsimp -implicitDefEqProofs (maxSteps := 2000000) (disch := first | assumption | omega | (simp only [AW.next_push, AW.next_put]; omega) | ((repeat refine Fresh.push ?_ _); assumption) | (simp only [same_int, same_bool, same_ptr, same_slice, same_sliceP, same_nil, same_agg2, same_string]; done) | (simp [oneCell, AW.next_push]; done) | fail) only [go_sem, Nat.reduceEqDiff, reduceIte, Nat.reduceAdd, Int.toNat_natCast, Nat.add_zero, Owes_true, Try.results3, Nat.zero_add, c0, c1, c2, c3, c4]
  apply callV_of (e := rfl)
  · exact refCrafts_ok x S F _ _ kk _ g1.2 (hS.grown g1) (hs.grown g1)
  rintro _ w2 ⟨s2, L2, rfl, hL2, hg2, hz2, hnz2⟩
  have g2 := g1.trans hg2
  have hO2 := hO1.keep hg2.1
  have hW2 := hW1.keep hg2.1
  have hLL : L = L2 := by
    by_cases hc : craftE x S F kk = 0
    · rw [(hz hc).1, (hz2 hc).1]
    · rw [hnz hc, hnz2 hc]
  subst hLL
  obtain ⟨p1, k1, rfl, _⟩ := id hL.open
  obtain ⟨p2, k2, rfl, _⟩ := id hL2.open
  have hL1 := hL.grown hg2
  simp -dsimp -implicitDefEqProofs (maxSteps := 2000000) (disch := first | assumption | omega | (simp only [AW.next_push, AW.next_put]; omega) | ((repeat refine Fresh.push ?_ _); assumption) | (simp only [same_int, same_bool, same_ptr, same_slice, same_sliceP, same_nil, same_agg2, same_string]; done) | (simp [oneCell, AW.next_push]; done) | fail) only [go_sem, Nat.reduceEqDiff, reduceIte, Nat.reduceAdd, Int.toNat_natCast, Nat.add_zero, Owes_true, Try.results3]
  apply callV_of (e := rfl)
  · exact same_ok L L _ _ _ g2.2 hL1 hL2
  rintro _ w3 ⟨rfl, hg3⟩
  have e : decide (L = L) = true := decide_eq_true rfl
  rw [e]
  have g3 := g2.trans hg3
  have hO3 := hO2.keep hg3.1
  have hW3 := hW2.keep hg3.1
  have c0 := (hO3).cell (o := 0) rfl hvs
  have c1 := (hO3).cell (o := 1) rfl hvf
  have c2 := (hO3).cell (o := 2) rfl rfl
  have c3 := (hO3).cell (o := 3) rfl rfl
  have c4 := (hO3).cell (o := 4) rfl rfl
  have hsm := same_mark p q S.length F.length cap cap2 x.m x.d x.f
  simp -dsimp -implicitDefEqProofs (maxSteps := 2000000) (disch := first | assumption | omega | (simp only [AW.next_push, AW.next_put]; omega) | ((repeat refine Fresh.push ?_ _); assumption) | (simp only [same_int, same_bool, same_ptr, same_slice, same_sliceP, same_nil, same_agg2, same_string]; done) | (simp [oneCell, AW.next_push]; done) | fail) only [go_sem, Nat.reduceEqDiff, reduceIte, Nat.reduceAdd, Int.toNat_natCast, Nat.add_zero, Owes_true, Try.results3, Nat.zero_add, c0, c1, c2, c3, c4, hsm]
  apply callV_of (e := rfl)
  · exact CheckMarket_ok x S F _ _ _ g3.2 (hS.grown g3) (hs.grown g3)
  rintro _ w4 ⟨rfl, hg4⟩
  have hle := hg4.1.wle g3.2
  have g4 := g3.trans hg4
  have hO4 := hO3.keep hg4.1
  have hW4 := hW3.keep hg4.1
  have c0 := (hO4).cell (o := 0) rfl hvs
  have c1 := (hO4).cell (o := 1) rfl hvf
  have c2 := (hO4).cell (o := 2) rfl rfl
  have c3 := (hO4).cell (o := 3) rfl rfl
  have c4 := (hO4).cell (o := 4) rfl rfl
  simp -dsimp -implicitDefEqProofs (maxSteps := 2000000) (disch := first | assumption | omega | (simp only [AW.next_push, AW.next_put]; omega) | ((repeat refine Fresh.push ?_ _); assumption) | (simp only [same_int, same_bool, same_ptr, same_slice, same_sliceP, same_nil, same_agg2, same_string]; done) | (simp [oneCell, AW.next_push]; done) | fail) only [go_sem, Nat.reduceEqDiff, reduceIte, Nat.reduceAdd, Int.toNat_natCast, Nat.add_zero, Owes_true, Try.results3, Nat.zero_add, c0, c1, c2, c3, c4, hle]
  apply callV_of (e := rfl)
  · exact refCheckMarket_ok x S F _ _ _ g4.2 (hS.grown g4) (hs.grown g4)
  rintro _ w5 ⟨rfl, hg5⟩
  have g5 := g4.trans hg5
  have hO5 := hO4.keep hg5.1
  have hW5 := hW4.keep hg5.1
  have c0 := (hO5).cell (o := 0) rfl hvs
  have c1 := (hO5).cell (o := 1) rfl hvf
  have c2 := (hO5).cell (o := 2) rfl rfl
  have c3 := (hO5).cell (o := 3) rfl rfl
  have c4 := (hO5).cell (o := 4) rfl rfl
  have u0 := (hW5).cell (o := 0) rfl rfl
  have u1 := (hW5).cell (o := 1) rfl rfl
  have u2 := (hW5).cell (o := 2) rfl rfl
  simp -dsimp -implicitDefEqProofs (maxSteps := 2000000) (disch := first | assumption | omega | (simp only [AW.next_push, AW.next_put]; omega) | ((repeat refine Fresh.push ?_ _); assumption) | (simp only [same_int, same_bool, same_ptr, same_slice, same_sliceP, same_nil, same_agg2, same_string]; done) | (simp [oneCell, AW.next_push]; done) | fail) only [go_sem, Nat.reduceEqDiff, reduceIte, Nat.reduceAdd, Int.toNat_natCast, Nat.add_zero, Owes_true, Try.results3, Nat.zero_add, c0, c1, c2, c3, c4, u0, u1, u2]
  apply callV_of (e := rfl)
  · exact Value_ok x S F _ _ kd a b _ g5.2 (hS.grown g5) (hs.grown g5)
  rintro _ w6 ⟨rfl, hg6⟩
  have g6' := g5.trans hg6
  have f6 := g6'.2
  have hV := Own.new f6 27 [.int .i64 (valMn x S F kd a b), .int .i64 (valMx x S F kd a b)]
  have hO6 := (hO5.keep hg6.1).push (.cells [.int .i64 (valMn x S F kd a b), .int .i64 (valMx x S F kd a b)] 27 w6.next 0 0)
  have hW6 := (hW5.keep hg6.1).push (.cells [.int .i64 (valMn x S F kd a b), .int .i64 (valMx x S F kd a b)] 27 w6.next 0 0)
  have g6 := g6'.push (.cells [.int .i64 (valMn x S F kd a b), .int .i64 (valMx x S F kd a b)] 27 w6.next 0 0)
  have c0 := (hO6).cell (o := 0) rfl hvs
  have c1 := (hO6).cell (o := 1) rfl hvf
  have c2 := (hO6).cell (o := 2) rfl rfl
  have c3 := (hO6).cell (o := 3) rfl rfl
  have c4 := (hO6).cell (o := 4) rfl rfl
  have u0 := (hW6).cell (o := 0) rfl rfl
  have u1 := (hW6).cell (o := 1) rfl rfl
  have u2 := (hW6).cell (o := 2) rfl rfl
  simp -dsimp -implicitDefEqProofs (maxSteps := 2000000) (disch := first | assumption | omega | (simp only [AW.next_push, AW.next_put]; omega) | ((repeat refine Fresh.push ?_ _); assumption) | (simp only [same_int, same_bool, same_ptr, same_slice, same_sliceP, same_nil, same_agg2, same_string]; done) | (simp [oneCell, AW.next_push]; done) | fail) only [go_sem, Nat.reduceEqDiff, reduceIte, Nat.reduceAdd, Int.toNat_natCast, Nat.add_zero, Owes_true, Try.results3, Nat.zero_add, c0, c1, c2, c3, c4, u0, u1, u2]
  apply callV_of (e := rfl)
  · exact refValue_ok x S F _ _ kd a b _ g6.2 (hS.grown g6) (hs.grown g6)
  rintro _ w7 ⟨rfl, hg7⟩
  have f7 := (g6.trans hg7).2
  have hV7 := (hV.keep hg7.1).push (.cells [.int .i64 (valMn x S F kd a b), .int .i64 (valMx x S F kd a b)] 27 w7.next 0 0)
  have hU := Own.new f7 27 [.int .i64 (valMn x S F kd a b), .int .i64 (valMx x S F kd a b)]
  have v0 := (hV7).cell (o := 0) rfl rfl
  have v1 := (hV7).cell (o := 1) rfl rfl
  have z0 := (hU).cell (o := 0) rfl rfl
  have z1 := (hU).cell (o := 1) rfl rfl
  generalize valMn x S F kd a b = Mn at *
  generalize valMx x S F kd a b = Mx at *
  have heq := Try.eqx27s Mn Mx
  simp -dsimp -implicitDefEqProofs (maxSteps := 2000000) (disch := first | assumption | omega | (simp only [AW.next_push, AW.next_put]; omega) | ((repeat refine Fresh.push ?_ _); assumption) | (simp only [same_int, same_bool, same_ptr, same_slice, same_sliceP, same_nil, same_agg2, same_string]; done) | (simp [oneCell, AW.next_push]; done) | fail) only [go_sem, Nat.reduceEqDiff, reduceIte, Nat.reduceAdd, Int.toNat_natCast, Nat.add_zero, Owes_true, Try.results3, Nat.zero_add, v0, v1, z0, z1, heq]
  apply callV_of (e := rfl)
  · exact callT_told (Q := fun v w' => v = .bool true ∧ w7.push (.cells [.int .i64 Mn, .int .i64 Mx] 27 w7.next 0 0) = w') (v := .bool true) (w' := w7.push (.cells [.int .i64 Mn, .int .i64 Mx] 27 w7.next 0 0)) rfl ⟨rfl, rfl⟩
  rintro _ _ ⟨rfl, rfl⟩
  simp -dsimp -implicitDefEqProofs (maxSteps := 2000000) (disch := first | assumption | omega | (simp only [AW.next_push, AW.next_put]; omega) | ((repeat refine Fresh.push ?_ _); assumption) | (simp only [same_int, same_bool, same_ptr, same_slice, same_sliceP, same_nil, same_agg2, same_string]; done) | (simp [oneCell, AW.next_push]; done) | fail) only [go_sem, Nat.reduceEqDiff, reduceIte, Nat.reduceAdd, Int.toNat_natCast, Nat.add_zero, Owes_true, Try.results3]
end Go.Proofs
