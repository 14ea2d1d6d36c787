/- Markets and terms: an offer is fair, on the machine. -/
import Derived.Test.YtdbeiefgokocnaaVc
set_option linter.unusedVariables false
set_option linter.unusedSimpArgs false
/- Markets and terms: an offer is fair, on the machine. -/
namespace Go.Proofs
open Go Go.RowKit Go.Sim
set_option maxRecDepth 100000
theorem same_agg5 (a b c d e : Int) : same 12 (.agg #[.int .i64 a, .int .i64 b, .int .i64 c, .int .i64 d, .int .i64 e]) (.agg #[.int .i64 a, .int .i64 b, .int .i64 c, .int .i64 d, .int .i64 e]) = true := by simp [same, same.all, intEq_eq]
set_option maxHeartbeats 8000000 in
theorem fair_law (w : AW) (xs : List Value) (f : Fresh w) (h : HdAll Try.prog w [25, 29, 64] xs) : CallT Try.prog Try.T1 (.fn (.func 7) #[]) xs.toArray w fun v _ => v = .bool true := by
  cases h with
  | cons n1 h1 h =>
  cases h with
  | cons n2 h2 h =>
  cases h with
  | cons n3 h3 h =>
  cases h
  obtain ⟨x, S, F, vs, vf, rfl, hS, hs⟩ := given_market h1
  have hroom := given_room h1
  obtain ⟨kd, a, b, rfl⟩ := given_ware h2
  obtain ⟨Fr, Fl, Cp, Wi, Mo, rfl⟩ := given_offer h3
  clear h1 h2 h3
  obtain ⟨p, cap, rfl, hpc, hcap, hat⟩ := id hS.open
  have hr := hroom _ _ _ rfl
  rw [Try.bytes66] at hr
  clear hroom
  obtain ⟨q, cap2, rfl, _⟩ := id hs.open
  have hvs : oneCell (.slice p S.length cap) = true := rfl
  have hvf : oneCell (.slice q F.length cap2) = true := rfl
  show CallT Try.prog Try.T1 (.fn (.func 7) #[]) #[.agg #[.slice p S.length cap, .slice q F.length cap2, .int .i64 x.m, .int .i64 x.d, .int .i64 x.f], .agg #[.int .i64 kd, .int .i64 a, .int .i64 b], .agg #[.int .i64 Fr, .int .i64 Fl, .int .i64 Cp, .int .i64 Wi, .int .i64 Mo]] w _
  have g0 := (Grown.refl f).push (.cells [.slice p S.length cap, .slice q F.length cap2, .int .i64 x.m, .int .i64 x.d, .int .i64 x.f] 25 w.next 0 0)
  have gw := g0.push (.cells [.int .i64 kd, .int .i64 a, .int .i64 b] 29 (w.next + 1) 0 0)
  have g := gw.push (.cells [.int .i64 Fr, .int .i64 Fl, .int .i64 Cp, .int .i64 Wi, .int .i64 Mo] 64 (w.next + 1 + 1) 0 0)
  have hO := ((Own.new f 25 [.slice p S.length cap, .slice q F.length cap2, .int .i64 x.m, .int .i64 x.d, .int .i64 x.f]).push (.cells [.int .i64 kd, .int .i64 a, .int .i64 b] 29 (w.next + 1) 0 0)).push (.cells [.int .i64 Fr, .int .i64 Fl, .int .i64 Cp, .int .i64 Wi, .int .i64 Mo] 64 (w.next + 1 + 1) 0 0)
  have hW0 := Own.new g0.2 29 [.int .i64 kd, .int .i64 a, .int .i64 b]
  rw [AW.next_push] at hW0
  have hW := hW0.push (.cells [.int .i64 Fr, .int .i64 Fl, .int .i64 Cp, .int .i64 Wi, .int .i64 Mo] 64 (w.next + 1 + 1) 0 0)
  have hN := Own.new gw.2 64 [.int .i64 Fr, .int .i64 Fl, .int .i64 Cp, .int .i64 Wi, .int .i64 Mo]
  simp only [AW.next_push] at hN
  have c0 := (hO).cell (o := 0) rfl hvs
  have c1 := (hO).cell (o := 1) rfl hvf
  have c2 := (hO).cell (o := 2) rfl rfl
  have c3 := (hO).cell (o := 3) rfl rfl
  have c4 := (hO).cell (o := 4) rfl rfl
  have u0 := (hW).cell (o := 0) rfl rfl
  have u1 := (hW).cell (o := 1) rfl rfl
  have u2 := (hW).cell (o := 2) rfl rfl
  refine callT_code rfl Try.func7 rfl Try.s7_eq rfl ?_
  unfold Try.s7
  simp -dsimp -implicitDefEqProofs (maxSteps := 2000000) (disch := first | assumption | omega | (simp only [AW.next_push, AW.next_put]; omega) | ((repeat refine Fresh.push ?_ _); assumption) | (simp only [same_int, same_bool, same_ptr, same_slice, same_sliceP, same_nil, same_agg2, same_string]; done) | (simp [oneCell, AW.next_push]; done) | fail) only [go_sem, Nat.reduceEqDiff, reduceIte, Nat.reduceAdd, Int.toNat_natCast, Nat.add_zero, Owes_true, Try.results7, Nat.zero_add, c0, c1, c2, c3, c4, u0, u1, u2]
  apply callV_of (e := rfl)
  · exact Value_ok x S F _ _ kd a b _ g.2 (hS.grown g) (hs.grown g)
  rintro _ w1 ⟨rfl, hg1⟩
  have g1 := g.trans hg1
  have f1 := g1.2
  have r1 := valMn_rev x S F kd a b
  have r2 := valMx_rev x S F kd a b
  have r3 := valE_rev x S F kd a b
  generalize valMn x S F kd a b = Mn at *
  generalize valMx x S F kd a b = Mx at *
  generalize valE x S F kd a b = E at *
  have hn1 : (w1.push (.cells [.int .i64 Mn, .int .i64 Mx] 27 w1.next 0 0)).next = w1.next + 1 := AW.next_push _ _
  have hV1 := Own.new f1 27 [.int .i64 Mn, .int .i64 Mx]
  have hV2 := hV1.push (.cells [.slice p S.length cap, .slice q F.length cap2, .int .i64 x.m, .int .i64 x.d, .int .i64 x.f] 25 (w1.next + 1) 0 0)
  have hO1 := (hO.keep hg1.1).push (.cells [.int .i64 Mn, .int .i64 Mx] 27 w1.next 0 0)
  have hO2 := hO1.push (.cells [.slice p S.length cap, .slice q F.length cap2, .int .i64 x.m, .int .i64 x.d, .int .i64 x.f] 25 (w1.next + 1) 0 0)
  have hW2 := ((hW.keep hg1.1).push (.cells [.int .i64 Mn, .int .i64 Mx] 27 w1.next 0 0)).push (.cells [.slice p S.length cap, .slice q F.length cap2, .int .i64 x.m, .int .i64 x.d, .int .i64 x.f] 25 (w1.next + 1) 0 0)
  have hN2 := ((hN.keep hg1.1).push (.cells [.int .i64 Mn, .int .i64 Mx] 27 w1.next 0 0)).push (.cells [.slice p S.length cap, .slice q F.length cap2, .int .i64 x.m, .int .i64 x.d, .int .i64 x.f] 25 (w1.next + 1) 0 0)
  have gx := g1.push (.cells [.int .i64 Mn, .int .i64 Mx] 27 w1.next 0 0)
  have hB2 := Own.new gx.2 25 [.slice p S.length cap, .slice q F.length cap2, .int .i64 x.m, .int .i64 x.d, .int .i64 x.f]
  rw [hn1] at hB2
  have g2 := gx.push (.cells [.slice p S.length cap, .slice q F.length cap2, .int .i64 x.m, .int .i64 x.d, .int .i64 x.f] 25 (w1.next + 1) 0 0)
  have st := storeV_own1 (o := 0) (v := .slice none 0 0) hB2 (by simp) rfl
  simp only [setL] at st
  have hB3 := hB2.put [.slice none 0 0, .slice q F.length cap2, .int .i64 x.m, .int .i64 x.d, .int .i64 x.f]
  have m3 := (Mut.refl g2.2).put hB2 (.cells [.slice none 0 0, .slice q F.length cap2, .int .i64 x.m, .int .i64 x.d, .int .i64 x.f] 25 (w1.next + 1) 0 0)
  have hlt1 := g1.1.next
  have hlt2 := hg1.1.next
  have hOl := hO.lt
  have hWl := hW.lt
  have hNl := hN.lt
  have hO3 := m3.own hO2 (by omega)
  have hW3 := m3.own hW2 (by omega)
  have hN3 := m3.own hN2 (by omega)
  have hV3 := m3.own hV2 (by omega)
  have g3 : Grown w _ := ⟨g2.1.put (by omega) _, m3.fresh⟩
  have c0 := (hO1).cell (o := 0) rfl hvs
  have c1 := (hO1).cell (o := 1) rfl hvf
  have c2 := (hO1).cell (o := 2) rfl rfl
  have c3 := (hO1).cell (o := 3) rfl rfl
  have c4 := (hO1).cell (o := 4) rfl rfl
  have d0 := hO3.cell (o := 0) rfl hvs
  simp -dsimp -implicitDefEqProofs (maxSteps := 2000000) (disch := first | assumption | omega | (simp only [AW.next_push, AW.next_put]; omega) | ((repeat refine Fresh.push ?_ _); assumption) | (simp only [same_int, same_bool, same_ptr, same_slice, same_sliceP, same_nil, same_agg2, same_string]; done) | (simp [oneCell, AW.next_push]; done) | fail) only [go_sem, Nat.reduceEqDiff, reduceIte, Nat.reduceAdd, Int.toNat_natCast, Nat.add_zero, Owes_true, Try.results7, Nat.zero_add, c0, c1, c2, c3, c4, st, d0]
  generalize hW3e : ((w1.push (.cells [.int .i64 Mn, .int .i64 Mx] 27 w1.next 0 0)).push (.cells [.slice p S.length cap, .slice q F.length cap2, .int .i64 x.m, .int .i64 x.d, .int .i64 x.f] 25 (w1.next + 1) 0 0)).put (w1.next + 1) (.cells [.slice none 0 0, .slice q F.length cap2, .int .i64 x.m, .int .i64 x.d, .int .i64 x.f] 25 (w1.next + 1) 0 0) = w3 at *
  have hn3 : w3.next = w1.next + 1 + 1 := by rw [← hW3e, AW.next_put, AW.next_push, AW.next_push]
  refine loopR (fun k t ds w4 => ∃ i : Nat, i ≤ S.length ∧ k = S.length - i ∧ ds = [] ∧ ev t (.tmp 3) = .pointer (some ⟨w.next, 0, none⟩) ∧ ev t (.tmp 4) = .pointer (some ⟨w.next + 1, 0, none⟩) ∧ ev t (.tmp 5) = .pointer (some ⟨w.next + 1 + 1, 0, none⟩) ∧ ev t (.tmp 7) = .pointer (some ⟨w1.next, 0, none⟩) ∧ ev t (.tmp 8) = .int .i64 E ∧ ev t (.tmp 9) = .pointer (some ⟨w1.next + 1, 0, none⟩) ∧ (∃ r : Int, ev t (.tmp 10) = .int .i64 r ∧ r + i + 1 = S.length ∧ ∃ sv, Own w4 (w1.next + 1) 25 [sv, .slice q F.length cap2, .int .i64 x.m, .int .i64 x.d, .int .i64 x.f] ∧ AOwn w3.next w4 66 5 sv i ((S.reverse.take i).flatMap scel) ∧ Mut (w1.next + 1) w3 w4)) (S.length) ?_ ?_
  · refine ⟨0, by omega, by omega, rfl, ?_, ?_, ?_, ?_, ?_, ?_, ⟨(S.length : Int) - 1, by simp -dsimp -implicitDefEqProofs (maxSteps := 2000000) (disch := first | assumption | omega | (simp only [AW.next_push, AW.next_put]; omega) | ((repeat refine Fresh.push ?_ _); assumption) | (simp only [same_int, same_bool, same_ptr, same_slice, same_sliceP, same_nil, same_agg2, same_string]; done) | (simp [oneCell, AW.next_push]; done) | fail) only [go_sem, Nat.reduceEqDiff, reduceIte, Nat.reduceAdd, Int.toNat_natCast, Nat.add_zero, Owes_true], by omega, _, hB3, .inl ⟨rfl, rfl, rfl⟩, Mut.refl g3.2⟩⟩ <;> simp -dsimp -implicitDefEqProofs (maxSteps := 2000000) (disch := first | assumption | omega | (simp only [AW.next_push, AW.next_put]; omega) | ((repeat refine Fresh.push ?_ _); assumption) | (simp only [same_int, same_bool, same_ptr, same_slice, same_sliceP, same_nil, same_agg2, same_string]; done) | (simp [oneCell, AW.next_push]; done) | fail) only [go_sem, Nat.reduceEqDiff, reduceIte, Nat.reduceAdd, Int.toNat_natCast, Nat.add_zero, Owes_true] <;> rfl
  rintro k t ds w4 ⟨i, hii, rfl, rfl, e3, e4, e5, e7, e8, e9, hM⟩
  obtain ⟨r, e10, hri, sv, hB4, hA, m4⟩ := hM
  obtain ⟨vp, vn, vc, rfl⟩ : ∃ x y z, sv = .slice x y z := by rcases hA with ⟨rfl, _⟩ | ⟨_, _, rfl, _⟩ <;> exact ⟨_, _, _, rfl⟩
  have hm4n := m4.next
  have g4 : Grown w w4 := ⟨g3.1.trans (m4.keep (by omega) (by omega)), m4.fresh⟩
  have hO4 := m4.own hO3 (by omega)
  have hW4 := m4.own hW3 (by omega)
  have hN4 := m4.own hN3 (by omega)
  have hV4 := m4.own hV3 (by omega)
  by_cases hlt : r ≥ 0
  case pos =>
    obtain ⟨n, rfl⟩ := Int.eq_ofNat_of_zero_le hlt
    have hn : n < S.length := by omega
    have hnl : (n : Int) < (S.length : Int) := by omega
    obtain ⟨b1, o1, rfl, hb1, hcell⟩ := hat n hn
    have a0 := hcell _ g4.1 0 _ rfl
    have a1 := hcell _ g4.1 1 _ rfl
    have a2 := hcell _ g4.1 2 _ rfl
    have a3 := hcell _ g4.1 3 _ rfl
    have a4 := hcell _ g4.1 4 _ rfl
    rw [Nat.add_zero] at a0
    have hil : i < S.reverse.length := by rw [List.length_reverse]; omega
    have hx : S.reverse[i] = S[n] := by
      rw [List.getElem_reverse]; congr 1; omega
    have htake : S.reverse.take (i + 1) = S.reverse.take i ++ [S[n]] := by rw [List.take_succ_eq_append_getElem hil, hx]
    clear hx
    generalize S[n] = s at *
    obtain ⟨s', w5, happ, hA5, hk5, f5, hn5, _⟩ := append_oneR (e' := 66) Try.ty22 Try.ty66 rfl (by decide) hA m4.fresh (by omega) (scel_len s) (scel_one s) (by omega) (by omega)
    simp only [scel] at happ
    obtain ⟨rp, rn, rc, rfl⟩ : ∃ x y z, s' = .slice x y z := by rcases hA5 with ⟨rfl, _⟩ | ⟨_, _, rfl, _⟩ <;> exact ⟨_, _, _, rfl⟩
    have hB5 := hB4.keepC hk5 (by omega)
    have m5 := Mut_keep m4 hk5 f5 (Nat.le_refl _)
    have m6 := m5.put hB5 (.cells [.slice rp rn rc, .slice q F.length cap2, .int .i64 x.m, .int .i64 x.d, .int .i64 x.f] 25 (w1.next + 1) 0 0)
    have hA6 := ((Mut.refl f5).put hB5 (.cells [.slice rp rn rc, .slice q F.length cap2, .int .i64 x.m, .int .i64 x.d, .int .i64 x.f] 25 (w1.next + 1) 0 0)).aown (by omega) hA5
    have hA7 : AOwn w3.next (w5.put (w1.next + 1) (.cells [.slice rp rn rc, .slice q F.length cap2, .int .i64 x.m, .int .i64 x.d, .int .i64 x.f] 25 (w1.next + 1) 0 0)) 66 5 (.slice rp rn rc) (i + 1) ((S.reverse.take (i + 1)).flatMap scel) := by
      rw [htake, List.flatMap_append]; simpa using hA6
    have st2 := storeV_own1 (o := 0) (v := .slice rp rn rc) hB5 (by simp) rfl
    simp only [setL] at st2
    have d0 := hO4.cell (o := 0) rfl rfl
    have b0 := hB4.cell (o := 0) rfl hA.one
    have f4 := m4.fresh
    have hsm := same_agg5 s.k s.d s.w s.m s.p
    simp -dsimp -implicitDefEqProofs (maxSteps := 2000000) (disch := first | assumption | omega | (simp only [AW.next_push, AW.next_put]; omega) | ((repeat refine Fresh.push ?_ _); assumption) | (simp only [same_int, same_bool, same_ptr, same_slice, same_sliceP, same_nil, same_agg2, same_string]; done) | (simp [oneCell, AW.next_push]; done) | fail) only [go_sem, Nat.reduceEqDiff, reduceIte, Nat.reduceAdd, Int.toNat_natCast, Nat.add_zero, Owes_true, Try.results7, e3, e4, e5, e7, e8, e9, e10, hlt, hnl, hsm, indexV_eq, a0, a1, a2, a3, a4, d0, b0, happ, st2, Nat.zero_add]
    refine ⟨_, by omega, i + 1, by omega, rfl, rfl, by (simp -dsimp -implicitDefEqProofs (maxSteps := 2000000) (disch := first | assumption | omega | (simp only [AW.next_push, AW.next_put]; omega) | ((repeat refine Fresh.push ?_ _); assumption) | (simp only [same_int, same_bool, same_ptr, same_slice, same_sliceP, same_nil, same_agg2, same_string]; done) | (simp [oneCell, AW.next_push]; done) | fail) only [go_sem, Nat.reduceEqDiff, reduceIte, Nat.reduceAdd, Int.toNat_natCast, Nat.add_zero, Owes_true, e3]; try rfl), by (simp -dsimp -implicitDefEqProofs (maxSteps := 2000000) (disch := first | assumption | omega | (simp only [AW.next_push, AW.next_put]; omega) | ((repeat refine Fresh.push ?_ _); assumption) | (simp only [same_int, same_bool, same_ptr, same_slice, same_sliceP, same_nil, same_agg2, same_string]; done) | (simp [oneCell, AW.next_push]; done) | fail) only [go_sem, Nat.reduceEqDiff, reduceIte, Nat.reduceAdd, Int.toNat_natCast, Nat.add_zero, Owes_true, e4]; try rfl), by (simp -dsimp -implicitDefEqProofs (maxSteps := 2000000) (disch := first | assumption | omega | (simp only [AW.next_push, AW.next_put]; omega) | ((repeat refine Fresh.push ?_ _); assumption) | (simp only [same_int, same_bool, same_ptr, same_slice, same_sliceP, same_nil, same_agg2, same_string]; done) | (simp [oneCell, AW.next_push]; done) | fail) only [go_sem, Nat.reduceEqDiff, reduceIte, Nat.reduceAdd, Int.toNat_natCast, Nat.add_zero, Owes_true, e5]; try rfl), by (simp -dsimp -implicitDefEqProofs (maxSteps := 2000000) (disch := first | assumption | omega | (simp only [AW.next_push, AW.next_put]; omega) | ((repeat refine Fresh.push ?_ _); assumption) | (simp only [same_int, same_bool, same_ptr, same_slice, same_sliceP, same_nil, same_agg2, same_string]; done) | (simp [oneCell, AW.next_push]; done) | fail) only [go_sem, Nat.reduceEqDiff, reduceIte, Nat.reduceAdd, Int.toNat_natCast, Nat.add_zero, Owes_true, e7]; try rfl), by (simp -dsimp -implicitDefEqProofs (maxSteps := 2000000) (disch := first | assumption | omega | (simp only [AW.next_push, AW.next_put]; omega) | ((repeat refine Fresh.push ?_ _); assumption) | (simp only [same_int, same_bool, same_ptr, same_slice, same_sliceP, same_nil, same_agg2, same_string]; done) | (simp [oneCell, AW.next_push]; done) | fail) only [go_sem, Nat.reduceEqDiff, reduceIte, Nat.reduceAdd, Int.toNat_natCast, Nat.add_zero, Owes_true, e8]; try rfl), by (simp -dsimp -implicitDefEqProofs (maxSteps := 2000000) (disch := first | assumption | omega | (simp only [AW.next_push, AW.next_put]; omega) | ((repeat refine Fresh.push ?_ _); assumption) | (simp only [same_int, same_bool, same_ptr, same_slice, same_sliceP, same_nil, same_agg2, same_string]; done) | (simp [oneCell, AW.next_push]; done) | fail) only [go_sem, Nat.reduceEqDiff, reduceIte, Nat.reduceAdd, Int.toNat_natCast, Nat.add_zero, Owes_true, e9]; try rfl), ⟨(n : Int) - 1, by simp -dsimp -implicitDefEqProofs (maxSteps := 2000000) (disch := first | assumption | omega | (simp only [AW.next_push, AW.next_put]; omega) | ((repeat refine Fresh.push ?_ _); assumption) | (simp only [same_int, same_bool, same_ptr, same_slice, same_sliceP, same_nil, same_agg2, same_string]; done) | (simp [oneCell, AW.next_push]; done) | fail) only [go_sem, Nat.reduceEqDiff, reduceIte, Nat.reduceAdd, Int.toNat_natCast, Nat.add_zero, Owes_true], by omega, _, hB5.put _, hA7, m6⟩⟩
  obtain rfl : i = S.length := by omega
  rw [List.take_of_length_le (by simp)] at hA
  rw [← List.length_reverse] at hA
  have hR := hA.arrR scel_len (by rw [List.length_reverse]; omega)
  have hvr := hR.oneCell
  have hEq : valE x S.reverse F kd a b = E := r3
  have b0 := hB4.cell (o := 0) rfl hvr
  have b1 := hB4.cell (o := 1) rfl hvf
  have b2 := hB4.cell (o := 2) rfl rfl
  have b3 := hB4.cell (o := 3) rfl rfl
  have b4 := hB4.cell (o := 4) rfl rfl
  have u0 := (hW4).cell (o := 0) rfl rfl
  have u1 := (hW4).cell (o := 1) rfl rfl
  have u2 := (hW4).cell (o := 2) rfl rfl
  simp -dsimp -implicitDefEqProofs (maxSteps := 2000000) (disch := first | assumption | omega | (simp only [AW.next_push, AW.next_put]; omega) | ((repeat refine Fresh.push ?_ _); assumption) | (simp only [same_int, same_bool, same_ptr, same_slice, same_sliceP, same_nil, same_agg2, same_string]; done) | (simp [oneCell, AW.next_push]; done) | fail) only [go_sem, Nat.reduceEqDiff, reduceIte, Nat.reduceAdd, Int.toNat_natCast, Nat.add_zero, Owes_true, Try.results7, e3, e4, e5, e7, e8, e9, e10, hlt, Nat.zero_add, b0, b1, b2, b3, b4, u0, u1, u2]
  apply callV_of (e := rfl)
  · exact Value_ok x S.reverse F _ _ kd a b w4 g4.2 hR (hs.grown g4)
  rintro _ w5 ⟨rfl, hg5⟩
  rw [r1, r2, r3]
  have g5' := g4.trans hg5
  have f5 := g5'.2
  have hU := Own.new f5 27 [.int .i64 Mn, .int .i64 Mx]
  have hV5 := (hV4.keep hg5.1).push (.cells [.int .i64 Mn, .int .i64 Mx] 27 w5.next 0 0)
  have hN5 := (hN4.keep hg5.1).push (.cells [.int .i64 Mn, .int .i64 Mx] 27 w5.next 0 0)
  have g5 := g5'.push (.cells [.int .i64 Mn, .int .i64 Mx] 27 w5.next 0 0)
  have z0 := (hU).cell (o := 0) rfl rfl
  have z1 := (hU).cell (o := 1) rfl rfl
  have v0 := (hV5).cell (o := 0) rfl rfl
  have v1 := (hV5).cell (o := 1) rfl rfl
  have p0 := (hN5).cell (o := 0) rfl rfl
  have p1 := (hN5).cell (o := 1) rfl rfl
  have p2 := (hN5).cell (o := 2) rfl rfl
  have p3 := (hN5).cell (o := 3) rfl rfl
  have p4 := (hN5).cell (o := 4) rfl rfl
  have hne := Try.nex27 Mn Mx
  by_cases hE : E = 0
  case neg =>
    simp -dsimp -implicitDefEqProofs (maxSteps := 2000000) (disch := first | assumption | omega | (simp only [AW.next_push, AW.next_put]; omega) | ((repeat refine Fresh.push ?_ _); assumption) | (simp only [same_int, same_bool, same_ptr, same_slice, same_sliceP, same_nil, same_agg2, same_string]; done) | (simp [oneCell, AW.next_push]; done) | fail) only [go_sem, Nat.reduceEqDiff, reduceIte, Nat.reduceAdd, Int.toNat_natCast, Nat.add_zero, Owes_true, Try.results7, e3, e4, e5, e7, e8, e9, hE, Nat.zero_add, z0, z1, v0, v1, hne]
    apply callV_of (e := rfl)
    · exact callT_told (Q := fun v w' => v = .bool true ∧ _ = w') (v := .bool true) (w' := _) rfl ⟨rfl, rfl⟩
    rintro _ _ ⟨rfl, rfl⟩
    simp -dsimp -implicitDefEqProofs (maxSteps := 2000000) (disch := first | assumption | omega | (simp only [AW.next_push, AW.next_put]; omega) | ((repeat refine Fresh.push ?_ _); assumption) | (simp only [same_int, same_bool, same_ptr, same_slice, same_sliceP, same_nil, same_agg2, same_string]; done) | (simp [oneCell, AW.next_push]; done) | fail) only [go_sem, Nat.reduceEqDiff, reduceIte, Nat.reduceAdd, Int.toNat_natCast, Nat.add_zero, Owes_true, Try.results7]
  subst hE
  simp -dsimp -implicitDefEqProofs (maxSteps := 2000000) (disch := first | assumption | omega | (simp only [AW.next_push, AW.next_put]; omega) | ((repeat refine Fresh.push ?_ _); assumption) | (simp only [same_int, same_bool, same_ptr, same_slice, same_sliceP, same_nil, same_agg2, same_string]; done) | (simp [oneCell, AW.next_push]; done) | fail) only [go_sem, Nat.reduceEqDiff, reduceIte, Nat.reduceAdd, Int.toNat_natCast, Nat.add_zero, Owes_true, Try.results7, e3, e4, e5, e7, e8, e9, Nat.zero_add, z0, z1, v0, v1, hne, p0, p1, p2, p3, p4]
  generalize w5.push (.cells [.int .i64 Mn, .int .i64 Mx] 27 w5.next 0 0) = w6 at *
  apply callV_of (e := rfl)
  · exact Most_ok Fr Fl Cp Mn Mx w6 g5.2
  rintro _ w7 ⟨E1, V, rfl, hg7, hc⟩
  have g7 := g5.trans hg7
  have hN7 := hN5.keep hg7.1
  have hV7 := hV5.keep hg7.1
  have p0 := (hN7).cell (o := 0) rfl rfl
  have p1 := (hN7).cell (o := 1) rfl rfl
  have p2 := (hN7).cell (o := 2) rfl rfl
  have p3 := (hN7).cell (o := 3) rfl rfl
  have p4 := (hN7).cell (o := 4) rfl rfl
  have v0 := (hV7).cell (o := 0) rfl rfl
  have v1 := (hV7).cell (o := 1) rfl rfl
  rcases hc with ⟨_, rfl, rfl⟩ | ⟨_, _, rfl, rfl⟩ | ⟨hT, hSp, rfl, rfl⟩
  · have h22 : ¬ (22 : Int) = 0 := by decide
    simp -dsimp -implicitDefEqProofs (maxSteps := 2000000) (disch := first | assumption | omega | (simp only [AW.next_push, AW.next_put]; omega) | ((repeat refine Fresh.push ?_ _); assumption) | (simp only [same_int, same_bool, same_ptr, same_slice, same_sliceP, same_nil, same_agg2, same_string]; done) | (simp [oneCell, AW.next_push]; done) | fail) only [go_sem, Nat.reduceEqDiff, reduceIte, Nat.reduceAdd, Int.toNat_natCast, Nat.add_zero, Owes_true, Try.results7, e3, e4, e5, e7, e8, e9, h22]
    apply callV_of (e := rfl)
    · exact callT_told (Q := fun v w' => v = .bool true ∧ _ = w') (v := .bool true) (w' := _) rfl ⟨rfl, rfl⟩
    rintro _ _ ⟨rfl, rfl⟩
    simp -dsimp -implicitDefEqProofs (maxSteps := 2000000) (disch := first | assumption | omega | (simp only [AW.next_push, AW.next_put]; omega) | ((repeat refine Fresh.push ?_ _); assumption) | (simp only [same_int, same_bool, same_ptr, same_slice, same_sliceP, same_nil, same_agg2, same_string]; done) | (simp [oneCell, AW.next_push]; done) | fail) only [go_sem, Nat.reduceEqDiff, reduceIte, Nat.reduceAdd, Int.toNat_natCast, Nat.add_zero, Owes_true, Try.results7]
  · have h22 : ¬ (7 : Int) = 0 := by decide
    have h23 : ¬ (7 : Int) = 22 := by decide
    simp -dsimp -implicitDefEqProofs (maxSteps := 2000000) (disch := first | assumption | omega | (simp only [AW.next_push, AW.next_put]; omega) | ((repeat refine Fresh.push ?_ _); assumption) | (simp only [same_int, same_bool, same_ptr, same_slice, same_sliceP, same_nil, same_agg2, same_string]; done) | (simp [oneCell, AW.next_push]; done) | fail) only [go_sem, Nat.reduceEqDiff, reduceIte, Nat.reduceAdd, Int.toNat_natCast, Nat.add_zero, Owes_true, Try.results7, e3, e4, e5, e7, e8, e9, h22, h23]
    apply callV_of (e := rfl)
    · exact callT_told (Q := fun v w' => v = .bool true ∧ _ = w') (v := .bool true) (w' := _) rfl ⟨rfl, rfl⟩
    rintro _ _ ⟨rfl, rfl⟩
    simp -dsimp -implicitDefEqProofs (maxSteps := 2000000) (disch := first | assumption | omega | (simp only [AW.next_push, AW.next_put]; omega) | ((repeat refine Fresh.push ?_ _); assumption) | (simp only [same_int, same_bool, same_ptr, same_slice, same_sliceP, same_nil, same_agg2, same_string]; done) | (simp [oneCell, AW.next_push]; done) | fail) only [go_sem, Nat.reduceEqDiff, reduceIte, Nat.reduceAdd, Int.toNat_natCast, Nat.add_zero, Owes_true, Try.results7]
  obtain ⟨hF, hL, hC⟩ := terms_in hT
  obtain ⟨s1, s2, s3⟩ := span_in hSp
  obtain ⟨q1, q2, q3, q4, q5⟩ := most_in hF hL ⟨s1, by omega⟩
  obtain ⟨q6, q7⟩ := mul_in s1 (by omega) hF.1 hF.2
  have hup := fun c (hc : Mn ≤ c) => most_up (F := Fr) (L := Fl) (C := Cp) hF hL s1 hc
  generalize hVe : mostZ Fr Fl Cp Mn = V at *
  have x1 : ¬ V > Cp := by omega
  have x2 : ¬ V > Mn := by omega
  have x3 : ¬ V > max (Mn * Fr / 64) (min Fl Mn) := by omega
  have x4 : ¬ V < min (min Fl Mn) Cp := by omega
  have y1 : decide (V > Cp) = false := decide_eq_false x1
  have y2 : decide (V > Mn) = false := decide_eq_false x2
  have y3 : decide (V > max (Mn * Fr / 64) (min Fl Mn)) = false := decide_eq_false x3
  have y4 : decide (V < min (min Fl Mn) Cp) = false := decide_eq_false x4
  simp -dsimp -implicitDefEqProofs (maxSteps := 2000000) (disch := first | assumption | omega | (simp only [AW.next_push, AW.next_put]; omega) | ((repeat refine Fresh.push ?_ _); assumption) | (simp only [same_int, same_bool, same_ptr, same_slice, same_sliceP, same_nil, same_agg2, same_string]; done) | (simp [oneCell, AW.next_push]; done) | fail) only [go_sem, Nat.reduceEqDiff, reduceIte, Nat.reduceAdd, Int.toNat_natCast, Nat.add_zero, Owes_true, Try.results7, e3, e4, e5, e7, e8, e9, Nat.zero_add, v0, v1, p0, p1, p2, p3, p4, x1, x2, y1, y2, ne_eq, not_true]
  apply callV_of (e := rfl)
  · exact Down_ok (Mn * Fr) q6 (by omega) w7
  rintro _ _ ⟨rfl, rfl⟩
  have f7 := g7.2
  simp -dsimp -implicitDefEqProofs (maxSteps := 2000000) (disch := first | assumption | omega | (simp only [AW.next_push, AW.next_put]; omega) | ((repeat refine Fresh.push ?_ _); assumption) | (simp only [same_int, same_bool, same_ptr, same_slice, same_sliceP, same_nil, same_agg2, same_string]; done) | (simp [oneCell, AW.next_push]; done) | fail) only [go_sem, Nat.reduceEqDiff, reduceIte, Nat.reduceAdd, Int.toNat_natCast, Nat.add_zero, Owes_true, Try.results7, e3, e4, e5, e7, e8, e9, Nat.zero_add, v0, v1, p0, p1, p2, p3, p4, x3, x4, y3, y4, f7]
  have g8 := g7.push (.cells [.int .i64 0, .int .i64 0] 27 w7.next 0 0)
  have hM8 := Own.new f7 27 [.int .i64 0, .int .i64 0]
  have hN8 := hN7.push (.cells [.int .i64 0, .int .i64 0] 27 w7.next 0 0)
  have hV8 := hV7.push (.cells [.int .i64 0, .int .i64 0] 27 w7.next 0 0)
  generalize w7.push (.cells [.int .i64 0, .int .i64 0] 27 w7.next 0 0) = w8 at *
  have hwl := WLe.refl w8
  apply callV_of (e := rfl)
  · exact Ring_ok Mo 100000 (by decide) (by decide) w8
  rintro _ _ ⟨k1, rfl, k10, k11, rfl⟩
  simp -dsimp -implicitDefEqProofs (maxSteps := 2000000) (disch := first | assumption | omega | (simp only [AW.next_push, AW.next_put]; omega) | ((repeat refine Fresh.push ?_ _); assumption) | (simp only [same_int, same_bool, same_ptr, same_slice, same_sliceP, same_nil, same_agg2, same_string]; done) | (simp [oneCell, AW.next_push]; done) | fail) only [go_sem, Nat.reduceEqDiff, reduceIte, Nat.reduceAdd, Int.toNat_natCast, Nat.add_zero, Owes_true, Try.results7, e3, e4, e5, e7, e8, e9, Nat.zero_add, hwl]
  apply callV_of (e := rfl)
  · exact Ring_ok Mo 100000 (by decide) (by decide) w8
  rintro _ _ ⟨k2, rfl, k20, k21, rfl⟩
  have put : ∀ y z : Int, ∃ w9, storeV w8 true 2 (.pointer (some ⟨w7.next, 0, none⟩)) (.agg #[.int .i64 y, .int .i64 z]) = some w9 ∧ Own w9 w7.next 27 [.int .i64 y, .int .i64 z] ∧ Mut w7.next w8 w9 := by
    intro y z
    have h1 := storeV_own (o := 0) (l := [.int .i64 y, .int .i64 z]) (size := 2) hM8 rfl (by omega) (by simp) (by rfl)
    exact ⟨_, h1, hM8.put _, (Mut.refl g8.2).put hM8 _⟩
  obtain ⟨w9, kp, hM9, m9⟩ := put (Mn + k1) (Mx + k2)
  have n1 := hN7.lt
  have n2 := hV7.lt
  have hN9 := m9.own hN8 (by omega)
  have hV9 := m9.own hV8 (by omega)
  have g9 : Grown w w9 := ⟨g8.1.trans (m9.keep g7.1.next (by have := g8.1.next; omega)), m9.fresh⟩
  have p0 := (hN9).cell (o := 0) rfl rfl
  have p1 := (hN9).cell (o := 1) rfl rfl
  have p2 := (hN9).cell (o := 2) rfl rfl
  have p3 := (hN9).cell (o := 3) rfl rfl
  have p4 := (hN9).cell (o := 4) rfl rfl
  have z0 := (hM9).cell (o := 0) rfl rfl
  have z1 := (hM9).cell (o := 1) rfl rfl
  simp -dsimp -implicitDefEqProofs (maxSteps := 2000000) (disch := first | assumption | omega | (simp only [AW.next_push, AW.next_put]; omega) | ((repeat refine Fresh.push ?_ _); assumption) | (simp only [same_int, same_bool, same_ptr, same_slice, same_sliceP, same_nil, same_agg2, same_string]; done) | (simp [oneCell, AW.next_push]; done) | fail) only [go_sem, Nat.reduceEqDiff, reduceIte, Nat.reduceAdd, Int.toNat_natCast, Nat.add_zero, Owes_true, Try.results7, e3, e4, e5, e7, e8, e9, Nat.zero_add, kp, hwl, p0, p1, p2, p3, p4, z0, z1]
  apply callV_of (e := rfl)
  · exact Most_ok Fr Fl Cp (Mn + k1) (Mx + k2) w9 g9.2
  rintro _ w10 ⟨E2, V2, rfl, hg10, hc2⟩
  have g10 := g9.trans hg10
  have hN10 := hN9.keep hg10.1
  have hV10 := hV9.keep hg10.1
  have p0 := (hN10).cell (o := 0) rfl rfl
  have p1 := (hN10).cell (o := 1) rfl rfl
  have p2 := (hN10).cell (o := 2) rfl rfl
  have p3 := (hN10).cell (o := 3) rfl rfl
  have p4 := (hN10).cell (o := 4) rfl rfl
  have v0 := (hV10).cell (o := 0) rfl rfl
  have v1 := (hV10).cell (o := 1) rfl rfl
  have h70 : ¬ (7 : Int) = 0 := by decide
  have hwish : ∀ k3 : Int, 0 ≤ k3 → k3 < 1073741824 → (spanB Mn Mx 2147483648 && inR 1 (1 + k3) 1073741824) = true := fun k3 h1 h2 => by
    rw [hSp, (inR_iff _ _ _).2 ⟨by omega, by omega⟩]; rfl
  rcases hc2 with ⟨hT2, _⟩ | ⟨_, _, rfl, rfl⟩ | ⟨_, _, rfl, rfl⟩
  · rw [hT] at hT2; cases hT2
  · simp -dsimp -implicitDefEqProofs (maxSteps := 2000000) (disch := first | assumption | omega | (simp only [AW.next_push, AW.next_put]; omega) | ((repeat refine Fresh.push ?_ _); assumption) | (simp only [same_int, same_bool, same_ptr, same_slice, same_sliceP, same_nil, same_agg2, same_string]; done) | (simp [oneCell, AW.next_push]; done) | fail) only [go_sem, Nat.reduceEqDiff, reduceIte, Nat.reduceAdd, Int.toNat_natCast, Nat.add_zero, Owes_true, Try.results7, e3, e4, e5, e7, e8, e9, Nat.zero_add, h70, p0, p1, p2, p3, p4, v0, v1]
    apply callV_of (e := rfl)
    · exact Ring_ok Wi 1073741824 (by decide) (by decide) w10
    rintro _ _ ⟨k3, rfl, k30, k31, rfl⟩
    simp -dsimp -implicitDefEqProofs (maxSteps := 2000000) (disch := first | assumption | omega | (simp only [AW.next_push, AW.next_put]; omega) | ((repeat refine Fresh.push ?_ _); assumption) | (simp only [same_int, same_bool, same_ptr, same_slice, same_sliceP, same_nil, same_agg2, same_string]; done) | (simp [oneCell, AW.next_push]; done) | fail) only [go_sem, Nat.reduceEqDiff, reduceIte, Nat.reduceAdd, Int.toNat_natCast, Nat.add_zero, Owes_true, Try.results7, e3, e4, e5, e7, e8, e9, Nat.zero_add, p0, p1, p2, p3, p4, v0, v1]
    apply callV_of (e := rfl)
    · exact Lend_ok Fr Fl Cp Mn Mx (1 + k3) w10 g10.2
    rintro _ w11 ⟨E3, V3, rfl, hg11, hc3⟩
    have hW := hwish k3 k30 k31
    rcases hc3 with ⟨hT3, _⟩ | ⟨_, hS3, _⟩ | ⟨_, _, ⟨hz, rfl, rfl⟩ | ⟨hz, rfl, rfl⟩⟩
    · rw [hT] at hT3; cases hT3
    · rw [hW] at hS3; cases hS3
    · rw [hVe] at hz
      have y5 : decide (V = 0) = true := decide_eq_true hz
      simp -dsimp -implicitDefEqProofs (maxSteps := 2000000) (disch := first | assumption | omega | (simp only [AW.next_push, AW.next_put]; omega) | ((repeat refine Fresh.push ?_ _); assumption) | (simp only [same_int, same_bool, same_ptr, same_slice, same_sliceP, same_nil, same_agg2, same_string]; done) | (simp [oneCell, AW.next_push]; done) | fail) only [go_sem, Nat.reduceEqDiff, reduceIte, Nat.reduceAdd, Int.toNat_natCast, Nat.add_zero, Owes_true, Try.results7, e3, e4, e5, e7, e8, e9, hz, y5]
      apply callV_of (e := rfl)
      · exact callT_told (Q := fun v w' => v = .bool true ∧ _ = w') (v := .bool true) (w' := _) rfl ⟨rfl, rfl⟩
      rintro _ _ ⟨rfl, rfl⟩
      simp -dsimp -implicitDefEqProofs (maxSteps := 2000000) (disch := first | assumption | omega | (simp only [AW.next_push, AW.next_put]; omega) | ((repeat refine Fresh.push ?_ _); assumption) | (simp only [same_int, same_bool, same_ptr, same_slice, same_sliceP, same_nil, same_agg2, same_string]; done) | (simp [oneCell, AW.next_push]; done) | fail) only [go_sem, Nat.reduceEqDiff, reduceIte, Nat.reduceAdd, Int.toNat_natCast, Nat.add_zero, Owes_true, Try.results7]
    · rw [hVe] at hz
      rw [hVe]
      have hpos : V > 0 := by omega
      have y5 : decide (V = 0) = false := decide_eq_false hz
      have y6 : decide (V > 0) = true := decide_eq_true hpos
      have hmin : min (1 + k3) V = min V (1 + k3) := Int.min_comm _ _
      rw [hmin]
      obtain ⟨V3, hV3⟩ : ∃ V3, V3 = min V (1 + k3) := ⟨_, rfl⟩
      have y7 : decide (V3 = min V (1 + k3)) = true := decide_eq_true hV3
      rw [← hV3]
      simp -dsimp -implicitDefEqProofs (maxSteps := 30000000) (disch := first | assumption | omega | (simp only [AW.next_push, AW.next_put]; omega) | ((repeat refine Fresh.push ?_ _); assumption) | (simp only [same_int, same_bool, same_ptr, same_slice, same_sliceP, same_nil, same_agg2, same_string]; done) | (simp [oneCell, AW.next_push]; done) | fail) only [go_sem, Nat.reduceEqDiff, reduceIte, Nat.reduceAdd, Int.toNat_natCast, Nat.add_zero, Owes_true, Try.results7, e3, e4, e5, e7, e8, e9, y5, y6, y7]
      apply callV_of (e := rfl)
      · exact callT_told (Q := fun v w' => v = .bool true ∧ _ = w') (v := .bool true) (w' := _) rfl ⟨rfl, rfl⟩
      rintro _ _ ⟨rfl, rfl⟩
      simp -dsimp -implicitDefEqProofs (maxSteps := 2000000) (disch := first | assumption | omega | (simp only [AW.next_push, AW.next_put]; omega) | ((repeat refine Fresh.push ?_ _); assumption) | (simp only [same_int, same_bool, same_ptr, same_slice, same_sliceP, same_nil, same_agg2, same_string]; done) | (simp [oneCell, AW.next_push]; done) | fail) only [go_sem, Nat.reduceEqDiff, reduceIte, Nat.reduceAdd, Int.toNat_natCast, Nat.add_zero, Owes_true, Try.results7]
  · have hm := hup (Mn + k1) (by omega)
    generalize mostZ Fr Fl Cp (Mn + k1) = V2 at *
    have hm2 : ¬ V2 < V := by omega
    simp -dsimp -implicitDefEqProofs (maxSteps := 2000000) (disch := first | assumption | omega | (simp only [AW.next_push, AW.next_put]; omega) | ((repeat refine Fresh.push ?_ _); assumption) | (simp only [same_int, same_bool, same_ptr, same_slice, same_sliceP, same_nil, same_agg2, same_string]; done) | (simp [oneCell, AW.next_push]; done) | fail) only [go_sem, Nat.reduceEqDiff, reduceIte, Nat.reduceAdd, Int.toNat_natCast, Nat.add_zero, Owes_true, Try.results7, e3, e4, e5, e7, e8, e9, Nat.zero_add, hm2, p0, p1, p2, p3, p4, v0, v1]
    apply callV_of (e := rfl)
    · exact Ring_ok Wi 1073741824 (by decide) (by decide) w10
    rintro _ _ ⟨k3, rfl, k30, k31, rfl⟩
    simp -dsimp -implicitDefEqProofs (maxSteps := 2000000) (disch := first | assumption | omega | (simp only [AW.next_push, AW.next_put]; omega) | ((repeat refine Fresh.push ?_ _); assumption) | (simp only [same_int, same_bool, same_ptr, same_slice, same_sliceP, same_nil, same_agg2, same_string]; done) | (simp [oneCell, AW.next_push]; done) | fail) only [go_sem, Nat.reduceEqDiff, reduceIte, Nat.reduceAdd, Int.toNat_natCast, Nat.add_zero, Owes_true, Try.results7, e3, e4, e5, e7, e8, e9, Nat.zero_add, p0, p1, p2, p3, p4, v0, v1]
    apply callV_of (e := rfl)
    · exact Lend_ok Fr Fl Cp Mn Mx (1 + k3) w10 g10.2
    rintro _ w11 ⟨E3, V3, rfl, hg11, hc3⟩
    have hW := hwish k3 k30 k31
    rcases hc3 with ⟨hT3, _⟩ | ⟨_, hS3, _⟩ | ⟨_, _, ⟨hz, rfl, rfl⟩ | ⟨hz, rfl, rfl⟩⟩
    · rw [hT] at hT3; cases hT3
    · rw [hW] at hS3; cases hS3
    · rw [hVe] at hz
      have y5 : decide (V = 0) = true := decide_eq_true hz
      simp -dsimp -implicitDefEqProofs (maxSteps := 2000000) (disch := first | assumption | omega | (simp only [AW.next_push, AW.next_put]; omega) | ((repeat refine Fresh.push ?_ _); assumption) | (simp only [same_int, same_bool, same_ptr, same_slice, same_sliceP, same_nil, same_agg2, same_string]; done) | (simp [oneCell, AW.next_push]; done) | fail) only [go_sem, Nat.reduceEqDiff, reduceIte, Nat.reduceAdd, Int.toNat_natCast, Nat.add_zero, Owes_true, Try.results7, e3, e4, e5, e7, e8, e9, hz, y5]
      apply callV_of (e := rfl)
      · exact callT_told (Q := fun v w' => v = .bool true ∧ _ = w') (v := .bool true) (w' := _) rfl ⟨rfl, rfl⟩
      rintro _ _ ⟨rfl, rfl⟩
      simp -dsimp -implicitDefEqProofs (maxSteps := 2000000) (disch := first | assumption | omega | (simp only [AW.next_push, AW.next_put]; omega) | ((repeat refine Fresh.push ?_ _); assumption) | (simp only [same_int, same_bool, same_ptr, same_slice, same_sliceP, same_nil, same_agg2, same_string]; done) | (simp [oneCell, AW.next_push]; done) | fail) only [go_sem, Nat.reduceEqDiff, reduceIte, Nat.reduceAdd, Int.toNat_natCast, Nat.add_zero, Owes_true, Try.results7]
    · rw [hVe] at hz
      rw [hVe]
      have hpos : V > 0 := by omega
      have y5 : decide (V = 0) = false := decide_eq_false hz
      have y6 : decide (V > 0) = true := decide_eq_true hpos
      have hmin : min (1 + k3) V = min V (1 + k3) := Int.min_comm _ _
      rw [hmin]
      obtain ⟨V3, hV3⟩ : ∃ V3, V3 = min V (1 + k3) := ⟨_, rfl⟩
      have y7 : decide (V3 = min V (1 + k3)) = true := decide_eq_true hV3
      rw [← hV3]
      simp -dsimp -implicitDefEqProofs (maxSteps := 30000000) (disch := first | assumption | omega | (simp only [AW.next_push, AW.next_put]; omega) | ((repeat refine Fresh.push ?_ _); assumption) | (simp only [same_int, same_bool, same_ptr, same_slice, same_sliceP, same_nil, same_agg2, same_string]; done) | (simp [oneCell, AW.next_push]; done) | fail) only [go_sem, Nat.reduceEqDiff, reduceIte, Nat.reduceAdd, Int.toNat_natCast, Nat.add_zero, Owes_true, Try.results7, e3, e4, e5, e7, e8, e9, y5, y6, y7]
      apply callV_of (e := rfl)
      · exact callT_told (Q := fun v w' => v = .bool true ∧ _ = w') (v := .bool true) (w' := _) rfl ⟨rfl, rfl⟩
      rintro _ _ ⟨rfl, rfl⟩
      simp -dsimp -implicitDefEqProofs (maxSteps := 2000000) (disch := first | assumption | omega | (simp only [AW.next_push, AW.next_put]; omega) | ((repeat refine Fresh.push ?_ _); assumption) | (simp only [same_int, same_bool, same_ptr, same_slice, same_sliceP, same_nil, same_agg2, same_string]; done) | (simp [oneCell, AW.next_push]; done) | fail) only [go_sem, Nat.reduceEqDiff, reduceIte, Nat.reduceAdd, Int.toNat_natCast, Nat.add_zero, Owes_true, Try.results7]
end Go.Proofs
