/- This program: its code, contracts, numbers, part 9. -/
import Derived.Test.YtlilncofnckgdaaPah
import Derived.Test.YtlilncofnckgdaaPaf
import Derived.Test.YtlilncofnckgdaaPaa
import Derived.Test.YtlilncofnckgdaaNc
import Derived.Test.YtlilncofnckgdaaRows
import Derived.ProofKit
import Derived.SizedLaws
set_option linter.unusedVariables false
set_option linter.unusedSimpArgs false
namespace Go.Proofs
open Go Go.RowKit Go.Sim
set_option maxRecDepth 100000
theorem age_zero {S : List Int} (hS : perB S = true) : ageL S zero5 = zeros S.length := by
  have hz := st_zero hS
  have hl := ageL_len hS hz
  refine List.ext_getElem (by rw [hl]; simp [zeros]) fun i h1 h2 => ?_
  rw [hl] at h1
  rw [← W_at (by rw [hl]; exact h1), ageL_at hS hz h1, zero5_at]
  simp [zeros]
set_option maxHeartbeats 32000000 in
theorem LastsR_ok (S : List Int) (u : Value) (w : AW) (f : Fresh w) (hu : ArrOf w 1 icells u S) :
    CallT Try.prog Try.T1 (.fn (.func 45) #[]) #[u] w (fun r w' => Grown w w' ∧ ∃ n e : Int, r = .tuple #[.int .i64 n, .int .i64 e] ∧ ((perB S = false ∧ n = 0 ∧ e = 105) ∨ (perB S = true ∧ infP S zero5 ∧ n = 0 ∧ e = 4) ∨ (perB S = true ∧ e = 0 ∧ 0 ≤ n ∧ maxP S zero5 n.toNat))) := by
  obtain ⟨pu, cu, rfl, _⟩ := id hu.open
  refine callT_code rfl Try.func45 rfl Try.s45_eq rfl ?_
  unfold Try.s45
  simp -dsimp -implicitDefEqProofs (maxSteps := 2000000) (disch := first | assumption | omega | (simp only [nx]; omega) | ((repeat refine Fresh.push ?_ _); assumption) | (simp only [smA]; done) | (simp [oneCell, AW.next_push]; done) | fail) only [go_sem, Nat.reduceEqDiff, reduceIte, Nat.reduceAdd, Int.toNat_natCast, Nat.add_zero, Owes_true, Try.results45]
  apply callV_of (e := rfl)
  · exact period_ok S _ w hu
  rintro _ _ ⟨rfl, rfl⟩
  cases hp : perB S with
  | false =>
    simp -dsimp -implicitDefEqProofs (maxSteps := 2000000) (disch := first | assumption | omega | (simp only [nx]; omega) | ((repeat refine Fresh.push ?_ _); assumption) | (simp only [smA]; done) | (simp [oneCell, AW.next_push]; done) | fail) only [go_sem, Nat.reduceEqDiff, reduceIte, Nat.reduceAdd, Int.toNat_natCast, Nat.add_zero, Owes_true, Try.results45]
    exact ⟨Grown.refl f, 0, 105, rfl, .inl ⟨trivial, rfl, rfl⟩⟩
  | true =>
  have h5 := perB_iff.1 hp
  simp -dsimp -implicitDefEqProofs (maxSteps := 2000000) (disch := first | assumption | omega | (simp only [nx]; omega) | ((repeat refine Fresh.push ?_ _); assumption) | (simp only [smA]; done) | (simp [oneCell, AW.next_push]; done) | fail) only [go_sem, Nat.reduceEqDiff, reduceIte, Nat.reduceAdd, Int.toNat_natCast, Nat.add_zero, Owes_true, Try.results45]
  apply callV_of (e := rfl)
  · exact lives_ok hp pu cu w f hu
  rintro _ w1 ⟨g1, pL, cL, LV, K, rfl, hL, hF⟩
  have g2 := g1.push (.cells [.slice none 0 0, .slice none 0 0] 111 w1.next 0 0)
  have O2 := Own.new g1.2 111 [.slice none 0 0, .slice none 0 0]
  have st := storeV_own (o := 0) (l := [.slice pu S.length cu, .slice pL LV.length cL]) (size := 2) O2 rfl (by omega) (by simp) rfl
  have m3 := MutS.put (S := fun j => j = w1.next) g2.2 rfl O2.lt (.cells [.slice pu S.length cu, .slice pL LV.length cL] 111 w1.next 0 0)
  have O3 := O2.put [.slice pu S.length cu, .slice pL LV.length cL]
  have hcut : setsL [.slice none 0 0, .slice none 0 0] 0 [.slice pu S.length cu, .slice pL LV.length cL] = [.slice pu S.length cu, .slice pL LV.length cL] := rfl
  rw [hcut] at st
  have g3' : Grown w1 _ := ⟨((Grown.refl g1.2).push (.cells [.slice none 0 0, .slice none 0 0] 111 w1.next 0 0)).1.trans (m3.keep (B := w1.next) (fun j q => by omega) (by rw [AW.next_push]; omega)), m3.fresh⟩
  have hm22 := ms22 S.length (by omega)
  have nx3 : ((w1.push (.cells [.slice none 0 0, .slice none 0 0] 111 w1.next 0 0)).put w1.next (.cells [.slice pu S.length cu, .slice pL LV.length cL] 111 w1.next 0 0)).next = w1.next + 1 := by rw [AW.next_put, AW.next_push]
  have hf3 : Fresh _ := g3'.2
  simp -dsimp -implicitDefEqProofs (maxSteps := 2000000) (disch := first | assumption | omega | (simp only [nx]; omega) | ((repeat refine Fresh.push ?_ _); assumption) | (simp only [smA]; done) | (simp [oneCell, AW.next_push]; done) | fail) only [go_sem, Nat.reduceEqDiff, reduceIte, Nat.reduceAdd, Int.toNat_natCast, Nat.add_zero, Owes_true, Try.results45, st]
  generalize (w1.push (.cells [.slice none 0 0, .slice none 0 0] 111 w1.next 0 0)).put w1.next (.cells [.slice pu S.length cu, .slice pL LV.length cL] 111 w1.next 0 0) = w3 at *
  have g4 := (Grown.refl hf3).push (.cells ((zeros S.length).flatMap icells) 3 w3.next 0 0)
  have hzA : ArrOf (w3.push (.cells ((zeros S.length).flatMap icells) 3 w3.next 0 0)) 1 icells (.slice (some ⟨w3.next, 0, none⟩) S.length S.length) (ageL S zero5) := by rw [age_zero hp]; exact arr_zeros hf3 S.length (by omega)
  have hg14 := g3'.trans g4
  have gg4 := g1.trans hg14
  have hld3 := loadAll O3 (n := 2) rfl (by simp [oneCell])
  have O4 := O3.keep g4.1
  have hld4 := loadAll O4 (n := 2) rfl (by simp [oneCell])
  have hfe := everR_ok hp (st_zero hp) hF.len pu pL cu cL _ _ g4.2 (hu.grown gg4) (hL.grown hg14) hzA
  try rw [nx3] at *
  simp -dsimp -implicitDefEqProofs (maxSteps := 2000000) (disch := first | assumption | omega | (simp only [nx]; omega) | ((repeat refine Fresh.push ?_ _); assumption) | (simp only [smA]; done) | (simp [oneCell, AW.next_push]; done) | fail) only [go_sem, Nat.reduceEqDiff, reduceIte, Nat.reduceAdd, Int.toNat_natCast, Nat.add_zero, Owes_true, Try.results45, hm22, hld3, hld4]
  apply callV_of (e := rfl)
  · exact hfe
  rintro _ w5 ⟨rfl, g5⟩
  have gg5 := gg4.trans g5
  have O5 := O4.keep g5.1
  have d1 := O5.cell (o := 1) rfl rfl
  by_cases hinf : infP S zero5
  case pos =>
    have hev := (hF.ever hp (st_zero hp)).2 hinf
    simp -dsimp -implicitDefEqProofs (maxSteps := 2000000) (disch := first | assumption | omega | (simp only [nx]; omega) | ((repeat refine Fresh.push ?_ _); assumption) | (simp only [smA]; done) | (simp [oneCell, AW.next_push]; done) | fail) only [go_sem, Nat.reduceEqDiff, reduceIte, Nat.reduceAdd, Int.toNat_natCast, Nat.add_zero, Owes_true, Try.results45, hev]
    exact ⟨gg5, 0, 4, rfl, .inr (.inl ⟨trivial, hinf, rfl, rfl⟩)⟩
  have hev : everB S LV zero5 = false := by
    cases q : everB S LV zero5 with
    | false => rfl
    | true => exact absurd ((hF.ever hp (st_zero hp)).1 q) hinf
  have hpi := pos_in hp (st_zero hp)
  have hnu := number_ok hp (st_zero hp) _ _ w5 (hu.grown gg5) (hzA.grown g5)
  rw [hpi.1] at hnu
  have hlen := hF.len
  have hm : posI S zero5 < LV.length := by omega
  have hmI : (posI S zero5 : Int) < (LV.length : Int) := by omega
  have hsp : same 12 (.slice pu S.length cu) (.slice pu S.length cu) = true := same_s12 _ _ _
  have hsL : same 12 (.slice pL LV.length cL) (.slice pL LV.length cL) = true := same_s12 _ _ _
  have hsz : same 12 (.slice (some ⟨w1.next + 1, 0, none⟩) S.length S.length) (.slice (some ⟨w1.next + 1, 0, none⟩) S.length S.length) = true := same_s12 _ _ _
  obtain ⟨_, _, eL, _, _, hatL⟩ := (hL.grown (hg14.trans g5)).open
  injection eL with eL1 eL2 eL3
  subst eL1 eL3
  obtain ⟨b1, o1, rfl, _, hcell⟩ := hatL (posI S zero5) hm
  have a0 := hcell w5 (.refl _ _) 0 _ rfl
  rw [Nat.add_zero, ← W_at hm] at a0
  have hle5 : WLe w5 w5 := (Grown.refl g5.2).1.wle g5.2
  simp -dsimp -implicitDefEqProofs (maxSteps := 2000000) (disch := first | assumption | omega | (simp only [nx]; omega) | ((repeat refine Fresh.push ?_ _); assumption) | (simp only [smA]; done) | (simp [oneCell, AW.next_push]; done) | fail) only [go_sem, Nat.reduceEqDiff, reduceIte, Nat.reduceAdd, Int.toNat_natCast, Nat.add_zero, Owes_true, Try.results45, hev, d1, Nat.zero_add]
  apply callV_of (e := rfl)
  · exact hnu
  rintro _ _ ⟨rfl, rfl⟩
  simp -dsimp -implicitDefEqProofs (maxSteps := 2000000) (disch := first | assumption | omega | (simp only [nx]; omega) | ((repeat refine Fresh.push ?_ _); assumption) | (simp only [smA]; done) | (simp [oneCell, AW.next_push]; done) | fail) only [go_sem, Nat.reduceEqDiff, reduceIte, Nat.reduceAdd, Int.toNat_natCast, Nat.add_zero, Owes_true, Try.results45, hle5, indexV_eq, hmI, a0]
  refine ⟨gg5, _, 0, rfl, .inr (.inr ⟨trivial, rfl, ?_⟩)⟩
  rcases hF.fin _ (st_zero hp) with q | ⟨j, _, hj, hw⟩
  · exact absurd q.1 hinf
  · rw [hw]; exact ⟨by omega, hj⟩
set_option maxHeartbeats 32000000 in
theorem TurnsR_ok (S : List Int) (days : Int) (u : Value) (w : AW) (f : Fresh w) (hu : ArrOf w 1 icells u S) :
    CallT Try.prog Try.T1 (.fn (.func 43) #[]) #[u, .int .i64 days] w (fun r w' => Grown w w' ∧ ∃ (v : Value) (T : List Int) (e : Int), r = .tuple #[v, .int .i64 e] ∧ TurnsP S days T e ∧ ArrOf w' 1 icells v T) := by
  obtain ⟨pu, cu, rfl, _⟩ := id hu.open
  refine callT_code rfl Try.func43 rfl Try.s43_eq rfl ?_
  unfold Try.s43
  simp -dsimp -implicitDefEqProofs (maxSteps := 2000000) (disch := first | assumption | omega | (simp only [nx]; omega) | ((repeat refine Fresh.push ?_ _); assumption) | (simp only [smA]; done) | (simp [oneCell, AW.next_push]; done) | fail) only [go_sem, Nat.reduceEqDiff, reduceIte, Nat.reduceAdd, Int.toNat_natCast, Nat.add_zero, Owes_true, Try.results43]
  apply callV_of (e := rfl)
  · exact period_ok S _ w hu
  rintro _ _ ⟨rfl, rfl⟩
  cases hp : perB S with
  | false =>
    simp -dsimp -implicitDefEqProofs (maxSteps := 2000000) (disch := first | assumption | omega | (simp only [nx]; omega) | ((repeat refine Fresh.push ?_ _); assumption) | (simp only [smA]; done) | (simp [oneCell, AW.next_push]; done) | fail) only [go_sem, Nat.reduceEqDiff, reduceIte, Nat.reduceAdd, Int.toNat_natCast, Nat.add_zero, Owes_true, Try.results43]
    exact ⟨Grown.refl f, _, [], 105, rfl, .inl ⟨hp, rfl, rfl⟩, ArrOf.nil _ _ _⟩
  | true =>
  have h5 := perB_iff.1 hp
  simp -dsimp -implicitDefEqProofs (maxSteps := 2000000) (disch := first | assumption | omega | (simp only [nx]; omega) | ((repeat refine Fresh.push ?_ _); assumption) | (simp only [smA]; done) | (simp [oneCell, AW.next_push]; done) | fail) only [go_sem, Nat.reduceEqDiff, reduceIte, Nat.reduceAdd, Int.toNat_natCast, Nat.add_zero, Owes_true, Try.results43]
  apply callV_of (e := rfl)
  · exact From_ok _ _ _ _
  rintro _ _ ⟨rfl, rfl⟩
  cases hd : inR 0 days 64 with
  | false =>
    simp -dsimp -implicitDefEqProofs (maxSteps := 2000000) (disch := first | assumption | omega | (simp only [nx]; omega) | ((repeat refine Fresh.push ?_ _); assumption) | (simp only [smA]; done) | (simp [oneCell, AW.next_push]; done) | fail) only [go_sem, Nat.reduceEqDiff, reduceIte, Nat.reduceAdd, Int.toNat_natCast, Nat.add_zero, Owes_true, Try.results43]
    exact ⟨Grown.refl f, _, [], 7, rfl, .inr (.inl ⟨hp, hd, rfl, rfl⟩), ArrOf.nil _ _ _⟩
  | true =>
  have hdd := (inR_iff _ _ _).1 hd
  obtain ⟨D, rfl⟩ : ∃ D : Nat, days = (D : Int) := ⟨days.toNat, by omega⟩
  simp -dsimp -implicitDefEqProofs (maxSteps := 2000000) (disch := first | assumption | omega | (simp only [nx]; omega) | ((repeat refine Fresh.push ?_ _); assumption) | (simp only [smA]; done) | (simp [oneCell, AW.next_push]; done) | fail) only [go_sem, Nat.reduceEqDiff, reduceIte, Nat.reduceAdd, Int.toNat_natCast, Nat.add_zero, Owes_true, Try.results43]
  apply callV_of (e := rfl)
  · exact lives_ok hp pu cu w f hu
  rintro _ w1 ⟨g1, pL, cL, LV, K, rfl, hL, hF⟩
  have g2 := g1.push (.cells [.slice none 0 0, .slice none 0 0] 111 w1.next 0 0)
  have O2 := Own.new g1.2 111 [.slice none 0 0, .slice none 0 0]
  have st := storeV_own (o := 0) (l := [.slice pu S.length cu, .slice pL LV.length cL]) (size := 2) O2 rfl (by omega) (by simp) rfl
  have m3 := MutS.put (S := fun j => j = w1.next) g2.2 rfl O2.lt (.cells [.slice pu S.length cu, .slice pL LV.length cL] 111 w1.next 0 0)
  have O3 := O2.put [.slice pu S.length cu, .slice pL LV.length cL]
  have hcut : setsL [.slice none 0 0, .slice none 0 0] 0 [.slice pu S.length cu, .slice pL LV.length cL] = [.slice pu S.length cu, .slice pL LV.length cL] := rfl
  rw [hcut] at st
  have g3' : Grown w1 _ := ⟨((Grown.refl g1.2).push (.cells [.slice none 0 0, .slice none 0 0] 111 w1.next 0 0)).1.trans (m3.keep (B := w1.next) (fun j q => by omega) (by rw [AW.next_push]; omega)), m3.fresh⟩
  have hm22 := ms22 S.length (by omega)
  have nx3 : ((w1.push (.cells [.slice none 0 0, .slice none 0 0] 111 w1.next 0 0)).put w1.next (.cells [.slice pu S.length cu, .slice pL LV.length cL] 111 w1.next 0 0)).next = w1.next + 1 := by rw [AW.next_put, AW.next_push]
  have hf3 : Fresh _ := g3'.2
  simp -dsimp -implicitDefEqProofs (maxSteps := 2000000) (disch := first | assumption | omega | (simp only [nx]; omega) | ((repeat refine Fresh.push ?_ _); assumption) | (simp only [smA]; done) | (simp [oneCell, AW.next_push]; done) | fail) only [go_sem, Nat.reduceEqDiff, reduceIte, Nat.reduceAdd, Int.toNat_natCast, Nat.add_zero, Owes_true, Try.results43, st]
  generalize (w1.push (.cells [.slice none 0 0, .slice none 0 0] 111 w1.next 0 0)).put w1.next (.cells [.slice pu S.length cu, .slice pL LV.length cL] 111 w1.next 0 0) = w3 at *
  have g4 := (Grown.refl hf3).push (.cells ((zeros S.length).flatMap icells) 3 w3.next 0 0)
  have hzA : ArrOf (w3.push (.cells ((zeros S.length).flatMap icells) 3 w3.next 0 0)) 1 icells (.slice (some ⟨w3.next, 0, none⟩) S.length S.length) (ageL S zero5) := by rw [age_zero hp]; exact arr_zeros hf3 S.length (by omega)
  have hg14 := g3'.trans g4
  have gg4 := g1.trans hg14
  have hld3 := loadAll O3 (n := 2) rfl (by simp [oneCell])
  have O4 := O3.keep g4.1
  have hld4 := loadAll O4 (n := 2) rfl (by simp [oneCell])
  have hfe := everR_ok hp (st_zero hp) hF.len pu pL cu cL _ _ g4.2 (hu.grown gg4) (hL.grown hg14) hzA
  try rw [nx3] at *
  simp -dsimp -implicitDefEqProofs (maxSteps := 2000000) (disch := first | assumption | omega | (simp only [nx]; omega) | ((repeat refine Fresh.push ?_ _); assumption) | (simp only [smA]; done) | (simp [oneCell, AW.next_push]; done) | fail) only [go_sem, Nat.reduceEqDiff, reduceIte, Nat.reduceAdd, Int.toNat_natCast, Nat.add_zero, Owes_true, Try.results43, hm22, hld3, hld4]
  apply callV_of (e := rfl)
  · exact hfe
  rintro _ w5 ⟨rfl, g5⟩
  have gg5 := gg4.trans g5
  have O5 := O4.keep g5.1
  by_cases hinf : infP S zero5
  case neg =>
    have hev : everB S LV zero5 = false := by
      cases q : everB S LV zero5 with
      | false => rfl
      | true => exact absurd ((hF.ever hp (st_zero hp)).1 q) hinf
    simp -dsimp -implicitDefEqProofs (maxSteps := 2000000) (disch := first | assumption | omega | (simp only [nx]; omega) | ((repeat refine Fresh.push ?_ _); assumption) | (simp only [smA]; done) | (simp [oneCell, AW.next_push]; done) | fail) only [go_sem, Nat.reduceEqDiff, reduceIte, Nat.reduceAdd, Int.toNat_natCast, Nat.add_zero, Owes_true, Try.results43, hev]
    exact ⟨gg5, _, [], 4, rfl, .inr (.inr (.inl ⟨hp, hd, hinf, rfl, rfl⟩)), ArrOf.nil _ _ _⟩
  have hev := (hF.ever hp (st_zero hp)).2 hinf
  have hL5 := hL.grown (hg14.trans g5)
  simp -dsimp -implicitDefEqProofs (maxSteps := 2000000) (disch := first | assumption | omega | (simp only [nx]; omega) | ((repeat refine Fresh.push ?_ _); assumption) | (simp only [smA]; done) | (simp [oneCell, AW.next_push]; done) | fail) only [go_sem, Nat.reduceEqDiff, reduceIte, Nat.reduceAdd, Int.toNat_natCast, Nat.add_zero, Owes_true, Try.results43, hev]
  refine loopR (fun k t ds w7 => ∃ i : Nat, i ≤ D ∧ k = D - i ∧ ds = [] ∧ ev t (.tmp 0) = .slice pu S.length cu ∧ ev t (.tmp 1) = .int .i64 (D : Int) ∧ ev t (.tmp 6) = .pointer (some ⟨w1.next, 0, none⟩) ∧ ev t (.tmp 9) = .int .i64 (i : Int) ∧ ∃ (v : Value) (T a : List Int) (y : Value), ev t (.tmp 7) = y ∧ ev t (.tmp 8) = v ∧ T.length = i ∧ FirstT S zero5 T ∧ endI S zero5 T = a ∧ infP S a ∧ ArrOf w7 1 icells y (ageL S a) ∧ AOwn w5.next w7 3 1 v T.length (T.flatMap icells) ∧ Keep w5.next w5 w7 ∧ Fresh w7) (D) ?_ ?_
  · refine ⟨0, by omega, by omega, rfl, ?_, ?_, ?_, ?_, .slice none 0 0, [], zero5, _, by simp -dsimp -implicitDefEqProofs (maxSteps := 2000000) (disch := first | assumption | omega | (simp only [nx]; omega) | ((repeat refine Fresh.push ?_ _); assumption) | (simp only [smA]; done) | (simp [oneCell, AW.next_push]; done) | fail) only [go_sem, Nat.reduceEqDiff, reduceIte, Nat.reduceAdd, Int.toNat_natCast, Nat.add_zero, Owes_true], by simp -dsimp -implicitDefEqProofs (maxSteps := 2000000) (disch := first | assumption | omega | (simp only [nx]; omega) | ((repeat refine Fresh.push ?_ _); assumption) | (simp only [smA]; done) | (simp [oneCell, AW.next_push]; done) | fail) only [go_sem, Nat.reduceEqDiff, reduceIte, Nat.reduceAdd, Int.toNat_natCast, Nat.add_zero, Owes_true], rfl, trivial, rfl, hinf, hzA.grown g5, .inl ⟨rfl, rfl, rfl⟩, .refl _ _, g5.2⟩ <;> simp -dsimp -implicitDefEqProofs (maxSteps := 2000000) (disch := first | assumption | omega | (simp only [nx]; omega) | ((repeat refine Fresh.push ?_ _); assumption) | (simp only [smA]; done) | (simp [oneCell, AW.next_push]; done) | fail) only [go_sem, Nat.reduceEqDiff, reduceIte, Nat.reduceAdd, Int.toNat_natCast, Nat.add_zero, Owes_true] <;> rfl
  rintro k t ds w7 ⟨i, hii, rfl, rfl, e0, e1, e6, e9, v, T, a, y, e7, e8, hTl, hFT, hEa, hIa, hya, hR, k7, f7⟩
  have hW7 : Grown w w7 := ⟨gg5.1.trans (k7.mono gg5.1.next), f7⟩
  by_cases hlt : (i : Int) < (D : Int)
  case neg =>
    obtain rfl : i = D := by omega
    simp -dsimp -implicitDefEqProofs (maxSteps := 2000000) (disch := first | assumption | omega | (simp only [nx]; omega) | ((repeat refine Fresh.push ?_ _); assumption) | (simp only [smA]; done) | (simp [oneCell, AW.next_push]; done) | fail) only [go_sem, Nat.reduceEqDiff, reduceIte, Nat.reduceAdd, Int.toNat_natCast, Nat.add_zero, Owes_true, Try.results43, e0, e1, e6, e7, e8, e9, hlt]
    exact ⟨hW7, v, T, 0, rfl, .inr (.inr (.inr ⟨hp, hd, hinf, rfl, by omega, hFT⟩)), AOwn.arr hR icells_len (by omega)⟩
  have hst : StOk S a := by rw [← hEa]; exact st_end hp (st_zero hp) (first_run hFT)
  simp -dsimp -implicitDefEqProofs (maxSteps := 2000000) (disch := first | assumption | omega | (simp only [nx]; omega) | ((repeat refine Fresh.push ?_ _); assumption) | (simp only [smA]; done) | (simp [oneCell, AW.next_push]; done) | fail) only [go_sem, Nat.reduceEqDiff, reduceIte, Nat.reduceAdd, Int.toNat_natCast, Nat.add_zero, Owes_true, Try.results43, e0, e1, e6, e7, e8, e9, hlt]
  refine loopR (fun k t ds w8 => ∃ j : Nat, j ≤ S.length ∧ k = S.length - j ∧ ds = [] ∧ ev t (.tmp 0) = .slice pu S.length cu ∧ ev t (.tmp 1) = .int .i64 (D : Int) ∧ ev t (.tmp 6) = .pointer (some ⟨w1.next, 0, none⟩) ∧ ev t (.tmp 7) = y ∧ ev t (.tmp 8) = v ∧ ev t (.tmp 9) = .int .i64 (i : Int) ∧ ev t (.tmp 10) = .int .i64 (j : Int) ∧ (∀ q : Int, 0 ≤ q → q < (j : Int) → ¬ GoodR S a q) ∧ Keep w7.next w7 w8 ∧ Fresh w8) (S.length) ?_ ?_
  · refine ⟨0, by omega, by omega, rfl, ?_, ?_, ?_, ?_, ?_, ?_, ?_, fun q h0 h1 => by omega, .refl _ _, f7⟩ <;> simp -dsimp -implicitDefEqProofs (maxSteps := 2000000) (disch := first | assumption | omega | (simp only [nx]; omega) | ((repeat refine Fresh.push ?_ _); assumption) | (simp only [smA]; done) | (simp [oneCell, AW.next_push]; done) | fail) only [go_sem, Nat.reduceEqDiff, reduceIte, Nat.reduceAdd, Int.toNat_natCast, Nat.add_zero, Owes_true, e0, e1, e6, e7, e8, e9] <;> rfl
  rintro k t ds w8 ⟨j, hij, rfl, rfl, e0, e1, e6, e7, e8, e9, e10, hng, k8, f8⟩
  by_cases hjl : (j : Int) < (S.length : Int)
  case neg =>
    obtain rfl : j = S.length := by omega
    obtain ⟨r, hr, hr1, hr2⟩ := inf_next hIa
    exact absurd ⟨hr1, hr2⟩ (hng r (by omega) (by omega))
  have hjl' : j < S.length := by omega
  have g78 : Grown w7 w8 := ⟨k8, f8⟩
  have hW8 := hW7.trans g78
  have k58 : Keep w5.next w5 w8 := k7.trans (k8.mono k7.next)
  have haf := afterR_ok hp hst (j : Int) pu cu y w8 f8 (hu.grown hW8) (hya.grown g78)
  simp -dsimp -implicitDefEqProofs (maxSteps := 2000000) (disch := first | assumption | omega | (simp only [nx]; omega) | ((repeat refine Fresh.push ?_ _); assumption) | (simp only [smA]; done) | (simp [oneCell, AW.next_push]; done) | fail) only [go_sem, Nat.reduceEqDiff, reduceIte, Nat.reduceAdd, Int.toNat_natCast, Nat.add_zero, Owes_true, Try.results43, e0, e1, e6, e7, e8, e9, e10, hjl]
  apply callV_of (e := rfl)
  · exact haf
  rintro _ w9 ⟨g9, z, rfl, hz⟩
  have g79 := g78.trans g9
  have hW9 := hW8.trans g9
  have k59 : Keep w5.next w5 w9 := k7.trans (g79.1.mono k7.next)
  have hngs : ¬ GoodR S a (j : Int) → ∀ q : Int, 0 ≤ q → q < ((j + 1 : Nat) : Int) → ¬ GoodR S a q := fun hnj q h0 h1 => by
    by_cases zz : q = (j : Int)
    · rw [zz]; exact hnj
    · exact hng q h0 (by omega)
  cases hk : keptB S a (j : Int) with
  | false =>
    simp -dsimp -implicitDefEqProofs (maxSteps := 2000000) (disch := first | assumption | omega | (simp only [nx]; omega) | ((repeat refine Fresh.push ?_ _); assumption) | (simp only [smA]; done) | (simp [oneCell, AW.next_push]; done) | fail) only [go_sem, Nat.reduceEqDiff, reduceIte, Nat.reduceAdd, Int.toNat_natCast, Nat.add_zero, Owes_true, Try.results43, e0, e1, e6, e7, e8, e9, e10, hk]
    refine ⟨_, by omega, j + 1, by omega, rfl, rfl, by (simp -dsimp -implicitDefEqProofs (maxSteps := 2000000) (disch := first | assumption | omega | (simp only [nx]; omega) | ((repeat refine Fresh.push ?_ _); assumption) | (simp only [smA]; done) | (simp [oneCell, AW.next_push]; done) | fail) only [go_sem, Nat.reduceEqDiff, reduceIte, Nat.reduceAdd, Int.toNat_natCast, Nat.add_zero, Owes_true, e0]; try rfl), by (simp -dsimp -implicitDefEqProofs (maxSteps := 2000000) (disch := first | assumption | omega | (simp only [nx]; omega) | ((repeat refine Fresh.push ?_ _); assumption) | (simp only [smA]; done) | (simp [oneCell, AW.next_push]; done) | fail) only [go_sem, Nat.reduceEqDiff, reduceIte, Nat.reduceAdd, Int.toNat_natCast, Nat.add_zero, Owes_true, e1]; try rfl), by (simp -dsimp -implicitDefEqProofs (maxSteps := 2000000) (disch := first | assumption | omega | (simp only [nx]; omega) | ((repeat refine Fresh.push ?_ _); assumption) | (simp only [smA]; done) | (simp [oneCell, AW.next_push]; done) | fail) only [go_sem, Nat.reduceEqDiff, reduceIte, Nat.reduceAdd, Int.toNat_natCast, Nat.add_zero, Owes_true, e6]; try rfl), by (simp -dsimp -implicitDefEqProofs (maxSteps := 2000000) (disch := first | assumption | omega | (simp only [nx]; omega) | ((repeat refine Fresh.push ?_ _); assumption) | (simp only [smA]; done) | (simp [oneCell, AW.next_push]; done) | fail) only [go_sem, Nat.reduceEqDiff, reduceIte, Nat.reduceAdd, Int.toNat_natCast, Nat.add_zero, Owes_true, e7]; try rfl), by (simp -dsimp -implicitDefEqProofs (maxSteps := 2000000) (disch := first | assumption | omega | (simp only [nx]; omega) | ((repeat refine Fresh.push ?_ _); assumption) | (simp only [smA]; done) | (simp [oneCell, AW.next_push]; done) | fail) only [go_sem, Nat.reduceEqDiff, reduceIte, Nat.reduceAdd, Int.toNat_natCast, Nat.add_zero, Owes_true, e8]; try rfl), by (simp -dsimp -implicitDefEqProofs (maxSteps := 2000000) (disch := first | assumption | omega | (simp only [nx]; omega) | ((repeat refine Fresh.push ?_ _); assumption) | (simp only [smA]; done) | (simp [oneCell, AW.next_push]; done) | fail) only [go_sem, Nat.reduceEqDiff, reduceIte, Nat.reduceAdd, Int.toNat_natCast, Nat.add_zero, Owes_true, e9]; try rfl), by (simp -dsimp -implicitDefEqProofs (maxSteps := 2000000) (disch := first | assumption | omega | (simp only [nx]; omega) | ((repeat refine Fresh.push ?_ _); assumption) | (simp only [smA]; done) | (simp [oneCell, AW.next_push]; done) | fail) only [go_sem, Nat.reduceEqDiff, reduceIte, Nat.reduceAdd, Int.toNat_natCast, Nat.add_zero, Owes_true, e10]; try rfl), hngs (fun zz => by rw [zz.1] at hk; cases hk), g79.1, g9.2⟩
  | true =>
    have hz' := hz hk
    have hst2 := st_aft hp hst hk
    have O9 := O5.keep k59
    have hld9 := loadAll O9 (n := 2) rfl (by simp [oneCell])
    have hev2 := everR_ok hp hst2 hF.len pu pL cu cL _ w9 g9.2 (hu.grown hW9) (hL5.grown ⟨k59, g9.2⟩) hz'
    simp -dsimp -implicitDefEqProofs (maxSteps := 2000000) (disch := first | assumption | omega | (simp only [nx]; omega) | ((repeat refine Fresh.push ?_ _); assumption) | (simp only [smA]; done) | (simp [oneCell, AW.next_push]; done) | fail) only [go_sem, Nat.reduceEqDiff, reduceIte, Nat.reduceAdd, Int.toNat_natCast, Nat.add_zero, Owes_true, Try.results43, e0, e1, e6, e7, e8, e9, e10, hk, hld9]
    apply callV_of (e := rfl)
    · exact hev2
    rintro _ w10 ⟨rfl, g10⟩
    have g710 := g79.trans g10
    cases hb : everB S LV (aftI S a (j : Int)) with
    | false =>
      have hnj : ¬ GoodR S a (j : Int) := fun zz => by rw [(hF.ever hp hst2).2 zz.2] at hb; cases hb
      simp -dsimp -implicitDefEqProofs (maxSteps := 2000000) (disch := first | assumption | omega | (simp only [nx]; omega) | ((repeat refine Fresh.push ?_ _); assumption) | (simp only [smA]; done) | (simp [oneCell, AW.next_push]; done) | fail) only [go_sem, Nat.reduceEqDiff, reduceIte, Nat.reduceAdd, Int.toNat_natCast, Nat.add_zero, Owes_true, Try.results43, e0, e1, e6, e7, e8, e9, e10, hb]
      refine ⟨_, by omega, j + 1, by omega, rfl, rfl, by (simp -dsimp -implicitDefEqProofs (maxSteps := 2000000) (disch := first | assumption | omega | (simp only [nx]; omega) | ((repeat refine Fresh.push ?_ _); assumption) | (simp only [smA]; done) | (simp [oneCell, AW.next_push]; done) | fail) only [go_sem, Nat.reduceEqDiff, reduceIte, Nat.reduceAdd, Int.toNat_natCast, Nat.add_zero, Owes_true, e0]; try rfl), by (simp -dsimp -implicitDefEqProofs (maxSteps := 2000000) (disch := first | assumption | omega | (simp only [nx]; omega) | ((repeat refine Fresh.push ?_ _); assumption) | (simp only [smA]; done) | (simp [oneCell, AW.next_push]; done) | fail) only [go_sem, Nat.reduceEqDiff, reduceIte, Nat.reduceAdd, Int.toNat_natCast, Nat.add_zero, Owes_true, e1]; try rfl), by (simp -dsimp -implicitDefEqProofs (maxSteps := 2000000) (disch := first | assumption | omega | (simp only [nx]; omega) | ((repeat refine Fresh.push ?_ _); assumption) | (simp only [smA]; done) | (simp [oneCell, AW.next_push]; done) | fail) only [go_sem, Nat.reduceEqDiff, reduceIte, Nat.reduceAdd, Int.toNat_natCast, Nat.add_zero, Owes_true, e6]; try rfl), by (simp -dsimp -implicitDefEqProofs (maxSteps := 2000000) (disch := first | assumption | omega | (simp only [nx]; omega) | ((repeat refine Fresh.push ?_ _); assumption) | (simp only [smA]; done) | (simp [oneCell, AW.next_push]; done) | fail) only [go_sem, Nat.reduceEqDiff, reduceIte, Nat.reduceAdd, Int.toNat_natCast, Nat.add_zero, Owes_true, e7]; try rfl), by (simp -dsimp -implicitDefEqProofs (maxSteps := 2000000) (disch := first | assumption | omega | (simp only [nx]; omega) | ((repeat refine Fresh.push ?_ _); assumption) | (simp only [smA]; done) | (simp [oneCell, AW.next_push]; done) | fail) only [go_sem, Nat.reduceEqDiff, reduceIte, Nat.reduceAdd, Int.toNat_natCast, Nat.add_zero, Owes_true, e8]; try rfl), by (simp -dsimp -implicitDefEqProofs (maxSteps := 2000000) (disch := first | assumption | omega | (simp only [nx]; omega) | ((repeat refine Fresh.push ?_ _); assumption) | (simp only [smA]; done) | (simp [oneCell, AW.next_push]; done) | fail) only [go_sem, Nat.reduceEqDiff, reduceIte, Nat.reduceAdd, Int.toNat_natCast, Nat.add_zero, Owes_true, e9]; try rfl), by (simp -dsimp -implicitDefEqProofs (maxSteps := 2000000) (disch := first | assumption | omega | (simp only [nx]; omega) | ((repeat refine Fresh.push ?_ _); assumption) | (simp only [smA]; done) | (simp [oneCell, AW.next_push]; done) | fail) only [go_sem, Nat.reduceEqDiff, reduceIte, Nat.reduceAdd, Int.toNat_natCast, Nat.add_zero, Owes_true, e10]; try rfl), hngs hnj, g710.1, g10.2⟩
    | true =>
      have hi2 := (hF.ever hp hst2).1 hb
      have hgj : GoodR S a (j : Int) := ⟨hk, hi2⟩
      have k510 : Keep w5.next w5 w10 := k7.trans (g710.1.mono k7.next)
      have hR10 : AOwn w5.next w10 3 1 v T.length (T.flatMap icells) := hR.keep g710.1 (Nat.le_refl _)
      have f10 := g10.2
      obtain ⟨v11, w11, happ, hR11, k1011, f11, _, hap⟩ := append_one (e' := 3) Try.ty22 Try.ty3 rfl (by omega) (by omega) hR10 f10 k510.next (new := [.int .i64 (j : Int)]) rfl (fun y hy => by simp at hy; subst hy; rfl) (by omega)
      have hR11' : AOwn w5.next w11 3 1 v11 (T ++ [(j : Int)]).length ((T ++ [(j : Int)]).flatMap icells) := by
        rw [List.length_append, List.length_singleton, List.flatMap_append]; exact hR11
      have k11 : Keep w5.next w5 w11 := k510.trans k1011
      obtain ⟨pz, cz, rfl, _⟩ := id hz'.open
      have hz11 : ArrOf w11 1 icells _ (ageL S (aftI S a (j : Int))) := Arr.app (hz'.grown g10) hap
      have hF11 : FirstT S zero5 (T ++ [(j : Int)]) := first_append.2 ⟨hFT, by rw [hEa]; exact ⟨⟨⟨by omega, by omega⟩, hgj, hng⟩, trivial⟩⟩
      have hE11 : endI S zero5 (T ++ [(j : Int)]) = aftI S a (j : Int) := by rw [end_append, hEa]; rfl
      simp -dsimp -implicitDefEqProofs (maxSteps := 2000000) (disch := first | assumption | omega | (simp only [nx]; omega) | ((repeat refine Fresh.push ?_ _); assumption) | (simp only [smA]; done) | (simp [oneCell, AW.next_push]; done) | fail) only [go_sem, Nat.reduceEqDiff, reduceIte, Nat.reduceAdd, Int.toNat_natCast, Nat.add_zero, Owes_true, Try.results43, e0, e1, e6, e7, e8, e9, e10, hb, happ]
      refine ⟨_, by omega, i + 1, by omega, rfl, rfl, by (simp -dsimp -implicitDefEqProofs (maxSteps := 2000000) (disch := first | assumption | omega | (simp only [nx]; omega) | ((repeat refine Fresh.push ?_ _); assumption) | (simp only [smA]; done) | (simp [oneCell, AW.next_push]; done) | fail) only [go_sem, Nat.reduceEqDiff, reduceIte, Nat.reduceAdd, Int.toNat_natCast, Nat.add_zero, Owes_true, e0]; try rfl), by (simp -dsimp -implicitDefEqProofs (maxSteps := 2000000) (disch := first | assumption | omega | (simp only [nx]; omega) | ((repeat refine Fresh.push ?_ _); assumption) | (simp only [smA]; done) | (simp [oneCell, AW.next_push]; done) | fail) only [go_sem, Nat.reduceEqDiff, reduceIte, Nat.reduceAdd, Int.toNat_natCast, Nat.add_zero, Owes_true, e1]; try rfl), by (simp -dsimp -implicitDefEqProofs (maxSteps := 2000000) (disch := first | assumption | omega | (simp only [nx]; omega) | ((repeat refine Fresh.push ?_ _); assumption) | (simp only [smA]; done) | (simp [oneCell, AW.next_push]; done) | fail) only [go_sem, Nat.reduceEqDiff, reduceIte, Nat.reduceAdd, Int.toNat_natCast, Nat.add_zero, Owes_true, e6]; try rfl), by (simp -dsimp -implicitDefEqProofs (maxSteps := 2000000) (disch := first | assumption | omega | (simp only [nx]; omega) | ((repeat refine Fresh.push ?_ _); assumption) | (simp only [smA]; done) | (simp [oneCell, AW.next_push]; done) | fail) only [go_sem, Nat.reduceEqDiff, reduceIte, Nat.reduceAdd, Int.toNat_natCast, Nat.add_zero, Owes_true, e9]; try rfl), v11, T ++ [(j : Int)], aftI S a (j : Int), _, (by simp -dsimp -implicitDefEqProofs (maxSteps := 2000000) (disch := first | assumption | omega | (simp only [nx]; omega) | ((repeat refine Fresh.push ?_ _); assumption) | (simp only [smA]; done) | (simp [oneCell, AW.next_push]; done) | fail) only [go_sem, Nat.reduceEqDiff, reduceIte, Nat.reduceAdd, Int.toNat_natCast, Nat.add_zero, Owes_true]), (by simp -dsimp -implicitDefEqProofs (maxSteps := 2000000) (disch := first | assumption | omega | (simp only [nx]; omega) | ((repeat refine Fresh.push ?_ _); assumption) | (simp only [smA]; done) | (simp [oneCell, AW.next_push]; done) | fail) only [go_sem, Nat.reduceEqDiff, reduceIte, Nat.reduceAdd, Int.toNat_natCast, Nat.add_zero, Owes_true]), (by rw [List.length_append, List.length_singleton, hTl]), hF11, hE11, hi2, hz11, hR11', k11, f11⟩
end Go.Proofs

namespace Go.Proofs
open Go Go.RowKit Go.Sim
set_option maxRecDepth 100000
def kepTo (S T : List Int) (i : Nat) : Bool := (perB S && decide ((T.length : Int) ≤ 64)) && (T.take i).all fun x => inR 0 x ((S.length : Int) - 1)
theorem kepTo_succ {S T : List Int} {i : Nat} (h : i < T.length) : kepTo S T (i + 1) = (kepTo S T i && inR 0 T[i] ((S.length : Int) - 1)) := by
  unfold kepTo
  rw [List.take_add_one, List.getElem?_eq_getElem h, List.all_append]
  simp [Bool.and_assoc]
theorem kepTo_all (S T : List Int) : kepTo S T T.length = kepB S T := by
  unfold kepTo kepB
  rw [List.take_length, Bool.and_assoc]
set_option maxHeartbeats 32000000 in
theorem KeepsR_ok (S T : List Int) (u v : Value) (w : AW) (f : Fresh w) (hu : ArrOf w 1 icells u S) (hv : ArrOf w 1 icells v T) :
    CallT Try.prog Try.T1 (.fn (.func 41) #[]) #[u, v] w (Ret (.tuple #[.bool (kepV S T), .int .i64 (kepE S T)]) (Grown w)) := by
  obtain ⟨pu, cu, rfl, hcu1, hcu2, _⟩ := id hu.open
  obtain ⟨pv, cv, rfl, _, _, hat⟩ := id hv.open
  have fin : ∀ b, kepTo S T 0 = b → (perB S && decide ((T.length : Int) ≤ 64)) = b := fun b h => by unfold kepTo at h; simpa using h
  refine callT_code rfl Try.func41 rfl Try.s41_eq rfl ?_
  unfold Try.s41
  simp -dsimp -implicitDefEqProofs (maxSteps := 2000000) (disch := first | assumption | omega | (simp only [nx]; omega) | ((repeat refine Fresh.push ?_ _); assumption) | (simp only [smA]; done) | (simp [oneCell, AW.next_push]; done) | fail) only [go_sem, Nat.reduceEqDiff, reduceIte, Nat.reduceAdd, Int.toNat_natCast, Nat.add_zero, Owes_true, Try.results41]
  apply callV_of (e := rfl)
  · exact period_ok S _ w hu
  rintro _ _ ⟨rfl, rfl⟩
  have h0 : ∃ b, (perB S && decide ((T.length : Int) ≤ 64)) = b ∧ kepTo S T 0 = b := ⟨_, rfl, by unfold kepTo; simp⟩
  cases hp : perB S with
  | false =>
    have hk0 : kepTo S T 0 = false := by unfold kepTo; rw [hp]; rfl
    have hkf : ∀ i, kepTo S T i = false := fun i => by unfold kepTo; rw [hp]; rfl
    have hkb : kepB S T = false := by unfold kepB; rw [hp]; rfl
    simp -dsimp -implicitDefEqProofs (maxSteps := 2000000) (disch := first | assumption | omega | (simp only [nx]; omega) | ((repeat refine Fresh.push ?_ _); assumption) | (simp only [smA]; done) | (simp [oneCell, AW.next_push]; done) | fail) only [go_sem, Nat.reduceEqDiff, reduceIte, Nat.reduceAdd, Int.toNat_natCast, Nat.add_zero, Owes_true, Try.results41, hp]
    refine loopR (fun k t ds w1 => ∃ i : Nat, i ≤ T.length ∧ k = T.length - i ∧ ds = [] ∧ ev t (.tmp 0) = .slice pu S.length cu ∧ ev t (.tmp 1) = .slice pv T.length cv ∧ ev t (.tmp 6) = .bool false ∧ ev t (.tmp 7) = .int .i64 (i : Int) ∧ w = w1) (T.length) ?_ ?_
    · refine ⟨0, by omega, by omega, rfl, ?_, ?_, ?_, ?_, rfl⟩ <;> simp -dsimp -implicitDefEqProofs (maxSteps := 2000000) (disch := first | assumption | omega | (simp only [nx]; omega) | ((repeat refine Fresh.push ?_ _); assumption) | (simp only [smA]; done) | (simp [oneCell, AW.next_push]; done) | fail) only [go_sem, Nat.reduceEqDiff, reduceIte, Nat.reduceAdd, Int.toNat_natCast, Nat.add_zero, Owes_true] <;> rfl
    rintro k t ds w1 ⟨i, hii, rfl, rfl, e0, e1, e6, e7, hw⟩
    subst hw
    by_cases hlt : (i : Int) < (T.length : Int)
    case neg =>
      simp -dsimp -implicitDefEqProofs (maxSteps := 2000000) (disch := first | assumption | omega | (simp only [nx]; omega) | ((repeat refine Fresh.push ?_ _); assumption) | (simp only [smA]; done) | (simp [oneCell, AW.next_push]; done) | fail) only [go_sem, Nat.reduceEqDiff, reduceIte, Nat.reduceAdd, Int.toNat_natCast, Nat.add_zero, Owes_true, Try.results41, e0, e1, e6, e7, hlt]
      exact ⟨by simp [kepV, kepE, hkb], Grown.refl f⟩
    simp -dsimp -implicitDefEqProofs (maxSteps := 2000000) (disch := first | assumption | omega | (simp only [nx]; omega) | ((repeat refine Fresh.push ?_ _); assumption) | (simp only [smA]; done) | (simp [oneCell, AW.next_push]; done) | fail) only [go_sem, Nat.reduceEqDiff, reduceIte, Nat.reduceAdd, Int.toNat_natCast, Nat.add_zero, Owes_true, Try.results41, e0, e1, e6, e7, hlt]
    refine ⟨_, by omega, i + 1, by omega, rfl, rfl, by (simp -dsimp -implicitDefEqProofs (maxSteps := 2000000) (disch := first | assumption | omega | (simp only [nx]; omega) | ((repeat refine Fresh.push ?_ _); assumption) | (simp only [smA]; done) | (simp [oneCell, AW.next_push]; done) | fail) only [go_sem, Nat.reduceEqDiff, reduceIte, Nat.reduceAdd, Int.toNat_natCast, Nat.add_zero, Owes_true, e0]; try rfl), by (simp -dsimp -implicitDefEqProofs (maxSteps := 2000000) (disch := first | assumption | omega | (simp only [nx]; omega) | ((repeat refine Fresh.push ?_ _); assumption) | (simp only [smA]; done) | (simp [oneCell, AW.next_push]; done) | fail) only [go_sem, Nat.reduceEqDiff, reduceIte, Nat.reduceAdd, Int.toNat_natCast, Nat.add_zero, Owes_true, e1]; try rfl), by (simp -dsimp -implicitDefEqProofs (maxSteps := 2000000) (disch := first | assumption | omega | (simp only [nx]; omega) | ((repeat refine Fresh.push ?_ _); assumption) | (simp only [smA]; done) | (simp [oneCell, AW.next_push]; done) | fail) only [go_sem, Nat.reduceEqDiff, reduceIte, Nat.reduceAdd, Int.toNat_natCast, Nat.add_zero, Owes_true, e6]; try rfl), by (simp -dsimp -implicitDefEqProofs (maxSteps := 2000000) (disch := first | assumption | omega | (simp only [nx]; omega) | ((repeat refine Fresh.push ?_ _); assumption) | (simp only [smA]; done) | (simp [oneCell, AW.next_push]; done) | fail) only [go_sem, Nat.reduceEqDiff, reduceIte, Nat.reduceAdd, Int.toNat_natCast, Nat.add_zero, Owes_true, e7]; try rfl), rfl⟩
  | true =>
  have h5 := perB_iff.1 hp
  by_cases hl : (T.length : Int) ≤ 64
  case neg =>
    have hld : decide ((T.length : Int) ≤ 64) = false := decide_eq_false hl
    have hkb : kepB S T = false := by unfold kepB; rw [hld]; simp
    simp -dsimp -implicitDefEqProofs (maxSteps := 2000000) (disch := first | assumption | omega | (simp only [nx]; omega) | ((repeat refine Fresh.push ?_ _); assumption) | (simp only [smA]; done) | (simp [oneCell, AW.next_push]; done) | fail) only [go_sem, Nat.reduceEqDiff, reduceIte, Nat.reduceAdd, Int.toNat_natCast, Nat.add_zero, Owes_true, Try.results41, hp, hld]
    refine loopR (fun k t ds w1 => ∃ i : Nat, i ≤ T.length ∧ k = T.length - i ∧ ds = [] ∧ ev t (.tmp 0) = .slice pu S.length cu ∧ ev t (.tmp 1) = .slice pv T.length cv ∧ ev t (.tmp 6) = .bool false ∧ ev t (.tmp 7) = .int .i64 (i : Int) ∧ w = w1) (T.length) ?_ ?_
    · refine ⟨0, by omega, by omega, rfl, ?_, ?_, ?_, ?_, rfl⟩ <;> simp -dsimp -implicitDefEqProofs (maxSteps := 2000000) (disch := first | assumption | omega | (simp only [nx]; omega) | ((repeat refine Fresh.push ?_ _); assumption) | (simp only [smA]; done) | (simp [oneCell, AW.next_push]; done) | fail) only [go_sem, Nat.reduceEqDiff, reduceIte, Nat.reduceAdd, Int.toNat_natCast, Nat.add_zero, Owes_true] <;> rfl
    rintro k t ds w1 ⟨i, hii, rfl, rfl, e0, e1, e6, e7, hw⟩
    subst hw
    by_cases hlt : (i : Int) < (T.length : Int)
    case neg =>
      simp -dsimp -implicitDefEqProofs (maxSteps := 2000000) (disch := first | assumption | omega | (simp only [nx]; omega) | ((repeat refine Fresh.push ?_ _); assumption) | (simp only [smA]; done) | (simp [oneCell, AW.next_push]; done) | fail) only [go_sem, Nat.reduceEqDiff, reduceIte, Nat.reduceAdd, Int.toNat_natCast, Nat.add_zero, Owes_true, Try.results41, e0, e1, e6, e7, hlt]
      exact ⟨by simp [kepV, kepE, hkb], Grown.refl f⟩
    simp -dsimp -implicitDefEqProofs (maxSteps := 2000000) (disch := first | assumption | omega | (simp only [nx]; omega) | ((repeat refine Fresh.push ?_ _); assumption) | (simp only [smA]; done) | (simp [oneCell, AW.next_push]; done) | fail) only [go_sem, Nat.reduceEqDiff, reduceIte, Nat.reduceAdd, Int.toNat_natCast, Nat.add_zero, Owes_true, Try.results41, e0, e1, e6, e7, hlt]
    refine ⟨_, by omega, i + 1, by omega, rfl, rfl, by (simp -dsimp -implicitDefEqProofs (maxSteps := 2000000) (disch := first | assumption | omega | (simp only [nx]; omega) | ((repeat refine Fresh.push ?_ _); assumption) | (simp only [smA]; done) | (simp [oneCell, AW.next_push]; done) | fail) only [go_sem, Nat.reduceEqDiff, reduceIte, Nat.reduceAdd, Int.toNat_natCast, Nat.add_zero, Owes_true, e0]; try rfl), by (simp -dsimp -implicitDefEqProofs (maxSteps := 2000000) (disch := first | assumption | omega | (simp only [nx]; omega) | ((repeat refine Fresh.push ?_ _); assumption) | (simp only [smA]; done) | (simp [oneCell, AW.next_push]; done) | fail) only [go_sem, Nat.reduceEqDiff, reduceIte, Nat.reduceAdd, Int.toNat_natCast, Nat.add_zero, Owes_true, e1]; try rfl), by (simp -dsimp -implicitDefEqProofs (maxSteps := 2000000) (disch := first | assumption | omega | (simp only [nx]; omega) | ((repeat refine Fresh.push ?_ _); assumption) | (simp only [smA]; done) | (simp [oneCell, AW.next_push]; done) | fail) only [go_sem, Nat.reduceEqDiff, reduceIte, Nat.reduceAdd, Int.toNat_natCast, Nat.add_zero, Owes_true, e6]; try rfl), by (simp -dsimp -implicitDefEqProofs (maxSteps := 2000000) (disch := first | assumption | omega | (simp only [nx]; omega) | ((repeat refine Fresh.push ?_ _); assumption) | (simp only [smA]; done) | (simp [oneCell, AW.next_push]; done) | fail) only [go_sem, Nat.reduceEqDiff, reduceIte, Nat.reduceAdd, Int.toNat_natCast, Nat.add_zero, Owes_true, e7]; try rfl), rfl⟩
  have hld : decide ((T.length : Int) ≤ 64) = true := decide_eq_true hl
  have hk0 : kepTo S T 0 = true := by unfold kepTo; rw [hp, hld]; rfl
  simp -dsimp -implicitDefEqProofs (maxSteps := 2000000) (disch := first | assumption | omega | (simp only [nx]; omega) | ((repeat refine Fresh.push ?_ _); assumption) | (simp only [smA]; done) | (simp [oneCell, AW.next_push]; done) | fail) only [go_sem, Nat.reduceEqDiff, reduceIte, Nat.reduceAdd, Int.toNat_natCast, Nat.add_zero, Owes_true, Try.results41, hp, hld]
  refine loopR (fun k t ds w1 => ∃ i : Nat, i ≤ T.length ∧ k = T.length - i ∧ ds = [] ∧ ev t (.tmp 0) = .slice pu S.length cu ∧ ev t (.tmp 1) = .slice pv T.length cv ∧ ev t (.tmp 6) = .bool (kepTo S T i) ∧ ev t (.tmp 7) = .int .i64 (i : Int) ∧ w = w1) (T.length) ?_ ?_
  · refine ⟨0, by omega, by omega, rfl, ?_, ?_, ?_, ?_, rfl⟩ <;> simp -dsimp -implicitDefEqProofs (maxSteps := 2000000) (disch := first | assumption | omega | (simp only [nx]; omega) | ((repeat refine Fresh.push ?_ _); assumption) | (simp only [smA]; done) | (simp [oneCell, AW.next_push]; done) | fail) only [go_sem, Nat.reduceEqDiff, reduceIte, Nat.reduceAdd, Int.toNat_natCast, Nat.add_zero, Owes_true, hk0] <;> rfl
  rintro k t ds w1 ⟨i, hii, rfl, rfl, e0, e1, e6, e7, hw⟩
  subst hw
  by_cases hlt : (i : Int) < (T.length : Int)
  case pos =>
    have hlt' : i < T.length := by omega
    have hs := kepTo_succ (S := S) hlt'
    obtain ⟨b1, o1, rfl, hb1', hcell⟩ := hat i hlt'
    have a0 := hcell w (.refl _ _) 0 _ rfl
    rw [Nat.add_zero] at a0
    cases hq : kepTo S T i with
    | false =>
      rw [hq] at hs e6
      simp -dsimp -implicitDefEqProofs (maxSteps := 2000000) (disch := first | assumption | omega | (simp only [nx]; omega) | ((repeat refine Fresh.push ?_ _); assumption) | (simp only [smA]; done) | (simp [oneCell, AW.next_push]; done) | fail) only [go_sem, Nat.reduceEqDiff, reduceIte, Nat.reduceAdd, Int.toNat_natCast, Nat.add_zero, Owes_true, Try.results41, e0, e1, e6, e7, hlt]
      have hs' : kepTo S T (i + 1) = false := by rw [hs]; rfl
      refine ⟨_, by omega, i + 1, by omega, rfl, rfl, by (simp -dsimp -implicitDefEqProofs (maxSteps := 2000000) (disch := first | assumption | omega | (simp only [nx]; omega) | ((repeat refine Fresh.push ?_ _); assumption) | (simp only [smA]; done) | (simp [oneCell, AW.next_push]; done) | fail) only [go_sem, Nat.reduceEqDiff, reduceIte, Nat.reduceAdd, Int.toNat_natCast, Nat.add_zero, Owes_true, e0, e6, hs']; try rfl), by (simp -dsimp -implicitDefEqProofs (maxSteps := 2000000) (disch := first | assumption | omega | (simp only [nx]; omega) | ((repeat refine Fresh.push ?_ _); assumption) | (simp only [smA]; done) | (simp [oneCell, AW.next_push]; done) | fail) only [go_sem, Nat.reduceEqDiff, reduceIte, Nat.reduceAdd, Int.toNat_natCast, Nat.add_zero, Owes_true, e1, e6, hs']; try rfl), by (simp -dsimp -implicitDefEqProofs (maxSteps := 2000000) (disch := first | assumption | omega | (simp only [nx]; omega) | ((repeat refine Fresh.push ?_ _); assumption) | (simp only [smA]; done) | (simp [oneCell, AW.next_push]; done) | fail) only [go_sem, Nat.reduceEqDiff, reduceIte, Nat.reduceAdd, Int.toNat_natCast, Nat.add_zero, Owes_true, e6, e6, hs']; try rfl), by (simp -dsimp -implicitDefEqProofs (maxSteps := 2000000) (disch := first | assumption | omega | (simp only [nx]; omega) | ((repeat refine Fresh.push ?_ _); assumption) | (simp only [smA]; done) | (simp [oneCell, AW.next_push]; done) | fail) only [go_sem, Nat.reduceEqDiff, reduceIte, Nat.reduceAdd, Int.toNat_natCast, Nat.add_zero, Owes_true, e7, e6, hs']; try rfl), rfl⟩
    | true =>
      rw [hq] at hs e6
      have hs' : kepTo S T (i + 1) = inR 0 T[i] ((S.length : Int) - 1) := by rw [hs]; rfl
      simp -dsimp -implicitDefEqProofs (maxSteps := 2000000) (disch := first | assumption | omega | (simp only [nx]; omega) | ((repeat refine Fresh.push ?_ _); assumption) | (simp only [smA]; done) | (simp [oneCell, AW.next_push]; done) | fail) only [go_sem, Nat.reduceEqDiff, reduceIte, Nat.reduceAdd, Int.toNat_natCast, Nat.add_zero, Owes_true, Try.results41, e0, e1, e6, e7, hlt, indexV_eq, a0]
      apply callV_of (e := rfl)
      · exact From_ok _ _ _ w
      rintro _ _ ⟨rfl, rfl⟩
      simp -dsimp -implicitDefEqProofs (maxSteps := 2000000) (disch := first | assumption | omega | (simp only [nx]; omega) | ((repeat refine Fresh.push ?_ _); assumption) | (simp only [smA]; done) | (simp [oneCell, AW.next_push]; done) | fail) only [go_sem, Nat.reduceEqDiff, reduceIte, Nat.reduceAdd, Int.toNat_natCast, Nat.add_zero, Owes_true, Try.results41, e0, e1, e6, e7, hlt]
      refine ⟨_, by omega, i + 1, by omega, rfl, rfl, by (simp -dsimp -implicitDefEqProofs (maxSteps := 2000000) (disch := first | assumption | omega | (simp only [nx]; omega) | ((repeat refine Fresh.push ?_ _); assumption) | (simp only [smA]; done) | (simp [oneCell, AW.next_push]; done) | fail) only [go_sem, Nat.reduceEqDiff, reduceIte, Nat.reduceAdd, Int.toNat_natCast, Nat.add_zero, Owes_true, e0, hs']; try rfl), by (simp -dsimp -implicitDefEqProofs (maxSteps := 2000000) (disch := first | assumption | omega | (simp only [nx]; omega) | ((repeat refine Fresh.push ?_ _); assumption) | (simp only [smA]; done) | (simp [oneCell, AW.next_push]; done) | fail) only [go_sem, Nat.reduceEqDiff, reduceIte, Nat.reduceAdd, Int.toNat_natCast, Nat.add_zero, Owes_true, e1, hs']; try rfl), by (simp -dsimp -implicitDefEqProofs (maxSteps := 2000000) (disch := first | assumption | omega | (simp only [nx]; omega) | ((repeat refine Fresh.push ?_ _); assumption) | (simp only [smA]; done) | (simp [oneCell, AW.next_push]; done) | fail) only [go_sem, Nat.reduceEqDiff, reduceIte, Nat.reduceAdd, Int.toNat_natCast, Nat.add_zero, Owes_true, e6, hs']; try rfl), by (simp -dsimp -implicitDefEqProofs (maxSteps := 2000000) (disch := first | assumption | omega | (simp only [nx]; omega) | ((repeat refine Fresh.push ?_ _); assumption) | (simp only [smA]; done) | (simp [oneCell, AW.next_push]; done) | fail) only [go_sem, Nat.reduceEqDiff, reduceIte, Nat.reduceAdd, Int.toNat_natCast, Nat.add_zero, Owes_true, e7, hs']; try rfl), rfl⟩
  obtain rfl : i = T.length := by omega
  rw [kepTo_all] at e6
  cases hkb : kepB S T with
  | false =>
    rw [hkb] at e6
    simp -dsimp -implicitDefEqProofs (maxSteps := 2000000) (disch := first | assumption | omega | (simp only [nx]; omega) | ((repeat refine Fresh.push ?_ _); assumption) | (simp only [smA]; done) | (simp [oneCell, AW.next_push]; done) | fail) only [go_sem, Nat.reduceEqDiff, reduceIte, Nat.reduceAdd, Int.toNat_natCast, Nat.add_zero, Owes_true, Try.results41, e0, e1, e6, e7, hlt]
    exact ⟨by simp [kepV, kepE, hkb], Grown.refl f⟩
  | true =>
  rw [hkb] at e6
  have hV : kepV S T = runB S zero5 T := by unfold kepV; rw [hkb]; rfl
  have hE : kepE S T = 0 := by unfold kepE; rw [if_pos hkb]
  have hin : ∀ x ∈ T, inR 0 x ((S.length : Int) - 1) = true := by
    unfold kepB at hkb
    rw [Bool.and_eq_true, Bool.and_eq_true] at hkb
    exact List.all_eq_true.1 hkb.2.2
  rw [hV, hE]
  have hm22 := ms22 S.length (by omega)
  have g1 := (Grown.refl f).push (.cells ((zeros S.length).flatMap icells) 3 w.next 0 0)
  have hzA : ArrOf (w.push (.cells ((zeros S.length).flatMap icells) 3 w.next 0 0)) 1 icells (.slice (some ⟨w.next, 0, none⟩) S.length S.length) (ageL S zero5) := by rw [age_zero hp]; exact arr_zeros f S.length (by omega)
  simp -dsimp -implicitDefEqProofs (maxSteps := 2000000) (disch := first | assumption | omega | (simp only [nx]; omega) | ((repeat refine Fresh.push ?_ _); assumption) | (simp only [smA]; done) | (simp [oneCell, AW.next_push]; done) | fail) only [go_sem, Nat.reduceEqDiff, reduceIte, Nat.reduceAdd, Int.toNat_natCast, Nat.add_zero, Owes_true, Try.results41, e0, e1, e6, e7, hlt, hm22]
  generalize w.push (.cells ((zeros S.length).flatMap icells) 3 w.next 0 0) = w1 at *
  refine loopR (fun k t ds w7 => ∃ i : Nat, i ≤ T.length ∧ k = T.length - i ∧ ds = [] ∧ ev t (.tmp 0) = .slice pu S.length cu ∧ ev t (.tmp 1) = .slice pv T.length cv ∧ ev t (.tmp 9) = .int .i64 (i : Int) ∧ ∃ y : Value, ev t (.tmp 8) = y ∧ runB S zero5 (T.take i) = true ∧ ArrOf w7 1 icells y (ageL S (endI S zero5 (T.take i))) ∧ Keep w1.next w1 w7 ∧ Fresh w7) (T.length) ?_ ?_
  · refine ⟨0, by omega, by omega, rfl, ?_, ?_, ?_, _, by simp -dsimp -implicitDefEqProofs (maxSteps := 2000000) (disch := first | assumption | omega | (simp only [nx]; omega) | ((repeat refine Fresh.push ?_ _); assumption) | (simp only [smA]; done) | (simp [oneCell, AW.next_push]; done) | fail) only [go_sem, Nat.reduceEqDiff, reduceIte, Nat.reduceAdd, Int.toNat_natCast, Nat.add_zero, Owes_true], rfl, hzA, .refl _ _, g1.2⟩ <;> simp -dsimp -implicitDefEqProofs (maxSteps := 2000000) (disch := first | assumption | omega | (simp only [nx]; omega) | ((repeat refine Fresh.push ?_ _); assumption) | (simp only [smA]; done) | (simp [oneCell, AW.next_push]; done) | fail) only [go_sem, Nat.reduceEqDiff, reduceIte, Nat.reduceAdd, Int.toNat_natCast, Nat.add_zero, Owes_true, e0, e1] <;> rfl
  rintro k t ds w7 ⟨i, hii, rfl, rfl, e0, e1, e9, y, e8, hrun, hya, k7, f7⟩
  have hW7 : Grown w w7 := ⟨g1.1.trans (k7.mono g1.1.next), f7⟩
  by_cases hlt : (i : Int) < (T.length : Int)
  case neg =>
    obtain rfl : i = T.length := by omega
    rw [List.take_length] at hrun
    simp -dsimp -implicitDefEqProofs (maxSteps := 2000000) (disch := first | assumption | omega | (simp only [nx]; omega) | ((repeat refine Fresh.push ?_ _); assumption) | (simp only [smA]; done) | (simp [oneCell, AW.next_push]; done) | fail) only [go_sem, Nat.reduceEqDiff, reduceIte, Nat.reduceAdd, Int.toNat_natCast, Nat.add_zero, Owes_true, Try.results41, e0, e1, e8, e9, hlt]
    exact ⟨by rw [hrun], hW7⟩
  have hlt' : i < T.length := by omega
  obtain ⟨b1, o1, rfl, hb1', hcell⟩ := hat i hlt'
  have a0 := hcell w7 hW7.1 0 _ rfl
  rw [Nat.add_zero] at a0
  have hTi := hin _ (List.getElem_mem hlt')
  have hst := st_end hp (st_zero hp) hrun
  have hsucc : T.take (i + 1) = T.take i ++ [T[i]] := List.take_succ_eq_append_getElem hlt'
  have haf := afterR_ok hp hst T[i] pu cu y w7 f7 (hu.grown hW7) hya
  have hrs : runB S (endI S zero5 (T.take i)) [T[i]] = keptB S (endI S zero5 (T.take i)) T[i] := by simp [runB, hTi]
  simp -dsimp -implicitDefEqProofs (maxSteps := 2000000) (disch := first | assumption | omega | (simp only [nx]; omega) | ((repeat refine Fresh.push ?_ _); assumption) | (simp only [smA]; done) | (simp [oneCell, AW.next_push]; done) | fail) only [go_sem, Nat.reduceEqDiff, reduceIte, Nat.reduceAdd, Int.toNat_natCast, Nat.add_zero, Owes_true, Try.results41, e0, e1, e8, e9, hlt, indexV_eq, a0]
  apply callV_of (e := rfl)
  · exact haf
  rintro _ w8 ⟨g8, z, rfl, hz⟩
  cases hkp : keptB S (endI S zero5 (T.take i)) T[i] with
  | false =>
    have hF : runB S zero5 T = false := by
      cases hT : runB S zero5 T with
      | false => rfl
      | true =>
        have := run_take hT (i + 1)
        rw [hsucc, run_append, hrs, hkp] at this
        exact absurd this.2 (by simp)
    simp -dsimp -implicitDefEqProofs (maxSteps := 2000000) (disch := first | assumption | omega | (simp only [nx]; omega) | ((repeat refine Fresh.push ?_ _); assumption) | (simp only [smA]; done) | (simp [oneCell, AW.next_push]; done) | fail) only [go_sem, Nat.reduceEqDiff, reduceIte, Nat.reduceAdd, Int.toNat_natCast, Nat.add_zero, Owes_true, Try.results41, e0, e1, e8, e9, hkp]
    exact ⟨by rw [hF], hW7.trans g8⟩
  | true =>
  have hrn : runB S zero5 (T.take (i + 1)) = true := by rw [hsucc, run_append, hrs]; exact ⟨hrun, hkp⟩
  have hen : endI S zero5 (T.take (i + 1)) = aftI S (endI S zero5 (T.take i)) T[i] := by rw [hsucc, end_append]; rfl
  have hz' := hz hkp
  rw [← hen] at hz'
  simp -dsimp -implicitDefEqProofs (maxSteps := 2000000) (disch := first | assumption | omega | (simp only [nx]; omega) | ((repeat refine Fresh.push ?_ _); assumption) | (simp only [smA]; done) | (simp [oneCell, AW.next_push]; done) | fail) only [go_sem, Nat.reduceEqDiff, reduceIte, Nat.reduceAdd, Int.toNat_natCast, Nat.add_zero, Owes_true, Try.results41, e0, e1, e8, e9, hkp]
  refine ⟨_, by omega, i + 1, by omega, rfl, rfl, by (simp -dsimp -implicitDefEqProofs (maxSteps := 2000000) (disch := first | assumption | omega | (simp only [nx]; omega) | ((repeat refine Fresh.push ?_ _); assumption) | (simp only [smA]; done) | (simp [oneCell, AW.next_push]; done) | fail) only [go_sem, Nat.reduceEqDiff, reduceIte, Nat.reduceAdd, Int.toNat_natCast, Nat.add_zero, Owes_true, e0]; try rfl), by (simp -dsimp -implicitDefEqProofs (maxSteps := 2000000) (disch := first | assumption | omega | (simp only [nx]; omega) | ((repeat refine Fresh.push ?_ _); assumption) | (simp only [smA]; done) | (simp [oneCell, AW.next_push]; done) | fail) only [go_sem, Nat.reduceEqDiff, reduceIte, Nat.reduceAdd, Int.toNat_natCast, Nat.add_zero, Owes_true, e1]; try rfl), by (simp -dsimp -implicitDefEqProofs (maxSteps := 2000000) (disch := first | assumption | omega | (simp only [nx]; omega) | ((repeat refine Fresh.push ?_ _); assumption) | (simp only [smA]; done) | (simp [oneCell, AW.next_push]; done) | fail) only [go_sem, Nat.reduceEqDiff, reduceIte, Nat.reduceAdd, Int.toNat_natCast, Nat.add_zero, Owes_true, e9]; try rfl), z, (by simp -dsimp -implicitDefEqProofs (maxSteps := 2000000) (disch := first | assumption | omega | (simp only [nx]; omega) | ((repeat refine Fresh.push ?_ _); assumption) | (simp only [smA]; done) | (simp [oneCell, AW.next_push]; done) | fail) only [go_sem, Nat.reduceEqDiff, reduceIte, Nat.reduceAdd, Int.toNat_natCast, Nat.add_zero, Owes_true]), hrn, hz', k7.trans (g8.1.mono k7.next), g8.2⟩
end Go.Proofs

namespace Go.Proofs
open Go Go.RowKit Go.Sim
set_option maxRecDepth 100000
end Go.Proofs

namespace Go.Proofs
open Go Go.RowKit Go.Sim
set_option maxRecDepth 100000
theorem Try.und22 : Try.prog.underlying 22 = some (.slice 3) := by kernel_rfl
theorem Try.und4 : Try.prog.underlying 4 = some .bool := by kernel_rfl
theorem Try.cells3 : Try.prog.cellsOf 3 = 1 := by kernel_rfl
theorem given_int {w : AW} {n : Nat} {cs : List Value} (h : Hd Try.prog w n 3 cs) : ∃ x : Int, cs = icells x ∧ -9223372036854775808 ≤ x ∧ x ≤ 9223372036854775807 := by
  cases n with
  | zero => exact h.elim
  | succ n =>
    simp only [Hd, Try.und3] at h
    obtain ⟨i, rfl, h1, h2⟩ := h
    exact ⟨i, rfl, h1, h2⟩
theorem given_num {w : AW} {n : Nat} {v : Value} (h : HdV Try.prog w n 3 v) : ∃ x : Int, v = .int .i64 x ∧ -9223372036854775808 ≤ x ∧ x ≤ 9223372036854775807 := by
  simp only [HdV, Try.und3] at h
  obtain ⟨x, e, h1⟩ := given_int h
  injection e with e
  exact ⟨x, e, h1⟩
theorem rows_ofR {R : Int → Prop} {rows : List (List Value)} (h : ∀ r ∈ rows, ∃ x : Int, r = icells x ∧ R x) : ∃ xs : List Int, rows = xs.map icells ∧ ∀ x ∈ xs, R x := by
  induction rows with
  | nil => exact ⟨[], rfl, fun _ h => by cases h⟩
  | cons r rows ih =>
    obtain ⟨x, hx, hr⟩ := h r List.mem_cons_self
    obtain ⟨xs, hxs, hr2⟩ := ih fun q hq => h q (List.mem_cons_of_mem _ hq)
    exact ⟨x :: xs, by rw [hx, hxs]; rfl, fun y hy => by
      rcases List.mem_cons.1 hy with rfl | hy
      · exact hr
      · exact hr2 y hy⟩
def I64 (x : Int) : Prop := -9223372036854775808 ≤ x ∧ x ≤ 9223372036854775807
theorem given_ints {w : AW} {n : Nat} {cs : List Value} (h : Hd Try.prog w n 22 cs) : ∃ v, cs = [v] ∧ ∃ xs, ArrOf w 1 icells v xs ∧ ∀ x ∈ xs, I64 x := by
  cases n with
  | zero => exact h.elim
  | succ n =>
    simp only [Hd, Try.und22, Try.cells3] at h
    obtain ⟨v, rows, rfl, ha, hr, hgv⟩ := h
    obtain ⟨xs, rfl, hI⟩ := rows_ofR (R := I64) fun r hq => by obtain ⟨x, hx, h1, h2⟩ := given_int (hr r hq); exact ⟨x, hx, h1, h2⟩
    exact ⟨v, rfl, xs, ha, hI⟩
theorem given_intsV {w : AW} {n : Nat} {v : Value} (h : HdV Try.prog w n 22 v) : ∃ xs, ArrOf w 1 icells v xs ∧ ∀ x ∈ xs, I64 x := by
  simp only [HdV, Try.und22] at h
  obtain ⟨u, e, xs, hx⟩ := given_ints h
  injection e with e
  subst e
  exact ⟨xs, hx⟩
end Go.Proofs

namespace Go.Proofs
open Go Go.RowKit Go.Sim
set_option maxRecDepth 100000
end Go.Proofs

namespace Go.Proofs
open Go Go.RowKit Go.Sim
set_option maxRecDepth 100000
theorem turnsP_uniq {S : List Int} {D : Int} {T T' : List Int} {e e' : Int} (h : TurnsP S D T e) (k : TurnsP S D T' e') : T = T' ∧ e = e' := by
  rcases h with ⟨h1, h2, h3⟩ | ⟨h1, h2, h3, h4⟩ | ⟨h1, h2, h3, h4, h5⟩ | ⟨h1, h2, h3, h4, h5, h6⟩ <;> rcases k with ⟨k1, k2, k3⟩ | ⟨k1, k2, k3, k4⟩ | ⟨k1, k2, k3, k4, k5⟩ | ⟨k1, k2, k3, k4, k5, k6⟩
  all_goals first
    | (exfalso; rw [h1] at k1; cases k1; done)
    | (exfalso; rw [h2] at k2; cases k2; done)
    | (exfalso; exact h3 k3)
    | (exfalso; exact k3 h3)
    | (subst h2 k2; exact ⟨rfl, by omega⟩)
    | (subst h3 k3; exact ⟨rfl, by omega⟩)
    | (subst h4 k4; exact ⟨rfl, by omega⟩)
    | exact ⟨first_uniq h6 k6 (by omega), by omega⟩
theorem turnsP_len {S : List Int} {D : Int} {T : List Int} {e : Int} (h : TurnsP S D T e) : T.length ≤ 64 := by
  rcases h with ⟨_, h2, _⟩ | ⟨_, _, h2, _⟩ | ⟨_, _, _, h2, _⟩ | ⟨_, h2, _, _, h5, _⟩
  · rw [h2]; simp
  · rw [h2]; simp
  · rw [h2]; simp
  · have := (inR_iff _ _ _).1 h2; omega
set_option maxHeartbeats 32000000 in
theorem turns_law (w : AW) (xs : List Value) (f : Fresh w) (h : HdAll Try.prog w [22, 22, 3] xs) : CallT Try.prog Try.T1 (.fn (.func 7) #[]) xs.toArray w fun v _ => v = .bool true := by
  cases h with
  | cons n1 h1 h =>
  cases h with
  | cons n2 h2 h =>
  cases h with
  | cons n3 h3 h =>
  cases h
  rename_i v1 v2 v3
  obtain ⟨S, hSa, _⟩ := given_intsV h1
  obtain ⟨T, hTa, _⟩ := given_intsV h2
  obtain ⟨D, rfl, _, _⟩ := given_num h3
  obtain ⟨pS, cS, rfl, _⟩ := id hSa.open
  obtain ⟨pT, cT, rfl, _⟩ := id hTa.open
  clear h1 h2 h3
  show CallT Try.prog Try.T1 (.fn (.func 7) #[]) #[.slice pS S.length cS, .slice pT T.length cT, .int .i64 D] w _
  refine callT_code rfl Try.func7 rfl Try.s7_eq rfl ?_
  unfold Try.s7
  simp -dsimp -implicitDefEqProofs (maxSteps := 2000000) (disch := first | assumption | omega | (simp only [nx]; omega) | ((repeat refine Fresh.push ?_ _); assumption) | (simp only [smA]; done) | (simp [oneCell, AW.next_push]; done) | fail) only [go_sem, Nat.reduceEqDiff, reduceIte, Nat.reduceAdd, Int.toNat_natCast, Nat.add_zero, Owes_true, Try.results7]
  apply callV_of (e := rfl)
  · exact Keeps_ok S T _ _ w f hSa hTa
  rintro _ w1 ⟨rfl, g1⟩
  simp -dsimp -implicitDefEqProofs (maxSteps := 2000000) (disch := first | assumption | omega | (simp only [nx]; omega) | ((repeat refine Fresh.push ?_ _); assumption) | (simp only [smA]; done) | (simp [oneCell, AW.next_push]; done) | fail) only [go_sem, Nat.reduceEqDiff, reduceIte, Nat.reduceAdd, Int.toNat_natCast, Nat.add_zero, Owes_true, Try.results7]
  apply callV_of (e := rfl)
  · exact KeepsR_ok S T _ _ w1 g1.2 (hSa.grown g1) (hTa.grown g1)
  rintro _ w2 ⟨rfl, g2⟩
  have gg2 := g1.trans g2
  have dE : decide (kepE S T = kepE S T) = true := decide_eq_true rfl
  have nb : ∀ b : Bool, eqQ Try.prog .neq 4 (.bool b) (.bool b) = some (.bool false) := fun b => by cases b <;> kernel_rfl
  have hb : ∀ b : Bool, binQ .neq (.bool b) (.bool b) = none := fun b => rfl
  have hnb := nb (kepV S T)
  have hbb := hb (kepV S T)
  simp -dsimp -implicitDefEqProofs (maxSteps := 2000000) (disch := first | assumption | omega | (simp only [nx]; omega) | ((repeat refine Fresh.push ?_ _); assumption) | (simp only [smA]; done) | (simp [oneCell, AW.next_push]; done) | fail) only [go_sem, Nat.reduceEqDiff, reduceIte, Nat.reduceAdd, Int.toNat_natCast, Nat.add_zero, Owes_true, Try.results7, dE, hnb, hbb]
  apply callV_of (e := rfl)
  · exact Turns_ok S D _ w2 gg2.2 (hSa.grown gg2)
  rintro _ w3 ⟨g3, v, T1, e1, rfl, hP1, hR1⟩
  have gg3 := gg2.trans g3
  simp -dsimp -implicitDefEqProofs (maxSteps := 2000000) (disch := first | assumption | omega | (simp only [nx]; omega) | ((repeat refine Fresh.push ?_ _); assumption) | (simp only [smA]; done) | (simp [oneCell, AW.next_push]; done) | fail) only [go_sem, Nat.reduceEqDiff, reduceIte, Nat.reduceAdd, Int.toNat_natCast, Nat.add_zero, Owes_true, Try.results7]
  apply callV_of (e := rfl)
  · exact TurnsR_ok S D _ w3 gg3.2 (hSa.grown gg3)
  rintro _ w4 ⟨g4, v', T2, e2, rfl, hP2, hR2⟩
  have gg4 := gg3.trans g4
  obtain ⟨rfl, rfl⟩ := turnsP_uniq hP1 hP2
  have hT := turnsP_len hP1
  have hA1 := hR1.own.arr icells_len (by omega)
  simp -dsimp -implicitDefEqProofs (maxSteps := 2000000) (disch := first | assumption | omega | (simp only [nx]; omega) | ((repeat refine Fresh.push ?_ _); assumption) | (simp only [smA]; done) | (simp [oneCell, AW.next_push]; done) | fail) only [go_sem, Nat.reduceEqDiff, reduceIte, Nat.reduceAdd, Int.toNat_natCast, Nat.add_zero, Owes_true, Try.results7]
  apply callV_of (e := rfl)
  · exact Same_ok T1 T1 _ _ w4 (hA1.grown g4) hR2
  rintro _ _ ⟨rfl, rfl⟩
  have d1 : decide (T1 = T1) = true := decide_eq_true rfl
  have d2 : decide (e1 = e1) = true := decide_eq_true rfl
  simp -dsimp -implicitDefEqProofs (maxSteps := 2000000) (disch := first | assumption | omega | (simp only [nx]; omega) | ((repeat refine Fresh.push ?_ _); assumption) | (simp only [smA]; done) | (simp [oneCell, AW.next_push]; done) | fail) only [go_sem, Nat.reduceEqDiff, reduceIte, Nat.reduceAdd, Int.toNat_natCast, Nat.add_zero, Owes_true, Try.results7, d1, d2]
  apply callV_of (e := rfl)
  · exact Lasts_ok S _ w4 gg4.2 (hSa.grown gg4)
  rintro _ w5 ⟨g5, n1, e3, rfl, hL1⟩
  have gg5 := gg4.trans g5
  simp -dsimp -implicitDefEqProofs (maxSteps := 2000000) (disch := first | assumption | omega | (simp only [nx]; omega) | ((repeat refine Fresh.push ?_ _); assumption) | (simp only [smA]; done) | (simp [oneCell, AW.next_push]; done) | fail) only [go_sem, Nat.reduceEqDiff, reduceIte, Nat.reduceAdd, Int.toNat_natCast, Nat.add_zero, Owes_true, Try.results7]
  apply callV_of (e := rfl)
  · exact LastsR_ok S _ w5 gg5.2 (hSa.grown gg5)
  rintro _ w6 ⟨g6, n2, e4, rfl, hL2⟩
  obtain ⟨rfl, rfl⟩ : n1 = n2 ∧ e3 = e4 := by
    rcases hL1 with ⟨a1, a2, a3⟩ | ⟨a1, a2, a3, a4⟩ | ⟨a1, a2, a3, a4, a5⟩ <;> rcases hL2 with ⟨b1, b2, b3⟩ | ⟨b1, b2, b3, b4⟩ | ⟨b1, b2, b3, b4⟩
    all_goals first
      | (exfalso; rw [a1] at b1; cases b1; done)
      | (exfalso; exact inf_not_max a2 b4; done)
      | (exfalso; exact inf_not_max b2 a5; done)
      | (have := max_uniq a5 b4; exact ⟨by omega, by omega⟩)
      | exact ⟨by omega, by omega⟩
  have d3 : decide (n1 = n1) = true := decide_eq_true rfl
  have d4 : decide (e3 = e3) = true := decide_eq_true rfl
  simp -dsimp -implicitDefEqProofs (maxSteps := 2000000) (disch := first | assumption | omega | (simp only [nx]; omega) | ((repeat refine Fresh.push ?_ _); assumption) | (simp only [smA]; done) | (simp [oneCell, AW.next_push]; done) | fail) only [go_sem, Nat.reduceEqDiff, reduceIte, Nat.reduceAdd, Int.toNat_natCast, Nat.add_zero, Owes_true, Try.results7, d3, d4]
  apply callV_of (e := rfl)
  · exact callT_told (Q := fun v w' => v = .bool true ∧ w6 = w') (v := .bool true) (w' := w6) rfl ⟨rfl, rfl⟩
  rintro _ _ ⟨rfl, rfl⟩
  simp -dsimp -implicitDefEqProofs (maxSteps := 2000000) (disch := first | assumption | omega | (simp only [nx]; omega) | ((repeat refine Fresh.push ?_ _); assumption) | (simp only [smA]; done) | (simp [oneCell, AW.next_push]; done) | fail) only [go_sem, Nat.reduceEqDiff, reduceIte, Nat.reduceAdd, Int.toNat_natCast, Nat.add_zero, Owes_true, Try.results7]
end Go.Proofs

namespace Go.Proofs
open Go Go.RowKit Go.Sim Go.ChangeShapes Go.WideShapes Go.ChangeAt
set_option maxRecDepth 100000
theorem Try.own : ownKnob Try.prog.godebug = none := by kernel_rfl
theorem Try.laidOut : laidOutB Try.prog = true := by kernel_rfl
end Go.Proofs
