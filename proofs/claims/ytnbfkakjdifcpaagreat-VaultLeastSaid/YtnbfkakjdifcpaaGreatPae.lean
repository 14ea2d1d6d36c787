/- This program: its code, contracts, numbers, part 5. -/
import Derived.Test.YtnbfkakjdifcpaaGreatPad
import Derived.Test.YtnbfkakjdifcpaaGreatPaa
import Derived.Test.YtnbfkakjdifcpaaGreatNa
import Derived.Test.YtnbfkakjdifcpaaGreatNc
import Derived.Test.YtnbfkakjdifcpaaGreatProg
import Derived.Shelf.SlSortCmp.NoneTotal
import Derived.Ground.SlsfProg
import Derived.Lib.RowBridge
import Derived.Lib.SortBridge
import Derived.WalkKit
import Derived.Test.YtnbfkakjdifcpaaGreatRows
import Derived.ProofKit
import Derived.SizedLaws
set_option linter.unusedVariables false
set_option linter.unusedSimpArgs false
namespace Go.Proofs
open Go Go.RowKit Go.Sim
set_option maxRecDepth 100000
theorem cloB_own {s : StrN} {g : Nat} (h : askN s (g : Int) = 0) (hg : g < 64) : cloB s g (endR s g 1 : Int) = true ∧ cloE s g (endR s g 1 : Int) = 0 := by
  obtain ⟨hs, _, _, _, _, _⟩ := askN_ok h
  have hin := endR_in hs g
  have hset : setB s.rooms.length (endR s g 1 : Int) = true := by
    unfold setB fullI
    have : endR s g 1 < 2 ^ s.rooms.length := Nat.lt_pow_two_of_testBit _ fun i hi => by
      cases q : (endR s g 1).testBit i with
      | false => rfl
      | true => have := hin.2 i q; omega
    exact (inR_iff _ _ _).2 (by omega)
  unfold cloB cloE
  rw [if_pos h, if_pos h, if_pos hset, if_pos hset]
  refine ⟨?_, rfl⟩
  rw [Bool.and_eq_true]
  refine ⟨end_more 64 1 0 (by decide), List.all_eq_true.2 fun gt hgt => ?_⟩
  have := endR_closed hs g gt hgt
  show (!stepB s g (endR s g 1) gt) = true
  rw [this]; rfl
theorem cloB_sub {s : StrN} {g : Nat} (h : askN s (g : Int) = 0) {y : Int} (hc : cloB s g y = true) : ∃ r : Nat, y = (r : Int) ∧ r < 64 ∧ subB r (endR s g 1) = true := by
  obtain ⟨hs, _, _, _, _, _⟩ := askN_ok h
  unfold cloB at hc
  rw [if_pos h] at hc
  split at hc
  case isFalse => cases hc
  rename_i hset
  obtain ⟨r, rfl, hr, _⟩ := setB_nat (str_rooms hs).2 hset
  refine ⟨r, rfl, hr, subB_iff.2 ?_⟩
  rw [Bool.and_eq_true] at hc
  exact endR_sub (MoreS.refl s) (Sub.refl g) (fun gt hgt => by have := List.all_eq_true.1 hc.2 gt hgt; simpa using this) hc.1
theorem cloE_is {s : StrN} {g : Nat} (h : askN s (g : Int) = 0) (y : Int) : cloE s g y = 0 ∨ cloE s g y = 7 := by
  unfold cloE
  rw [if_pos h]
  split
  · exact .inl rfl
  · exact .inr rfl
theorem askN_more {s : StrN} {g : Nat} (h : askN s (g : Int) = 0) {s' : StrN} (hs' : strB s' = true) (hl : s'.staff.length = s.staff.length) {g' : Nat} (hg' : g' < 2 ^ s.staff.length) : askN s' (g' : Int) = 0 := by
  unfold askN
  rw [if_pos hs', if_pos]
  unfold setB fullI
  rw [hl]
  exact (inR_iff _ _ _).2 (by omega)
theorem entN_is {s : StrN} {g : Nat} (h : askN s (g : Int) = 0) : entN s (g : Int) = (endR s g 1 : Int) := by unfold entN; rw [if_pos h]; rfl
set_option maxHeartbeats 64000000 in
theorem least_law (w : AW) (xs : List Value) (f : Fresh w) (h : HdAll Tryz.prog w [26, 3, 55] xs) : CallT Tryz.prog Tryz.T1 (.fn (.func 8) #[]) xs.toArray w fun v _ => v = .bool true := by
  cases h with
  | cons n1 h1 h =>
  cases h with
  | cons n2 h2 h =>
  cases h with
  | cons n3 h3 h =>
  cases h
  rename_i v1 v2 v3
  obtain ⟨s, pR, pG, pS, cR, cG, cS, rfl, hA⟩ := given_strong h1
  obtain ⟨x, rfl⟩ := given_intX h2
  obtain ⟨n0, m1, m2, rfl⟩ := given_three h3
  clear h1 h2 h3
  show CallT Tryz.prog Tryz.T1 (.fn (.func 8) #[]) #[.agg (strC pR pG pS cR cG cS s).toArray, .int .i64 x, .agg #[.int .i64 n0, .int .i64 m1, .int .i64 m2]] w _
  have g0 := (Grown.refl f).push (.cells (strC pR pG pS cR cG cS s) 26 w.next 0 0)
  have O0 := Own.new f 26 (strC pR pG pS cR cG cS s)
  have g1 := g0.push (.cells [.int .i64 n0, .int .i64 m1, .int .i64 m2] 55 (w.next + 1) 0 0)
  have N1 := Own.new g0.2 55 [.int .i64 n0, .int .i64 m1, .int .i64 m2]
  rw [AW.next_push] at N1
  have O1 := O0.push (.cells [.int .i64 n0, .int .i64 m1, .int .i64 m2] 55 (w.next + 1) 0 0)
  have nx1 : ((w.push (.cells (strC pR pG pS cR cG cS s) 26 w.next 0 0)).push (.cells [.int .i64 n0, .int .i64 m1, .int .i64 m2] 55 (w.next + 1) 0 0)).next = w.next + 1 + 1 := by rw [AW.next_push, AW.next_push]
  have hld := fun w' (O' : Own w' w.next 26 (strC pR pG pS cR cG cS s)) => loadAll O' (n := 3) rfl (by simp [strC, oneCell])
  have hl1 := hld _ O1
  have hE := fun y w' (g' : Grown w w') => EnterV_ok s pR pG pS cR cG cS y w' g'.2 (hA.grown g')
  have hK := fun y w' (g' : Grown w w') => ClosedV_ok s pR pG pS cR cG cS x y w' g'.2 (hA.grown g')
  refine callT_code rfl Tryz.func8 rfl Tryz.s8_eq rfl ?_
  unfold Tryz.s8
  unfold strC at *
  simp -dsimp -implicitDefEqProofs (maxSteps := 2000000) (disch := first | assumption | omega | (simp only [nx]; omega) | ((repeat refine Fresh.push ?_ _); assumption) | (simp only [smA]; done) | (simp [oneCell, AW.next_push]; done) | fail) only [go_sem, Nat.reduceEqDiff, reduceIte, Nat.reduceAdd, Int.toNat_natCast, Nat.add_zero, Owes_true, Tryz.results8, hl1]
  generalize (w.push (.cells [.slice pR s.rooms.length cR, .slice pG s.gates.length cG, .slice pS s.staff.length cS] 26 w.next 0 0)).push (.cells [.int .i64 n0, .int .i64 m1, .int .i64 m2] 55 (w.next + 1) 0 0) = w1 at *
  apply callV_of (e := rfl)
  · exact hE x w1 g1
  rintro _ w2 ⟨rfl, g2⟩
  have gg2 := g1.trans g2
  have O2 := O1.keep g2.1
  have N2 := N1.keep g2.1
  have hl2 := hld w2 O2
  by_cases hask : askN s x = 0
  case neg =>
    have hEn : entN s x = 0 := by unfold entN; rw [if_neg hask]
    simp -dsimp -implicitDefEqProofs (maxSteps := 2000000) (disch := first | assumption | omega | (simp only [nx]; omega) | ((repeat refine Fresh.push ?_ _); assumption) | (simp only [smA]; done) | (simp [oneCell, AW.next_push]; done) | fail) only [go_sem, Nat.reduceEqDiff, reduceIte, Nat.reduceAdd, Int.toNat_natCast, Nat.add_zero, Owes_true, Tryz.results8, hask, hEn]
    apply callV_of (e := rfl)
    · exact callT_told (Q := fun v w' => v = .bool true ∧ w2 = w') (v := .bool true) (w' := w2) rfl ⟨rfl, rfl⟩
    rintro _ _ ⟨rfl, rfl⟩
    simp -dsimp -implicitDefEqProofs (maxSteps := 2000000) (disch := first | assumption | omega | (simp only [nx]; omega) | ((repeat refine Fresh.push ?_ _); assumption) | (simp only [smA]; done) | (simp [oneCell, AW.next_push]; done) | fail) only [go_sem, Nat.reduceEqDiff, reduceIte, Nat.reduceAdd, Int.toNat_natCast, Nat.add_zero, Owes_true, Tryz.results8]
  obtain ⟨hs, g, rfl, hg, hg2, hgb⟩ := askN_ok hask
  have hEn := entN_is hask
  obtain ⟨hc1, hc2⟩ := cloB_own hask hg
  have hin := (endR_in hs g).1
  have hsl := (str_staff hs).2.1
  simp -dsimp -implicitDefEqProofs (maxSteps := 2000000) (disch := first | assumption | omega | (simp only [nx]; omega) | ((repeat refine Fresh.push ?_ _); assumption) | (simp only [smA]; done) | (simp [oneCell, AW.next_push]; done) | fail) only [go_sem, Nat.reduceEqDiff, reduceIte, Nat.reduceAdd, Int.toNat_natCast, Nat.add_zero, Owes_true, Tryz.results8, hask, hEn, hl2]
  apply callV_of (e := rfl)
  · exact hK (endR s g 1 : Int) w2 gg2
  rintro _ w3 ⟨rfl, g3⟩
  have gg3 := gg2.trans g3
  have O3 := O2.keep g3.1
  have N3 := N2.keep g3.1
  have hl3 := hld w3 O3
  have t0 := N3.cell (o := 0) (v := .int .i64 n0) rfl rfl
  simp -dsimp -implicitDefEqProofs (maxSteps := 2000000) (disch := first | assumption | omega | (simp only [nx]; omega) | ((repeat refine Fresh.push ?_ _); assumption) | (simp only [smA]; done) | (simp [oneCell, AW.next_push]; done) | fail) only [go_sem, Nat.reduceEqDiff, reduceIte, Nat.reduceAdd, Int.toNat_natCast, Nat.add_zero, Owes_true, Tryz.results8, hc1, hc2, hl3, t0]
  apply callV_of (e := rfl)
  · exact hK n0 w3 gg3
  rintro _ w4 ⟨rfl, g4⟩
  have gg4 := gg3.trans g4
  have O4 := O3.keep g4.1
  have N4 := N3.keep g4.1
  have hl4 := hld w4 O4
  have t0 := N4.cell (o := 0) (v := .int .i64 n0) rfl rfl
  apply joinC (F := fun t => ev t (.tmp 1) = .int .i64 (g : Int) ∧ ev t (.tmp 3) = .pointer (some ⟨w.next, 0, none⟩) ∧ ev t (.tmp 5) = .pointer (some ⟨w.next + 1, 0, none⟩) ∧ ev t (.tmp 7) = .int .i64 (endR s g 1 : Int)) (w := w4)
  case mainC =>
    intro go
    have h70 : ¬ (7 : Int) = 0 := by omega
    cases hcb : cloB s (g : Int) n0 with
    | true =>
      obtain ⟨r, hr0, hr, hsub⟩ := cloB_sub hask hcb
      have hce : cloE s (g : Int) n0 = 0 := by
        unfold cloB at hcb
        rw [if_pos hask] at hcb
        unfold cloE
        rw [if_pos hask]
        split
        · rfl
        · rename_i q; rw [if_neg q] at hcb; cases hcb
      rw [hr0] at t0
      have hin2 := in_ok (endR s g 1) r (by omega) (by omega) w4
      simp -dsimp -implicitDefEqProofs (maxSteps := 2000000) (disch := first | assumption | omega | (simp only [nx]; omega) | ((repeat refine Fresh.push ?_ _); assumption) | (simp only [smA]; done) | (simp [oneCell, AW.next_push]; done) | fail) only [go_sem, Nat.reduceEqDiff, reduceIte, Nat.reduceAdd, Int.toNat_natCast, Nat.add_zero, Owes_true, Tryz.results8, hcb, hce, hc1, hc2, t0]
      apply callV_of (e := rfl)
      · exact hin2
      rintro _ _ ⟨rfl, rfl⟩
      simp -dsimp -implicitDefEqProofs (maxSteps := 2000000) (disch := first | assumption | omega | (simp only [nx]; omega) | ((repeat refine Fresh.push ?_ _); assumption) | (simp only [smA]; done) | (simp [oneCell, AW.next_push]; done) | fail) only [go_sem, Nat.reduceEqDiff, reduceIte, Nat.reduceAdd, Int.toNat_natCast, Nat.add_zero, Owes_true, Tryz.results8, hsub]
      exact joinC_use go ⟨by (simp -dsimp -implicitDefEqProofs (maxSteps := 2000000) (disch := first | assumption | omega | (simp only [nx]; omega) | ((repeat refine Fresh.push ?_ _); assumption) | (simp only [smA]; done) | (simp [oneCell, AW.next_push]; done) | fail) only [go_sem, Nat.reduceEqDiff, reduceIte, Nat.reduceAdd, Int.toNat_natCast, Nat.add_zero, Owes_true]; try rfl), by (simp -dsimp -implicitDefEqProofs (maxSteps := 2000000) (disch := first | assumption | omega | (simp only [nx]; omega) | ((repeat refine Fresh.push ?_ _); assumption) | (simp only [smA]; done) | (simp [oneCell, AW.next_push]; done) | fail) only [go_sem, Nat.reduceEqDiff, reduceIte, Nat.reduceAdd, Int.toNat_natCast, Nat.add_zero, Owes_true]; try rfl), by (simp -dsimp -implicitDefEqProofs (maxSteps := 2000000) (disch := first | assumption | omega | (simp only [nx]; omega) | ((repeat refine Fresh.push ?_ _); assumption) | (simp only [smA]; done) | (simp [oneCell, AW.next_push]; done) | fail) only [go_sem, Nat.reduceEqDiff, reduceIte, Nat.reduceAdd, Int.toNat_natCast, Nat.add_zero, Owes_true]; try rfl), by (simp -dsimp -implicitDefEqProofs (maxSteps := 2000000) (disch := first | assumption | omega | (simp only [nx]; omega) | ((repeat refine Fresh.push ?_ _); assumption) | (simp only [smA]; done) | (simp [oneCell, AW.next_push]; done) | fail) only [go_sem, Nat.reduceEqDiff, reduceIte, Nat.reduceAdd, Int.toNat_natCast, Nat.add_zero, Owes_true]; try rfl)⟩
    | false =>
      rcases cloE_is hask n0 with hce | hce
      · simp -dsimp -implicitDefEqProofs (maxSteps := 2000000) (disch := first | assumption | omega | (simp only [nx]; omega) | ((repeat refine Fresh.push ?_ _); assumption) | (simp only [smA]; done) | (simp [oneCell, AW.next_push]; done) | fail) only [go_sem, Nat.reduceEqDiff, reduceIte, Nat.reduceAdd, Int.toNat_natCast, Nat.add_zero, Owes_true, Tryz.results8, hcb, hce, hc1, hc2, t0]
        exact joinC_use go ⟨by (simp -dsimp -implicitDefEqProofs (maxSteps := 2000000) (disch := first | assumption | omega | (simp only [nx]; omega) | ((repeat refine Fresh.push ?_ _); assumption) | (simp only [smA]; done) | (simp [oneCell, AW.next_push]; done) | fail) only [go_sem, Nat.reduceEqDiff, reduceIte, Nat.reduceAdd, Int.toNat_natCast, Nat.add_zero, Owes_true]; try rfl), by (simp -dsimp -implicitDefEqProofs (maxSteps := 2000000) (disch := first | assumption | omega | (simp only [nx]; omega) | ((repeat refine Fresh.push ?_ _); assumption) | (simp only [smA]; done) | (simp [oneCell, AW.next_push]; done) | fail) only [go_sem, Nat.reduceEqDiff, reduceIte, Nat.reduceAdd, Int.toNat_natCast, Nat.add_zero, Owes_true]; try rfl), by (simp -dsimp -implicitDefEqProofs (maxSteps := 2000000) (disch := first | assumption | omega | (simp only [nx]; omega) | ((repeat refine Fresh.push ?_ _); assumption) | (simp only [smA]; done) | (simp [oneCell, AW.next_push]; done) | fail) only [go_sem, Nat.reduceEqDiff, reduceIte, Nat.reduceAdd, Int.toNat_natCast, Nat.add_zero, Owes_true]; try rfl), by (simp -dsimp -implicitDefEqProofs (maxSteps := 2000000) (disch := first | assumption | omega | (simp only [nx]; omega) | ((repeat refine Fresh.push ?_ _); assumption) | (simp only [smA]; done) | (simp [oneCell, AW.next_push]; done) | fail) only [go_sem, Nat.reduceEqDiff, reduceIte, Nat.reduceAdd, Int.toNat_natCast, Nat.add_zero, Owes_true]; try rfl)⟩
      · simp -dsimp -implicitDefEqProofs (maxSteps := 2000000) (disch := first | assumption | omega | (simp only [nx]; omega) | ((repeat refine Fresh.push ?_ _); assumption) | (simp only [smA]; done) | (simp [oneCell, AW.next_push]; done) | fail) only [go_sem, Nat.reduceEqDiff, reduceIte, Nat.reduceAdd, Int.toNat_natCast, Nat.add_zero, Owes_true, Tryz.results8, hcb, hce, hc1, hc2, t0, h70]
        exact joinC_use go ⟨by (simp -dsimp -implicitDefEqProofs (maxSteps := 2000000) (disch := first | assumption | omega | (simp only [nx]; omega) | ((repeat refine Fresh.push ?_ _); assumption) | (simp only [smA]; done) | (simp [oneCell, AW.next_push]; done) | fail) only [go_sem, Nat.reduceEqDiff, reduceIte, Nat.reduceAdd, Int.toNat_natCast, Nat.add_zero, Owes_true]; try rfl), by (simp -dsimp -implicitDefEqProofs (maxSteps := 2000000) (disch := first | assumption | omega | (simp only [nx]; omega) | ((repeat refine Fresh.push ?_ _); assumption) | (simp only [smA]; done) | (simp [oneCell, AW.next_push]; done) | fail) only [go_sem, Nat.reduceEqDiff, reduceIte, Nat.reduceAdd, Int.toNat_natCast, Nat.add_zero, Owes_true]; try rfl), by (simp -dsimp -implicitDefEqProofs (maxSteps := 2000000) (disch := first | assumption | omega | (simp only [nx]; omega) | ((repeat refine Fresh.push ?_ _); assumption) | (simp only [smA]; done) | (simp [oneCell, AW.next_push]; done) | fail) only [go_sem, Nat.reduceEqDiff, reduceIte, Nat.reduceAdd, Int.toNat_natCast, Nat.add_zero, Owes_true]; try rfl), by (simp -dsimp -implicitDefEqProofs (maxSteps := 2000000) (disch := first | assumption | omega | (simp only [nx]; omega) | ((repeat refine Fresh.push ?_ _); assumption) | (simp only [smA]; done) | (simp [oneCell, AW.next_push]; done) | fail) only [go_sem, Nat.reduceEqDiff, reduceIte, Nat.reduceAdd, Int.toNat_natCast, Nat.add_zero, Owes_true]; try rfl)⟩
  case restC =>
  rintro t ⟨e1, e3, e5, e7⟩
  unfold Tryz.s8_c69
  have c2 := O4.cell (o := 2) (v := .slice pS s.staff.length cS) rfl rfl
  have t1 := N4.cell (o := 1) (v := .int .i64 m1) rfl rfl
  have hmin : min 6 (s.staff.length : Int) = (s.staff.length : Int) := by omega
  have hsh := full_shl (n := s.staff.length) (by omega)
  have hsu := shl_sub (n := s.staff.length) (by omega)
  have h0 : ¬ (s.staff.length : Int) < 0 := by omega
  have hmix := mix_or g m1 s.staff.length (by omega)
  have hmlt := mixN_lt g m1 (m := s.staff.length) (by omega)
  have hful : fullI s.staff.length = ((2 ^ s.staff.length - 1 : Nat) : Int) := by unfold fullI; have := Nat.two_pow_pos s.staff.length; omega
  rw [hful] at hsu
  simp -dsimp -implicitDefEqProofs (maxSteps := 2000000) (disch := first | assumption | omega | (simp only [nx]; omega) | ((repeat refine Fresh.push ?_ _); assumption) | (simp only [smA]; done) | (simp [oneCell, AW.next_push]; done) | fail) only [go_sem, Nat.reduceEqDiff, reduceIte, Nat.reduceAdd, Int.toNat_natCast, Nat.add_zero, Owes_true, e1, e3, e5, e7, c2, t1, hl4, hmin, h0, hsh, hsu, hmix, Nat.zero_add]
  apply callV_of (e := rfl)
  · exact hE _ w4 gg4
  rintro _ w5 ⟨rfl, g5⟩
  have gg5 := gg4.trans g5
  have O5 := O4.keep g5.1
  have N5 := N4.keep g5.1
  have hl5 := hld w5 O5
  have hask2 := askN_more hask hs rfl hmlt
  have hEn2 := entN_is hask2
  have g6 := (Grown.refl gg5.2).push (.cells [.slice none 0 0, .slice none 0 0, .slice none 0 0] 26 w5.next 0 0)
  have Q6 := Own.new gg5.2 26 [.slice none 0 0, .slice none 0 0, .slice none 0 0]
  have st6 := storeV_own (o := 0) (l := [.slice pR s.rooms.length cR, .slice pG s.gates.length cG, .slice pS s.staff.length cS]) (size := 3) Q6 rfl (by omega) (by simp) rfl
  have hcut6 : setsL [.slice none 0 0, .slice none 0 0, .slice none 0 0] 0 [.slice pR s.rooms.length cR, .slice pG s.gates.length cG, .slice pS s.staff.length cS] = [.slice pR s.rooms.length cR, .slice pG s.gates.length cG, .slice pS s.staff.length cS] := rfl
  rw [hcut6] at st6
  have m7 := MutS.put (S := fun j => j = w5.next) g6.2 rfl Q6.lt (.cells [.slice pR s.rooms.length cR, .slice pG s.gates.length cG, .slice pS s.staff.length cS] 26 w5.next 0 0)
  have Q7 := Q6.put [.slice pR s.rooms.length cR, .slice pG s.gates.length cG, .slice pS s.staff.length cS]
  have g7 : Grown w5 _ := ⟨g6.1.trans (m7.keep (B := w5.next) (fun j q => by omega) g6.1.next), m7.fresh⟩
  have gg7 := gg5.trans g7
  have O7 := O5.keep g7.1
  have c27 := O7.cell (o := 2) (v := .slice pS s.staff.length cS) rfl rfl
  have hOw := fun w' (g' : Grown w w') => Own_ok s.staff (.slice pS s.staff.length cS) w' g'.2 (hA.grown g').staff (by omega)
  simp -dsimp -implicitDefEqProofs (maxSteps := 2000000) (disch := first | assumption | omega | (simp only [nx]; omega) | ((repeat refine Fresh.push ?_ _); assumption) | (simp only [smA]; done) | (simp [oneCell, AW.next_push]; done) | fail) only [go_sem, Nat.reduceEqDiff, reduceIte, Nat.reduceAdd, Int.toNat_natCast, Nat.add_zero, Owes_true, hask2, hEn2, hl5, st6, e1, e3, e5, e7, c27, Nat.zero_add]
  generalize (w5.push (.cells [.slice none 0 0, .slice none 0 0, .slice none 0 0] 26 w5.next 0 0)).put w5.next (.cells [.slice pR s.rooms.length cR, .slice pG s.gates.length cG, .slice pS s.staff.length cS] 26 w5.next 0 0) = w7 at *
  apply callV_of (e := rfl)
  · exact hOw w7 gg7
  rintro _ w8 ⟨hmk, g8⟩
  have hn7 := Q7.lt
  rcases hmk with ⟨q, _⟩ | hAo
  · have := (str_staff hs).1; omega
  have hAS : AOwnS (fun j => w7.next ≤ j) w8 3 1 _ s.staff.length (s.staff.flatMap icells) := hAo
  obtain ⟨b8, r8, rfl, hb8, _⟩ := id (hAo.resolve_left (fun q => by have := (str_staff hs).1; omega))
  have gg8 := gg7.trans g8
  have O8 := O7.keep g8.1
  have N8 := (N5.keep g7.1).keep g8.1
  have Q8 := Q7.keep g8.1
  have st9 := storeV_own1 (o := 2) (v := .slice (some ⟨b8, 0, none⟩) s.staff.length s.staff.length) Q8 (by simp) rfl
  simp only [setL] at st9
  have m9 := MutS.put (S := fun j => j = w5.next) gg8.2 rfl Q8.lt (.cells [.slice pR s.rooms.length cR, .slice pG s.gates.length cG, .slice (some ⟨b8, 0, none⟩) s.staff.length s.staff.length] 26 w5.next 0 0)
  have Q9 := Q8.put [.slice pR s.rooms.length cR, .slice pG s.gates.length cG, .slice (some ⟨b8, 0, none⟩) s.staff.length s.staff.length]
  have A9 := hAS.other m9 (fun j hj q => by omega)
  have O9 := m9.own O8 (by have := O5.lt; omega)
  have N9 := m9.own N8 (by have := N5.lt; omega)
  have k9 : Keep w.next w _ := gg8.1.trans (m9.keep (B := w.next) (fun j q => by have := gg5.1.next; omega) gg8.1.next)
  have hn9 : (w8.put w5.next (.cells [.slice pR s.rooms.length cR, .slice pG s.gates.length cG, .slice (some ⟨b8, 0, none⟩) s.staff.length s.staff.length] 26 w5.next 0 0)).next = w8.next := AW.next_put _ _ _
  have f9 := m9.fresh
  simp -dsimp -implicitDefEqProofs (maxSteps := 2000000) (disch := first | assumption | omega | (simp only [nx]; omega) | ((repeat refine Fresh.push ?_ _); assumption) | (simp only [smA]; done) | (simp [oneCell, AW.next_push]; done) | fail) only [go_sem, Nat.reduceEqDiff, reduceIte, Nat.reduceAdd, Int.toNat_natCast, Nat.add_zero, Owes_true, st9]
  generalize w8.put w5.next (.cells [.slice pR s.rooms.length cR, .slice pG s.gates.length cG, .slice (some ⟨b8, 0, none⟩) s.staff.length s.staff.length] 26 w5.next 0 0) = w9 at *
  have hz := midL_zero s m2
  rw [← hz] at A9
  have hn87 := g8.1.next
  refine loopR (fun k t ds w10 => ∃ i : Nat, i ≤ s.staff.length ∧ k = s.staff.length - i ∧ ds = [] ∧ ev t (.tmp 1) = .int .i64 (g : Int) ∧ ev t (.tmp 3) = .pointer (some ⟨w.next, 0, none⟩) ∧ ev t (.tmp 5) = .pointer (some ⟨w.next + 1, 0, none⟩) ∧ ev t (.tmp 7) = .int .i64 (endR s g 1 : Int) ∧ ev t (.tmp 13) = .int .i64 (endR s (mixN g m1 s.staff.length) 1 : Int) ∧ ev t (.tmp 8) = .int .i64 0 ∧ ev t (.tmp 14) = .pointer (some ⟨w5.next, 0, none⟩) ∧ ev t (.tmp 15) = .int .i64 (i : Int) ∧ AOwnS (fun j => w7.next ≤ j) w10 3 1 (.slice (some ⟨b8, 0, none⟩) s.staff.length s.staff.length) s.staff.length ((midL s m2 i).flatMap icells) ∧ Keep w.next w w10 ∧ Fresh w10 ∧ MutS (fun j => w7.next ≤ j) w9 w10) (s.staff.length) ?_ ?_
  · refine ⟨0, by omega, by omega, rfl, ?_, ?_, ?_, ?_, ?_, ?_, ?_, ?_, A9, k9, f9, MutS.refl f9⟩ <;> simp -dsimp -implicitDefEqProofs (maxSteps := 2000000) (disch := first | assumption | omega | (simp only [nx]; omega) | ((repeat refine Fresh.push ?_ _); assumption) | (simp only [smA]; done) | (simp [oneCell, AW.next_push]; done) | fail) only [go_sem, Nat.reduceEqDiff, reduceIte, Nat.reduceAdd, Int.toNat_natCast, Nat.add_zero, Owes_true, e1, e3, e5, e7] <;> rfl
  rintro k t ds w10 ⟨i, hii, rfl, rfl, e1, e3, e5, e7, e13, e8, e14, e15, A10, k10, f10, m10⟩
  have Q10 := m10.own Q9 (by omega)
  have N10 := m10.own N9 (by have := N5.lt; omega)
  have gg10 : Grown w w10 := ⟨k10, f10⟩
  have q2 := Q10.cell (o := 2) (v := .slice (some ⟨b8, 0, none⟩) s.staff.length s.staff.length) rfl rfl
  have t2 := N10.cell (o := 2) (v := .int .i64 m2) rfl rfl
  by_cases hlt : (i : Int) < (s.staff.length : Int)
  case pos =>
    have hlt' : i < s.staff.length := by omega
    have hml := midL_len s m2 (i := i) (by omega)
    obtain ⟨bb, ebb, _, hcell⟩ := (show ∃ bb, (Value.slice (some ⟨b8, 0, none⟩) s.staff.length s.staff.length) = .slice (some ⟨bb, 0, none⟩) s.staff.length s.staff.length ∧ True ∧ ∀ (j : Nat) (y : Value), ((midL s m2 i).flatMap icells)[j]? = some y → w10.cell? ⟨bb, j, none⟩ = some y from by
      rcases A10 with ⟨_, q, _⟩ | ⟨b, r, e, a2, a3, a4, a5, a6, a7, a9, a8⟩
      · have := (str_staff hs).1; omega
      · exact ⟨b, e, trivial, fun j y hy => by simp only [AW.cell?, a6, getL_eq, hy, a9 _ (List.mem_of_getElem? hy)]⟩)
    injection ebb with ebb _ _
    injection ebb with ebb
    injection ebb with ebb _ _
    subst ebb
    have hcv : ((midL s m2 i).flatMap icells)[i]? = some (.int .i64 (staffF s i : Int)) := by
      rw [flat_icells, List.getElem?_map, List.getElem?_eq_getElem (by omega), midL_at s m2 hlt', ← W_at hlt', staff_val hs hlt']; rfl
    have a0 := hcell i _ hcv
    obtain ⟨b', e', _, w11, st, A11, m11, n11, ho11⟩ := aownS_store A10 f10 (by omega) (o := i) (by rw [icells_flat_len, hml]; exact hlt') (x := .int .i64 ((mixN (staffF s i) m2 8 : Nat) : Int)) rfl
    injection e' with e' _ _
    injection e' with e'
    injection e' with e' _ _
    subst e'
    rw [setL_ic, midL_set s m2 hlt'] at A11
    have hmx := mix_or (staffF s i) m2 8 (by omega)
    rw [show ((2 ^ 8 - 1 : Nat) : Int) = 255 from rfl] at hmx
    simp -dsimp -implicitDefEqProofs (maxSteps := 2000000) (disch := first | assumption | omega | (simp only [nx]; omega) | ((repeat refine Fresh.push ?_ _); assumption) | (simp only [smA]; done) | (simp [oneCell, AW.next_push]; done) | fail) only [go_sem, Nat.reduceEqDiff, reduceIte, Nat.reduceAdd, Int.toNat_natCast, Nat.add_zero, Owes_true, Tryz.results8, e1, e3, e5, e7, e13, e8, e14, e15, q2, t2, hlt, indexV_eq, Nat.mul_one, Nat.zero_add, a0, hmx, st]
    refine ⟨_, by omega, i + 1, by omega, rfl, rfl, by (simp -dsimp -implicitDefEqProofs (maxSteps := 2000000) (disch := first | assumption | omega | (simp only [nx]; omega) | ((repeat refine Fresh.push ?_ _); assumption) | (simp only [smA]; done) | (simp [oneCell, AW.next_push]; done) | fail) only [go_sem, Nat.reduceEqDiff, reduceIte, Nat.reduceAdd, Int.toNat_natCast, Nat.add_zero, Owes_true, e1]; try rfl), by (simp -dsimp -implicitDefEqProofs (maxSteps := 2000000) (disch := first | assumption | omega | (simp only [nx]; omega) | ((repeat refine Fresh.push ?_ _); assumption) | (simp only [smA]; done) | (simp [oneCell, AW.next_push]; done) | fail) only [go_sem, Nat.reduceEqDiff, reduceIte, Nat.reduceAdd, Int.toNat_natCast, Nat.add_zero, Owes_true, e3]; try rfl), by (simp -dsimp -implicitDefEqProofs (maxSteps := 2000000) (disch := first | assumption | omega | (simp only [nx]; omega) | ((repeat refine Fresh.push ?_ _); assumption) | (simp only [smA]; done) | (simp [oneCell, AW.next_push]; done) | fail) only [go_sem, Nat.reduceEqDiff, reduceIte, Nat.reduceAdd, Int.toNat_natCast, Nat.add_zero, Owes_true, e5]; try rfl), by (simp -dsimp -implicitDefEqProofs (maxSteps := 2000000) (disch := first | assumption | omega | (simp only [nx]; omega) | ((repeat refine Fresh.push ?_ _); assumption) | (simp only [smA]; done) | (simp [oneCell, AW.next_push]; done) | fail) only [go_sem, Nat.reduceEqDiff, reduceIte, Nat.reduceAdd, Int.toNat_natCast, Nat.add_zero, Owes_true, e7]; try rfl), by (simp -dsimp -implicitDefEqProofs (maxSteps := 2000000) (disch := first | assumption | omega | (simp only [nx]; omega) | ((repeat refine Fresh.push ?_ _); assumption) | (simp only [smA]; done) | (simp [oneCell, AW.next_push]; done) | fail) only [go_sem, Nat.reduceEqDiff, reduceIte, Nat.reduceAdd, Int.toNat_natCast, Nat.add_zero, Owes_true, e13]; try rfl), by (simp -dsimp -implicitDefEqProofs (maxSteps := 2000000) (disch := first | assumption | omega | (simp only [nx]; omega) | ((repeat refine Fresh.push ?_ _); assumption) | (simp only [smA]; done) | (simp [oneCell, AW.next_push]; done) | fail) only [go_sem, Nat.reduceEqDiff, reduceIte, Nat.reduceAdd, Int.toNat_natCast, Nat.add_zero, Owes_true, e8]; try rfl), by (simp -dsimp -implicitDefEqProofs (maxSteps := 2000000) (disch := first | assumption | omega | (simp only [nx]; omega) | ((repeat refine Fresh.push ?_ _); assumption) | (simp only [smA]; done) | (simp [oneCell, AW.next_push]; done) | fail) only [go_sem, Nat.reduceEqDiff, reduceIte, Nat.reduceAdd, Int.toNat_natCast, Nat.add_zero, Owes_true, e14]; try rfl), by (simp -dsimp -implicitDefEqProofs (maxSteps := 2000000) (disch := first | assumption | omega | (simp only [nx]; omega) | ((repeat refine Fresh.push ?_ _); assumption) | (simp only [smA]; done) | (simp [oneCell, AW.next_push]; done) | fail) only [go_sem, Nat.reduceEqDiff, reduceIte, Nat.reduceAdd, Int.toNat_natCast, Nat.add_zero, Owes_true, e15]; try rfl), A11, k10.trans (m11.keep (B := w.next) (fun j q => by have := gg7.1.next; omega) k10.next), m11.fresh, m10.trans m11 (fun j q => .inl q)⟩
  obtain rfl : i = s.staff.length := by omega
  have hml := midL_end s m2
  rw [hml] at A10
  have hS : StrAt w10 pR pG (some ⟨b8, 0, none⟩) cR cG s.staff.length (moreS s m2) := by
    have hA' := hA.grown gg10
    have hl2 := moreL_len s m2
    have hr : AOwn 0 w10 3 1 (.slice (some ⟨b8, 0, none⟩) s.staff.length s.staff.length) (moreL s m2).length ((moreL s m2).flatMap icells) := by rw [hl2]; exact A10.own
    have hr := hr.arr icells_len (by omega)
    refine ⟨hA'.rooms, hA'.gates, ?_⟩
    show ArrOf w10 1 icells (.slice (some ⟨b8, 0, none⟩) (moreL s m2).length s.staff.length) (moreL s m2)
    rw [hl2]
    exact hr
  have hE3 := EnterV_ok (moreS s m2) pR pG (some ⟨b8, 0, none⟩) cR cG s.staff.length (g : Int) w10 f10 hS
  have hsl2 : (moreS s m2).staff.length = s.staff.length := moreL_len s m2
  have hask3 := askN_more hask (moreS_ok hs m2) hsl2 hg2
  have hEn3 := entN_is hask3
  have hin2 := (endR_in hs (mixN g m1 s.staff.length)).1
  have hin3 := (endR_in (moreS_ok hs m2) g).1
  have hs1 : subB (endR s (mixN g m1 s.staff.length) 1) (endR s g 1) = true := subB_iff.2 (endR_mono (MoreS.refl s) hs (mixN_sub m1 (by omega) hg2))
  have hs2 : subB (endR (moreS s m2) g 1) (endR s g 1) = true := subB_iff.2 (endR_mono (moreS_more hs m2) (moreS_ok hs m2) (Sub.refl g))
  have hlq := loadAll Q10 (n := 3) rfl (by simp [oneCell])
  unfold strC at hE3
  rw [hsl2] at hE3
  rw [show (moreS s m2).rooms = s.rooms from rfl, show (moreS s m2).gates = s.gates from rfl] at hE3
  simp -dsimp -implicitDefEqProofs (maxSteps := 2000000) (disch := first | assumption | omega | (simp only [nx]; omega) | ((repeat refine Fresh.push ?_ _); assumption) | (simp only [smA]; done) | (simp [oneCell, AW.next_push]; done) | fail) only [go_sem, Nat.reduceEqDiff, reduceIte, Nat.reduceAdd, Int.toNat_natCast, Nat.add_zero, Owes_true, Tryz.results8, e1, e3, e5, e7, e13, e8, e14, e15, q2, hlt, hlq, Nat.zero_add]
  apply callV_of (e := rfl)
  · exact hE3
  rintro _ w11 ⟨rfl, g11⟩
  simp -dsimp -implicitDefEqProofs (maxSteps := 2000000) (disch := first | assumption | omega | (simp only [nx]; omega) | ((repeat refine Fresh.push ?_ _); assumption) | (simp only [smA]; done) | (simp [oneCell, AW.next_push]; done) | fail) only [go_sem, Nat.reduceEqDiff, reduceIte, Nat.reduceAdd, Int.toNat_natCast, Nat.add_zero, Owes_true, Tryz.results8, hask3, hEn3, e7, e13, e8]
  apply callV_of (e := rfl)
  · exact in_ok _ _ (by omega) (by omega) w11
  rintro _ _ ⟨rfl, rfl⟩
  simp -dsimp -implicitDefEqProofs (maxSteps := 2000000) (disch := first | assumption | omega | (simp only [nx]; omega) | ((repeat refine Fresh.push ?_ _); assumption) | (simp only [smA]; done) | (simp [oneCell, AW.next_push]; done) | fail) only [go_sem, Nat.reduceEqDiff, reduceIte, Nat.reduceAdd, Int.toNat_natCast, Nat.add_zero, Owes_true, Tryz.results8, hs1, e7, e13, e8]
  apply callV_of (e := rfl)
  · exact in_ok _ _ (by omega) (by omega) w11
  rintro _ _ ⟨rfl, rfl⟩
  simp -dsimp -implicitDefEqProofs (maxSteps := 2000000) (disch := first | assumption | omega | (simp only [nx]; omega) | ((repeat refine Fresh.push ?_ _); assumption) | (simp only [smA]; done) | (simp [oneCell, AW.next_push]; done) | fail) only [go_sem, Nat.reduceEqDiff, reduceIte, Nat.reduceAdd, Int.toNat_natCast, Nat.add_zero, Owes_true, Tryz.results8, hs2]
  apply callV_of (e := rfl)
  · exact callT_told (Q := fun v w' => v = .bool true ∧ w11 = w') (v := .bool true) (w' := w11) rfl ⟨rfl, rfl⟩
  rintro _ _ ⟨rfl, rfl⟩
  simp -dsimp -implicitDefEqProofs (maxSteps := 2000000) (disch := first | assumption | omega | (simp only [nx]; omega) | ((repeat refine Fresh.push ?_ _); assumption) | (simp only [smA]; done) | (simp [oneCell, AW.next_push]; done) | fail) only [go_sem, Nat.reduceEqDiff, reduceIte, Nat.reduceAdd, Int.toNat_natCast, Nat.add_zero, Owes_true, Tryz.results8]
end Go.Proofs

namespace Go.Proofs
open Go Go.RowKit Go.Sim
set_option maxRecDepth 100000
def Tryz.s95 : SC := (.seq (.ops false [⟨⟨(some 4),.assign (.const (.int .i64 0)),3,"",⟨[]⟩,none⟩,none,false⟩]) (.seq (.ops false [⟨⟨(some 5),.move (.tmp 0),77,"",⟨[]⟩,none⟩,none,false⟩,⟨⟨(some 6),.call ⟨.value (.func 98),⟨[(.tmp 5)]⟩,⟨[77]⟩⟩,3,"",⟨[]⟩,none⟩,none,false⟩,⟨⟨(some 7),.move (.tmp 1),77,"",⟨[]⟩,none⟩,none,false⟩,⟨⟨(some 8),.call ⟨.value (.func 98),⟨[(.tmp 7)]⟩,⟨[77]⟩⟩,3,"",⟨[]⟩,none⟩,none,false⟩,⟨⟨(some 9),.call ⟨.value (.func 97),⟨[(.tmp 6),(.tmp 8)]⟩,⟨[3,3]⟩⟩,3,"",⟨[]⟩,none⟩,none,false⟩,⟨⟨(some 10),.move (.tmp 0),77,"",⟨[]⟩,none⟩,none,false⟩,⟨⟨(some 11),.move (.tmp 1),77,"",⟨[]⟩,none⟩,none,false⟩,⟨⟨(some 12),.call ⟨.value (.func 99),⟨[(.tmp 10),(.tmp 11)]⟩,⟨[77,77]⟩⟩,3,"",⟨[]⟩,none⟩,none,false⟩,⟨⟨(some 13),.buildSlice 24 2 ⟨[(0,(.tmp 9)),(1,(.tmp 12))]⟩,24,"",⟨[]⟩,none⟩,none,false⟩,⟨⟨(some 14),.call ⟨.value (.func 96),⟨[(.tmp 13)]⟩,⟨[24]⟩⟩,3,"",⟨[]⟩,none⟩,none,false⟩,⟨⟨(some 4),.assign (.tmp 14),3,"",⟨[]⟩,none⟩,none,false⟩]) .ret))
def Tryz.s96 : SC := (.seq (.ops false [⟨⟨(some 2),.assign (.const (.int .i64 0)),3,"",⟨[]⟩,none⟩,none,false⟩]) (.seq (.ops false [⟨⟨(some 3),.assign (.const (.int .i64 0)),3,"",⟨[]⟩,none⟩,none,false⟩]) (.seq (.seq (.ops false [⟨⟨(some 6),.move (.tmp 0),24,"",⟨[]⟩,none⟩,none,false⟩,⟨⟨(some 7),.call ⟨.builtin .len,⟨[(.tmp 6)]⟩,⟨[24]⟩⟩,3,"",⟨[]⟩,none⟩,none,false⟩,⟨⟨(some 8),.move (.const (.int .i64 0)),3,"",⟨[]⟩,none⟩,none,false⟩]) (.block 0 (.loop (.seq (.ops false [⟨⟨(some 9),.binOp .lss 3 (.tmp 8) (.tmp 7) 3,0,"",⟨[]⟩,none⟩,none,false⟩]) (.seq (.cond (.tmp 9) .skip (.exit 0)) (.seq (.block 1 (.seq (.ops false [⟨⟨(some 10),.indexAddr 24 (.tmp 6) (.tmp 8),0,"",⟨[]⟩,none⟩,none,false⟩,⟨⟨(some 11),.load 3 (.tmp 10),3,"",⟨[]⟩,none⟩,none,false⟩,⟨⟨(some 5),.assign (.tmp 11),3,"",⟨[]⟩,none⟩,none,false⟩]) (.seq (.ops false [⟨⟨(some 12),.move (.tmp 5),3,"",⟨[]⟩,none⟩,none,false⟩,⟨⟨(some 13),.move (.tmp 3),3,"",⟨[]⟩,none⟩,none,false⟩,⟨⟨(some 14),.binOp .neq 3 (.tmp 12) (.tmp 13) 3,4,"",⟨[]⟩,none⟩,none,false⟩]) (.cond (.tmp 14) (.seq (.ops false [⟨⟨(some 15),.move (.tmp 5),3,"",⟨[]⟩,none⟩,none,false⟩,⟨⟨(some 2),.assign (.tmp 15),3,"",⟨[]⟩,none⟩,none,false⟩]) .ret) .skip)))) (.ops false [⟨⟨(some 16),.binOp .add 3 (.tmp 8) (.const (.int .i64 1)) 3,3,"",⟨[]⟩,none⟩,none,false⟩,⟨⟨(some 8),.move (.tmp 16),3,"",⟨[]⟩,none⟩,none,false⟩]))))))) (.seq (.ops false [⟨⟨(some 17),.move (.tmp 3),3,"",⟨[]⟩,none⟩,none,false⟩,⟨⟨(some 2),.assign (.tmp 17),3,"",⟨[]⟩,none⟩,none,false⟩]) .ret))))
def Tryz.s97 : SC := (.seq (.ops false [⟨⟨(some 4),.assign (.const (.int .i64 0)),3,"",⟨[]⟩,none⟩,none,false⟩]) (.seq (.ops false [⟨⟨(some 7),.move (.tmp 0),3,"",⟨[]⟩,none⟩,none,false⟩,⟨⟨(some 8),.call ⟨.value (.func 117),⟨[(.tmp 7)]⟩,⟨[3]⟩⟩,4,"",⟨[]⟩,none⟩,none,false⟩,⟨⟨(some 5),.assign (.tmp 8),4,"",⟨[]⟩,none⟩,none,false⟩]) (.seq (.ops false [⟨⟨(some 9),.move (.tmp 1),3,"",⟨[]⟩,none⟩,none,false⟩,⟨⟨(some 10),.call ⟨.value (.func 117),⟨[(.tmp 9)]⟩,⟨[3]⟩⟩,4,"",⟨[]⟩,none⟩,none,false⟩,⟨⟨(some 6),.assign (.tmp 10),4,"",⟨[]⟩,none⟩,none,false⟩]) (.seq (.seq (.ops false [⟨⟨(some 11),.move (.tmp 5),4,"",⟨[]⟩,none⟩,none,false⟩]) (.cond (.tmp 11) (.seq (.seq (.ops false [⟨⟨(some 12),.move (.tmp 6),4,"",⟨[]⟩,none⟩,none,false⟩]) (.cond (.tmp 12) (.seq (.ops false [⟨⟨(some 4),.assign (.const (.int .i64 0)),3,"",⟨[]⟩,none⟩,none,false⟩]) .ret) .skip)) (.seq (.ops false [⟨⟨(some 4),.assign (.const (.int .i64 (-1))),3,"",⟨[]⟩,none⟩,none,false⟩]) .ret)) .skip)) (.seq (.seq (.ops false [⟨⟨(some 13),.move (.tmp 6),4,"",⟨[]⟩,none⟩,none,false⟩]) (.cond (.tmp 13) (.seq (.ops false [⟨⟨(some 4),.assign (.const (.int .i64 1)),3,"",⟨[]⟩,none⟩,none,false⟩]) .ret) .skip)) (.seq (.seq (.ops false [⟨⟨(some 14),.move (.tmp 0),3,"",⟨[]⟩,none⟩,none,false⟩,⟨⟨(some 15),.move (.tmp 1),3,"",⟨[]⟩,none⟩,none,false⟩,⟨⟨(some 16),.binOp .lss 3 (.tmp 14) (.tmp 15) 3,4,"",⟨[]⟩,none⟩,none,false⟩]) (.cond (.tmp 16) (.seq (.ops false [⟨⟨(some 4),.assign (.const (.int .i64 (-1))),3,"",⟨[]⟩,none⟩,none,false⟩]) .ret) .skip)) (.seq (.seq (.ops false [⟨⟨(some 17),.move (.tmp 0),3,"",⟨[]⟩,none⟩,none,false⟩,⟨⟨(some 18),.move (.tmp 1),3,"",⟨[]⟩,none⟩,none,false⟩,⟨⟨(some 19),.binOp .gtr 3 (.tmp 17) (.tmp 18) 3,4,"",⟨[]⟩,none⟩,none,false⟩]) (.cond (.tmp 19) (.seq (.ops false [⟨⟨(some 4),.assign (.const (.int .i64 1)),3,"",⟨[]⟩,none⟩,none,false⟩]) .ret) .skip)) (.seq (.ops false [⟨⟨(some 4),.assign (.const (.int .i64 0)),3,"",⟨[]⟩,none⟩,none,false⟩]) .ret))))))))
def Tryz.s99 : SC := (.seq (.ops false [⟨⟨(some 4),.assign (.const (.int .i64 0)),3,"",⟨[]⟩,none⟩,none,false⟩]) (.seq (.ops false [⟨⟨(some 7),.move (.tmp 0),77,"",⟨[]⟩,none⟩,none,false⟩,⟨⟨(some 8),.call ⟨.value (.func 119),⟨[(.tmp 7)]⟩,⟨[77]⟩⟩,4,"",⟨[]⟩,none⟩,none,false⟩,⟨⟨(some 5),.assign (.tmp 8),4,"",⟨[]⟩,none⟩,none,false⟩]) (.seq (.ops false [⟨⟨(some 9),.move (.tmp 1),77,"",⟨[]⟩,none⟩,none,false⟩,⟨⟨(some 10),.call ⟨.value (.func 119),⟨[(.tmp 9)]⟩,⟨[77]⟩⟩,4,"",⟨[]⟩,none⟩,none,false⟩,⟨⟨(some 6),.assign (.tmp 10),4,"",⟨[]⟩,none⟩,none,false⟩]) (.seq (.seq (.ops false [⟨⟨(some 11),.move (.tmp 5),4,"",⟨[]⟩,none⟩,none,false⟩]) (.cond (.tmp 11) (.seq (.seq (.ops false [⟨⟨(some 12),.move (.tmp 6),4,"",⟨[]⟩,none⟩,none,false⟩]) (.cond (.tmp 12) (.seq (.ops false [⟨⟨(some 4),.assign (.const (.int .i64 0)),3,"",⟨[]⟩,none⟩,none,false⟩]) .ret) .skip)) (.seq (.ops false [⟨⟨(some 4),.assign (.const (.int .i64 (-1))),3,"",⟨[]⟩,none⟩,none,false⟩]) .ret)) .skip)) (.seq (.seq (.ops false [⟨⟨(some 13),.move (.tmp 6),4,"",⟨[]⟩,none⟩,none,false⟩]) (.cond (.tmp 13) (.seq (.ops false [⟨⟨(some 4),.assign (.const (.int .i64 1)),3,"",⟨[]⟩,none⟩,none,false⟩]) .ret) .skip)) (.seq (.seq (.ops false [⟨⟨(some 14),.move (.tmp 0),77,"",⟨[]⟩,none⟩,none,false⟩,⟨⟨(some 15),.move (.tmp 1),77,"",⟨[]⟩,none⟩,none,false⟩,⟨⟨(some 16),.binOp .lss 77 (.tmp 14) (.tmp 15) 77,4,"",⟨[]⟩,none⟩,none,false⟩]) (.cond (.tmp 16) (.seq (.ops false [⟨⟨(some 4),.assign (.const (.int .i64 (-1))),3,"",⟨[]⟩,none⟩,none,false⟩]) .ret) .skip)) (.seq (.seq (.ops false [⟨⟨(some 17),.move (.tmp 0),77,"",⟨[]⟩,none⟩,none,false⟩,⟨⟨(some 18),.move (.tmp 1),77,"",⟨[]⟩,none⟩,none,false⟩,⟨⟨(some 19),.binOp .gtr 77 (.tmp 17) (.tmp 18) 77,4,"",⟨[]⟩,none⟩,none,false⟩]) (.cond (.tmp 19) (.seq (.ops false [⟨⟨(some 4),.assign (.const (.int .i64 1)),3,"",⟨[]⟩,none⟩,none,false⟩]) .ret) .skip)) (.seq (.ops false [⟨⟨(some 4),.assign (.const (.int .i64 0)),3,"",⟨[]⟩,none⟩,none,false⟩]) .ret))))))))
def Tryz.s117 : SC := (.seq (.ops false [⟨⟨(some 2),.assign (.const (.bool false)),4,"",⟨[]⟩,none⟩,none,false⟩]) (.seq (.ops false [⟨⟨(some 3),.move (.tmp 0),3,"",⟨[]⟩,none⟩,none,false⟩,⟨⟨(some 4),.move (.tmp 0),3,"",⟨[]⟩,none⟩,none,false⟩,⟨⟨(some 5),.binOp .neq 3 (.tmp 3) (.tmp 4) 3,4,"",⟨[]⟩,none⟩,none,false⟩,⟨⟨(some 2),.assign (.tmp 5),4,"",⟨[]⟩,none⟩,none,false⟩]) .ret))
def Tryz.s119 : SC := (.seq (.ops false [⟨⟨(some 2),.assign (.const (.bool false)),4,"",⟨[]⟩,none⟩,none,false⟩]) (.seq (.ops false [⟨⟨(some 3),.move (.tmp 0),77,"",⟨[]⟩,none⟩,none,false⟩,⟨⟨(some 4),.move (.tmp 0),77,"",⟨[]⟩,none⟩,none,false⟩,⟨⟨(some 5),.binOp .neq 77 (.tmp 3) (.tmp 4) 77,4,"",⟨[]⟩,none⟩,none,false⟩,⟨⟨(some 2),.assign (.tmp 5),4,"",⟨[]⟩,none⟩,none,false⟩]) .ret))
theorem Tryz.s95_eq : Tryz.f95.body.map sOf = some Tryz.s95 := by kernel_rfl
theorem Tryz.s96_eq : Tryz.f96.body.map sOf = some Tryz.s96 := by kernel_rfl
theorem Tryz.s97_eq : Tryz.f97.body.map sOf = some Tryz.s97 := by kernel_rfl
theorem Tryz.s99_eq : Tryz.f99.body.map sOf = some Tryz.s99 := by kernel_rfl
theorem Tryz.s117_eq : Tryz.f117.body.map sOf = some Tryz.s117 := by kernel_rfl
theorem Tryz.s119_eq : Tryz.f119.body.map sOf = some Tryz.s119 := by kernel_rfl
end Go.Proofs

namespace Go.Sim
open Go Go.RowKit
theorem calls_flat {P : Program} (hP : Fit P) (hfol : P.follows .mixedOrders = true) {told : ToldF} (ht : ∀ N, ToldOk P N told) {f : FuncId} {l : List Value} {v : Value} (hno : told f (l.toArray ++ #[]) .empty = none) (hl : flat.flats 6 l = true) (hv : flat 6 v = true)
    (h : CallT P told (.fn (.func f) #[]) l.toArray .empty fun u _ => u = v) (W : World) : Calls P f l.toArray W fun e W' => e = .returned v ∧ BelowD W.heap.size W W' := by
  obtain ⟨N, u, w1, hh, rfl⟩ := h
  have h1 := hh N (N + 1) (Nat.le_refl _) (by omega)
  have hno' : told f l.toArray .empty = none := by simpa using hno
  simp only [acall, Array.append_empty, hno'] at h1
  intro cs
  have ha : ARel (fun _ => none) l.toArray l.toArray := ARel.iff.2 (by simpa using flats_self (flat_self 6) hl _)
  obtain ⟨σ', v', W', fr, s, hf, hlv, e, r⟩ := enter_leaves hP hfol (call_ok hP hfol (ht W.heap.size) N) (call_pan hP hfol (ht W.heap.size) N) h1 cs (WRel.empty W) (args' := l.toArray) ha
  have := flat_eq 6 u hv σ' v' r
  subst this
  exact ⟨.returned v', W', fr, ⟨rfl, e.below⟩, s, hf, hlv⟩
theorem grown_of {W W' : World} (h : BelowD W.heap.size W W') : ∃ q os, W' = Go.Sort.grow (W.drewN q) os := by
  obtain ⟨⟨h1, h2, h3, h4, h5⟩, h6⟩ := h
  refine ⟨W'.drawn - W.drawn, W'.heap.extract W.heap.size W'.heap.size, ?_⟩
  obtain ⟨hp, tp, dr, os, out⟩ := W
  obtain ⟨hp', tp', dr', os', out'⟩ := W'
  simp only at *
  subst h1 h2 h3
  have e1 : hp' = hp ++ hp'.extract hp.size hp'.size := by
    apply Array.ext_getElem?
    intro k
    rw [Array.getElem?_append]
    split
    · rename_i hk
      exact h5 k hk
    · rename_i hk
      rw [Array.getElem?_extract]
      split
      · congr 1; omega
      · rename_i hk2
        rw [Array.getElem?_eq_none (by omega)]
  have e2 : dr + (dr' - dr) = dr' := by omega
  simp only [Go.Sort.grow, World.drewN, ← e1, e2]
end Go.Sim

namespace Go.Proofs
open Go Go.RowKit Go.Sim
set_option maxRecDepth 100000
def Tryz.T0c : ToldF := toldTab Tryz.lenTab (toldTab Tryz.popTab (toldTrue 21 fun _ _ _ => none))
def cmpI (a b : Int) : Int := if a < b then -1 else if b < a then 1 else 0
theorem isNaN_ok (x : Int) (w : AW) : CallT Tryz.prog Tryz.T0c (.fn (.func 117) #[]) #[.int .i64 x] w (Ret (.bool false) fun w' => w = w') := by
  have d1 : decide (x = x) = true := decide_eq_true rfl
  refine callT_code rfl Tryz.func117 rfl Tryz.s117_eq rfl ?_
  unfold Tryz.s117
  simp -dsimp -implicitDefEqProofs (maxSteps := 2000000) (disch := first | assumption | omega | (simp only [nx]; omega) | ((repeat refine Fresh.push ?_ _); assumption) | (simp only [smA]; done) | (simp [oneCell, AW.next_push]; done) | fail) only [go_sem, Nat.reduceEqDiff, reduceIte, Nat.reduceAdd, Int.toNat_natCast, Nat.add_zero, Owes_true, Tryz.results117, d1]
  exact ⟨rfl, rfl⟩
theorem isNaNP_ok (x : Int) (w : AW) : CallT Tryz.prog Tryz.T0c (.fn (.func 119) #[]) #[.int .i64 x] w (Ret (.bool false) fun w' => w = w') := by
  have d1 : decide (x = x) = true := decide_eq_true rfl
  refine callT_code rfl Tryz.func119 rfl Tryz.s119_eq rfl ?_
  unfold Tryz.s119
  simp -dsimp -implicitDefEqProofs (maxSteps := 2000000) (disch := first | assumption | omega | (simp only [nx]; omega) | ((repeat refine Fresh.push ?_ _); assumption) | (simp only [smA]; done) | (simp [oneCell, AW.next_push]; done) | fail) only [go_sem, Nat.reduceEqDiff, reduceIte, Nat.reduceAdd, Int.toNat_natCast, Nat.add_zero, Owes_true, Tryz.results119, d1]
  exact ⟨rfl, rfl⟩
theorem compare_ok (a b : Int) (w : AW) : CallT Tryz.prog Tryz.T0c (.fn (.func 97) #[]) #[.int .i64 a, .int .i64 b] w (Ret (.int .i64 (cmpI a b)) fun w' => w = w') := by
  refine callT_code rfl Tryz.func97 rfl Tryz.s97_eq rfl ?_
  unfold Tryz.s97
  simp -dsimp -implicitDefEqProofs (maxSteps := 2000000) (disch := first | assumption | omega | (simp only [nx]; omega) | ((repeat refine Fresh.push ?_ _); assumption) | (simp only [smA]; done) | (simp [oneCell, AW.next_push]; done) | fail) only [go_sem, Nat.reduceEqDiff, reduceIte, Nat.reduceAdd, Int.toNat_natCast, Nat.add_zero, Owes_true, Tryz.results97]
  apply callV_of (e := rfl)
  · exact isNaN_ok _ w
  rintro _ _ ⟨rfl, rfl⟩
  simp -dsimp -implicitDefEqProofs (maxSteps := 2000000) (disch := first | assumption | omega | (simp only [nx]; omega) | ((repeat refine Fresh.push ?_ _); assumption) | (simp only [smA]; done) | (simp [oneCell, AW.next_push]; done) | fail) only [go_sem, Nat.reduceEqDiff, reduceIte, Nat.reduceAdd, Int.toNat_natCast, Nat.add_zero, Owes_true, Tryz.results97]
  apply callV_of (e := rfl)
  · exact isNaN_ok _ w
  rintro _ _ ⟨rfl, rfl⟩
  by_cases h1 : a < b
  · simp -dsimp -implicitDefEqProofs (maxSteps := 2000000) (disch := first | assumption | omega | (simp only [nx]; omega) | ((repeat refine Fresh.push ?_ _); assumption) | (simp only [smA]; done) | (simp [oneCell, AW.next_push]; done) | fail) only [go_sem, Nat.reduceEqDiff, reduceIte, Nat.reduceAdd, Int.toNat_natCast, Nat.add_zero, Owes_true, Tryz.results97, h1]
    exact ⟨by unfold cmpI; rw [if_pos h1], rfl⟩
  by_cases h2 : b < a
  · have h2' : a > b := h2
    simp -dsimp -implicitDefEqProofs (maxSteps := 2000000) (disch := first | assumption | omega | (simp only [nx]; omega) | ((repeat refine Fresh.push ?_ _); assumption) | (simp only [smA]; done) | (simp [oneCell, AW.next_push]; done) | fail) only [go_sem, Nat.reduceEqDiff, reduceIte, Nat.reduceAdd, Int.toNat_natCast, Nat.add_zero, Owes_true, Tryz.results97, h1, h2, h2']
    exact ⟨by unfold cmpI; rw [if_neg h1, if_pos h2], rfl⟩
  · have h2' : ¬ a > b := h2
    simp -dsimp -implicitDefEqProofs (maxSteps := 2000000) (disch := first | assumption | omega | (simp only [nx]; omega) | ((repeat refine Fresh.push ?_ _); assumption) | (simp only [smA]; done) | (simp [oneCell, AW.next_push]; done) | fail) only [go_sem, Nat.reduceEqDiff, reduceIte, Nat.reduceAdd, Int.toNat_natCast, Nat.add_zero, Owes_true, Tryz.results97, h1, h2, h2']
    exact ⟨by unfold cmpI; rw [if_neg h1, if_neg h2], rfl⟩
theorem compareP_ok (a b : Int) (w : AW) : CallT Tryz.prog Tryz.T0c (.fn (.func 99) #[]) #[.int .i64 a, .int .i64 b] w (Ret (.int .i64 (cmpI a b)) fun w' => w = w') := by
  refine callT_code rfl Tryz.func99 rfl Tryz.s99_eq rfl ?_
  unfold Tryz.s99
  simp -dsimp -implicitDefEqProofs (maxSteps := 2000000) (disch := first | assumption | omega | (simp only [nx]; omega) | ((repeat refine Fresh.push ?_ _); assumption) | (simp only [smA]; done) | (simp [oneCell, AW.next_push]; done) | fail) only [go_sem, Nat.reduceEqDiff, reduceIte, Nat.reduceAdd, Int.toNat_natCast, Nat.add_zero, Owes_true, Tryz.results99]
  apply callV_of (e := rfl)
  · exact isNaNP_ok _ w
  rintro _ _ ⟨rfl, rfl⟩
  simp -dsimp -implicitDefEqProofs (maxSteps := 2000000) (disch := first | assumption | omega | (simp only [nx]; omega) | ((repeat refine Fresh.push ?_ _); assumption) | (simp only [smA]; done) | (simp [oneCell, AW.next_push]; done) | fail) only [go_sem, Nat.reduceEqDiff, reduceIte, Nat.reduceAdd, Int.toNat_natCast, Nat.add_zero, Owes_true, Tryz.results99]
  apply callV_of (e := rfl)
  · exact isNaNP_ok _ w
  rintro _ _ ⟨rfl, rfl⟩
  by_cases h1 : a < b
  · simp -dsimp -implicitDefEqProofs (maxSteps := 2000000) (disch := first | assumption | omega | (simp only [nx]; omega) | ((repeat refine Fresh.push ?_ _); assumption) | (simp only [smA]; done) | (simp [oneCell, AW.next_push]; done) | fail) only [go_sem, Nat.reduceEqDiff, reduceIte, Nat.reduceAdd, Int.toNat_natCast, Nat.add_zero, Owes_true, Tryz.results99, h1]
    exact ⟨by unfold cmpI; rw [if_pos h1], rfl⟩
  by_cases h2 : b < a
  · have h2' : a > b := h2
    simp -dsimp -implicitDefEqProofs (maxSteps := 2000000) (disch := first | assumption | omega | (simp only [nx]; omega) | ((repeat refine Fresh.push ?_ _); assumption) | (simp only [smA]; done) | (simp [oneCell, AW.next_push]; done) | fail) only [go_sem, Nat.reduceEqDiff, reduceIte, Nat.reduceAdd, Int.toNat_natCast, Nat.add_zero, Owes_true, Tryz.results99, h1, h2, h2']
    exact ⟨by unfold cmpI; rw [if_neg h1, if_pos h2], rfl⟩
  · have h2' : ¬ a > b := h2
    simp -dsimp -implicitDefEqProofs (maxSteps := 2000000) (disch := first | assumption | omega | (simp only [nx]; omega) | ((repeat refine Fresh.push ?_ _); assumption) | (simp only [smA]; done) | (simp [oneCell, AW.next_push]; done) | fail) only [go_sem, Nat.reduceEqDiff, reduceIte, Nat.reduceAdd, Int.toNat_natCast, Nat.add_zero, Owes_true, Tryz.results99, h1, h2, h2']
    exact ⟨by unfold cmpI; rw [if_neg h1, if_neg h2], rfl⟩
theorem sizeT_ok (x : Nat) (h : x < 64) (w : AW) : CallT Tryz.prog Tryz.T0c (.fn (.func 98) #[]) #[.int .i64 (x : Int)] w (Ret (.int .i64 (popN x : Int)) fun w' => w = w') := by
  refine callT_told (v := .int .i64 (popN x : Int)) (w' := w) ?_ ⟨rfl, rfl⟩
  show (match tabArg Tryz.popTab [.int Tryz.popTab.k (x : Int)] with | some x => some (Tryz.popTab.g x, w) | none => none) = _
  rw [tabArg_at (s := Tryz.popTab) (.inl rfl) h]
  rfl
def orI (a b : Int) : Int := if a = 0 then b else a
theorem or_ok (a b : Int) (bk : Nat) (w : AW) (h : Own w bk 3 [.int .i64 a, .int .i64 b]) : CallT Tryz.prog Tryz.T0c (.fn (.func 96) #[]) #[.slice (some ⟨bk, 0, none⟩) 2 2] w (Ret (.int .i64 (orI a b)) fun w' => w = w') := by
  have c0 := h.cell (o := 0) rfl rfl
  have c1 := h.cell (o := 1) rfl rfl
  refine callT_code rfl Tryz.func96 rfl Tryz.s96_eq rfl ?_
  unfold Tryz.s96
  simp -dsimp -implicitDefEqProofs (maxSteps := 2000000) (disch := first | assumption | omega | (simp only [nx]; omega) | ((repeat refine Fresh.push ?_ _); assumption) | (simp only [smA]; done) | (simp [oneCell, AW.next_push]; done) | fail) only [go_sem, Nat.reduceEqDiff, reduceIte, Nat.reduceAdd, Int.toNat_natCast, Nat.add_zero, Owes_true, Tryz.results96]
  refine loopR (fun k t ds w1 => ∃ i : Nat, i ≤ 2 ∧ k = 2 - i ∧ ds = [] ∧ ev t (.tmp 3) = .int .i64 0 ∧ ev t (.tmp 6) = .slice (some ⟨bk, 0, none⟩) 2 2 ∧ ev t (.tmp 7) = .int .i64 2 ∧ ev t (.tmp 8) = .int .i64 (i : Int) ∧ (1 ≤ i → a = 0) ∧ (2 ≤ i → b = 0) ∧ w = w1) (2) ?_ ?_
  · refine ⟨0, by omega, by omega, rfl, ?_, ?_, ?_, ?_, fun h => by omega, fun h => by omega, rfl⟩ <;> simp -dsimp -implicitDefEqProofs (maxSteps := 2000000) (disch := first | assumption | omega | (simp only [nx]; omega) | ((repeat refine Fresh.push ?_ _); assumption) | (simp only [smA]; done) | (simp [oneCell, AW.next_push]; done) | fail) only [go_sem, Nat.reduceEqDiff, reduceIte, Nat.reduceAdd, Int.toNat_natCast, Nat.add_zero, Owes_true] <;> rfl
  rintro k t ds w1 ⟨i, hii, rfl, rfl, e3, e6, e7, e8, hz, hw⟩
  obtain ⟨hz2, rfl⟩ := hw
  rcases Nat.lt_or_ge i 2 with hlt | hge
  case inr =>
    obtain rfl : i = 2 := by omega
    have hlI : ¬ ((2 : Nat) : Int) < 2 := by omega
    have ha := hz (by omega)
    have hb := hz2 (by omega)
    simp -dsimp -implicitDefEqProofs (maxSteps := 2000000) (disch := first | assumption | omega | (simp only [nx]; omega) | ((repeat refine Fresh.push ?_ _); assumption) | (simp only [smA]; done) | (simp [oneCell, AW.next_push]; done) | fail) only [go_sem, Nat.reduceEqDiff, reduceIte, Nat.reduceAdd, Int.toNat_natCast, Nat.add_zero, Owes_true, Tryz.results96, e3, e6, e7, e8, hlI]
    exact ⟨by rw [ha, hb]; rfl, rfl⟩
  have hlI : (i : Int) < 2 := by omega
  have hl0 : (i : Int) < ((2 : Nat) : Int) := by omega
  obtain ⟨v, hv⟩ : ∃ v, v = if i = 0 then a else b := ⟨_, rfl⟩
  have ci : w.cell? ⟨bk, i, none⟩ = some (.int .i64 v) := by
    rw [hv]
    rcases Nat.eq_zero_or_pos i with h0 | h0
    · rw [if_pos h0, h0]; exact c0
    · obtain h1 : i = 1 := by omega
      rw [if_neg (by omega), h1]; exact c1
  by_cases h0 : v = 0
  · have hd : decide (v = 0) = true := decide_eq_true h0
    simp -dsimp -implicitDefEqProofs (maxSteps := 2000000) (disch := first | assumption | omega | (simp only [nx]; omega) | ((repeat refine Fresh.push ?_ _); assumption) | (simp only [smA]; done) | (simp [oneCell, AW.next_push]; done) | fail) only [go_sem, Nat.reduceEqDiff, reduceIte, Nat.reduceAdd, Int.toNat_natCast, Nat.add_zero, Owes_true, Tryz.results96, e3, e6, e7, e8, hlI, hl0, indexV_eq, Nat.zero_add, Nat.mul_one, ci, hd]
    have n1 : 1 ≤ i + 1 → a = 0 := fun _ => by
      rcases Nat.eq_zero_or_pos i with q | q
      · rw [if_pos q] at hv; omega
      · exact hz q
    have n2 : 2 ≤ i + 1 → b = 0 := fun _ => by
      rw [if_neg (by omega)] at hv; omega
    refine ⟨_, by omega, i + 1, by omega, rfl, rfl, by (simp -dsimp -implicitDefEqProofs (maxSteps := 2000000) (disch := first | assumption | omega | (simp only [nx]; omega) | ((repeat refine Fresh.push ?_ _); assumption) | (simp only [smA]; done) | (simp [oneCell, AW.next_push]; done) | fail) only [go_sem, Nat.reduceEqDiff, reduceIte, Nat.reduceAdd, Int.toNat_natCast, Nat.add_zero, Owes_true, e3]; try rfl), by (simp -dsimp -implicitDefEqProofs (maxSteps := 2000000) (disch := first | assumption | omega | (simp only [nx]; omega) | ((repeat refine Fresh.push ?_ _); assumption) | (simp only [smA]; done) | (simp [oneCell, AW.next_push]; done) | fail) only [go_sem, Nat.reduceEqDiff, reduceIte, Nat.reduceAdd, Int.toNat_natCast, Nat.add_zero, Owes_true, e6]; try rfl), by (simp -dsimp -implicitDefEqProofs (maxSteps := 2000000) (disch := first | assumption | omega | (simp only [nx]; omega) | ((repeat refine Fresh.push ?_ _); assumption) | (simp only [smA]; done) | (simp [oneCell, AW.next_push]; done) | fail) only [go_sem, Nat.reduceEqDiff, reduceIte, Nat.reduceAdd, Int.toNat_natCast, Nat.add_zero, Owes_true, e7]; try rfl), by (simp -dsimp -implicitDefEqProofs (maxSteps := 2000000) (disch := first | assumption | omega | (simp only [nx]; omega) | ((repeat refine Fresh.push ?_ _); assumption) | (simp only [smA]; done) | (simp [oneCell, AW.next_push]; done) | fail) only [go_sem, Nat.reduceEqDiff, reduceIte, Nat.reduceAdd, Int.toNat_natCast, Nat.add_zero, Owes_true, e8]; try rfl), n1, n2, rfl⟩
  · have hd : decide (v = 0) = false := decide_eq_false h0
    simp -dsimp -implicitDefEqProofs (maxSteps := 2000000) (disch := first | assumption | omega | (simp only [nx]; omega) | ((repeat refine Fresh.push ?_ _); assumption) | (simp only [smA]; done) | (simp [oneCell, AW.next_push]; done) | fail) only [go_sem, Nat.reduceEqDiff, reduceIte, Nat.reduceAdd, Int.toNat_natCast, Nat.add_zero, Owes_true, Tryz.results96, e3, e6, e7, e8, hlI, hl0, indexV_eq, Nat.zero_add, Nat.mul_one, ci, hd]
    refine ⟨?_, rfl⟩
    unfold orI
    rcases Nat.eq_zero_or_pos i with q | q
    · rw [if_pos q] at hv; rw [if_neg (by omega), hv]
    · rw [if_neg (by omega)] at hv; rw [if_pos (hz q), hv]
theorem Tryz.bs24x2 (t : Tmps) (l : List (Nat × Operand)) : makes (prg Tryz.prog) t (.buildSlice 24 2 ⟨l⟩) = bsQ 3 2 1 [.int .i64 0, .int .i64 0] (l.map fun p => (p.1, ev t p.2)) := makes_bs Tryz.ty24 Tryz.ty3 rfl (by kernel_rfl)
theorem cmpN_is (x y : Nat) : orI (cmpI (popN x : Int) (popN y : Int)) (cmpI (x : Int) (y : Int)) = cmpN x y := by
  unfold orI cmpI cmpN
  repeat' split
  all_goals omega
theorem cmpSets_ok (x y : Nat) (hx : x < 64) (hy : y < 64) (w : AW) (f : Fresh w) : CallT Tryz.prog Tryz.T0c (.fn (.func 95) #[]) #[.int .i64 (x : Int), .int .i64 (y : Int)] w fun v _ => v = .int .i64 (cmpN x y) := by
  refine callT_code rfl Tryz.func95 rfl Tryz.s95_eq rfl ?_
  unfold Tryz.s95
  simp -dsimp -implicitDefEqProofs (maxSteps := 2000000) (disch := first | assumption | omega | (simp only [nx]; omega) | ((repeat refine Fresh.push ?_ _); assumption) | (simp only [smA]; done) | (simp [oneCell, AW.next_push]; done) | fail) only [go_sem, Nat.reduceEqDiff, reduceIte, Nat.reduceAdd, Int.toNat_natCast, Nat.add_zero, Owes_true, Tryz.results95]
  apply callV_of (e := rfl)
  · exact sizeT_ok x hx w
  rintro _ _ ⟨rfl, rfl⟩
  simp -dsimp -implicitDefEqProofs (maxSteps := 2000000) (disch := first | assumption | omega | (simp only [nx]; omega) | ((repeat refine Fresh.push ?_ _); assumption) | (simp only [smA]; done) | (simp [oneCell, AW.next_push]; done) | fail) only [go_sem, Nat.reduceEqDiff, reduceIte, Nat.reduceAdd, Int.toNat_natCast, Nat.add_zero, Owes_true, Tryz.results95]
  apply callV_of (e := rfl)
  · exact sizeT_ok y hy w
  rintro _ _ ⟨rfl, rfl⟩
  simp -dsimp -implicitDefEqProofs (maxSteps := 2000000) (disch := first | assumption | omega | (simp only [nx]; omega) | ((repeat refine Fresh.push ?_ _); assumption) | (simp only [smA]; done) | (simp [oneCell, AW.next_push]; done) | fail) only [go_sem, Nat.reduceEqDiff, reduceIte, Nat.reduceAdd, Int.toNat_natCast, Nat.add_zero, Owes_true, Tryz.results95]
  apply callV_of (e := rfl)
  · exact compare_ok _ _ w
  rintro _ _ ⟨rfl, rfl⟩
  simp -dsimp -implicitDefEqProofs (maxSteps := 2000000) (disch := first | assumption | omega | (simp only [nx]; omega) | ((repeat refine Fresh.push ?_ _); assumption) | (simp only [smA]; done) | (simp [oneCell, AW.next_push]; done) | fail) only [go_sem, Nat.reduceEqDiff, reduceIte, Nat.reduceAdd, Int.toNat_natCast, Nat.add_zero, Owes_true, Tryz.results95]
  apply callV_of (e := rfl)
  · exact compareP_ok _ _ w
  rintro _ _ ⟨rfl, rfl⟩
  simp -dsimp -implicitDefEqProofs (maxSteps := 2000000) (disch := first | assumption | omega | (simp only [nx]; omega) | ((repeat refine Fresh.push ?_ _); assumption) | (simp only [smA]; done) | (simp [oneCell, AW.next_push]; done) | fail) only [go_sem, Nat.reduceEqDiff, reduceIte, Nat.reduceAdd, Int.toNat_natCast, Nat.add_zero, Owes_true, Tryz.results95, Tryz.bs24x2, bsQ_21]
  apply callV_of (e := rfl)
  · exact or_ok _ _ w.next _ (Own.new f 3 [.int .i64 (cmpI (popN x : Int) (popN y : Int)), .int .i64 (cmpI (x : Int) (y : Int))])
  rintro _ _ ⟨rfl, rfl⟩
  simp -dsimp -implicitDefEqProofs (maxSteps := 2000000) (disch := first | assumption | omega | (simp only [nx]; omega) | ((repeat refine Fresh.push ?_ _); assumption) | (simp only [smA]; done) | (simp [oneCell, AW.next_push]; done) | fail) only [go_sem, Nat.reduceEqDiff, reduceIte, Nat.reduceAdd, Int.toNat_natCast, Nat.add_zero, Owes_true, Tryz.results95]
  rw [cmpN_is]
end Go.Proofs

namespace Go.Sim
open Go Go.RowKit
variable {P : Program} {N F : Nat}
inductive GDat where
  | flat (v : Value)
  | sl (n c : Nat) (cells : List GDat)
  | agg (ds : List GDat)
def matchCells (m : GDat → Value → Bool) (w : AW) (b : Nat) : List GDat → Nat → Bool
  | [], _ => true
  | d :: l, o => match w.cell? ⟨b, o, none⟩ with
    | some u => m d u && matchCells m w b l (o + 1)
    | none => false
def matchAll (m : GDat → Value → Bool) : List GDat → List Value → Bool
  | [], [] => true
  | d :: l, v :: r => m d v && matchAll m l r
  | _, _ => false
def zeroZ (w : AW) (b : Nat) : Bool :=
  match w.blk b with
  | some (.cells _ _ _ _ 0) | some (.given _) => true
  | _ => false
def matchV (w : AW) : Nat → GDat → Value → Bool
  | 0, _, _ => false
  | k + 1, d, v => match d, v with
    | .flat u, v => flat 6 u && same 12 u v
    | .sl n c cells, .slice (some ⟨b, o, none⟩) n' c' => Nat.beq n n' && Nat.beq c c' && Nat.blt 0 c && zeroZ w b && matchCells (matchV w k) w b cells o
    | .agg ds, .agg cs => matchAll (matchV w k) ds cs.toList
    | _, _ => false
def giveAll (g : GDat → AW → Value × AW) : List GDat → AW → List Value × AW
  | [], w => ([], w)
  | d :: l, w => match g d w with
    | (u, w1) => match giveAll g l w1 with
      | (us, w2) => (u :: us, w2)
def giveV : Nat → GDat → AW → Value × AW
  | 0, _, w => (undef, w)
  | k + 1, d, w => match d with
    | .flat u => (u, w)
    | .sl n c cells => match giveAll (giveV k) cells w with
      | (us, w1) => (.slice (some ⟨w1.next, 0, none⟩) n c, w1.push (.given us))
    | .agg ds => match giveAll (giveV k) ds w with
      | (us, w1) => (.agg us.toArray, w1)
def GiveOk (W : World) (m : GDat → Value → Bool) (g : GDat → AW → Value × AW) (σ : Emb) : Prop :=
  ∀ d v v', m d v = true → VRel σ v v' → ∀ (σ0 : Emb) (w0 : AW), WRel W.heap.size σ0 w0 W → ∃ σ1 : Emb, σ0.le σ1 ∧ WRel W.heap.size σ1 (g d w0).2 W ∧ VRel σ1 (g d w0).1 v'
theorem giveAll_ok {W : World} {m : GDat → Value → Bool} {g : GDat → AW → Value × AW} {σ : Emb} (h : GiveOk W m g σ) : ∀ (ds : List GDat) (vs vs' : List Value), matchAll m ds vs = true → LRel σ vs vs' → ∀ (σ0 : Emb) (w0 : AW), WRel W.heap.size σ0 w0 W →
    ∃ σ1 : Emb, σ0.le σ1 ∧ WRel W.heap.size σ1 (giveAll g ds w0).2 W ∧ LRel σ1 (giveAll g ds w0).1 vs'
  | [], [], vs', _, hr, σ0, w0, hw => by
    cases hr
    exact ⟨σ0, .refl _, hw, .nil⟩
  | d :: l, v :: r, vs', hm, hr, σ0, w0, hw => by
    cases hr with
    | cons h1 h2 =>
      simp only [matchAll, Bool.and_eq_true] at hm
      obtain ⟨σ1, a1, a2, a3⟩ := h d v _ hm.1 h1 σ0 w0 hw
      obtain ⟨σ2, b1, b2, b3⟩ := giveAll_ok h l r _ hm.2 h2 σ1 _ a2
      exact ⟨σ2, a1.trans b1, b2, .cons (a3.mono b1) b3⟩
  | [], _ :: _, _, h, _, _, _, _ => by simp [matchAll] at h
  | _ :: _, [], _, h, _, _, _, _ => by simp [matchAll] at h
theorem cells_list {W : World} {w : AW} {σ : Emb} {N : Nat} (hw : WRel N σ w W) {m : GDat → Value → Bool} {b : Nat} {x : Loc} (hb : σ b = some x) : ∀ (ds : List GDat) (o : Nat), matchCells m w b ds o = true →
    ∃ vs vs' : List Value, matchAll m ds vs = true ∧ LRel σ vs vs' ∧ vs'.length = ds.length ∧ ∀ (i : Nat) u, vs'[i]? = some u → W.cell? ⟨x.c, x.s + (o + i), none⟩ = some u
  | [], o, _ => ⟨[], [], rfl, .nil, rfl, fun i u h => by simp at h⟩
  | d :: l, o, h => by
    simp only [matchCells] at h
    split at h
    case h_2 => cases h
    rename_i u hu
    simp only [Bool.and_eq_true] at h
    obtain ⟨u', h1, h2, _⟩ := hw.cell hb hu
    obtain ⟨vs, vs', a1, a2, a3, a4⟩ := cells_list hw hb l (o + 1) h.2
    refine ⟨u :: vs, u' :: vs', by simp only [matchAll, Bool.and_eq_true]; exact ⟨h.1, a1⟩, .cons h2 a2, by simp [a3], fun i q hq => ?_⟩
    cases i with
    | zero => simp at hq; subst hq; exact h1
    | succ i => simp at hq; have := a4 i q hq; rw [show o + (i + 1) = o + 1 + i by omega]; exact this
theorem give_ok {W : World} {w : AW} {σ : Emb} (hw : WRel N σ w W) : ∀ k, GiveOk W (matchV w k) (giveV k) σ
  | 0 => fun d v v' h => by simp [matchV] at h
  | k + 1 => by
    have ih := give_ok hw k
    intro d v v' hm hr σ0 w0 h0
    unfold matchV at hm
    split at hm
    · rename_i u
      simp only [Bool.and_eq_true] at hm
      have := same_eq 12 _ _ hm.2
      subst this
      have e := flat_eq 6 _ hm.1 σ v' hr
      subst e
      exact ⟨σ0, .refl _, h0, flat_self 6 _ hm.1 σ0⟩
    · rename_i n c cells b o n' c'
      simp only [Bool.and_eq_true] at hm
      obtain ⟨⟨⟨⟨h1, h2⟩, h5⟩, h3⟩, h4⟩ := hm
      obtain rfl := Nat.eq_of_beq_eq_true h1
      obtain rfl := Nat.eq_of_beq_eq_true h2
      have hzx : ∀ x, σ b = some x → x.z = 0 := by
        intro x hx
        obtain ⟨_, q, hq, hl, hb⟩ := hw.dom b x hx
        unfold zeroZ at h3
        rw [hq] at h3
        cases q with
        | cells c0 e0 r0 b0 z0 =>
          split at h3
          · rename_i e; injection e with e; injection e with _ _ _ _ e; subst e; exact hb.1
          · rename_i e; injection e with e; cases e
          · cases h3
        | given c0 => exact hl.1
        | _ => simp at h3
      cases hr with
      | slice hx hk hcap =>
        rename_i k' x
        have hz := hzx x hx
        have hkk : k' = c := by rcases hcap with q | q; exact q; omega
        subst hkk
        obtain ⟨vs, vs', b1, b2, b3, b4⟩ := cells_list hw hx cells o h4
        obtain ⟨σ1, a1, a2, a3⟩ := giveAll_ok ih cells vs vs' b1 b2 σ0 w0 h0
        simp only [giveV]
        have hlen := a3.length
        refine ⟨σ1.with (giveAll (giveV k) cells w0).2.next ⟨x.c, x.s + o, 0, 0⟩, a1.trans (Emb.le_with a2.fresh _), WRel.give a2 _ _ rfl ?_ ?_, ?_⟩
        · cases hv : (giveAll (giveV k) cells w0).1 with
          | nil => exact .inl rfl
          | cons y ys =>
            right
            rw [hv] at hlen
            have h1 := b4 0 (vs'[0]'(by rw [← hlen]; simp)) (by simp)
            obtain ⟨cc, ce, fr, q, _⟩ := cell_at h1
            rcases Nat.lt_or_ge x.c W.heap.size with q' | q'
            · exact q'
            · rw [Array.getElem?_eq_none q'] at q; cases q
        · intro i u hi hone
          obtain ⟨u', hu', r⟩ := a3.getSome hi
          obtain ⟨cc, ce, fr, q, q2⟩ := cell_at (b4 i u' hu')
          exact ⟨cc, ce, fr, u', q, by rw [show x.s + o + i = x.s + (o + i) by omega]; exact q2, r⟩
        · exact VRel.slice (x := ⟨x.c, x.s + o, 0, 0⟩) (o := 0) (Emb.with_self _ _ _) (Nat.le_refl _) (.inl rfl)
      | tail hx a => exact absurd (Nat.blt_eq.mp h5) (by omega)
    · rename_i ds cs
      cases hr with
      | agg ha hav =>
        rename_i cs'
        have hl : LRel σ cs.toList cs'.toList := ARel.iff.1 (by exact ⟨ha, hav⟩)
        obtain ⟨σ1, a1, a2, a3⟩ := giveAll_ok ih ds cs.toList cs'.toList hm hl σ0 w0 h0
        exact ⟨σ1, a1, a2, VRel.agg_of (ARel.iff.2 (by simpa [giveV] using a3))⟩
    · cases hm
theorem calls_give (hP : Fit P) (hfol : P.follows .mixedOrders = true) {told : ToldF} (ht : ∀ N, ToldOk P N told) {n k : Nat} {f : FuncId} {ds : List GDat} {v : Value} (hno : (told f ((giveAll (giveV k) ds .empty).1.toArray ++ #[]) (giveAll (giveV k) ds .empty).2).isNone = true) (hv : flat 6 v = true)
    (h : isVal (xcall (prg P) (xsOf (prg P)) told F (n + 1) (.fn (.func f) #[]) (giveAll (giveV k) ds .empty).1 (giveAll (giveV k) ds .empty).2) v = true) {N : Nat} {σ : Emb} {w : AW} {W : World} (hw : WRel N σ w W) {args args' : List Value} (hm : matchAll (matchV w k) ds args = true) (hr : LRel σ args args') :
    Calls P f args'.toArray W fun e W' => e = .returned v ∧ BelowD W.heap.size W W' := by
  obtain ⟨σ0, _, g2, g3⟩ := giveAll_ok (give_ok hw k) ds args args' hm hr (fun _ => none) .empty (WRel.empty W)
  generalize (giveAll (giveV k) ds .empty).1 = us at *
  generalize (giveAll (giveV k) ds .empty).2 = w0 at *
  rw [xcall_eq hP.funcs] at h
  unfold isVal at h
  split at h
  case h_2 => cases h
  rename_i u w1 hr'
  have hu := same_eq 12 _ _ h
  subst hu
  simp only [acall] at hr'
  rw [Option.isNone_iff_eq_none.mp hno] at hr'
  simp only [Array.append_empty] at hr'
  intro cs
  have ha : ARel σ0 us.toArray args'.toArray := ARel.iff.2 (by simpa using g3)
  obtain ⟨σ', v', W', fr, s, hf, hlv, e, r⟩ := enter_leaves hP hfol (call_ok hP hfol (ht W.heap.size) n) (call_pan hP hfol (ht W.heap.size) n) hr' cs g2 (args' := args'.toArray) ha
  have := flat_eq 6 v hv σ' v' r
  subst this
  exact ⟨.returned v', W', fr, ⟨rfl, e.below⟩, s, hf, hlv⟩
structure GMemo where
  f : FuncId
  k : Nat
  ds : List GDat
  val : Value
def findG (f : FuncId) (args : List Value) (w : AW) : List GMemo → Option Value
  | [] => none
  | m :: l => match Nat.beq f m.f with
    | true => match matchAll (matchV w m.k) m.ds args with
      | true => some m.val
      | false => findG f args w l
    | false => findG f args w l
def toldGive (tab : List GMemo) (told : ToldF) : ToldF := fun f args w =>
  match findG f args.toList w tab with
  | some v => some (v, w)
  | none => told f args w
structure GMemoOk (P : Program) (m : GMemo) : Prop where
  enters : ∀ args w, (callFunc m.f args).run P w = .ok (.enter m.f args) w
  flatVal : flat 6 m.val = true
  calls : ∀ (N : Nat) (σ : Emb) (w : AW) (W : World), WRel N σ w W → ∀ args args', matchAll (matchV w m.k) m.ds args = true → LRel σ args args' → Calls P m.f args'.toArray W fun e W' => e = .returned m.val ∧ BelowD W.heap.size W W'
inductive GMemosOk (P : Program) : List GMemo → Prop where
  | nil : GMemosOk P []
  | cons {m : GMemo} {l : List GMemo} (h : GMemoOk P m) (t : GMemosOk P l) : GMemosOk P (m :: l)
theorem findG_ok {f : FuncId} {args : List Value} {w : AW} {v : Value} : ∀ {tab : List GMemo}, GMemosOk P tab → findG f args w tab = some v → ∃ m, GMemoOk P m ∧ m.f = f ∧ matchAll (matchV w m.k) m.ds args = true ∧ m.val = v
  | _, .nil, h => by cases h
  | _, .cons hm ht, h => by
    simp only [findG] at h
    split at h
    · rename_i hf
      split at h
      · rename_i hs
        injection h with h
        exact ⟨_, hm, (Nat.eq_of_beq_eq_true hf).symm, hs, h⟩
      · exact findG_ok ht h
    · exact findG_ok ht h
theorem toldGive_ok {tab : List GMemo} (hm : GMemosOk P tab) {told : ToldF} (ht : ∀ N, ToldOk P N told) (N : Nat) : ToldOk P N (toldGive tab told) := by
  intro f args w w1 v h σ W args0 cap c cs hw ha
  unfold toldGive at h
  split at h
  · rename_i u hu
    injection h with h; injection h with h1 h2
    subst h1 h2
    obtain ⟨m, hok, rfl, hargs, rfl⟩ := findG_ok hm hu
    have hc := hok.calls N σ w W hw args.toList (args0 ++ cap).toList hargs (ARel.iff.1 ha)
    rw [show (args0 ++ cap).toList.toArray = args0 ++ cap from rfl] at hc
    obtain ⟨W', d1, d2⟩ := delivers_calls hok.enters hc c cs
    exact ⟨σ, _, W', d1, hw.aside d2, flat_self 6 _ hok.flatVal σ⟩
  · exact ht N f args w w1 v h σ W args0 cap c cs hw ha
end Go.Sim

namespace Go.Proofs
open Go Go.Shelf Go.RowKit Go.Sim
set_option maxRecDepth 1000000
theorem Tryz.fits : Fit Tryz.prog := fit_of (by decide +kernel)
theorem Tryz.mixed : Tryz.prog.follows .mixedOrders = true := by decide +kernel
theorem Tryz.told0 (N : Nat) : ToldOk Tryz.prog N (fun _ _ _ => none) := fun f args w w1 v h => by cases h
end Go.Proofs

namespace Go.Proofs
open Go Go.RowKit Go.Sim
set_option maxRecDepth 1000000
def Tryz.give0 : GMemo := ⟨15, 12, [.agg [.sl 3 3 [.flat (.int .i64 (0)), .flat (.int .i64 (0)), .flat (.int .i64 (0)), .flat (.int .i64 (2)), .flat (.int .i64 (0)), .flat (.int .i64 (4)), .flat (.int .i64 (1)), .flat (.int .i64 (1)), .flat (.int .i64 (0))], .sl 3 3 [.flat (.int .i64 (0)), .flat (.int .i64 (1)), .flat (.int .i64 (1)), .sl 1 1 [.flat (.int .i64 (1))], .flat (.int .i64 (1)), .flat (.int .i64 (2)), .flat (.int .i64 (2)), .sl 1 1 [.flat (.int .i64 (6))], .flat (.int .i64 (0)), .flat (.int .i64 (2)), .flat (.int .i64 (1)), .sl 1 1 [.flat (.int .i64 (8))]], .sl 3 3 [.flat (.int .i64 (1)), .flat (.int .i64 (2)), .flat (.int .i64 (3))]], .flat (.int .i64 (3))], .tuple #[.int .i64 (7), .int .i64 (0)]⟩
theorem Tryz.give0_ok : GMemoOk Tryz.prog Tryz.give0 := {
  enters := fun args w => Tryz.call15 args w
  flatVal := by decide
  calls := fun N σ w W hw args args' hm hr => calls_give (F := 1000000) (told := fun _ _ _ => none) Tryz.fits Tryz.mixed Tryz.told0 (n := 99) (k := 12) (ds := Tryz.give0.ds) (by rfl) (by decide) (by decide +kernel) hw hm hr }
def Tryz.give1 : GMemo := ⟨17, 12, [.agg [.sl 3 3 [.flat (.int .i64 (0)), .flat (.int .i64 (0)), .flat (.int .i64 (0)), .flat (.int .i64 (2)), .flat (.int .i64 (0)), .flat (.int .i64 (4)), .flat (.int .i64 (1)), .flat (.int .i64 (1)), .flat (.int .i64 (0))], .sl 3 3 [.flat (.int .i64 (0)), .flat (.int .i64 (1)), .flat (.int .i64 (1)), .sl 1 1 [.flat (.int .i64 (1))], .flat (.int .i64 (1)), .flat (.int .i64 (2)), .flat (.int .i64 (2)), .sl 1 1 [.flat (.int .i64 (6))], .flat (.int .i64 (0)), .flat (.int .i64 (2)), .flat (.int .i64 (1)), .sl 1 1 [.flat (.int .i64 (8))]], .sl 3 3 [.flat (.int .i64 (1)), .flat (.int .i64 (2)), .flat (.int .i64 (3))]]], .int .i64 (0)⟩
theorem Tryz.give1_ok : GMemoOk Tryz.prog Tryz.give1 := {
  enters := fun args w => Tryz.call17 args w
  flatVal := by decide
  calls := fun N σ w W hw args args' hm hr => calls_give (F := 1000000) (told := fun _ _ _ => none) Tryz.fits Tryz.mixed Tryz.told0 (n := 99) (k := 12) (ds := Tryz.give1.ds) (by rfl) (by decide) (by decide +kernel) hw hm hr }
def Tryz.give2 : GMemo := ⟨19, 12, [.agg [.sl 3 3 [.flat (.int .i64 (0)), .flat (.int .i64 (0)), .flat (.int .i64 (0)), .flat (.int .i64 (2)), .flat (.int .i64 (0)), .flat (.int .i64 (4)), .flat (.int .i64 (1)), .flat (.int .i64 (1)), .flat (.int .i64 (0))], .sl 3 3 [.flat (.int .i64 (0)), .flat (.int .i64 (1)), .flat (.int .i64 (1)), .sl 1 1 [.flat (.int .i64 (1))], .flat (.int .i64 (1)), .flat (.int .i64 (2)), .flat (.int .i64 (2)), .sl 1 1 [.flat (.int .i64 (6))], .flat (.int .i64 (0)), .flat (.int .i64 (2)), .flat (.int .i64 (1)), .sl 1 1 [.flat (.int .i64 (8))]], .sl 3 3 [.flat (.int .i64 (1)), .flat (.int .i64 (2)), .flat (.int .i64 (3))]], .flat (.int .i64 (1)), .flat (.int .i64 (3))], .tuple #[.bool true, .int .i64 (0)]⟩
theorem Tryz.give2_ok : GMemoOk Tryz.prog Tryz.give2 := {
  enters := fun args w => Tryz.call19 args w
  flatVal := by decide
  calls := fun N σ w W hw args args' hm hr => calls_give (F := 1000000) (told := fun _ _ _ => none) Tryz.fits Tryz.mixed Tryz.told0 (n := 99) (k := 12) (ds := Tryz.give2.ds) (by rfl) (by decide) (by decide +kernel) hw hm hr }
def Tryz.give3 : GMemo := ⟨31, 12, [.agg [.sl 3 3 [.flat (.int .i64 (0)), .flat (.int .i64 (0)), .flat (.int .i64 (0)), .flat (.int .i64 (2)), .flat (.int .i64 (0)), .flat (.int .i64 (4)), .flat (.int .i64 (1)), .flat (.int .i64 (1)), .flat (.int .i64 (0))], .sl 3 3 [.flat (.int .i64 (0)), .flat (.int .i64 (1)), .flat (.int .i64 (1)), .sl 1 1 [.flat (.int .i64 (1))], .flat (.int .i64 (1)), .flat (.int .i64 (2)), .flat (.int .i64 (2)), .sl 1 1 [.flat (.int .i64 (6))], .flat (.int .i64 (0)), .flat (.int .i64 (2)), .flat (.int .i64 (1)), .sl 1 1 [.flat (.int .i64 (8))]], .sl 3 3 [.flat (.int .i64 (1)), .flat (.int .i64 (2)), .flat (.int .i64 (3))]], .sl 3 3 [.flat (.int .i64 (5)), .flat (.int .i64 (1)), .flat (.int .i64 (7)), .flat (.int .i64 (1)), .flat (.int .i64 (0)), .flat (.int .i64 (1)), .flat (.int .i64 (10)), .flat (.int .i64 (3)), .flat (.int .i64 (6)), .flat (.int .i64 (2)), .flat (.int .i64 (7)), .flat (.int .i64 (2)), .flat (.int .i64 (1)), .flat (.int .i64 (2)), .flat (.int .i64 (0)), .flat (.int .i64 (0)), .flat (.int .i64 (8)), .flat (.int .i64 (3)), .flat (.int .i64 (7)), .flat (.int .i64 (0)), .flat (.int .i64 (0)), .flat (.int .i64 (1)), .flat (.int .i64 (10)), .flat (.int .i64 (0))]], .tuple #[.agg #[.int .i64 (0), .int .i64 (0), .int .i64 (0), .int .i64 (0), .int .i64 (0), .int .i64 (0), .int .i64 (0), .int .i64 (0), .int .i64 (0), .int .i64 (0), .int .i64 (0), .int .i64 (0), .int .i64 (0), .int .i64 (0), .int .i64 (0), .int .i64 (0), .int .i64 (0), .int .i64 (0), .int .i64 (0), .int .i64 (0), .int .i64 (0), .int .i64 (0), .int .i64 (0), .int .i64 (0), .int .i64 (0), .int .i64 (0), .int .i64 (0), .int .i64 (0), .int .i64 (0), .int .i64 (0), .int .i64 (0), .int .i64 (0), .int .i64 (0), .int .i64 (0), .int .i64 (0), .int .i64 (2), .int .i64 (10), .int .i64 (3), .int .i64 (0), .int .i64 (1), .int .i64 (0), .int .i64 (0), .int .i64 (0), .int .i64 (0), .int .i64 (0), .int .i64 (0), .int .i64 (0), .int .i64 (0), .int .i64 (0), .int .i64 (0), .int .i64 (0), .int .i64 (0), .int .i64 (0), .int .i64 (0), .int .i64 (0), .int .i64 (0), .int .i64 (0), .int .i64 (0), .int .i64 (0), .int .i64 (0), .int .i64 (0), .int .i64 (0), .int .i64 (0), .int .i64 (0), .int .i64 (0), .int .i64 (0), .int .i64 (0), .int .i64 (0), .int .i64 (0), .int .i64 (0), .int .i64 (0), .int .i64 (0), .int .i64 (0), .int .i64 (0), .int .i64 (0), .int .i64 (0), .int .i64 (0), .int .i64 (0), .int .i64 (0), .int .i64 (0), .int .i64 (0), .int .i64 (0), .int .i64 (0), .int .i64 (0), .int .i64 (0), .int .i64 (0), .int .i64 (0), .int .i64 (0), .int .i64 (0), .int .i64 (0), .int .i64 (0), .int .i64 (0), .int .i64 (0), .int .i64 (0), .int .i64 (0), .int .i64 (0), .int .i64 (0), .int .i64 (0), .int .i64 (0), .int .i64 (0), .int .i64 (0), .int .i64 (0), .int .i64 (0), .int .i64 (0), .int .i64 (0), .int .i64 (0), .int .i64 (0), .int .i64 (0), .int .i64 (0), .int .i64 (0), .int .i64 (0), .int .i64 (0), .int .i64 (0), .int .i64 (0), .int .i64 (0), .int .i64 (0), .int .i64 (0), .int .i64 (0), .int .i64 (0), .int .i64 (0), .int .i64 (0), .int .i64 (0), .int .i64 (0), .int .i64 (0), .int .i64 (0), .int .i64 (0), .int .i64 (0), .int .i64 (0), .int .i64 (0), .int .i64 (0), .int .i64 (0), .int .i64 (0), .int .i64 (0), .int .i64 (0), .int .i64 (0), .int .i64 (0), .int .i64 (0), .int .i64 (0), .int .i64 (0), .int .i64 (0), .int .i64 (0), .int .i64 (0), .int .i64 (0), .int .i64 (0), .int .i64 (0), .int .i64 (0), .int .i64 (0), .int .i64 (0), .int .i64 (0), .int .i64 (0), .int .i64 (0), .int .i64 (0), .int .i64 (0), .int .i64 (0), .int .i64 (0), .int .i64 (0), .int .i64 (0), .int .i64 (0), .int .i64 (0), .int .i64 (0)], .int .i64 (3), .int .i64 (0)]⟩
theorem Tryz.give3_ok : GMemoOk Tryz.prog Tryz.give3 := {
  enters := fun args w => Tryz.call31 args w
  flatVal := by decide
  calls := fun N σ w W hw args args' hm hr => calls_give (F := 1000000) (told := fun _ _ _ => none) Tryz.fits Tryz.mixed Tryz.told0 (n := 99) (k := 12) (ds := Tryz.give3.ds) (by rfl) (by decide) (by decide +kernel) hw hm hr }
def Tryz.give4 : GMemo := ⟨33, 12, [.agg [.sl 3 3 [.flat (.int .i64 (0)), .flat (.int .i64 (0)), .flat (.int .i64 (0)), .flat (.int .i64 (2)), .flat (.int .i64 (0)), .flat (.int .i64 (4)), .flat (.int .i64 (1)), .flat (.int .i64 (1)), .flat (.int .i64 (0))], .sl 3 3 [.flat (.int .i64 (0)), .flat (.int .i64 (1)), .flat (.int .i64 (1)), .sl 1 1 [.flat (.int .i64 (1))], .flat (.int .i64 (1)), .flat (.int .i64 (2)), .flat (.int .i64 (2)), .sl 1 1 [.flat (.int .i64 (6))], .flat (.int .i64 (0)), .flat (.int .i64 (2)), .flat (.int .i64 (1)), .sl 1 1 [.flat (.int .i64 (8))]], .sl 3 3 [.flat (.int .i64 (1)), .flat (.int .i64 (2)), .flat (.int .i64 (3))]], .sl 3 3 [.flat (.int .i64 (5)), .flat (.int .i64 (1)), .flat (.int .i64 (7)), .flat (.int .i64 (1)), .flat (.int .i64 (0)), .flat (.int .i64 (1)), .flat (.int .i64 (10)), .flat (.int .i64 (3)), .flat (.int .i64 (6)), .flat (.int .i64 (2)), .flat (.int .i64 (7)), .flat (.int .i64 (2)), .flat (.int .i64 (1)), .flat (.int .i64 (2)), .flat (.int .i64 (0)), .flat (.int .i64 (0)), .flat (.int .i64 (8)), .flat (.int .i64 (3)), .flat (.int .i64 (7)), .flat (.int .i64 (0)), .flat (.int .i64 (0)), .flat (.int .i64 (1)), .flat (.int .i64 (10)), .flat (.int .i64 (0))], .flat (.int .i64 (7)), .flat (.int .i64 (5))], .tuple #[.int .i64 (1), .int .i64 (0)]⟩
theorem Tryz.give4_ok : GMemoOk Tryz.prog Tryz.give4 := {
  enters := fun args w => Tryz.call33 args w
  flatVal := by decide
  calls := fun N σ w W hw args args' hm hr => calls_give (F := 1000000) (told := fun _ _ _ => none) Tryz.fits Tryz.mixed Tryz.told0 (n := 99) (k := 12) (ds := Tryz.give4.ds) (by rfl) (by decide) (by decide +kernel) hw hm hr }
def Tryz.give5 : GMemo := ⟨58, 12, [.agg [.sl 3 3 [.flat (.int .i64 (0)), .flat (.int .i64 (0)), .flat (.int .i64 (0)), .flat (.int .i64 (2)), .flat (.int .i64 (0)), .flat (.int .i64 (4)), .flat (.int .i64 (1)), .flat (.int .i64 (1)), .flat (.int .i64 (0))], .sl 3 3 [.flat (.int .i64 (0)), .flat (.int .i64 (1)), .flat (.int .i64 (1)), .sl 1 1 [.flat (.int .i64 (1))], .flat (.int .i64 (1)), .flat (.int .i64 (2)), .flat (.int .i64 (2)), .sl 1 1 [.flat (.int .i64 (6))], .flat (.int .i64 (0)), .flat (.int .i64 (2)), .flat (.int .i64 (1)), .sl 1 1 [.flat (.int .i64 (8))]], .sl 3 3 [.flat (.int .i64 (1)), .flat (.int .i64 (2)), .flat (.int .i64 (3))]], .flat (.int .i64 (1))], .int .i64 (0)⟩
theorem Tryz.give5_ok : GMemoOk Tryz.prog Tryz.give5 := {
  enters := fun args w => Tryz.call58 args w
  flatVal := by decide
  calls := fun N σ w W hw args args' hm hr => calls_give (F := 1000000) (told := fun _ _ _ => none) Tryz.fits Tryz.mixed Tryz.told0 (n := 99) (k := 12) (ds := Tryz.give5.ds) (by rfl) (by decide) (by decide +kernel) hw hm hr }
def Tryz.give6 : GMemo := ⟨58, 12, [.agg [.sl 3 3 [.flat (.int .i64 (0)), .flat (.int .i64 (0)), .flat (.int .i64 (0)), .flat (.int .i64 (2)), .flat (.int .i64 (0)), .flat (.int .i64 (4)), .flat (.int .i64 (1)), .flat (.int .i64 (1)), .flat (.int .i64 (0))], .sl 3 3 [.flat (.int .i64 (0)), .flat (.int .i64 (1)), .flat (.int .i64 (1)), .sl 1 1 [.flat (.int .i64 (1))], .flat (.int .i64 (1)), .flat (.int .i64 (2)), .flat (.int .i64 (2)), .sl 1 1 [.flat (.int .i64 (6))], .flat (.int .i64 (0)), .flat (.int .i64 (2)), .flat (.int .i64 (1)), .sl 1 1 [.flat (.int .i64 (8))]], .sl 3 3 [.flat (.int .i64 (1)), .flat (.int .i64 (2)), .flat (.int .i64 (3))]], .flat (.int .i64 (2))], .int .i64 (0)⟩
theorem Tryz.give6_ok : GMemoOk Tryz.prog Tryz.give6 := {
  enters := fun args w => Tryz.call58 args w
  flatVal := by decide
  calls := fun N σ w W hw args args' hm hr => calls_give (F := 1000000) (told := fun _ _ _ => none) Tryz.fits Tryz.mixed Tryz.told0 (n := 99) (k := 12) (ds := Tryz.give6.ds) (by rfl) (by decide) (by decide +kernel) hw hm hr }
def Tryz.give7 : GMemo := ⟨67, 12, [.agg [.sl 3 3 [.flat (.int .i64 (0)), .flat (.int .i64 (0)), .flat (.int .i64 (0)), .flat (.int .i64 (2)), .flat (.int .i64 (0)), .flat (.int .i64 (4)), .flat (.int .i64 (1)), .flat (.int .i64 (1)), .flat (.int .i64 (0))], .sl 3 3 [.flat (.int .i64 (0)), .flat (.int .i64 (1)), .flat (.int .i64 (1)), .sl 1 1 [.flat (.int .i64 (1))], .flat (.int .i64 (1)), .flat (.int .i64 (2)), .flat (.int .i64 (2)), .sl 1 1 [.flat (.int .i64 (6))], .flat (.int .i64 (0)), .flat (.int .i64 (2)), .flat (.int .i64 (1)), .sl 1 1 [.flat (.int .i64 (8))]], .sl 3 3 [.flat (.int .i64 (1)), .flat (.int .i64 (2)), .flat (.int .i64 (3))]], .flat (.int .i64 (0)), .flat (.int .i64 (2))], .bool false⟩
theorem Tryz.give7_ok : GMemoOk Tryz.prog Tryz.give7 := {
  enters := fun args w => Tryz.call67 args w
  flatVal := by decide
  calls := fun N σ w W hw args args' hm hr => calls_give (F := 1000000) (told := fun _ _ _ => none) Tryz.fits Tryz.mixed Tryz.told0 (n := 99) (k := 12) (ds := Tryz.give7.ds) (by rfl) (by decide) (by decide +kernel) hw hm hr }
def Tryz.give8 : GMemo := ⟨67, 12, [.agg [.sl 3 3 [.flat (.int .i64 (0)), .flat (.int .i64 (0)), .flat (.int .i64 (0)), .flat (.int .i64 (2)), .flat (.int .i64 (0)), .flat (.int .i64 (4)), .flat (.int .i64 (1)), .flat (.int .i64 (1)), .flat (.int .i64 (0))], .sl 3 3 [.flat (.int .i64 (0)), .flat (.int .i64 (1)), .flat (.int .i64 (1)), .sl 1 1 [.flat (.int .i64 (1))], .flat (.int .i64 (1)), .flat (.int .i64 (2)), .flat (.int .i64 (2)), .sl 1 1 [.flat (.int .i64 (6))], .flat (.int .i64 (0)), .flat (.int .i64 (2)), .flat (.int .i64 (1)), .sl 1 1 [.flat (.int .i64 (8))]], .sl 3 3 [.flat (.int .i64 (1)), .flat (.int .i64 (2)), .flat (.int .i64 (3))]], .flat (.int .i64 (0)), .flat (.int .i64 (4))], .bool false⟩
theorem Tryz.give8_ok : GMemoOk Tryz.prog Tryz.give8 := {
  enters := fun args w => Tryz.call67 args w
  flatVal := by decide
  calls := fun N σ w W hw args args' hm hr => calls_give (F := 1000000) (told := fun _ _ _ => none) Tryz.fits Tryz.mixed Tryz.told0 (n := 99) (k := 12) (ds := Tryz.give8.ds) (by rfl) (by decide) (by decide +kernel) hw hm hr }
def Tryz.give9 : GMemo := ⟨67, 12, [.agg [.sl 3 3 [.flat (.int .i64 (0)), .flat (.int .i64 (0)), .flat (.int .i64 (0)), .flat (.int .i64 (2)), .flat (.int .i64 (0)), .flat (.int .i64 (4)), .flat (.int .i64 (1)), .flat (.int .i64 (1)), .flat (.int .i64 (0))], .sl 3 3 [.flat (.int .i64 (0)), .flat (.int .i64 (1)), .flat (.int .i64 (1)), .sl 1 1 [.flat (.int .i64 (1))], .flat (.int .i64 (1)), .flat (.int .i64 (2)), .flat (.int .i64 (2)), .sl 1 1 [.flat (.int .i64 (6))], .flat (.int .i64 (0)), .flat (.int .i64 (2)), .flat (.int .i64 (1)), .sl 1 1 [.flat (.int .i64 (8))]], .sl 3 3 [.flat (.int .i64 (1)), .flat (.int .i64 (2)), .flat (.int .i64 (3))]], .flat (.int .i64 (0)), .flat (.int .i64 (6))], .bool false⟩
theorem Tryz.give9_ok : GMemoOk Tryz.prog Tryz.give9 := {
  enters := fun args w => Tryz.call67 args w
  flatVal := by decide
  calls := fun N σ w W hw args args' hm hr => calls_give (F := 1000000) (told := fun _ _ _ => none) Tryz.fits Tryz.mixed Tryz.told0 (n := 99) (k := 12) (ds := Tryz.give9.ds) (by rfl) (by decide) (by decide +kernel) hw hm hr }
def Tryz.give10 : GMemo := ⟨67, 12, [.agg [.sl 3 3 [.flat (.int .i64 (0)), .flat (.int .i64 (0)), .flat (.int .i64 (0)), .flat (.int .i64 (2)), .flat (.int .i64 (0)), .flat (.int .i64 (4)), .flat (.int .i64 (1)), .flat (.int .i64 (1)), .flat (.int .i64 (0))], .sl 3 3 [.flat (.int .i64 (0)), .flat (.int .i64 (1)), .flat (.int .i64 (1)), .sl 1 1 [.flat (.int .i64 (1))], .flat (.int .i64 (1)), .flat (.int .i64 (2)), .flat (.int .i64 (2)), .sl 1 1 [.flat (.int .i64 (6))], .flat (.int .i64 (0)), .flat (.int .i64 (2)), .flat (.int .i64 (1)), .sl 1 1 [.flat (.int .i64 (8))]], .sl 3 3 [.flat (.int .i64 (1)), .flat (.int .i64 (2)), .flat (.int .i64 (3))]], .flat (.int .i64 (1)), .flat (.int .i64 (2))], .bool true⟩
theorem Tryz.give10_ok : GMemoOk Tryz.prog Tryz.give10 := {
  enters := fun args w => Tryz.call67 args w
  flatVal := by decide
  calls := fun N σ w W hw args args' hm hr => calls_give (F := 1000000) (told := fun _ _ _ => none) Tryz.fits Tryz.mixed Tryz.told0 (n := 99) (k := 12) (ds := Tryz.give10.ds) (by rfl) (by decide) (by decide +kernel) hw hm hr }
def Tryz.give11 : GMemo := ⟨67, 12, [.agg [.sl 3 3 [.flat (.int .i64 (0)), .flat (.int .i64 (0)), .flat (.int .i64 (0)), .flat (.int .i64 (2)), .flat (.int .i64 (0)), .flat (.int .i64 (4)), .flat (.int .i64 (1)), .flat (.int .i64 (1)), .flat (.int .i64 (0))], .sl 3 3 [.flat (.int .i64 (0)), .flat (.int .i64 (1)), .flat (.int .i64 (1)), .sl 1 1 [.flat (.int .i64 (1))], .flat (.int .i64 (1)), .flat (.int .i64 (2)), .flat (.int .i64 (2)), .sl 1 1 [.flat (.int .i64 (6))], .flat (.int .i64 (0)), .flat (.int .i64 (2)), .flat (.int .i64 (1)), .sl 1 1 [.flat (.int .i64 (8))]], .sl 3 3 [.flat (.int .i64 (1)), .flat (.int .i64 (2)), .flat (.int .i64 (3))]], .flat (.int .i64 (1)), .flat (.int .i64 (4))], .bool false⟩
theorem Tryz.give11_ok : GMemoOk Tryz.prog Tryz.give11 := {
  enters := fun args w => Tryz.call67 args w
  flatVal := by decide
  calls := fun N σ w W hw args args' hm hr => calls_give (F := 1000000) (told := fun _ _ _ => none) Tryz.fits Tryz.mixed Tryz.told0 (n := 99) (k := 12) (ds := Tryz.give11.ds) (by rfl) (by decide) (by decide +kernel) hw hm hr }
def Tryz.give12 : GMemo := ⟨67, 12, [.agg [.sl 3 3 [.flat (.int .i64 (0)), .flat (.int .i64 (0)), .flat (.int .i64 (0)), .flat (.int .i64 (2)), .flat (.int .i64 (0)), .flat (.int .i64 (4)), .flat (.int .i64 (1)), .flat (.int .i64 (1)), .flat (.int .i64 (0))], .sl 3 3 [.flat (.int .i64 (0)), .flat (.int .i64 (1)), .flat (.int .i64 (1)), .sl 1 1 [.flat (.int .i64 (1))], .flat (.int .i64 (1)), .flat (.int .i64 (2)), .flat (.int .i64 (2)), .sl 1 1 [.flat (.int .i64 (6))], .flat (.int .i64 (0)), .flat (.int .i64 (2)), .flat (.int .i64 (1)), .sl 1 1 [.flat (.int .i64 (8))]], .sl 3 3 [.flat (.int .i64 (1)), .flat (.int .i64 (2)), .flat (.int .i64 (3))]], .flat (.int .i64 (1)), .flat (.int .i64 (6))], .bool true⟩
theorem Tryz.give12_ok : GMemoOk Tryz.prog Tryz.give12 := {
  enters := fun args w => Tryz.call67 args w
  flatVal := by decide
  calls := fun N σ w W hw args args' hm hr => calls_give (F := 1000000) (told := fun _ _ _ => none) Tryz.fits Tryz.mixed Tryz.told0 (n := 99) (k := 12) (ds := Tryz.give12.ds) (by rfl) (by decide) (by decide +kernel) hw hm hr }
def Tryz.give13 : GMemo := ⟨67, 12, [.agg [.sl 3 3 [.flat (.int .i64 (0)), .flat (.int .i64 (0)), .flat (.int .i64 (0)), .flat (.int .i64 (2)), .flat (.int .i64 (0)), .flat (.int .i64 (4)), .flat (.int .i64 (1)), .flat (.int .i64 (1)), .flat (.int .i64 (0))], .sl 3 3 [.flat (.int .i64 (0)), .flat (.int .i64 (1)), .flat (.int .i64 (1)), .sl 1 1 [.flat (.int .i64 (1))], .flat (.int .i64 (1)), .flat (.int .i64 (2)), .flat (.int .i64 (2)), .sl 1 1 [.flat (.int .i64 (6))], .flat (.int .i64 (0)), .flat (.int .i64 (2)), .flat (.int .i64 (1)), .sl 1 1 [.flat (.int .i64 (8))]], .sl 3 3 [.flat (.int .i64 (1)), .flat (.int .i64 (2)), .flat (.int .i64 (3))]], .flat (.int .i64 (2)), .flat (.int .i64 (2))], .bool false⟩
theorem Tryz.give13_ok : GMemoOk Tryz.prog Tryz.give13 := {
  enters := fun args w => Tryz.call67 args w
  flatVal := by decide
  calls := fun N σ w W hw args args' hm hr => calls_give (F := 1000000) (told := fun _ _ _ => none) Tryz.fits Tryz.mixed Tryz.told0 (n := 99) (k := 12) (ds := Tryz.give13.ds) (by rfl) (by decide) (by decide +kernel) hw hm hr }
def Tryz.give14 : GMemo := ⟨67, 12, [.agg [.sl 3 3 [.flat (.int .i64 (0)), .flat (.int .i64 (0)), .flat (.int .i64 (0)), .flat (.int .i64 (2)), .flat (.int .i64 (0)), .flat (.int .i64 (4)), .flat (.int .i64 (1)), .flat (.int .i64 (1)), .flat (.int .i64 (0))], .sl 3 3 [.flat (.int .i64 (0)), .flat (.int .i64 (1)), .flat (.int .i64 (1)), .sl 1 1 [.flat (.int .i64 (1))], .flat (.int .i64 (1)), .flat (.int .i64 (2)), .flat (.int .i64 (2)), .sl 1 1 [.flat (.int .i64 (6))], .flat (.int .i64 (0)), .flat (.int .i64 (2)), .flat (.int .i64 (1)), .sl 1 1 [.flat (.int .i64 (8))]], .sl 3 3 [.flat (.int .i64 (1)), .flat (.int .i64 (2)), .flat (.int .i64 (3))]], .flat (.int .i64 (2)), .flat (.int .i64 (4))], .bool false⟩
theorem Tryz.give14_ok : GMemoOk Tryz.prog Tryz.give14 := {
  enters := fun args w => Tryz.call67 args w
  flatVal := by decide
  calls := fun N σ w W hw args args' hm hr => calls_give (F := 1000000) (told := fun _ _ _ => none) Tryz.fits Tryz.mixed Tryz.told0 (n := 99) (k := 12) (ds := Tryz.give14.ds) (by rfl) (by decide) (by decide +kernel) hw hm hr }
def Tryz.give15 : GMemo := ⟨67, 12, [.agg [.sl 3 3 [.flat (.int .i64 (0)), .flat (.int .i64 (0)), .flat (.int .i64 (0)), .flat (.int .i64 (2)), .flat (.int .i64 (0)), .flat (.int .i64 (4)), .flat (.int .i64 (1)), .flat (.int .i64 (1)), .flat (.int .i64 (0))], .sl 3 3 [.flat (.int .i64 (0)), .flat (.int .i64 (1)), .flat (.int .i64 (1)), .sl 1 1 [.flat (.int .i64 (1))], .flat (.int .i64 (1)), .flat (.int .i64 (2)), .flat (.int .i64 (2)), .sl 1 1 [.flat (.int .i64 (6))], .flat (.int .i64 (0)), .flat (.int .i64 (2)), .flat (.int .i64 (1)), .sl 1 1 [.flat (.int .i64 (8))]], .sl 3 3 [.flat (.int .i64 (1)), .flat (.int .i64 (2)), .flat (.int .i64 (3))]], .flat (.int .i64 (2)), .flat (.int .i64 (6))], .bool false⟩
theorem Tryz.give15_ok : GMemoOk Tryz.prog Tryz.give15 := {
  enters := fun args w => Tryz.call67 args w
  flatVal := by decide
  calls := fun N σ w W hw args args' hm hr => calls_give (F := 1000000) (told := fun _ _ _ => none) Tryz.fits Tryz.mixed Tryz.told0 (n := 99) (k := 12) (ds := Tryz.give15.ds) (by rfl) (by decide) (by decide +kernel) hw hm hr }
def Tryz.give16 : GMemo := ⟨67, 12, [.agg [.sl 3 3 [.flat (.int .i64 (0)), .flat (.int .i64 (0)), .flat (.int .i64 (0)), .flat (.int .i64 (2)), .flat (.int .i64 (0)), .flat (.int .i64 (4)), .flat (.int .i64 (1)), .flat (.int .i64 (1)), .flat (.int .i64 (0))], .sl 3 3 [.flat (.int .i64 (0)), .flat (.int .i64 (1)), .flat (.int .i64 (1)), .sl 1 1 [.flat (.int .i64 (1))], .flat (.int .i64 (1)), .flat (.int .i64 (2)), .flat (.int .i64 (2)), .sl 1 1 [.flat (.int .i64 (6))], .flat (.int .i64 (0)), .flat (.int .i64 (2)), .flat (.int .i64 (1)), .sl 1 1 [.flat (.int .i64 (8))]], .sl 3 3 [.flat (.int .i64 (1)), .flat (.int .i64 (2)), .flat (.int .i64 (3))]], .flat (.int .i64 (3)), .flat (.int .i64 (2))], .bool true⟩
theorem Tryz.give16_ok : GMemoOk Tryz.prog Tryz.give16 := {
  enters := fun args w => Tryz.call67 args w
  flatVal := by decide
  calls := fun N σ w W hw args args' hm hr => calls_give (F := 1000000) (told := fun _ _ _ => none) Tryz.fits Tryz.mixed Tryz.told0 (n := 99) (k := 12) (ds := Tryz.give16.ds) (by rfl) (by decide) (by decide +kernel) hw hm hr }
def Tryz.give17 : GMemo := ⟨67, 12, [.agg [.sl 3 3 [.flat (.int .i64 (0)), .flat (.int .i64 (0)), .flat (.int .i64 (0)), .flat (.int .i64 (2)), .flat (.int .i64 (0)), .flat (.int .i64 (4)), .flat (.int .i64 (1)), .flat (.int .i64 (1)), .flat (.int .i64 (0))], .sl 3 3 [.flat (.int .i64 (0)), .flat (.int .i64 (1)), .flat (.int .i64 (1)), .sl 1 1 [.flat (.int .i64 (1))], .flat (.int .i64 (1)), .flat (.int .i64 (2)), .flat (.int .i64 (2)), .sl 1 1 [.flat (.int .i64 (6))], .flat (.int .i64 (0)), .flat (.int .i64 (2)), .flat (.int .i64 (1)), .sl 1 1 [.flat (.int .i64 (8))]], .sl 3 3 [.flat (.int .i64 (1)), .flat (.int .i64 (2)), .flat (.int .i64 (3))]], .flat (.int .i64 (3)), .flat (.int .i64 (4))], .bool true⟩
theorem Tryz.give17_ok : GMemoOk Tryz.prog Tryz.give17 := {
  enters := fun args w => Tryz.call67 args w
  flatVal := by decide
  calls := fun N σ w W hw args args' hm hr => calls_give (F := 1000000) (told := fun _ _ _ => none) Tryz.fits Tryz.mixed Tryz.told0 (n := 99) (k := 12) (ds := Tryz.give17.ds) (by rfl) (by decide) (by decide +kernel) hw hm hr }
def Tryz.give18 : GMemo := ⟨67, 12, [.agg [.sl 3 3 [.flat (.int .i64 (0)), .flat (.int .i64 (0)), .flat (.int .i64 (0)), .flat (.int .i64 (2)), .flat (.int .i64 (0)), .flat (.int .i64 (4)), .flat (.int .i64 (1)), .flat (.int .i64 (1)), .flat (.int .i64 (0))], .sl 3 3 [.flat (.int .i64 (0)), .flat (.int .i64 (1)), .flat (.int .i64 (1)), .sl 1 1 [.flat (.int .i64 (1))], .flat (.int .i64 (1)), .flat (.int .i64 (2)), .flat (.int .i64 (2)), .sl 1 1 [.flat (.int .i64 (6))], .flat (.int .i64 (0)), .flat (.int .i64 (2)), .flat (.int .i64 (1)), .sl 1 1 [.flat (.int .i64 (8))]], .sl 3 3 [.flat (.int .i64 (1)), .flat (.int .i64 (2)), .flat (.int .i64 (3))]], .flat (.int .i64 (3)), .flat (.int .i64 (6))], .bool true⟩
theorem Tryz.give18_ok : GMemoOk Tryz.prog Tryz.give18 := {
  enters := fun args w => Tryz.call67 args w
  flatVal := by decide
  calls := fun N σ w W hw args args' hm hr => calls_give (F := 1000000) (told := fun _ _ _ => none) Tryz.fits Tryz.mixed Tryz.told0 (n := 99) (k := 12) (ds := Tryz.give18.ds) (by rfl) (by decide) (by decide +kernel) hw hm hr }
def Tryz.give19 : GMemo := ⟨67, 12, [.agg [.sl 3 3 [.flat (.int .i64 (0)), .flat (.int .i64 (0)), .flat (.int .i64 (0)), .flat (.int .i64 (2)), .flat (.int .i64 (0)), .flat (.int .i64 (4)), .flat (.int .i64 (1)), .flat (.int .i64 (1)), .flat (.int .i64 (0))], .sl 3 3 [.flat (.int .i64 (0)), .flat (.int .i64 (1)), .flat (.int .i64 (1)), .sl 1 1 [.flat (.int .i64 (1))], .flat (.int .i64 (1)), .flat (.int .i64 (2)), .flat (.int .i64 (2)), .sl 1 1 [.flat (.int .i64 (6))], .flat (.int .i64 (0)), .flat (.int .i64 (2)), .flat (.int .i64 (1)), .sl 1 1 [.flat (.int .i64 (8))]], .sl 3 3 [.flat (.int .i64 (1)), .flat (.int .i64 (2)), .flat (.int .i64 (3))]], .flat (.int .i64 (4)), .flat (.int .i64 (2))], .bool true⟩
theorem Tryz.give19_ok : GMemoOk Tryz.prog Tryz.give19 := {
  enters := fun args w => Tryz.call67 args w
  flatVal := by decide
  calls := fun N σ w W hw args args' hm hr => calls_give (F := 1000000) (told := fun _ _ _ => none) Tryz.fits Tryz.mixed Tryz.told0 (n := 99) (k := 12) (ds := Tryz.give19.ds) (by rfl) (by decide) (by decide +kernel) hw hm hr }
def Tryz.give20 : GMemo := ⟨67, 12, [.agg [.sl 3 3 [.flat (.int .i64 (0)), .flat (.int .i64 (0)), .flat (.int .i64 (0)), .flat (.int .i64 (2)), .flat (.int .i64 (0)), .flat (.int .i64 (4)), .flat (.int .i64 (1)), .flat (.int .i64 (1)), .flat (.int .i64 (0))], .sl 3 3 [.flat (.int .i64 (0)), .flat (.int .i64 (1)), .flat (.int .i64 (1)), .sl 1 1 [.flat (.int .i64 (1))], .flat (.int .i64 (1)), .flat (.int .i64 (2)), .flat (.int .i64 (2)), .sl 1 1 [.flat (.int .i64 (6))], .flat (.int .i64 (0)), .flat (.int .i64 (2)), .flat (.int .i64 (1)), .sl 1 1 [.flat (.int .i64 (8))]], .sl 3 3 [.flat (.int .i64 (1)), .flat (.int .i64 (2)), .flat (.int .i64 (3))]], .flat (.int .i64 (4)), .flat (.int .i64 (4))], .bool false⟩
theorem Tryz.give20_ok : GMemoOk Tryz.prog Tryz.give20 := {
  enters := fun args w => Tryz.call67 args w
  flatVal := by decide
  calls := fun N σ w W hw args args' hm hr => calls_give (F := 1000000) (told := fun _ _ _ => none) Tryz.fits Tryz.mixed Tryz.told0 (n := 99) (k := 12) (ds := Tryz.give20.ds) (by rfl) (by decide) (by decide +kernel) hw hm hr }
def Tryz.give21 : GMemo := ⟨67, 12, [.agg [.sl 3 3 [.flat (.int .i64 (0)), .flat (.int .i64 (0)), .flat (.int .i64 (0)), .flat (.int .i64 (2)), .flat (.int .i64 (0)), .flat (.int .i64 (4)), .flat (.int .i64 (1)), .flat (.int .i64 (1)), .flat (.int .i64 (0))], .sl 3 3 [.flat (.int .i64 (0)), .flat (.int .i64 (1)), .flat (.int .i64 (1)), .sl 1 1 [.flat (.int .i64 (1))], .flat (.int .i64 (1)), .flat (.int .i64 (2)), .flat (.int .i64 (2)), .sl 1 1 [.flat (.int .i64 (6))], .flat (.int .i64 (0)), .flat (.int .i64 (2)), .flat (.int .i64 (1)), .sl 1 1 [.flat (.int .i64 (8))]], .sl 3 3 [.flat (.int .i64 (1)), .flat (.int .i64 (2)), .flat (.int .i64 (3))]], .flat (.int .i64 (4)), .flat (.int .i64 (6))], .bool true⟩
theorem Tryz.give21_ok : GMemoOk Tryz.prog Tryz.give21 := {
  enters := fun args w => Tryz.call67 args w
  flatVal := by decide
  calls := fun N σ w W hw args args' hm hr => calls_give (F := 1000000) (told := fun _ _ _ => none) Tryz.fits Tryz.mixed Tryz.told0 (n := 99) (k := 12) (ds := Tryz.give21.ds) (by rfl) (by decide) (by decide +kernel) hw hm hr }
def Tryz.give22 : GMemo := ⟨67, 12, [.agg [.sl 3 3 [.flat (.int .i64 (0)), .flat (.int .i64 (0)), .flat (.int .i64 (0)), .flat (.int .i64 (2)), .flat (.int .i64 (0)), .flat (.int .i64 (4)), .flat (.int .i64 (1)), .flat (.int .i64 (1)), .flat (.int .i64 (0))], .sl 3 3 [.flat (.int .i64 (0)), .flat (.int .i64 (1)), .flat (.int .i64 (1)), .sl 1 1 [.flat (.int .i64 (1))], .flat (.int .i64 (1)), .flat (.int .i64 (2)), .flat (.int .i64 (2)), .sl 1 1 [.flat (.int .i64 (6))], .flat (.int .i64 (0)), .flat (.int .i64 (2)), .flat (.int .i64 (1)), .sl 1 1 [.flat (.int .i64 (8))]], .sl 3 3 [.flat (.int .i64 (1)), .flat (.int .i64 (2)), .flat (.int .i64 (3))]], .flat (.int .i64 (5)), .flat (.int .i64 (2))], .bool true⟩
theorem Tryz.give22_ok : GMemoOk Tryz.prog Tryz.give22 := {
  enters := fun args w => Tryz.call67 args w
  flatVal := by decide
  calls := fun N σ w W hw args args' hm hr => calls_give (F := 1000000) (told := fun _ _ _ => none) Tryz.fits Tryz.mixed Tryz.told0 (n := 99) (k := 12) (ds := Tryz.give22.ds) (by rfl) (by decide) (by decide +kernel) hw hm hr }
def Tryz.give23 : GMemo := ⟨67, 12, [.agg [.sl 3 3 [.flat (.int .i64 (0)), .flat (.int .i64 (0)), .flat (.int .i64 (0)), .flat (.int .i64 (2)), .flat (.int .i64 (0)), .flat (.int .i64 (4)), .flat (.int .i64 (1)), .flat (.int .i64 (1)), .flat (.int .i64 (0))], .sl 3 3 [.flat (.int .i64 (0)), .flat (.int .i64 (1)), .flat (.int .i64 (1)), .sl 1 1 [.flat (.int .i64 (1))], .flat (.int .i64 (1)), .flat (.int .i64 (2)), .flat (.int .i64 (2)), .sl 1 1 [.flat (.int .i64 (6))], .flat (.int .i64 (0)), .flat (.int .i64 (2)), .flat (.int .i64 (1)), .sl 1 1 [.flat (.int .i64 (8))]], .sl 3 3 [.flat (.int .i64 (1)), .flat (.int .i64 (2)), .flat (.int .i64 (3))]], .flat (.int .i64 (5)), .flat (.int .i64 (4))], .bool true⟩
theorem Tryz.give23_ok : GMemoOk Tryz.prog Tryz.give23 := {
  enters := fun args w => Tryz.call67 args w
  flatVal := by decide
  calls := fun N σ w W hw args args' hm hr => calls_give (F := 1000000) (told := fun _ _ _ => none) Tryz.fits Tryz.mixed Tryz.told0 (n := 99) (k := 12) (ds := Tryz.give23.ds) (by rfl) (by decide) (by decide +kernel) hw hm hr }
def Tryz.give24 : GMemo := ⟨67, 12, [.agg [.sl 3 3 [.flat (.int .i64 (0)), .flat (.int .i64 (0)), .flat (.int .i64 (0)), .flat (.int .i64 (2)), .flat (.int .i64 (0)), .flat (.int .i64 (4)), .flat (.int .i64 (1)), .flat (.int .i64 (1)), .flat (.int .i64 (0))], .sl 3 3 [.flat (.int .i64 (0)), .flat (.int .i64 (1)), .flat (.int .i64 (1)), .sl 1 1 [.flat (.int .i64 (1))], .flat (.int .i64 (1)), .flat (.int .i64 (2)), .flat (.int .i64 (2)), .sl 1 1 [.flat (.int .i64 (6))], .flat (.int .i64 (0)), .flat (.int .i64 (2)), .flat (.int .i64 (1)), .sl 1 1 [.flat (.int .i64 (8))]], .sl 3 3 [.flat (.int .i64 (1)), .flat (.int .i64 (2)), .flat (.int .i64 (3))]], .flat (.int .i64 (5)), .flat (.int .i64 (6))], .bool true⟩
theorem Tryz.give24_ok : GMemoOk Tryz.prog Tryz.give24 := {
  enters := fun args w => Tryz.call67 args w
  flatVal := by decide
  calls := fun N σ w W hw args args' hm hr => calls_give (F := 1000000) (told := fun _ _ _ => none) Tryz.fits Tryz.mixed Tryz.told0 (n := 99) (k := 12) (ds := Tryz.give24.ds) (by rfl) (by decide) (by decide +kernel) hw hm hr }
def Tryz.give25 : GMemo := ⟨67, 12, [.agg [.sl 3 3 [.flat (.int .i64 (0)), .flat (.int .i64 (0)), .flat (.int .i64 (0)), .flat (.int .i64 (2)), .flat (.int .i64 (0)), .flat (.int .i64 (4)), .flat (.int .i64 (1)), .flat (.int .i64 (1)), .flat (.int .i64 (0))], .sl 3 3 [.flat (.int .i64 (0)), .flat (.int .i64 (1)), .flat (.int .i64 (1)), .sl 1 1 [.flat (.int .i64 (1))], .flat (.int .i64 (1)), .flat (.int .i64 (2)), .flat (.int .i64 (2)), .sl 1 1 [.flat (.int .i64 (6))], .flat (.int .i64 (0)), .flat (.int .i64 (2)), .flat (.int .i64 (1)), .sl 1 1 [.flat (.int .i64 (8))]], .sl 3 3 [.flat (.int .i64 (1)), .flat (.int .i64 (2)), .flat (.int .i64 (3))]], .flat (.int .i64 (6)), .flat (.int .i64 (2))], .bool true⟩
theorem Tryz.give25_ok : GMemoOk Tryz.prog Tryz.give25 := {
  enters := fun args w => Tryz.call67 args w
  flatVal := by decide
  calls := fun N σ w W hw args args' hm hr => calls_give (F := 1000000) (told := fun _ _ _ => none) Tryz.fits Tryz.mixed Tryz.told0 (n := 99) (k := 12) (ds := Tryz.give25.ds) (by rfl) (by decide) (by decide +kernel) hw hm hr }
def Tryz.give26 : GMemo := ⟨67, 12, [.agg [.sl 3 3 [.flat (.int .i64 (0)), .flat (.int .i64 (0)), .flat (.int .i64 (0)), .flat (.int .i64 (2)), .flat (.int .i64 (0)), .flat (.int .i64 (4)), .flat (.int .i64 (1)), .flat (.int .i64 (1)), .flat (.int .i64 (0))], .sl 3 3 [.flat (.int .i64 (0)), .flat (.int .i64 (1)), .flat (.int .i64 (1)), .sl 1 1 [.flat (.int .i64 (1))], .flat (.int .i64 (1)), .flat (.int .i64 (2)), .flat (.int .i64 (2)), .sl 1 1 [.flat (.int .i64 (6))], .flat (.int .i64 (0)), .flat (.int .i64 (2)), .flat (.int .i64 (1)), .sl 1 1 [.flat (.int .i64 (8))]], .sl 3 3 [.flat (.int .i64 (1)), .flat (.int .i64 (2)), .flat (.int .i64 (3))]], .flat (.int .i64 (6)), .flat (.int .i64 (4))], .bool true⟩
theorem Tryz.give26_ok : GMemoOk Tryz.prog Tryz.give26 := {
  enters := fun args w => Tryz.call67 args w
  flatVal := by decide
  calls := fun N σ w W hw args args' hm hr => calls_give (F := 1000000) (told := fun _ _ _ => none) Tryz.fits Tryz.mixed Tryz.told0 (n := 99) (k := 12) (ds := Tryz.give26.ds) (by rfl) (by decide) (by decide +kernel) hw hm hr }
def Tryz.give27 : GMemo := ⟨67, 12, [.agg [.sl 3 3 [.flat (.int .i64 (0)), .flat (.int .i64 (0)), .flat (.int .i64 (0)), .flat (.int .i64 (2)), .flat (.int .i64 (0)), .flat (.int .i64 (4)), .flat (.int .i64 (1)), .flat (.int .i64 (1)), .flat (.int .i64 (0))], .sl 3 3 [.flat (.int .i64 (0)), .flat (.int .i64 (1)), .flat (.int .i64 (1)), .sl 1 1 [.flat (.int .i64 (1))], .flat (.int .i64 (1)), .flat (.int .i64 (2)), .flat (.int .i64 (2)), .sl 1 1 [.flat (.int .i64 (6))], .flat (.int .i64 (0)), .flat (.int .i64 (2)), .flat (.int .i64 (1)), .sl 1 1 [.flat (.int .i64 (8))]], .sl 3 3 [.flat (.int .i64 (1)), .flat (.int .i64 (2)), .flat (.int .i64 (3))]], .flat (.int .i64 (6)), .flat (.int .i64 (6))], .bool true⟩
theorem Tryz.give27_ok : GMemoOk Tryz.prog Tryz.give27 := {
  enters := fun args w => Tryz.call67 args w
  flatVal := by decide
  calls := fun N σ w W hw args args' hm hr => calls_give (F := 1000000) (told := fun _ _ _ => none) Tryz.fits Tryz.mixed Tryz.told0 (n := 99) (k := 12) (ds := Tryz.give27.ds) (by rfl) (by decide) (by decide +kernel) hw hm hr }
def Tryz.give28 : GMemo := ⟨67, 12, [.agg [.sl 3 3 [.flat (.int .i64 (0)), .flat (.int .i64 (0)), .flat (.int .i64 (0)), .flat (.int .i64 (2)), .flat (.int .i64 (0)), .flat (.int .i64 (4)), .flat (.int .i64 (1)), .flat (.int .i64 (1)), .flat (.int .i64 (0))], .sl 3 3 [.flat (.int .i64 (0)), .flat (.int .i64 (1)), .flat (.int .i64 (1)), .sl 1 1 [.flat (.int .i64 (1))], .flat (.int .i64 (1)), .flat (.int .i64 (2)), .flat (.int .i64 (2)), .sl 1 1 [.flat (.int .i64 (6))], .flat (.int .i64 (0)), .flat (.int .i64 (2)), .flat (.int .i64 (1)), .sl 1 1 [.flat (.int .i64 (8))]], .sl 3 3 [.flat (.int .i64 (1)), .flat (.int .i64 (2)), .flat (.int .i64 (3))]], .flat (.int .i64 (7)), .flat (.int .i64 (2))], .bool true⟩
theorem Tryz.give28_ok : GMemoOk Tryz.prog Tryz.give28 := {
  enters := fun args w => Tryz.call67 args w
  flatVal := by decide
  calls := fun N σ w W hw args args' hm hr => calls_give (F := 1000000) (told := fun _ _ _ => none) Tryz.fits Tryz.mixed Tryz.told0 (n := 99) (k := 12) (ds := Tryz.give28.ds) (by rfl) (by decide) (by decide +kernel) hw hm hr }
def Tryz.give29 : GMemo := ⟨67, 12, [.agg [.sl 3 3 [.flat (.int .i64 (0)), .flat (.int .i64 (0)), .flat (.int .i64 (0)), .flat (.int .i64 (2)), .flat (.int .i64 (0)), .flat (.int .i64 (4)), .flat (.int .i64 (1)), .flat (.int .i64 (1)), .flat (.int .i64 (0))], .sl 3 3 [.flat (.int .i64 (0)), .flat (.int .i64 (1)), .flat (.int .i64 (1)), .sl 1 1 [.flat (.int .i64 (1))], .flat (.int .i64 (1)), .flat (.int .i64 (2)), .flat (.int .i64 (2)), .sl 1 1 [.flat (.int .i64 (6))], .flat (.int .i64 (0)), .flat (.int .i64 (2)), .flat (.int .i64 (1)), .sl 1 1 [.flat (.int .i64 (8))]], .sl 3 3 [.flat (.int .i64 (1)), .flat (.int .i64 (2)), .flat (.int .i64 (3))]], .flat (.int .i64 (7)), .flat (.int .i64 (4))], .bool true⟩
theorem Tryz.give29_ok : GMemoOk Tryz.prog Tryz.give29 := {
  enters := fun args w => Tryz.call67 args w
  flatVal := by decide
  calls := fun N σ w W hw args args' hm hr => calls_give (F := 1000000) (told := fun _ _ _ => none) Tryz.fits Tryz.mixed Tryz.told0 (n := 99) (k := 12) (ds := Tryz.give29.ds) (by rfl) (by decide) (by decide +kernel) hw hm hr }
def Tryz.give30 : GMemo := ⟨67, 12, [.agg [.sl 3 3 [.flat (.int .i64 (0)), .flat (.int .i64 (0)), .flat (.int .i64 (0)), .flat (.int .i64 (2)), .flat (.int .i64 (0)), .flat (.int .i64 (4)), .flat (.int .i64 (1)), .flat (.int .i64 (1)), .flat (.int .i64 (0))], .sl 3 3 [.flat (.int .i64 (0)), .flat (.int .i64 (1)), .flat (.int .i64 (1)), .sl 1 1 [.flat (.int .i64 (1))], .flat (.int .i64 (1)), .flat (.int .i64 (2)), .flat (.int .i64 (2)), .sl 1 1 [.flat (.int .i64 (6))], .flat (.int .i64 (0)), .flat (.int .i64 (2)), .flat (.int .i64 (1)), .sl 1 1 [.flat (.int .i64 (8))]], .sl 3 3 [.flat (.int .i64 (1)), .flat (.int .i64 (2)), .flat (.int .i64 (3))]], .flat (.int .i64 (7)), .flat (.int .i64 (6))], .bool true⟩
theorem Tryz.give30_ok : GMemoOk Tryz.prog Tryz.give30 := {
  enters := fun args w => Tryz.call67 args w
  flatVal := by decide
  calls := fun N σ w W hw args args' hm hr => calls_give (F := 1000000) (told := fun _ _ _ => none) Tryz.fits Tryz.mixed Tryz.told0 (n := 99) (k := 12) (ds := Tryz.give30.ds) (by rfl) (by decide) (by decide +kernel) hw hm hr }
def Tryz.give31 : GMemo := ⟨103, 12, [.agg [.sl 3 3 [.flat (.int .i64 (0)), .flat (.int .i64 (0)), .flat (.int .i64 (0)), .flat (.int .i64 (2)), .flat (.int .i64 (0)), .flat (.int .i64 (4)), .flat (.int .i64 (1)), .flat (.int .i64 (1)), .flat (.int .i64 (0))], .sl 3 3 [.flat (.int .i64 (0)), .flat (.int .i64 (1)), .flat (.int .i64 (1)), .sl 1 1 [.flat (.int .i64 (1))], .flat (.int .i64 (1)), .flat (.int .i64 (2)), .flat (.int .i64 (2)), .sl 1 1 [.flat (.int .i64 (6))], .flat (.int .i64 (0)), .flat (.int .i64 (2)), .flat (.int .i64 (1)), .sl 1 1 [.flat (.int .i64 (8))]], .sl 3 3 [.flat (.int .i64 (1)), .flat (.int .i64 (2)), .flat (.int .i64 (3))]], .sl 2 3 [.flat (.int .i64 (5)), .flat (.int .i64 (1)), .flat (.int .i64 (7)), .flat (.int .i64 (1)), .flat (.int .i64 (0)), .flat (.int .i64 (1)), .flat (.int .i64 (10)), .flat (.int .i64 (3)), .flat (.int .i64 (6)), .flat (.int .i64 (2)), .flat (.int .i64 (7)), .flat (.int .i64 (2)), .flat (.int .i64 (1)), .flat (.int .i64 (2)), .flat (.int .i64 (0)), .flat (.int .i64 (0)), .flat (.int .i64 (8)), .flat (.int .i64 (3)), .flat (.int .i64 (7)), .flat (.int .i64 (0)), .flat (.int .i64 (0)), .flat (.int .i64 (1)), .flat (.int .i64 (10)), .flat (.int .i64 (0))]], .bool true⟩
theorem Tryz.give31_ok : GMemoOk Tryz.prog Tryz.give31 := {
  enters := fun args w => Tryz.call103 args w
  flatVal := by decide
  calls := fun N σ w W hw args args' hm hr => calls_give (F := 1000000) (told := fun _ _ _ => none) Tryz.fits Tryz.mixed Tryz.told0 (n := 99) (k := 12) (ds := Tryz.give31.ds) (by rfl) (by decide) (by decide +kernel) hw hm hr }
def Tryz.give32 : GMemo := ⟨111, 12, [.agg [.sl 3 3 [.flat (.int .i64 (0)), .flat (.int .i64 (0)), .flat (.int .i64 (0)), .flat (.int .i64 (2)), .flat (.int .i64 (0)), .flat (.int .i64 (4)), .flat (.int .i64 (1)), .flat (.int .i64 (1)), .flat (.int .i64 (0))], .sl 3 3 [.flat (.int .i64 (0)), .flat (.int .i64 (1)), .flat (.int .i64 (1)), .sl 1 1 [.flat (.int .i64 (1))], .flat (.int .i64 (1)), .flat (.int .i64 (2)), .flat (.int .i64 (2)), .sl 1 1 [.flat (.int .i64 (6))], .flat (.int .i64 (0)), .flat (.int .i64 (2)), .flat (.int .i64 (1)), .sl 1 1 [.flat (.int .i64 (8))]], .sl 3 3 [.flat (.int .i64 (1)), .flat (.int .i64 (2)), .flat (.int .i64 (3))], .flat (.int .i64 (3)), .flat (.int .i64 (1))], .agg [.flat (.int .i64 (0)), .flat (.int .i64 (1)), .flat (.int .i64 (1)), .sl 1 1 [.flat (.int .i64 (1))]]], .bool true⟩
theorem Tryz.give32_ok : GMemoOk Tryz.prog Tryz.give32 := {
  enters := fun args w => Tryz.call111 args w
  flatVal := by decide
  calls := fun N σ w W hw args args' hm hr => calls_give (F := 1000000) (told := fun _ _ _ => none) Tryz.fits Tryz.mixed Tryz.told0 (n := 99) (k := 12) (ds := Tryz.give32.ds) (by rfl) (by decide) (by decide +kernel) hw hm hr }
def Tryz.give33 : GMemo := ⟨111, 12, [.agg [.sl 3 3 [.flat (.int .i64 (0)), .flat (.int .i64 (0)), .flat (.int .i64 (0)), .flat (.int .i64 (2)), .flat (.int .i64 (0)), .flat (.int .i64 (4)), .flat (.int .i64 (1)), .flat (.int .i64 (1)), .flat (.int .i64 (0))], .sl 3 3 [.flat (.int .i64 (0)), .flat (.int .i64 (1)), .flat (.int .i64 (1)), .sl 1 1 [.flat (.int .i64 (1))], .flat (.int .i64 (1)), .flat (.int .i64 (2)), .flat (.int .i64 (2)), .sl 1 1 [.flat (.int .i64 (6))], .flat (.int .i64 (0)), .flat (.int .i64 (2)), .flat (.int .i64 (1)), .sl 1 1 [.flat (.int .i64 (8))]], .sl 3 3 [.flat (.int .i64 (1)), .flat (.int .i64 (2)), .flat (.int .i64 (3))], .flat (.int .i64 (3)), .flat (.int .i64 (1))], .agg [.flat (.int .i64 (0)), .flat (.int .i64 (2)), .flat (.int .i64 (1)), .sl 1 1 [.flat (.int .i64 (8))]]], .bool false⟩
theorem Tryz.give33_ok : GMemoOk Tryz.prog Tryz.give33 := {
  enters := fun args w => Tryz.call111 args w
  flatVal := by decide
  calls := fun N σ w W hw args args' hm hr => calls_give (F := 1000000) (told := fun _ _ _ => none) Tryz.fits Tryz.mixed Tryz.told0 (n := 99) (k := 12) (ds := Tryz.give33.ds) (by rfl) (by decide) (by decide +kernel) hw hm hr }
def Tryz.give34 : GMemo := ⟨111, 12, [.agg [.sl 3 3 [.flat (.int .i64 (0)), .flat (.int .i64 (0)), .flat (.int .i64 (0)), .flat (.int .i64 (2)), .flat (.int .i64 (0)), .flat (.int .i64 (4)), .flat (.int .i64 (1)), .flat (.int .i64 (1)), .flat (.int .i64 (0))], .sl 3 3 [.flat (.int .i64 (0)), .flat (.int .i64 (1)), .flat (.int .i64 (1)), .sl 1 1 [.flat (.int .i64 (1))], .flat (.int .i64 (1)), .flat (.int .i64 (2)), .flat (.int .i64 (2)), .sl 1 1 [.flat (.int .i64 (6))], .flat (.int .i64 (0)), .flat (.int .i64 (2)), .flat (.int .i64 (1)), .sl 1 1 [.flat (.int .i64 (8))]], .sl 3 3 [.flat (.int .i64 (1)), .flat (.int .i64 (2)), .flat (.int .i64 (3))], .flat (.int .i64 (3)), .flat (.int .i64 (3))], .agg [.flat (.int .i64 (1)), .flat (.int .i64 (2)), .flat (.int .i64 (2)), .sl 1 1 [.flat (.int .i64 (6))]]], .bool true⟩
theorem Tryz.give34_ok : GMemoOk Tryz.prog Tryz.give34 := {
  enters := fun args w => Tryz.call111 args w
  flatVal := by decide
  calls := fun N σ w W hw args args' hm hr => calls_give (F := 1000000) (told := fun _ _ _ => none) Tryz.fits Tryz.mixed Tryz.told0 (n := 99) (k := 12) (ds := Tryz.give34.ds) (by rfl) (by decide) (by decide +kernel) hw hm hr }
def Tryz.gives : List GMemo := [Tryz.give0, Tryz.give1, Tryz.give2, Tryz.give3, Tryz.give4, Tryz.give5, Tryz.give6, Tryz.give7, Tryz.give8, Tryz.give9, Tryz.give10, Tryz.give11, Tryz.give12, Tryz.give13, Tryz.give14, Tryz.give15, Tryz.give16, Tryz.give17, Tryz.give18, Tryz.give19, Tryz.give20, Tryz.give21, Tryz.give22, Tryz.give23, Tryz.give24, Tryz.give25, Tryz.give26, Tryz.give27, Tryz.give28, Tryz.give29, Tryz.give30, Tryz.give31, Tryz.give32, Tryz.give33, Tryz.give34]
theorem Tryz.gives_ok : GMemosOk Tryz.prog Tryz.gives := .cons Tryz.give0_ok (.cons Tryz.give1_ok (.cons Tryz.give2_ok (.cons Tryz.give3_ok (.cons Tryz.give4_ok (.cons Tryz.give5_ok (.cons Tryz.give6_ok (.cons Tryz.give7_ok (.cons Tryz.give8_ok (.cons Tryz.give9_ok (.cons Tryz.give10_ok (.cons Tryz.give11_ok (.cons Tryz.give12_ok (.cons Tryz.give13_ok (.cons Tryz.give14_ok (.cons Tryz.give15_ok (.cons Tryz.give16_ok (.cons Tryz.give17_ok (.cons Tryz.give18_ok (.cons Tryz.give19_ok (.cons Tryz.give20_ok (.cons Tryz.give21_ok (.cons Tryz.give22_ok (.cons Tryz.give23_ok (.cons Tryz.give24_ok (.cons Tryz.give25_ok (.cons Tryz.give26_ok (.cons Tryz.give27_ok (.cons Tryz.give28_ok (.cons Tryz.give29_ok (.cons Tryz.give30_ok (.cons Tryz.give31_ok (.cons Tryz.give32_ok (.cons Tryz.give33_ok (.cons Tryz.give34_ok (.nil)))))))))))))))))))))))))))))))))))
end Go.Proofs

namespace Go.Proofs
open Go Go.RowKit Go.Sim
set_option maxRecDepth 1000000
def Tryz.toldG : ToldF := toldGive Tryz.gives (fun _ _ _ => none)
theorem Tryz.toldG_ok (N : Nat) : ToldOk Tryz.prog N Tryz.toldG := toldGive_ok Tryz.gives_ok Tryz.told0 N
theorem Tryz.works (W : World) : Calls Tryz.prog 21 #[] W fun e W' => e = .returned (.bool true) ∧ BelowD W.heap.size W W' :=
  calls_true (F := 1000000) Tryz.fits Tryz.mixed Tryz.toldG_ok (n := 99) (by decide +kernel) (by decide +kernel) W
def Tryz.T0 : ToldF := toldTrue 21 fun _ _ _ => none
theorem Tryz.toldT0 (N : Nat) : ToldOk Tryz.prog N Tryz.T0 := toldTrue_ok (fun args w => Tryz.call21 args w) Tryz.works (fun N => fun f args w w1 v h => by cases h) N
end Go.Proofs

namespace Go.Proofs
open Go.Shelf
def Tryz.sortL_ren : Go.Shelf.Ren := ⟨fun | 6 => 94 | 15 => 116 | 14 => 115 | 28 => 140 | 29 => 141 | 20 => 132 | 21 => 133 | 22 => 134 | 23 => 135 | 24 => 136 | 25 => 137 | 26 => 138 | 27 => 139 | 46 => 154 | 47 => 155 | 48 => 156 | 49 => 157 | 50 => 158 | 57 => 164 | n => n, fun | 22 => 135 | 24 => 77 | 25 => 139 | 3 => 3 | 39 => 150 | 0 => 0 | 53 => 167 | 55 => 169 | 4 => 4 | 46 => 160 | 45 => 159 | 50 => 164 | 5 => 5 | 9 => 9 | 66 => 182 | 70 => 186 | 76 => 191 | 77 => 192 | n => n, fun | n => n⟩
theorem Tryz.sortL : Go.Proofs.SlLaysF.n6 Tryz.prog Tryz.sortL_ren := {
  mixed := by kernel_rfl
  f6 := ⟨Tryz.f94.name, by decide, Tryz.func94.trans (congrArg some (by kernel_rfl))⟩
  f14 := ⟨Tryz.f115.name, by decide, Tryz.func115.trans (congrArg some (by kernel_rfl))⟩
  f15 := Tryz.func116.trans (congrArg some (by kernel_rfl))
  f20 := ⟨Tryz.f132.name, by decide, Tryz.func132.trans (congrArg some (by kernel_rfl))⟩
  f21 := ⟨Tryz.f133.name, by decide, Tryz.func133.trans (congrArg some (by kernel_rfl))⟩
  f22 := ⟨Tryz.f134.name, by decide, Tryz.func134.trans (congrArg some (by kernel_rfl))⟩
  f23 := ⟨Tryz.f135.name, by decide, Tryz.func135.trans (congrArg some (by kernel_rfl))⟩
  f24 := ⟨Tryz.f136.name, by decide, Tryz.func136.trans (congrArg some (by kernel_rfl))⟩
  f25 := ⟨Tryz.f137.name, by decide, Tryz.func137.trans (congrArg some (by kernel_rfl))⟩
  f26 := ⟨Tryz.f138.name, by decide, Tryz.func138.trans (congrArg some (by kernel_rfl))⟩
  f27 := ⟨Tryz.f139.name, by decide, Tryz.func139.trans (congrArg some (by kernel_rfl))⟩
  f28 := Tryz.func140.trans (congrArg some (by kernel_rfl))
  f29 := Tryz.func141.trans (congrArg some (by kernel_rfl))
  f46 := ⟨Tryz.f154.name, by decide, Tryz.func154.trans (congrArg some (by kernel_rfl))⟩
  f47 := Tryz.func155.trans (congrArg some (by kernel_rfl))
  f48 := Tryz.func156.trans (congrArg some (by kernel_rfl))
  f49 := ⟨Tryz.f157.name, by decide, Tryz.func157.trans (congrArg some (by kernel_rfl))⟩
  f50 := ⟨Tryz.f158.name, by decide, Tryz.func158.trans (congrArg some (by kernel_rfl))⟩
  f57 := ⟨Tryz.f164.name, by decide, Tryz.func164.trans (congrArg some (by kernel_rfl))⟩
  t0 := Tryz.underlying0
  a0 := Tryz.isAgg0
  z0 := Tryz.sizeOf0
  v0 := Tryz.zeroValue0
  t3 := Tryz.underlying3
  a3 := Tryz.isAgg3
  z3 := Tryz.sizeOf3
  v3 := Tryz.zeroValue3
  t4 := Tryz.underlying4
  a4 := Tryz.isAgg4
  z4 := Tryz.sizeOf4
  v4 := Tryz.zeroValue4
  t5 := Tryz.underlying5
  a5 := Tryz.isAgg5
  z5 := Tryz.sizeOf5
  v5 := Tryz.zeroValue5
  t9 := Tryz.underlying9
  a9 := Tryz.isAgg9
  z9 := Tryz.sizeOf9
  v9 := Tryz.zeroValue9
  t22 := Tryz.underlying135
  a22 := Tryz.isAgg135
  z22 := Tryz.sizeOf135
  v22 := Tryz.zeroValue135
  a24 := Tryz.isAgg77
  z24 := Tryz.sizeOf77
  t25 := Tryz.underlying139
  a25 := Tryz.isAgg139
  z25 := Tryz.sizeOf139
  v25 := Tryz.zeroValue139
  t39 := Tryz.underlying150
  a39 := Tryz.isAgg150
  z39 := Tryz.sizeOf150
  v39 := Tryz.zeroValue150
  t45 := Tryz.underlying159
  a45 := Tryz.isAgg159
  z45 := Tryz.sizeOf159
  v45 := Tryz.zeroValue159
  t46 := Tryz.underlying160
  a46 := Tryz.isAgg160
  z46 := Tryz.sizeOf160
  v46 := Tryz.zeroValue160
  t50 := Tryz.underlying164
  a50 := Tryz.isAgg164
  z50 := Tryz.sizeOf164
  v50 := Tryz.zeroValue164
  t53 := Tryz.underlying167
  a53 := Tryz.isAgg167
  z53 := Tryz.sizeOf167
  v53 := Tryz.zeroValue167
  t55 := Tryz.underlying169
  a55 := Tryz.isAgg169
  z55 := Tryz.sizeOf169
  v55 := Tryz.zeroValue169
  t66 := Tryz.underlying182
  a66 := Tryz.isAgg182
  z66 := Tryz.sizeOf182
  v66 := Tryz.zeroValue182
  t70 := Tryz.underlying186
  a70 := Tryz.isAgg186
  z70 := Tryz.sizeOf186
  v70 := Tryz.zeroValue186
  t76 := Tryz.underlying191
  a76 := Tryz.isAgg191
  z76 := Tryz.sizeOf191
  v76 := Tryz.zeroValue191
  t77 := Tryz.underlying192
  a77 := Tryz.isAgg192
  z77 := Tryz.sizeOf192
  v77 := Tryz.zeroValue192 }
end Go.Proofs
namespace Go.Proofs
open Go Go.Shelf Go.RowKit Go.Lib Go.Sort Go.Sim
theorem Tryz.lens : ∀ x, x < Tryz.lenTab.n → isVal (xcall (prg Tryz.prog) (xsOf (prg Tryz.prog)) (fun _ _ _ => none) 1000000 100 (.fn (.func 116) #[]) [.int .u64 (x : Int)] .empty) (Tryz.lenTab.g x) = true := by decide +kernel
theorem Tryz.pops : ∀ x, x < Tryz.popTab.n → isVal (xcall (prg Tryz.prog) (xsOf (prg Tryz.prog)) (fun _ _ _ => none) 1000000 100 (.fn (.func 98) #[]) [.int .i64 (x : Int)] .empty) (Tryz.popTab.g x) = true := by decide +kernel
theorem Tryz.lenOk : TabOk Tryz.prog Tryz.lenTab := {
  enters := fun args w => Tryz.call116 args w
  flatVal := fun _ _ => rfl
  calls := fun x hx W => tab_calls (F := 1000000) (n := 99) Tryz.fits Tryz.mixed Tryz.told0 (fun _ => rfl) (fun _ _ => rfl) Tryz.lens x hx W }
theorem Tryz.popOk : TabOk Tryz.prog Tryz.popTab := {
  enters := fun args w => Tryz.call98 args w
  flatVal := fun _ _ => rfl
  calls := fun x hx W => tab_calls (F := 1000000) (n := 99) Tryz.fits Tryz.mixed Tryz.told0 (fun _ => rfl) (fun _ _ => rfl) Tryz.pops x hx W }
theorem Tryz.toldT0c (N : Nat) : ToldOk Tryz.prog N Tryz.T0c := toldTab_ok Tryz.lenOk (fun N => toldTab_ok Tryz.popOk Tryz.toldT0 N) N
def cfV (x y : Fin 64) : Int := cmpN x.val y.val
theorem ltV (x y : Fin 64) : ltOf cfV x y = decide (popN x.val < popN y.val ∨ (popN x.val = popN y.val ∧ x.val < y.val)) := by
  unfold ltOf cfV cmpN
  rw [decide_eq_decide]
  repeat' split
  all_goals omega
theorem swoV : SWO (ltOf cfV) where
  irrefl x := by rw [ltV]; simp
  trans x y z h1 h2 := by rw [ltV] at *; simp only [decide_eq_true_eq] at *; omega
  ntrans x y z h1 h2 := by rw [ltV] at *; simp only [decide_eq_false_iff_not] at *; omega
theorem totV (x y : Fin 64) (h1 : ltOf cfV x y = false) (h2 : ltOf cfV y x = false) : x = y := by
  rw [ltV] at *
  simp only [decide_eq_false_iff_not] at *
  exact Fin.ext (by omega)
theorem fresh_empty : Fresh AW.empty := ⟨fun b _ => by simp [AW.empty, AW.blk, Trie.get_leaf], fun r _ => by simp [AW.empty, AW.family, Trie.get_leaf]⟩
theorem closureV (x y : Fin 64) (W : World) : Calls Tryz.prog 95 #[encF 63 x, encF 63 y] W fun e w' => e = .returned (.int .i64 (cfV x y)) ∧ ∃ q os, w' = grow (W.drewN q) os := by
  have h := calls_flat Tryz.fits Tryz.mixed Tryz.toldT0c (f := 95) (l := [encF 63 x, encF 63 y]) (v := .int .i64 (cfV x y)) rfl rfl rfl (cmpSets_ok x.val y.val x.isLt y.isLt .empty fresh_empty) W
  exact h.mono fun e w' ⟨he, hb⟩ => ⟨he, grown_of hb⟩
theorem cmpLaysV (blk off size : Nat) (w : World) : CmpLays1 Tryz.prog 95 #[] (encF 63) cfV blk off size w := fun _ _ _ _ x y => closureV x y _
theorem Tryz.cmpOk : CmpOk2 Tryz.prog Tryz.cmpIds := {
  enters := fun args W => Tryz.call94 args W
  tiny := fun p c W => by
    have h := AnyF.slices_SortFunc_none (P := Tryz.prog) (ρ := Tryz.sortL_ren) { Tryz.sortL with } p c (.func (.func 95) #[] #[]) W
    exact h
  sorts := fun blk off c d W h1 h2 hH hblk => by
    have hS := Any.slices_SortFunc_total Tryz.sortL (encF 63) (fun _ => rfl) cfV swoV 95 #[] blk off c d W (fun args W => Tryz.call95 args W) (cmpLaysV blk off d.size W) hH hblk (Nat.lt_of_le_of_lt h2 (by decide)) totV
    refine hS.mono ?_
    rintro e w' ⟨he, n, os, hw⟩
    refine ⟨he, n, os, ?_⟩
    rw [hw]
    unfold sortWorld
    rfl }
theorem Tryz.toldT1 (N : Nat) : ToldOk Tryz.prog N Tryz.T1 := toldSets_ok Tryz.cmpOk Tryz.toldT0c N
end Go.Proofs

namespace Go.Proofs
open Go Go.RowKit Go.Sim Go.ChangeShapes Go.WideShapes Go.ChangeAt
set_option maxRecDepth 100000
theorem Tryz.own : ownKnob Tryz.prog.godebug = none := by kernel_rfl
theorem Tryz.laidOut : laidOutB Tryz.prog = true := by kernel_rfl
theorem Tryz.und4 : Tryz.prog.underlying 4 = some .bool := by kernel_rfl
end Go.Proofs
