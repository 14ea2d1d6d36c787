/- This program: its code, contracts, numbers, part 3. -/
import Derived.Test.YthnpnooiidnbeaaGreatPab
import Derived.Test.YthnpnooiidnbeaaGreatNc
import Derived.Test.YthnpnooiidnbeaaGreatRows
import Derived.ProofKit
import Derived.SizedLaws
set_option linter.unusedVariables false
set_option linter.unusedSimpArgs false
namespace Go.Proofs
open Go Go.RowKit Go.Sim
set_option maxRecDepth 100000
set_option maxHeartbeats 16000000 in
theorem fewestR_ok (C H : List Int) (u h : Value) (d : DIn C H) (h8 : C.length ≤ 1000) (s : Nat) (hs : s ≤ 2000) : ∀ (j k : Nat), k + j = C.length → ∀ (w : AW), Fresh w → ArrOf w 1 icells u C → ArrOf w 1 icells h H →
    CallT Tryz.prog Tryz.T1 (.fn (.func 96) #[]) #[u, h, .int .i64 (k : Int), .int .i64 (s : Int)] w (fun r w' => Grown w w' ∧ ArrOf w' 1 icells r (tab (C.zip H) k (s + 1)))
  | 0, kd, hk, w, f, hC, hH => by
    obtain rfl : kd = C.length := by omega
    obtain ⟨p, cap, rfl, _⟩ := id hC.open
    obtain ⟨q, cq, rfl, _⟩ := id hH.open
    have hz : (C.zip H).length = C.length := by rw [List.length_zip, d.len, Nat.min_self]
    have hdr : (C.zip H).drop C.length = [] := by rw [List.drop_eq_nil_iff]; omega
    have ht1 : tab (C.zip H) C.length 1 = [0] := by rw [tab_succ, hdr]; rfl
    have hts : ∀ n, tab (C.zip H) C.length (n + 1 + 1) = tab (C.zip H) C.length (n + 1) ++ [-1] := fun n => by
      rw [tab_succ, hdr]
      simp only [bestV]
      rw [if_neg (by omega)]; rfl
    have hd : decide ((C.length : Int) = (C.length : Int)) = true := decide_eq_true rfl
    have O1 := Own.new f 3 [.int .i64 0]
    have g1 := (Grown.refl f).push (.cells [.int .i64 0] 3 w.next 0 0)
    have hn1 := AW.next_push w (.cells [.int .i64 0] 3 w.next 0 0)
    refine callT_code rfl Tryz.func96 rfl Tryz.s96_eq rfl ?_
    unfold Tryz.s96
    simp -dsimp -implicitDefEqProofs (maxSteps := 2000000) (disch := first | assumption | omega | (simp only [nx]; omega) | ((repeat refine Fresh.push ?_ _); assumption) | (simp only [smA]; done) | (simp [oneCell, AW.next_push]; done) | fail) only [go_sem, Nat.reduceEqDiff, reduceIte, Nat.reduceAdd, Int.toNat_natCast, Nat.add_zero, Owes_true, Tryz.results96, hd]
    refine loopR (fun k t ds w3 => ∃ i : Nat, i ≤ s ∧ k = s - i ∧ ds = [] ∧ ev t (.tmp 3) = .int .i64 (s : Int) ∧ ev t (.tmp 10) = .int .i64 ((i : Int) + 1) ∧ (∃ u9, ev t (.tmp 9) = u9 ∧ RowI w.next w3 u9 (tab (C.zip H) C.length (i + 1))) ∧ Grown w w3 ∧ w.next ≤ w3.next) (s) ?_ ?_
    · refine ⟨0, by omega, by omega, rfl, ?_, ?_, ⟨_, (by simp -dsimp -implicitDefEqProofs (maxSteps := 2000000) (disch := first | assumption | omega | (simp only [nx]; omega) | ((repeat refine Fresh.push ?_ _); assumption) | (simp only [smA]; done) | (simp [oneCell, AW.next_push]; done) | fail) only [go_sem, Nat.reduceEqDiff, reduceIte, Nat.reduceAdd, Int.toNat_natCast, Nat.add_zero, Owes_true]; try rfl), .inr ⟨w.next, 0, rfl, ht1, Nat.le_refl _, O1⟩⟩, g1, (by rw [AW.next_push]; omega)⟩ <;> simp -dsimp -implicitDefEqProofs (maxSteps := 2000000) (disch := first | assumption | omega | (simp only [nx]; omega) | ((repeat refine Fresh.push ?_ _); assumption) | (simp only [smA]; done) | (simp [oneCell, AW.next_push]; done) | fail) only [go_sem, Nat.reduceEqDiff, reduceIte, Nat.reduceAdd, Int.toNat_natCast, Nat.add_zero, Owes_true] <;> rfl
    rintro k t ds w3 ⟨i, hii, rfl, rfl, e3, e10, hR, g3, hn3⟩
    obtain ⟨u9, e9, hR⟩ := hR
    by_cases hlt : (i : Int) + 1 ≤ (s : Int)
    case neg =>
      obtain rfl : i = s := by omega
      simp -dsimp -implicitDefEqProofs (maxSteps := 2000000) (disch := first | assumption | omega | (simp only [nx]; omega) | ((repeat refine Fresh.push ?_ _); assumption) | (simp only [smA]; done) | (simp [oneCell, AW.next_push]; done) | fail) only [go_sem, Nat.reduceEqDiff, reduceIte, Nat.reduceAdd, Int.toNat_natCast, Nat.add_zero, Owes_true, Tryz.results96, e3, e9, e10, hlt]
      exact ⟨g3, hR.arr (by rw [tab_len]; omega)⟩
    obtain ⟨u5, w5, happ, hA5, hk5, hf5, hn5⟩ := hR.app g3.2 hn3 (by rw [tab_len]; omega) (-1)
    simp -dsimp -implicitDefEqProofs (maxSteps := 2000000) (disch := first | assumption | omega | (simp only [nx]; omega) | ((repeat refine Fresh.push ?_ _); assumption) | (simp only [smA]; done) | (simp [oneCell, AW.next_push]; done) | fail) only [go_sem, Nat.reduceEqDiff, reduceIte, Nat.reduceAdd, Int.toNat_natCast, Nat.add_zero, Owes_true, Tryz.results96, e3, e9, e10, hlt, happ]
    refine ⟨_, by omega, i + 1, by omega, rfl, rfl, by (simp -dsimp -implicitDefEqProofs (maxSteps := 2000000) (disch := first | assumption | omega | (simp only [nx]; omega) | ((repeat refine Fresh.push ?_ _); assumption) | (simp only [smA]; done) | (simp [oneCell, AW.next_push]; done) | fail) only [go_sem, Nat.reduceEqDiff, reduceIte, Nat.reduceAdd, Int.toNat_natCast, Nat.add_zero, Owes_true, e3]; try rfl), by (simp -dsimp -implicitDefEqProofs (maxSteps := 2000000) (disch := first | assumption | omega | (simp only [nx]; omega) | ((repeat refine Fresh.push ?_ _); assumption) | (simp only [smA]; done) | (simp [oneCell, AW.next_push]; done) | fail) only [go_sem, Nat.reduceEqDiff, reduceIte, Nat.reduceAdd, Int.toNat_natCast, Nat.add_zero, Owes_true, e10]; try rfl), ⟨u5, (by simp -dsimp -implicitDefEqProofs (maxSteps := 2000000) (disch := first | assumption | omega | (simp only [nx]; omega) | ((repeat refine Fresh.push ?_ _); assumption) | (simp only [smA]; done) | (simp [oneCell, AW.next_push]; done) | fail) only [go_sem, Nat.reduceEqDiff, reduceIte, Nat.reduceAdd, Int.toNat_natCast, Nat.add_zero, Owes_true]; try rfl), by rw [hts]; exact hA5⟩, ⟨g3.1.trans hk5, hf5⟩, Nat.le_trans hn3 (Nat.le_of_lt hn5)⟩
  | j + 1, kd, hk, w, f, hC, hH => by
    obtain ⟨p, cap, rfl, _, _, hatC⟩ := id hC.open
    obtain ⟨q, cq, rfl, _, _, hatH⟩ := id hH.open
    have hd : decide ((kd : Int) = (C.length : Int)) = false := decide_eq_false (by omega)
    have hkC : kd < C.length := by omega
    have hkH : kd < H.length := by rw [d.len]; exact hkC
    have hkC' : (kd : Int) < (C.length : Int) := by omega
    have hkH' : (kd : Int) < (H.length : Int) := by omega
    obtain ⟨z1, z2, z3, z4, z5, z6⟩ := d.at hkC
    have ih := fewestR_ok C H (.slice p C.length cap) (.slice q H.length cq) d h8 s hs j (kd + 1) (by omega) w f hC hH
    rw [show ((kd + 1 : Nat) : Int) = (kd : Int) + 1 from by omega] at ih
    refine callT_code rfl Tryz.func96 rfl Tryz.s96_eq rfl ?_
    unfold Tryz.s96
    simp -dsimp -implicitDefEqProofs (maxSteps := 2000000) (disch := first | assumption | omega | (simp only [nx]; omega) | ((repeat refine Fresh.push ?_ _); assumption) | (simp only [smA]; done) | (simp [oneCell, AW.next_push]; done) | fail) only [go_sem, Nat.reduceEqDiff, reduceIte, Nat.reduceAdd, Int.toNat_natCast, Nat.add_zero, Owes_true, Tryz.results96, hd]
    apply callV_of (e := rfl)
    · exact ih
    rintro r w1 ⟨g1, hR⟩
    have hTl := tab_len (C.zip H) (kd + 1) (s + 1)
    have hTa : ∀ (i : Nat) (x : Int), i < s + 1 → (tab (C.zip H) (kd + 1) (s + 1))[i]? = some x → x = numOf (bestV ((C.zip H).drop (kd + 1)) (i : Int)).2 := fun i x hi hx => by
      rw [List.getElem?_eq_getElem (by rw [hTl]; exact hi), tab_at _ _ _ _ hi] at hx
      injection hx with hx; exact hx.symm
    have hl := zip_in d (kd + 1)
    have hl8 : ((C.zip H).drop (kd + 1)).length ≤ 1000 := by rw [List.length_drop, List.length_zip]; omega
    have htk := fun n => tab_succ (C.zip H) kd n
    have hkl := tab_len (C.zip H) kd
    rw [z1] at htk
    obtain ⟨b1, o1, rfl, hb1, hc1⟩ := hatC kd hkC
    obtain ⟨b2, o2, rfl, hb2, hc2⟩ := hatH kd hkH
    generalize hcc : C[kd] = cc at *
    generalize hxx : H[kd]'(by omega) = xx at *
    generalize hT : tab (C.zip H) (kd + 1) (s + 1) = T at *
    generalize hlq : (C.zip H).drop (kd + 1) = lq at *
    obtain ⟨pR, cR, rfl, _, _, hatR⟩ := id hR.open
    simp -dsimp -implicitDefEqProofs (maxSteps := 2000000) (disch := first | assumption | omega | (simp only [nx]; omega) | ((repeat refine Fresh.push ?_ _); assumption) | (simp only [smA]; done) | (simp [oneCell, AW.next_push]; done) | fail) only [go_sem, Nat.reduceEqDiff, reduceIte, Nat.reduceAdd, Int.toNat_natCast, Nat.add_zero, Owes_true]
    refine loopR (fun k t ds w2 => ∃ n : Nat, n ≤ s + 1 ∧ k = s + 1 - n ∧ ds = [] ∧ ev t (.tmp 0) = .slice (some ⟨b1, o1, none⟩) C.length cap ∧ ev t (.tmp 1) = .slice (some ⟨b2, o2, none⟩) H.length cq ∧ ev t (.tmp 2) = .int .i64 (kd : Int) ∧ ev t (.tmp 3) = .int .i64 (s : Int) ∧ ev t (.tmp 11) = .slice pR T.length cR ∧ ev t (.tmp 13) = .int .i64 (n : Int) ∧ (∃ u12, ev t (.tmp 12) = u12 ∧ AOwn w1.next w2 3 1 u12 (tab (C.zip H) kd n).length ((tab (C.zip H) kd n).flatMap icells)) ∧ Grown w1 w2 ∧ w1.next ≤ w2.next) (s + 1) ?_ ?_
    · refine ⟨0, by omega, by omega, rfl, ?_, ?_, ?_, ?_, ?_, ?_, ⟨_, (by simp -dsimp -implicitDefEqProofs (maxSteps := 2000000) (disch := first | assumption | omega | (simp only [nx]; omega) | ((repeat refine Fresh.push ?_ _); assumption) | (simp only [smA]; done) | (simp [oneCell, AW.next_push]; done) | fail) only [go_sem, Nat.reduceEqDiff, reduceIte, Nat.reduceAdd, Int.toNat_natCast, Nat.add_zero, Owes_true]; try rfl), .inl ⟨rfl, rfl, rfl⟩⟩, Grown.refl g1.2, Nat.le_refl _⟩ <;> simp -dsimp -implicitDefEqProofs (maxSteps := 2000000) (disch := first | assumption | omega | (simp only [nx]; omega) | ((repeat refine Fresh.push ?_ _); assumption) | (simp only [smA]; done) | (simp [oneCell, AW.next_push]; done) | fail) only [go_sem, Nat.reduceEqDiff, reduceIte, Nat.reduceAdd, Int.toNat_natCast, Nat.add_zero, Owes_true] <;> rfl
    rintro k t ds w2 ⟨n, hin, rfl, rfl, e0, e1, e2, e3, e11, e13, hA, g2, hn2⟩
    obtain ⟨u12, e12, hA⟩ := hA
    by_cases hlt : (n : Int) ≤ (s : Int)
    case neg =>
      obtain rfl : n = s + 1 := by omega
      simp -dsimp -implicitDefEqProofs (maxSteps := 2000000) (disch := first | assumption | omega | (simp only [nx]; omega) | ((repeat refine Fresh.push ?_ _); assumption) | (simp only [smA]; done) | (simp [oneCell, AW.next_push]; done) | fail) only [go_sem, Nat.reduceEqDiff, reduceIte, Nat.reduceAdd, Int.toNat_natCast, Nat.add_zero, Owes_true, Tryz.results96, e0, e1, e2, e3, e11, e12, e13, hlt]
      exact ⟨g1.trans g2, hA.arr icells_len (by rw [hkl]; omega)⟩
    have hns : n < s + 1 := by omega
    have gg := g1.trans g2
    have aC := hc1 _ gg.1 0 _ rfl
    have aH := hc2 _ gg.1 0 _ rfl
    simp only [Nat.add_zero] at aC aH
    simp -dsimp -implicitDefEqProofs (maxSteps := 2000000) (disch := first | assumption | omega | (simp only [nx]; omega) | ((repeat refine Fresh.push ?_ _); assumption) | (simp only [smA]; done) | (simp [oneCell, AW.next_push]; done) | fail) only [go_sem, Nat.reduceEqDiff, reduceIte, Nat.reduceAdd, Int.toNat_natCast, Nat.add_zero, Owes_true, e0, e1, e2, e3, e11, e12, e13, hlt]
    have hdv : (n : Int).tdiv cc = (n : Int) / cc := Int.tdiv_eq_ediv_of_nonneg (by omega)
    have hdv0 : 0 ≤ (n : Int) / cc := Int.ediv_nonneg (by omega) (by omega)
    refine loopR (fun k t ds w3 => ∃ i : Nat, i ≤ (min xx ((n : Int).tdiv cc)).toNat + 1 ∧ k = (min xx ((n : Int).tdiv cc)).toNat + 1 - i ∧ ds = [] ∧ ev t (.tmp 0) = .slice (some ⟨b1, o1, none⟩) C.length cap ∧ ev t (.tmp 1) = .slice (some ⟨b2, o2, none⟩) H.length cq ∧ ev t (.tmp 2) = .int .i64 (kd : Int) ∧ ev t (.tmp 3) = .int .i64 (s : Int) ∧ ev t (.tmp 11) = .slice pR T.length cR ∧ ev t (.tmp 13) = .int .i64 (n : Int) ∧ ev t (.tmp 14) = .int .i64 (numOf (foldTo lq cc n i).2) ∧ ev t (.tmp 15) = .int .i64 (i : Int) ∧ w3 = w2 ∧ ev t (.tmp 12) = u12) ((min xx ((n : Int).tdiv cc)).toNat + 1) ?_ ?_
    · refine ⟨0, by omega, by omega, rfl, ?_, ?_, ?_, ?_, ?_, ?_, ?_, ?_, rfl, by simp -dsimp -implicitDefEqProofs (maxSteps := 2000000) (disch := first | assumption | omega | (simp only [nx]; omega) | ((repeat refine Fresh.push ?_ _); assumption) | (simp only [smA]; done) | (simp [oneCell, AW.next_push]; done) | fail) only [go_sem, Nat.reduceEqDiff, reduceIte, Nat.reduceAdd, Int.toNat_natCast, Nat.add_zero, Owes_true, e12]; try rfl⟩ <;> simp -dsimp -implicitDefEqProofs (maxSteps := 2000000) (disch := first | assumption | omega | (simp only [nx]; omega) | ((repeat refine Fresh.push ?_ _); assumption) | (simp only [smA]; done) | (simp [oneCell, AW.next_push]; done) | fail) only [go_sem, Nat.reduceEqDiff, reduceIte, Nat.reduceAdd, Int.toNat_natCast, Nat.add_zero, Owes_true, e0, e1, e2, e3, e11, e12, e13] <;> rfl
    rintro k t ds w3 ⟨i, hii, rfl, rfl, e0, e1, e2, e3, e11, e13, e14, e15, hw3, e12⟩
    subst hw3
    generalize hM : (min xx ((n : Int).tdiv cc)).toNat = M at *
    have hin : (i : Int) ≤ xx ∧ (i : Int) * cc ≤ (n : Int) ↔ i < M + 1 := by
      rw [← Int.le_ediv_iff_mul_le (by omega : 0 < cc)]
      omega
    by_cases hi : i < M + 1
    case neg =>
      obtain rfl : i = M + 1 := by omega
      obtain ⟨u5, w5, happ, hA5, hk5, hf5, hn5, _⟩ := append_one (e' := 3) Tryz.ty22 Tryz.ty3 rfl (by omega) (by omega) hA g2.2 (by omega) (icells_len (numOf (foldTo lq cc n (M + 1)).2)) (icells_one _) (by rw [hkl]; omega)
      simp only [icells] at happ
      have htn := htk n
      rw [bestV_cons, hM] at htn
      by_cases hx : ((M + 1 : Nat) : Int) ≤ xx
      · have hmm : ¬ ((M + 1 : Nat) : Int) * cc ≤ (n : Int) := fun e => hi (hin.1 ⟨hx, e⟩)
        have hmb : ((M + 1 : Nat) : Int) * cc ≤ 100 * 50000 := Int.mul_le_mul (by omega) (by omega) (by omega) (by omega)
        have hmb0 : 0 ≤ ((M + 1 : Nat) : Int) * cc := Int.mul_nonneg (by omega) (by omega)
        generalize hm1 : ((M + 1 : Nat) : Int) = m1 at *
        generalize hmul : m1 * cc = mc at *
        simp -dsimp -implicitDefEqProofs (maxSteps := 2000000) (disch := first | assumption | omega | (simp only [nx]; omega) | ((repeat refine Fresh.push ?_ _); assumption) | (simp only [smA]; done) | (simp [oneCell, AW.next_push]; done) | fail) only [go_sem, Nat.reduceEqDiff, reduceIte, Nat.reduceAdd, Int.toNat_natCast, Nat.add_zero, Owes_true, e0, e1, e2, e3, e11, e12, e13, e14, e15, hx, hkC', hkH', indexV_eq, aC, aH, hmul, hmm, happ]
        refine ⟨_, by omega, n + 1, by omega, rfl, rfl, by (simp -dsimp -implicitDefEqProofs (maxSteps := 2000000) (disch := first | assumption | omega | (simp only [nx]; omega) | ((repeat refine Fresh.push ?_ _); assumption) | (simp only [smA]; done) | (simp [oneCell, AW.next_push]; done) | fail) only [go_sem, Nat.reduceEqDiff, reduceIte, Nat.reduceAdd, Int.toNat_natCast, Nat.add_zero, Owes_true, e0]; try rfl), by (simp -dsimp -implicitDefEqProofs (maxSteps := 2000000) (disch := first | assumption | omega | (simp only [nx]; omega) | ((repeat refine Fresh.push ?_ _); assumption) | (simp only [smA]; done) | (simp [oneCell, AW.next_push]; done) | fail) only [go_sem, Nat.reduceEqDiff, reduceIte, Nat.reduceAdd, Int.toNat_natCast, Nat.add_zero, Owes_true, e1]; try rfl), by (simp -dsimp -implicitDefEqProofs (maxSteps := 2000000) (disch := first | assumption | omega | (simp only [nx]; omega) | ((repeat refine Fresh.push ?_ _); assumption) | (simp only [smA]; done) | (simp [oneCell, AW.next_push]; done) | fail) only [go_sem, Nat.reduceEqDiff, reduceIte, Nat.reduceAdd, Int.toNat_natCast, Nat.add_zero, Owes_true, e2]; try rfl), by (simp -dsimp -implicitDefEqProofs (maxSteps := 2000000) (disch := first | assumption | omega | (simp only [nx]; omega) | ((repeat refine Fresh.push ?_ _); assumption) | (simp only [smA]; done) | (simp [oneCell, AW.next_push]; done) | fail) only [go_sem, Nat.reduceEqDiff, reduceIte, Nat.reduceAdd, Int.toNat_natCast, Nat.add_zero, Owes_true, e3]; try rfl), by (simp -dsimp -implicitDefEqProofs (maxSteps := 2000000) (disch := first | assumption | omega | (simp only [nx]; omega) | ((repeat refine Fresh.push ?_ _); assumption) | (simp only [smA]; done) | (simp [oneCell, AW.next_push]; done) | fail) only [go_sem, Nat.reduceEqDiff, reduceIte, Nat.reduceAdd, Int.toNat_natCast, Nat.add_zero, Owes_true, e11]; try rfl), by (simp -dsimp -implicitDefEqProofs (maxSteps := 2000000) (disch := first | assumption | omega | (simp only [nx]; omega) | ((repeat refine Fresh.push ?_ _); assumption) | (simp only [smA]; done) | (simp [oneCell, AW.next_push]; done) | fail) only [go_sem, Nat.reduceEqDiff, reduceIte, Nat.reduceAdd, Int.toNat_natCast, Nat.add_zero, Owes_true, e13]; try rfl), ⟨u5, (by simp -dsimp -implicitDefEqProofs (maxSteps := 2000000) (disch := first | assumption | omega | (simp only [nx]; omega) | ((repeat refine Fresh.push ?_ _); assumption) | (simp only [smA]; done) | (simp [oneCell, AW.next_push]; done) | fail) only [go_sem, Nat.reduceEqDiff, reduceIte, Nat.reduceAdd, Int.toNat_natCast, Nat.add_zero, Owes_true]; try rfl), (by rw [htn, List.length_append, List.flatMap_append]; exact hA5)⟩, ⟨g2.1.trans hk5, hf5⟩, by omega⟩
      · generalize hm1 : ((M + 1 : Nat) : Int) = m1 at *
        simp -dsimp -implicitDefEqProofs (maxSteps := 2000000) (disch := first | assumption | omega | (simp only [nx]; omega) | ((repeat refine Fresh.push ?_ _); assumption) | (simp only [smA]; done) | (simp [oneCell, AW.next_push]; done) | fail) only [go_sem, Nat.reduceEqDiff, reduceIte, Nat.reduceAdd, Int.toNat_natCast, Nat.add_zero, Owes_true, e0, e1, e2, e3, e11, e12, e13, e14, e15, hx, hkC', hkH', indexV_eq, aC, aH, happ]
        refine ⟨_, by omega, n + 1, by omega, rfl, rfl, by (simp -dsimp -implicitDefEqProofs (maxSteps := 2000000) (disch := first | assumption | omega | (simp only [nx]; omega) | ((repeat refine Fresh.push ?_ _); assumption) | (simp only [smA]; done) | (simp [oneCell, AW.next_push]; done) | fail) only [go_sem, Nat.reduceEqDiff, reduceIte, Nat.reduceAdd, Int.toNat_natCast, Nat.add_zero, Owes_true, e0]; try rfl), by (simp -dsimp -implicitDefEqProofs (maxSteps := 2000000) (disch := first | assumption | omega | (simp only [nx]; omega) | ((repeat refine Fresh.push ?_ _); assumption) | (simp only [smA]; done) | (simp [oneCell, AW.next_push]; done) | fail) only [go_sem, Nat.reduceEqDiff, reduceIte, Nat.reduceAdd, Int.toNat_natCast, Nat.add_zero, Owes_true, e1]; try rfl), by (simp -dsimp -implicitDefEqProofs (maxSteps := 2000000) (disch := first | assumption | omega | (simp only [nx]; omega) | ((repeat refine Fresh.push ?_ _); assumption) | (simp only [smA]; done) | (simp [oneCell, AW.next_push]; done) | fail) only [go_sem, Nat.reduceEqDiff, reduceIte, Nat.reduceAdd, Int.toNat_natCast, Nat.add_zero, Owes_true, e2]; try rfl), by (simp -dsimp -implicitDefEqProofs (maxSteps := 2000000) (disch := first | assumption | omega | (simp only [nx]; omega) | ((repeat refine Fresh.push ?_ _); assumption) | (simp only [smA]; done) | (simp [oneCell, AW.next_push]; done) | fail) only [go_sem, Nat.reduceEqDiff, reduceIte, Nat.reduceAdd, Int.toNat_natCast, Nat.add_zero, Owes_true, e3]; try rfl), by (simp -dsimp -implicitDefEqProofs (maxSteps := 2000000) (disch := first | assumption | omega | (simp only [nx]; omega) | ((repeat refine Fresh.push ?_ _); assumption) | (simp only [smA]; done) | (simp [oneCell, AW.next_push]; done) | fail) only [go_sem, Nat.reduceEqDiff, reduceIte, Nat.reduceAdd, Int.toNat_natCast, Nat.add_zero, Owes_true, e11]; try rfl), by (simp -dsimp -implicitDefEqProofs (maxSteps := 2000000) (disch := first | assumption | omega | (simp only [nx]; omega) | ((repeat refine Fresh.push ?_ _); assumption) | (simp only [smA]; done) | (simp [oneCell, AW.next_push]; done) | fail) only [go_sem, Nat.reduceEqDiff, reduceIte, Nat.reduceAdd, Int.toNat_natCast, Nat.add_zero, Owes_true, e13]; try rfl), ⟨u5, (by simp -dsimp -implicitDefEqProofs (maxSteps := 2000000) (disch := first | assumption | omega | (simp only [nx]; omega) | ((repeat refine Fresh.push ?_ _); assumption) | (simp only [smA]; done) | (simp [oneCell, AW.next_push]; done) | fail) only [go_sem, Nat.reduceEqDiff, reduceIte, Nat.reduceAdd, Int.toNat_natCast, Nat.add_zero, Owes_true]; try rfl), (by rw [htn, List.length_append, List.flatMap_append]; exact hA5)⟩, ⟨g2.1.trans hk5, hf5⟩, by omega⟩
    obtain ⟨hx, hmc⟩ := hin.2 hi
    have hmc0 : 0 ≤ (i : Int) * cc := Int.mul_nonneg (by omega) (by omega)
    have hst := num_step (l := lq) (c := cc) (s := n) (m := i) hl hl8 (by omega)
    have hnum := num_in hl hl8 ((n : Int) - (i : Int) * cc)
    have hacc : -1 ≤ numOf (foldTo lq cc n i).2 ∧ numOf (foldTo lq cc n i).2 ≤ 1048576 := by
      have hf := foldTo_in (l := lq) (c := cc) (s := n) (fun s => bestV_in lq s) i
      unfold numOf; split <;> omega
    generalize hmul : (i : Int) * cc = mc at *
    obtain ⟨a, ha⟩ : ∃ a : Nat, (n : Int) - mc = (a : Int) := ⟨((n : Int) - mc).toNat, by omega⟩
    rw [ha] at hst hnum
    have haT : a < T.length := by omega
    have haT' : (a : Int) < (T.length : Int) := by omega
    obtain ⟨b3, o3, e3', hb3, hc3⟩ := hatR a haT
    subst e3'
    have aR := hc3 _ g2.1 0 _ rfl
    rw [Nat.add_zero, hTa a T[a] (by omega) (List.getElem?_eq_getElem haT)] at aR
    generalize hX : numOf (bestV lq (a : Int)).2 = X at *
    generalize hF : numOf (foldTo lq cc n i).2 = F at *
    by_cases hX0 : X ≥ 0
    case neg =>
      have hq0 : decide (X ≥ 0) = false := decide_eq_false hX0
      rw [if_neg (fun e => hX0 e.1)] at hst
      simp -dsimp -implicitDefEqProofs (maxSteps := 2000000) (disch := first | assumption | omega | (simp only [nx]; omega) | ((repeat refine Fresh.push ?_ _); assumption) | (simp only [smA]; done) | (simp [oneCell, AW.next_push]; done) | fail) only [go_sem, Nat.reduceEqDiff, reduceIte, Nat.reduceAdd, Int.toNat_natCast, Nat.add_zero, Owes_true, e0, e1, e2, e3, e11, e12, e13, e14, e15, hx, hmc, hkC', hkH', indexV_eq, aC, aH, hmul, ha, haT', aR, hq0]
      refine ⟨_, by omega, i + 1, by omega, rfl, rfl, by (simp -dsimp -implicitDefEqProofs (maxSteps := 2000000) (disch := first | assumption | omega | (simp only [nx]; omega) | ((repeat refine Fresh.push ?_ _); assumption) | (simp only [smA]; done) | (simp [oneCell, AW.next_push]; done) | fail) only [go_sem, Nat.reduceEqDiff, reduceIte, Nat.reduceAdd, Int.toNat_natCast, Nat.add_zero, Owes_true, e0, hst]; try rfl), by (simp -dsimp -implicitDefEqProofs (maxSteps := 2000000) (disch := first | assumption | omega | (simp only [nx]; omega) | ((repeat refine Fresh.push ?_ _); assumption) | (simp only [smA]; done) | (simp [oneCell, AW.next_push]; done) | fail) only [go_sem, Nat.reduceEqDiff, reduceIte, Nat.reduceAdd, Int.toNat_natCast, Nat.add_zero, Owes_true, e1, hst]; try rfl), by (simp -dsimp -implicitDefEqProofs (maxSteps := 2000000) (disch := first | assumption | omega | (simp only [nx]; omega) | ((repeat refine Fresh.push ?_ _); assumption) | (simp only [smA]; done) | (simp [oneCell, AW.next_push]; done) | fail) only [go_sem, Nat.reduceEqDiff, reduceIte, Nat.reduceAdd, Int.toNat_natCast, Nat.add_zero, Owes_true, e2, hst]; try rfl), by (simp -dsimp -implicitDefEqProofs (maxSteps := 2000000) (disch := first | assumption | omega | (simp only [nx]; omega) | ((repeat refine Fresh.push ?_ _); assumption) | (simp only [smA]; done) | (simp [oneCell, AW.next_push]; done) | fail) only [go_sem, Nat.reduceEqDiff, reduceIte, Nat.reduceAdd, Int.toNat_natCast, Nat.add_zero, Owes_true, e3, hst]; try rfl), by (simp -dsimp -implicitDefEqProofs (maxSteps := 2000000) (disch := first | assumption | omega | (simp only [nx]; omega) | ((repeat refine Fresh.push ?_ _); assumption) | (simp only [smA]; done) | (simp [oneCell, AW.next_push]; done) | fail) only [go_sem, Nat.reduceEqDiff, reduceIte, Nat.reduceAdd, Int.toNat_natCast, Nat.add_zero, Owes_true, e11, hst]; try rfl), by (simp -dsimp -implicitDefEqProofs (maxSteps := 2000000) (disch := first | assumption | omega | (simp only [nx]; omega) | ((repeat refine Fresh.push ?_ _); assumption) | (simp only [smA]; done) | (simp [oneCell, AW.next_push]; done) | fail) only [go_sem, Nat.reduceEqDiff, reduceIte, Nat.reduceAdd, Int.toNat_natCast, Nat.add_zero, Owes_true, e13, hst]; try rfl), by (simp -dsimp -implicitDefEqProofs (maxSteps := 2000000) (disch := first | assumption | omega | (simp only [nx]; omega) | ((repeat refine Fresh.push ?_ _); assumption) | (simp only [smA]; done) | (simp [oneCell, AW.next_push]; done) | fail) only [go_sem, Nat.reduceEqDiff, reduceIte, Nat.reduceAdd, Int.toNat_natCast, Nat.add_zero, Owes_true, e14, hst]; try rfl), by (simp -dsimp -implicitDefEqProofs (maxSteps := 2000000) (disch := first | assumption | omega | (simp only [nx]; omega) | ((repeat refine Fresh.push ?_ _); assumption) | (simp only [smA]; done) | (simp [oneCell, AW.next_push]; done) | fail) only [go_sem, Nat.reduceEqDiff, reduceIte, Nat.reduceAdd, Int.toNat_natCast, Nat.add_zero, Owes_true, e15, hst]; try rfl), rfl, by simp -dsimp -implicitDefEqProofs (maxSteps := 2000000) (disch := first | assumption | omega | (simp only [nx]; omega) | ((repeat refine Fresh.push ?_ _); assumption) | (simp only [smA]; done) | (simp [oneCell, AW.next_push]; done) | fail) only [go_sem, Nat.reduceEqDiff, reduceIte, Nat.reduceAdd, Int.toNat_natCast, Nat.add_zero, Owes_true, e12]; try rfl⟩
    have hq0 : decide (X ≥ 0) = true := decide_eq_true hX0
    by_cases hF0 : F < 0
    · have hq1 : decide (F < 0) = true := decide_eq_true hF0
      rw [if_pos ⟨hX0, .inl hF0⟩] at hst
      simp -dsimp -implicitDefEqProofs (maxSteps := 2000000) (disch := first | assumption | omega | (simp only [nx]; omega) | ((repeat refine Fresh.push ?_ _); assumption) | (simp only [smA]; done) | (simp [oneCell, AW.next_push]; done) | fail) only [go_sem, Nat.reduceEqDiff, reduceIte, Nat.reduceAdd, Int.toNat_natCast, Nat.add_zero, Owes_true, e0, e1, e2, e3, e11, e12, e13, e14, e15, hx, hmc, hkC', hkH', indexV_eq, aC, aH, hmul, ha, haT', aR, hq0, hq1]
      refine ⟨_, by omega, i + 1, by omega, rfl, rfl, by (simp -dsimp -implicitDefEqProofs (maxSteps := 2000000) (disch := first | assumption | omega | (simp only [nx]; omega) | ((repeat refine Fresh.push ?_ _); assumption) | (simp only [smA]; done) | (simp [oneCell, AW.next_push]; done) | fail) only [go_sem, Nat.reduceEqDiff, reduceIte, Nat.reduceAdd, Int.toNat_natCast, Nat.add_zero, Owes_true, e0, hst]; try rfl), by (simp -dsimp -implicitDefEqProofs (maxSteps := 2000000) (disch := first | assumption | omega | (simp only [nx]; omega) | ((repeat refine Fresh.push ?_ _); assumption) | (simp only [smA]; done) | (simp [oneCell, AW.next_push]; done) | fail) only [go_sem, Nat.reduceEqDiff, reduceIte, Nat.reduceAdd, Int.toNat_natCast, Nat.add_zero, Owes_true, e1, hst]; try rfl), by (simp -dsimp -implicitDefEqProofs (maxSteps := 2000000) (disch := first | assumption | omega | (simp only [nx]; omega) | ((repeat refine Fresh.push ?_ _); assumption) | (simp only [smA]; done) | (simp [oneCell, AW.next_push]; done) | fail) only [go_sem, Nat.reduceEqDiff, reduceIte, Nat.reduceAdd, Int.toNat_natCast, Nat.add_zero, Owes_true, e2, hst]; try rfl), by (simp -dsimp -implicitDefEqProofs (maxSteps := 2000000) (disch := first | assumption | omega | (simp only [nx]; omega) | ((repeat refine Fresh.push ?_ _); assumption) | (simp only [smA]; done) | (simp [oneCell, AW.next_push]; done) | fail) only [go_sem, Nat.reduceEqDiff, reduceIte, Nat.reduceAdd, Int.toNat_natCast, Nat.add_zero, Owes_true, e3, hst]; try rfl), by (simp -dsimp -implicitDefEqProofs (maxSteps := 2000000) (disch := first | assumption | omega | (simp only [nx]; omega) | ((repeat refine Fresh.push ?_ _); assumption) | (simp only [smA]; done) | (simp [oneCell, AW.next_push]; done) | fail) only [go_sem, Nat.reduceEqDiff, reduceIte, Nat.reduceAdd, Int.toNat_natCast, Nat.add_zero, Owes_true, e11, hst]; try rfl), by (simp -dsimp -implicitDefEqProofs (maxSteps := 2000000) (disch := first | assumption | omega | (simp only [nx]; omega) | ((repeat refine Fresh.push ?_ _); assumption) | (simp only [smA]; done) | (simp [oneCell, AW.next_push]; done) | fail) only [go_sem, Nat.reduceEqDiff, reduceIte, Nat.reduceAdd, Int.toNat_natCast, Nat.add_zero, Owes_true, e13, hst]; try rfl), by (simp -dsimp -implicitDefEqProofs (maxSteps := 2000000) (disch := first | assumption | omega | (simp only [nx]; omega) | ((repeat refine Fresh.push ?_ _); assumption) | (simp only [smA]; done) | (simp [oneCell, AW.next_push]; done) | fail) only [go_sem, Nat.reduceEqDiff, reduceIte, Nat.reduceAdd, Int.toNat_natCast, Nat.add_zero, Owes_true, e14, hst]; try rfl), by (simp -dsimp -implicitDefEqProofs (maxSteps := 2000000) (disch := first | assumption | omega | (simp only [nx]; omega) | ((repeat refine Fresh.push ?_ _); assumption) | (simp only [smA]; done) | (simp [oneCell, AW.next_push]; done) | fail) only [go_sem, Nat.reduceEqDiff, reduceIte, Nat.reduceAdd, Int.toNat_natCast, Nat.add_zero, Owes_true, e15, hst]; try rfl), rfl, by simp -dsimp -implicitDefEqProofs (maxSteps := 2000000) (disch := first | assumption | omega | (simp only [nx]; omega) | ((repeat refine Fresh.push ?_ _); assumption) | (simp only [smA]; done) | (simp [oneCell, AW.next_push]; done) | fail) only [go_sem, Nat.reduceEqDiff, reduceIte, Nat.reduceAdd, Int.toNat_natCast, Nat.add_zero, Owes_true, e12]; try rfl⟩
    have hq1 : decide (F < 0) = false := decide_eq_false hF0
    by_cases hF1 : X + (i : Int) < F
    · have hq2 : decide (X + (i : Int) < F) = true := decide_eq_true hF1
      rw [if_pos ⟨hX0, .inr hF1⟩] at hst
      simp -dsimp -implicitDefEqProofs (maxSteps := 2000000) (disch := first | assumption | omega | (simp only [nx]; omega) | ((repeat refine Fresh.push ?_ _); assumption) | (simp only [smA]; done) | (simp [oneCell, AW.next_push]; done) | fail) only [go_sem, Nat.reduceEqDiff, reduceIte, Nat.reduceAdd, Int.toNat_natCast, Nat.add_zero, Owes_true, e0, e1, e2, e3, e11, e12, e13, e14, e15, hx, hmc, hkC', hkH', indexV_eq, aC, aH, hmul, ha, haT', aR, hq0, hq1, hq2]
      refine ⟨_, by omega, i + 1, by omega, rfl, rfl, by (simp -dsimp -implicitDefEqProofs (maxSteps := 2000000) (disch := first | assumption | omega | (simp only [nx]; omega) | ((repeat refine Fresh.push ?_ _); assumption) | (simp only [smA]; done) | (simp [oneCell, AW.next_push]; done) | fail) only [go_sem, Nat.reduceEqDiff, reduceIte, Nat.reduceAdd, Int.toNat_natCast, Nat.add_zero, Owes_true, e0, hst]; try rfl), by (simp -dsimp -implicitDefEqProofs (maxSteps := 2000000) (disch := first | assumption | omega | (simp only [nx]; omega) | ((repeat refine Fresh.push ?_ _); assumption) | (simp only [smA]; done) | (simp [oneCell, AW.next_push]; done) | fail) only [go_sem, Nat.reduceEqDiff, reduceIte, Nat.reduceAdd, Int.toNat_natCast, Nat.add_zero, Owes_true, e1, hst]; try rfl), by (simp -dsimp -implicitDefEqProofs (maxSteps := 2000000) (disch := first | assumption | omega | (simp only [nx]; omega) | ((repeat refine Fresh.push ?_ _); assumption) | (simp only [smA]; done) | (simp [oneCell, AW.next_push]; done) | fail) only [go_sem, Nat.reduceEqDiff, reduceIte, Nat.reduceAdd, Int.toNat_natCast, Nat.add_zero, Owes_true, e2, hst]; try rfl), by (simp -dsimp -implicitDefEqProofs (maxSteps := 2000000) (disch := first | assumption | omega | (simp only [nx]; omega) | ((repeat refine Fresh.push ?_ _); assumption) | (simp only [smA]; done) | (simp [oneCell, AW.next_push]; done) | fail) only [go_sem, Nat.reduceEqDiff, reduceIte, Nat.reduceAdd, Int.toNat_natCast, Nat.add_zero, Owes_true, e3, hst]; try rfl), by (simp -dsimp -implicitDefEqProofs (maxSteps := 2000000) (disch := first | assumption | omega | (simp only [nx]; omega) | ((repeat refine Fresh.push ?_ _); assumption) | (simp only [smA]; done) | (simp [oneCell, AW.next_push]; done) | fail) only [go_sem, Nat.reduceEqDiff, reduceIte, Nat.reduceAdd, Int.toNat_natCast, Nat.add_zero, Owes_true, e11, hst]; try rfl), by (simp -dsimp -implicitDefEqProofs (maxSteps := 2000000) (disch := first | assumption | omega | (simp only [nx]; omega) | ((repeat refine Fresh.push ?_ _); assumption) | (simp only [smA]; done) | (simp [oneCell, AW.next_push]; done) | fail) only [go_sem, Nat.reduceEqDiff, reduceIte, Nat.reduceAdd, Int.toNat_natCast, Nat.add_zero, Owes_true, e13, hst]; try rfl), by (simp -dsimp -implicitDefEqProofs (maxSteps := 2000000) (disch := first | assumption | omega | (simp only [nx]; omega) | ((repeat refine Fresh.push ?_ _); assumption) | (simp only [smA]; done) | (simp [oneCell, AW.next_push]; done) | fail) only [go_sem, Nat.reduceEqDiff, reduceIte, Nat.reduceAdd, Int.toNat_natCast, Nat.add_zero, Owes_true, e14, hst]; try rfl), by (simp -dsimp -implicitDefEqProofs (maxSteps := 2000000) (disch := first | assumption | omega | (simp only [nx]; omega) | ((repeat refine Fresh.push ?_ _); assumption) | (simp only [smA]; done) | (simp [oneCell, AW.next_push]; done) | fail) only [go_sem, Nat.reduceEqDiff, reduceIte, Nat.reduceAdd, Int.toNat_natCast, Nat.add_zero, Owes_true, e15, hst]; try rfl), rfl, by simp -dsimp -implicitDefEqProofs (maxSteps := 2000000) (disch := first | assumption | omega | (simp only [nx]; omega) | ((repeat refine Fresh.push ?_ _); assumption) | (simp only [smA]; done) | (simp [oneCell, AW.next_push]; done) | fail) only [go_sem, Nat.reduceEqDiff, reduceIte, Nat.reduceAdd, Int.toNat_natCast, Nat.add_zero, Owes_true, e12]; try rfl⟩
    · have hq2 : decide (X + (i : Int) < F) = false := decide_eq_false hF1
      rw [if_neg (fun e => e.2.elim hF0 hF1)] at hst
      simp -dsimp -implicitDefEqProofs (maxSteps := 2000000) (disch := first | assumption | omega | (simp only [nx]; omega) | ((repeat refine Fresh.push ?_ _); assumption) | (simp only [smA]; done) | (simp [oneCell, AW.next_push]; done) | fail) only [go_sem, Nat.reduceEqDiff, reduceIte, Nat.reduceAdd, Int.toNat_natCast, Nat.add_zero, Owes_true, e0, e1, e2, e3, e11, e12, e13, e14, e15, hx, hmc, hkC', hkH', indexV_eq, aC, aH, hmul, ha, haT', aR, hq0, hq1, hq2]
      refine ⟨_, by omega, i + 1, by omega, rfl, rfl, by (simp -dsimp -implicitDefEqProofs (maxSteps := 2000000) (disch := first | assumption | omega | (simp only [nx]; omega) | ((repeat refine Fresh.push ?_ _); assumption) | (simp only [smA]; done) | (simp [oneCell, AW.next_push]; done) | fail) only [go_sem, Nat.reduceEqDiff, reduceIte, Nat.reduceAdd, Int.toNat_natCast, Nat.add_zero, Owes_true, e0, hst]; try rfl), by (simp -dsimp -implicitDefEqProofs (maxSteps := 2000000) (disch := first | assumption | omega | (simp only [nx]; omega) | ((repeat refine Fresh.push ?_ _); assumption) | (simp only [smA]; done) | (simp [oneCell, AW.next_push]; done) | fail) only [go_sem, Nat.reduceEqDiff, reduceIte, Nat.reduceAdd, Int.toNat_natCast, Nat.add_zero, Owes_true, e1, hst]; try rfl), by (simp -dsimp -implicitDefEqProofs (maxSteps := 2000000) (disch := first | assumption | omega | (simp only [nx]; omega) | ((repeat refine Fresh.push ?_ _); assumption) | (simp only [smA]; done) | (simp [oneCell, AW.next_push]; done) | fail) only [go_sem, Nat.reduceEqDiff, reduceIte, Nat.reduceAdd, Int.toNat_natCast, Nat.add_zero, Owes_true, e2, hst]; try rfl), by (simp -dsimp -implicitDefEqProofs (maxSteps := 2000000) (disch := first | assumption | omega | (simp only [nx]; omega) | ((repeat refine Fresh.push ?_ _); assumption) | (simp only [smA]; done) | (simp [oneCell, AW.next_push]; done) | fail) only [go_sem, Nat.reduceEqDiff, reduceIte, Nat.reduceAdd, Int.toNat_natCast, Nat.add_zero, Owes_true, e3, hst]; try rfl), by (simp -dsimp -implicitDefEqProofs (maxSteps := 2000000) (disch := first | assumption | omega | (simp only [nx]; omega) | ((repeat refine Fresh.push ?_ _); assumption) | (simp only [smA]; done) | (simp [oneCell, AW.next_push]; done) | fail) only [go_sem, Nat.reduceEqDiff, reduceIte, Nat.reduceAdd, Int.toNat_natCast, Nat.add_zero, Owes_true, e11, hst]; try rfl), by (simp -dsimp -implicitDefEqProofs (maxSteps := 2000000) (disch := first | assumption | omega | (simp only [nx]; omega) | ((repeat refine Fresh.push ?_ _); assumption) | (simp only [smA]; done) | (simp [oneCell, AW.next_push]; done) | fail) only [go_sem, Nat.reduceEqDiff, reduceIte, Nat.reduceAdd, Int.toNat_natCast, Nat.add_zero, Owes_true, e13, hst]; try rfl), by (simp -dsimp -implicitDefEqProofs (maxSteps := 2000000) (disch := first | assumption | omega | (simp only [nx]; omega) | ((repeat refine Fresh.push ?_ _); assumption) | (simp only [smA]; done) | (simp [oneCell, AW.next_push]; done) | fail) only [go_sem, Nat.reduceEqDiff, reduceIte, Nat.reduceAdd, Int.toNat_natCast, Nat.add_zero, Owes_true, e14, hst]; try rfl), by (simp -dsimp -implicitDefEqProofs (maxSteps := 2000000) (disch := first | assumption | omega | (simp only [nx]; omega) | ((repeat refine Fresh.push ?_ _); assumption) | (simp only [smA]; done) | (simp [oneCell, AW.next_push]; done) | fail) only [go_sem, Nat.reduceEqDiff, reduceIte, Nat.reduceAdd, Int.toNat_natCast, Nat.add_zero, Owes_true, e15, hst]; try rfl), rfl, by simp -dsimp -implicitDefEqProofs (maxSteps := 2000000) (disch := first | assumption | omega | (simp only [nx]; omega) | ((repeat refine Fresh.push ?_ _); assumption) | (simp only [smA]; done) | (simp [oneCell, AW.next_push]; done) | fail) only [go_sem, Nat.reduceEqDiff, reduceIte, Nat.reduceAdd, Int.toNat_natCast, Nat.add_zero, Owes_true, e12]; try rfl⟩
end Go.Proofs

namespace Go.Proofs
open Go Go.RowKit Go.Sim
def Desc (C : List Int) : Prop := ∀ i j, (hij : i ≤ j) → (h : j < C.length) → C[j] ≤ C[i]
theorem draw_desc {C H : List Int} (h : drawE C H = 0) : Desc C := by
  have hs : ∀ i (hi : i + 1 < C.length), C[i + 1] ≤ C[i] := fun i hi => by
    have h1 := (drawE_to h).2.2 (i + 1 + 1) (by omega)
    rw [drawTo_succ hi (by rw [(drawE_to h).2.1]; exact hi)] at h1
    simp only [Bool.and_eq_true] at h1
    have h2 := h1.2.2
    rw [show i + 1 - 1 = i from rfl, List.getElem?_eq_getElem (show i < C.length by omega)] at h2
    simp at h2
    omega
  intro i j
  induction j with
  | zero => intro hij hj; obtain rfl : i = 0 := by omega
            exact Int.le_refl _
  | succ j ih =>
    intro hij hj
    rcases Nat.lt_or_ge j i with q | q
    · obtain rfl : i = j + 1 := by omega
      exact Int.le_refl _
    · exact Int.le_trans (hs j hj) (ih q (by omega))
theorem best_val {c : Int} (hc : 0 ≤ c) : ∀ (l : List (Int × Int)) (s : Int), (∀ d ∈ l, d.1 ≤ c) → (bestV l s).2 < 1048576 → s ≤ (bestV l s).2 * c
  | [], s, _, h => by
    simp only [bestV] at h ⊢
    split
    · rename_i q; rw [q]; simp
    · rename_i q; rw [if_neg q] at h; exact absurd h (by decide)
  | (c0, h0) :: l, s, hl, h => by
    rw [bestV_cons] at h ⊢
    rcases foldTo_is (l := l) (c := c0) (s := s) ((min h0 (s.tdiv c0)).toNat + 1) with e | ⟨n, hn, e⟩
    · rw [e] at h; exact absurd h (by decide)
    · rw [e] at h ⊢
      simp only at h ⊢
      have ih := best_val hc l (s - (n : Int) * c0) (fun d hd => hl d (List.mem_cons_of_mem _ hd)) (by omega)
      have h1 : (n : Int) * c0 ≤ (n : Int) * c := Int.mul_le_mul_of_nonneg_left (hl (c0, h0) List.mem_cons_self) (by omega)
      rw [Int.add_mul]
      omega
theorem best_split {l : List (Int × Int)} {c h s : Int} (hb : (bestV ((c, h) :: l) s).2 < 1048576) : 0 ≤ (bestV ((c, h) :: l) s).1 ∧ (bestV ((c, h) :: l) s).1 + (bestV l (s - (bestV ((c, h) :: l) s).1 * c)).2 = (bestV ((c, h) :: l) s).2 := by
  rw [bestV_cons] at hb ⊢
  rcases foldTo_is (l := l) (c := c) (s := s) ((min h (s.tdiv c)).toNat + 1) with e | ⟨n, hn, e⟩
  · rw [e] at hb; exact absurd hb (by decide)
  · rw [e]; exact ⟨by simp only; omega, rfl⟩
theorem stop_yes {l : List (Int × Int)} {c h s : Int} (hb : (bestV ((c, h) :: l) s).2 < 1048576) : numOf (bestV l (s - (bestV ((c, h) :: l) s).1 * c)).2 = (bestV ((c, h) :: l) s).2 - (bestV ((c, h) :: l) s).1 := by
  obtain ⟨h1, h2⟩ := best_split hb
  unfold numOf
  rw [if_pos (by omega)]
  omega
theorem stop_no {l : List (Int × Int)} {c h s n : Int} (hc : 1 ≤ c) (hl : ∀ d ∈ l, d.1 ≤ c) (hs : 0 ≤ s) (hb : (bestV ((c, h) :: l) s).2 < 1048576) (hn : (bestV ((c, h) :: l) s).1 < n) (hh : n ≤ h) (hm : n * c ≤ s) : numOf (bestV l (s - n * c)).2 ≠ (bestV ((c, h) :: l) s).2 - n := by
  obtain ⟨h1, h2⟩ := best_split hb
  intro e
  unfold numOf at e
  split at e
  · obtain ⟨a, rfl⟩ : ∃ a : Nat, n = (a : Int) := ⟨n.toNat, by omega⟩
    have ha := head_in (c := c) (x := h) (s := s) (n := (a : Int)) (by omega) (by omega) hc hh
    have hla := foldTo_last (l := l) (c := c) (s := s) (n := a) (m := (min h (s.tdiv c)).toNat + 1) (by omega) (by rw [← bestV_cons]; omega)
    rw [← bestV_cons] at hla
    omega
  · have hv := best_val (c := c) (by omega) ((c, h) :: l) s (fun d hd => by
      rcases List.mem_cons.1 hd with rfl | hd
      · exact Int.le_refl _
      · exact hl d hd) hb
    have : n = (bestV ((c, h) :: l) s).2 + 1 := by omega
    rw [this, Int.add_mul] at hm
    omega
end Go.Proofs

namespace Go.Proofs
open Go Go.RowKit Go.Sim
set_option maxRecDepth 100000
theorem drop_le {C H : List Int} (hd : Desc C) {i : Nat} (hi : i < C.length) : ∀ x ∈ (C.zip H).drop (i + 1), x.1 ≤ C[i] := fun x hx => by
  obtain ⟨j, hj, rfl⟩ := List.getElem_of_mem hx
  rw [List.getElem_drop, List.getElem_zip]
  exact hd _ _ (by omega) (by rw [List.length_drop, List.length_zip] at hj; omega)
set_option maxHeartbeats 16000000 in
theorem payR_ok (C H : List Int) (u h : Value) (s : Nat) (hs : s ≤ 2000) (w : AW) (f : Fresh w) (hC : ArrOf w 1 icells u C) (hH : ArrOf w 1 icells h H) (d : DIn C H) (hdc : Desc C) (h8 : C.length ≤ 1000) :
    CallT Tryz.prog Tryz.T1 (.fn (.func 53) #[]) #[u, h, .int .i64 (s : Int)] w (fun rv w' => ∃ v, rv = .tuple #[v, .bool (!decide ((bestV (C.zip H) s).2 = 1048576))] ∧ ((bestV (C.zip H) s).2 ≠ 1048576 → ArrOf w' 1 icells v (payL (C.zip H) s C.length)) ∧ ((bestV (C.zip H) s).2 = 1048576 → v = .slice none 0 0) ∧ Grown w w') := by
  obtain ⟨p, cap, rfl, _, _, hatC⟩ := id hC.open
  obtain ⟨q, cq, rfl, _, _, hatH⟩ := id hH.open
  have hb0 := fewestR_ok C H _ _ d h8 s hs C.length 0 (by omega) w f hC hH
  rw [show ((0 : Nat) : Int) = 0 from rfl] at hb0
  refine callT_code rfl Tryz.func53 rfl Tryz.s53_eq rfl ?_
  unfold Tryz.s53
  simp -dsimp -implicitDefEqProofs (maxSteps := 2000000) (disch := first | assumption | omega | (simp only [nx]; omega) | ((repeat refine Fresh.push ?_ _); assumption) | (simp only [smA]; done) | (simp [oneCell, AW.next_push]; done) | fail) only [go_sem, Nat.reduceEqDiff, reduceIte, Nat.reduceAdd, Int.toNat_natCast, Nat.add_zero, Owes_true, Tryz.results53]
  apply callV_of (e := rfl)
  · exact hb0
  rintro r w1 ⟨g1, hR⟩
  have hTl := tab_len (C.zip H) 0 (s + 1)
  have hTa : ∀ (x : Int), (tab (C.zip H) 0 (s + 1))[s]? = some x → x = numOf (bestV (C.zip H) (s : Int)).2 := fun x hx => by
    rw [List.getElem?_eq_getElem (by rw [hTl]; omega), tab_at _ _ _ _ (by omega)] at hx
    injection hx with hx; exact hx.symm
  generalize hT : tab (C.zip H) 0 (s + 1) = T at *
  obtain ⟨pR, cR, rfl, _, _, hatR⟩ := id hR.open
  have hsT : s < T.length := by omega
  have hsT' : (s : Int) < (T.length : Int) := by omega
  obtain ⟨b3, o3, e3', hb3, hc3⟩ := hatR s hsT
  subst e3'
  have aR := hc3 _ (Keep.refl _ _) 0 _ rfl
  rw [Nat.add_zero, hTa T[s] (List.getElem?_eq_getElem hsT)] at aR
  have hbi := bestV_in (C.zip H) (s : Int)
  by_cases he : (bestV (C.zip H) (s : Int)).2 = 1048576
  · have hnm : numOf (bestV (C.zip H) (s : Int)).2 = -1 := by unfold numOf; rw [if_neg (by omega)]
    rw [hnm] at aR
    have hed : decide ((bestV (C.zip H) (s : Int)).2 = 1048576) = true := decide_eq_true he
    have hm1 : decide ((-1 : Int) < 0) = true := rfl
    simp -dsimp -implicitDefEqProofs (maxSteps := 2000000) (disch := first | assumption | omega | (simp only [nx]; omega) | ((repeat refine Fresh.push ?_ _); assumption) | (simp only [smA]; done) | (simp [oneCell, AW.next_push]; done) | fail) only [go_sem, Nat.reduceEqDiff, reduceIte, Nat.reduceAdd, Int.toNat_natCast, Nat.add_zero, Owes_true, Tryz.results53, hsT', indexV_eq, aR, hm1]
    exact ⟨_, by rw [hed]; rfl, fun q => absurd he q, fun _ => rfl, g1⟩
  have hfin : (bestV (C.zip H) (s : Int)).2 < 1048576 := by omega
  have hnm : numOf (bestV (C.zip H) (s : Int)).2 = (bestV (C.zip H) (s : Int)).2 := by unfold numOf; rw [if_pos hfin]
  rw [hnm] at aR
  have hed : decide ((bestV (C.zip H) (s : Int)).2 = 1048576) = false := decide_eq_false he
  have hneg : ¬ (bestV (C.zip H) (s : Int)).2 < 0 := by omega
  simp -dsimp -implicitDefEqProofs (maxSteps := 2000000) (disch := first | assumption | omega | (simp only [nx]; omega) | ((repeat refine Fresh.push ?_ _); assumption) | (simp only [smA]; done) | (simp [oneCell, AW.next_push]; done) | fail) only [go_sem, Nat.reduceEqDiff, reduceIte, Nat.reduceAdd, Int.toNat_natCast, Nat.add_zero, Owes_true, Tryz.results53, hsT', indexV_eq, aR, hneg]
  refine loopR (fun k t ds w2 => ∃ i : Nat, i ≤ C.length ∧ k = C.length - i ∧ ds = [] ∧ ev t (.tmp 0) = .slice p C.length cap ∧ ev t (.tmp 1) = .slice q H.length cq ∧ ev t (.tmp 2) = .int .i64 (restAt (C.zip H) s i) ∧ ev t (.tmp 8) = .int .i64 (bestV ((C.zip H).drop i) (restAt (C.zip H) s i)).2 ∧ ev t (.tmp 10) = .int .i64 (i : Int) ∧ (∃ u9, ev t (.tmp 9) = u9 ∧ AOwn w1.next w2 3 1 u9 (payL (C.zip H) s i).length ((payL (C.zip H) s i).flatMap icells)) ∧ (bestV ((C.zip H).drop i) (restAt (C.zip H) s i)).2 < 1048576 ∧ Grown w w2 ∧ w1.next ≤ w2.next) (C.length) ?_ ?_
  · refine ⟨0, by omega, by omega, rfl, ?_, ?_, ?_, ?_, ?_, ⟨_, (by simp -dsimp -implicitDefEqProofs (maxSteps := 2000000) (disch := first | assumption | omega | (simp only [nx]; omega) | ((repeat refine Fresh.push ?_ _); assumption) | (simp only [smA]; done) | (simp [oneCell, AW.next_push]; done) | fail) only [go_sem, Nat.reduceEqDiff, reduceIte, Nat.reduceAdd, Int.toNat_natCast, Nat.add_zero, Owes_true]; try rfl), .inl ⟨rfl, rfl, rfl⟩⟩, hfin, g1, Nat.le_refl _⟩ <;> simp -dsimp -implicitDefEqProofs (maxSteps := 2000000) (disch := first | assumption | omega | (simp only [nx]; omega) | ((repeat refine Fresh.push ?_ _); assumption) | (simp only [smA]; done) | (simp [oneCell, AW.next_push]; done) | fail) only [go_sem, Nat.reduceEqDiff, reduceIte, Nat.reduceAdd, Int.toNat_natCast, Nat.add_zero, Owes_true, restAt, List.drop_zero] <;> rfl
  rintro k t ds w2 ⟨i, hii, rfl, rfl, e0, e1, e2, e8, e10, hA, hfi, g2, hn2⟩
  obtain ⟨u9, e9, hA⟩ := hA
  by_cases hlt : (i : Int) < (C.length : Int)
  case neg =>
    obtain rfl : i = C.length := by omega
    have hAr := hA.arr icells_len (by rw [payL_len]; omega)
    obtain ⟨pu, nu, ku, rfl⟩ := AOwn.slice hA
    simp -dsimp -implicitDefEqProofs (maxSteps := 2000000) (disch := first | assumption | omega | (simp only [nx]; omega) | ((repeat refine Fresh.push ?_ _); assumption) | (simp only [smA]; done) | (simp [oneCell, AW.next_push]; done) | fail) only [go_sem, Nat.reduceEqDiff, reduceIte, Nat.reduceAdd, Int.toNat_natCast, Nat.add_zero, Owes_true, Tryz.results53, e0, e1, e2, e8, e9, e10, hlt]
    exact ⟨_, by rw [hed]; rfl, fun _ => hAr, fun q => absurd q he, g2⟩
  have hlt' : i < C.length := by omega
  have hltH : i < H.length := by rw [d.len]; exact hlt'
  have hltH' : (i : Int) < (H.length : Int) := by omega
  obtain ⟨z1, z2, z3, z4, z5, z6⟩ := d.at hlt'
  have hri := rest_in d (show (0 : Int) ≤ (s : Int) by omega) i (by omega)
  obtain ⟨a, ha⟩ : ∃ a : Nat, restAt (C.zip H) s i = (a : Int) := ⟨(restAt (C.zip H) s i).toNat, by omega⟩
  have hdl := drop_le (H := H) hdc hlt'
  have hps := payL_succ (C.zip H) s i
  have hrs : restAt (C.zip H) s (i + 1) = restAt (C.zip H) s i - payN (C.zip H) s i * C[i] := by simp only [restAt, z2]; rfl
  have hpn : payN (C.zip H) s i = (bestV ((C.zip H).drop i) (restAt (C.zip H) s i)).1 := rfl
  rw [ha] at hrs hpn hri hfi e2 e8
  have hf := first_in (c := C[i]) (h := H[i]) (s := (a : Int)) ((C.zip H).drop (i + 1)) hri.1 z3 z5
  rw [z1] at hpn hfi e8
  have hyes := stop_yes hfi
  have hsp := best_split hfi
  have hno := fun n => stop_no (n := n) z3 hdl hri.1 hfi
  rw [← hpn] at hf hyes hno hsp
  have hbin := bestV_in ((C[i], H[i]) :: (C.zip H).drop (i + 1)) (a : Int)
  have hcall := fewestR_ok C H _ _ d h8 a (by omega) (C.length - (i + 1)) (i + 1) (by omega) w2 g2.2 (hC.grown g2) (hH.grown g2)
  rw [show ((i + 1 : Nat) : Int) = (i : Int) + 1 from by omega] at hcall
  simp -dsimp -implicitDefEqProofs (maxSteps := 2000000) (disch := first | assumption | omega | (simp only [nx]; omega) | ((repeat refine Fresh.push ?_ _); assumption) | (simp only [smA]; done) | (simp [oneCell, AW.next_push]; done) | fail) only [go_sem, Nat.reduceEqDiff, reduceIte, Nat.reduceAdd, Int.toNat_natCast, Nat.add_zero, Owes_true, e0, e1, e2, e8, e9, e10, hlt]
  apply callV_of (e := rfl)
  · exact hcall
  rintro _ w3 ⟨g3, hR3⟩
  have hTl3 := tab_len (C.zip H) (i + 1) (a + 1)
  have hTa3 : ∀ (j : Nat) (x : Int), j < a + 1 → (tab (C.zip H) (i + 1) (a + 1))[j]? = some x → x = numOf (bestV ((C.zip H).drop (i + 1)) (j : Int)).2 := fun j x hj hx => by
    rw [List.getElem?_eq_getElem (by rw [hTl3]; exact hj), tab_at _ _ _ _ hj] at hx
    injection hx with hx; exact hx.symm
  have gg := g2.trans g3
  obtain ⟨b1, o1, rfl, hb1, hc1⟩ := hatC i hlt'
  obtain ⟨b2, o2, rfl, hb2, hc2⟩ := hatH i hltH
  have aC := hc1 _ gg.1 0 _ rfl
  have aH := hc2 _ gg.1 0 _ rfl
  simp only [Nat.add_zero] at aC aH
  have hA3 := hA.keep g3.1 (Nat.le_refl _)
  have hn3 := g3.1.next
  generalize hT3 : tab (C.zip H) (i + 1) (a + 1) = T3 at *
  generalize hcc : C[i] = cc at *
  generalize hxx : H[i] = xx at *
  generalize hlq : (C.zip H).drop (i + 1) = lq at *
  generalize hmost : (bestV ((cc, xx) :: lq) (a : Int)).2 = most at *
  generalize hN : payN (C.zip H) s i = N at *
  obtain ⟨pT, cT, rfl, _, _, hatT⟩ := id hR3.open
  have hx00 : xx - ((0 : Nat) : Int) = xx := by omega
  simp -dsimp -implicitDefEqProofs (maxSteps := 2000000) (disch := first | assumption | omega | (simp only [nx]; omega) | ((repeat refine Fresh.push ?_ _); assumption) | (simp only [smA]; done) | (simp [oneCell, AW.next_push]; done) | fail) only [go_sem, Nat.reduceEqDiff, reduceIte, Nat.reduceAdd, Int.toNat_natCast, Nat.add_zero, Owes_true, e0, e1, e2, e8, e9, e10, hlt, hltH', indexV_eq, aH]
  refine loopR (fun k t ds w4 => ∃ m : Nat, m ≤ (xx - N).toNat ∧ k = (xx - N).toNat - m ∧ ds = [] ∧ ev t (.tmp 0) = .slice (some ⟨b1, o1, none⟩) C.length cap ∧ ev t (.tmp 1) = .slice (some ⟨b2, o2, none⟩) H.length cq ∧ ev t (.tmp 2) = .int .i64 (a : Int) ∧ ev t (.tmp 8) = .int .i64 most ∧ ev t (.tmp 10) = .int .i64 (i : Int) ∧ ev t (.tmp 11) = .slice pT T3.length cT ∧ ev t (.tmp 12) = .int .i64 (xx - (m : Int)) ∧ w4 = w3 ∧ ev t (.tmp 9) = u9) ((xx - N).toNat) ?_ ?_
  · refine ⟨0, by omega, by omega, rfl, ?_, ?_, ?_, ?_, ?_, ?_, ?_, rfl, by simp -dsimp -implicitDefEqProofs (maxSteps := 2000000) (disch := first | assumption | omega | (simp only [nx]; omega) | ((repeat refine Fresh.push ?_ _); assumption) | (simp only [smA]; done) | (simp [oneCell, AW.next_push]; done) | fail) only [go_sem, Nat.reduceEqDiff, reduceIte, Nat.reduceAdd, Int.toNat_natCast, Nat.add_zero, Owes_true, e9]; try rfl⟩ <;> simp -dsimp -implicitDefEqProofs (maxSteps := 2000000) (disch := first | assumption | omega | (simp only [nx]; omega) | ((repeat refine Fresh.push ?_ _); assumption) | (simp only [smA]; done) | (simp [oneCell, AW.next_push]; done) | fail) only [go_sem, Nat.reduceEqDiff, reduceIte, Nat.reduceAdd, Int.toNat_natCast, Nat.add_zero, Owes_true, e0, e1, e2, e8, e9, e10, hx00] <;> rfl
  rintro k t ds w4 ⟨m, him, rfl, rfl, e0, e1, e2, e8, e10, e11, e12, hw4, e9⟩
  subst hw4
  have hge : N ≤ xx - (m : Int) := by omega
  have hx0 : 0 ≤ xx - (m : Int) ∧ xx - (m : Int) ≤ 100 := by omega
  have hno' := fun h1 h2 h3 => hno (xx - (m : Int)) h1 h2 h3
  have hm0 : 0 ≤ (xx - (m : Int)) * cc := Int.mul_nonneg hx0.1 (by omega)
  have hm1 : (xx - (m : Int)) * cc ≤ 100 * 50000 := Int.mul_le_mul hx0.2 (by omega) (by omega) (by omega)
  by_cases hstop : xx - (m : Int) = N
  · rw [hstop] at e12 hm0 hm1
    generalize hmul : N * cc = mc at *
    obtain ⟨x, hx⟩ : ∃ x : Nat, (a : Int) - mc = (x : Int) := ⟨((a : Int) - mc).toNat, by omega⟩
    have hxT : x < T3.length := by omega
    have hxT' : (x : Int) < (T3.length : Int) := by omega
    obtain ⟨b5, o5, e5', hb5, hc5⟩ := hatT x hxT
    subst e5'
    have aT := hc5 _ (Keep.refl _ _) 0 _ rfl
    rw [hx] at hyes hsp
    rw [Nat.add_zero, hTa3 x T3[x] (by omega) (List.getElem?_eq_getElem hxT), hyes] at aT
    have hng : ¬ (a : Int) < mc := by omega
    have heq : decide (most - N = most - N) = true := decide_eq_true rfl
    obtain ⟨u5, w5, happ, hA5, hk5, hf5, hn5, _⟩ := append_one (e' := 3) Tryz.ty22 Tryz.ty3 rfl (by omega) (by omega) hA3 g3.2 (by omega) (icells_len N) (icells_one _) (by rw [payL_len]; omega)
    simp only [icells] at happ
    have aC5 := hc1 _ (gg.1.trans (hk5.mono g1.1.next)) 0 _ rfl
    simp only [Nat.add_zero] at aC5
    have hrs' : restAt (C.zip H) s (i + 1) = (x : Int) := by omega
    have hb8 : (bestV lq (x : Int)).2 = most - N := by omega
    simp -dsimp -implicitDefEqProofs (maxSteps := 2000000) (disch := first | assumption | omega | (simp only [nx]; omega) | ((repeat refine Fresh.push ?_ _); assumption) | (simp only [smA]; done) | (simp [oneCell, AW.next_push]; done) | fail) only [go_sem, Nat.reduceEqDiff, reduceIte, Nat.reduceAdd, Int.toNat_natCast, Nat.add_zero, Owes_true, e0, e1, e2, e8, e9, e10, e11, e12, hlt, hltH', indexV_eq, aC, aH, hmul, hng, hx, hxT', aT, heq, happ, aC5]
    refine ⟨_, by omega, i + 1, by omega, rfl, rfl, by (simp -dsimp -implicitDefEqProofs (maxSteps := 2000000) (disch := first | assumption | omega | (simp only [nx]; omega) | ((repeat refine Fresh.push ?_ _); assumption) | (simp only [smA]; done) | (simp [oneCell, AW.next_push]; done) | fail) only [go_sem, Nat.reduceEqDiff, reduceIte, Nat.reduceAdd, Int.toNat_natCast, Nat.add_zero, Owes_true, e0, hlq, hrs', hb8]; try rfl), by (simp -dsimp -implicitDefEqProofs (maxSteps := 2000000) (disch := first | assumption | omega | (simp only [nx]; omega) | ((repeat refine Fresh.push ?_ _); assumption) | (simp only [smA]; done) | (simp [oneCell, AW.next_push]; done) | fail) only [go_sem, Nat.reduceEqDiff, reduceIte, Nat.reduceAdd, Int.toNat_natCast, Nat.add_zero, Owes_true, e1, hlq, hrs', hb8]; try rfl), by (simp -dsimp -implicitDefEqProofs (maxSteps := 2000000) (disch := first | assumption | omega | (simp only [nx]; omega) | ((repeat refine Fresh.push ?_ _); assumption) | (simp only [smA]; done) | (simp [oneCell, AW.next_push]; done) | fail) only [go_sem, Nat.reduceEqDiff, reduceIte, Nat.reduceAdd, Int.toNat_natCast, Nat.add_zero, Owes_true, e2, hlq, hrs', hb8]; try rfl), by (simp -dsimp -implicitDefEqProofs (maxSteps := 2000000) (disch := first | assumption | omega | (simp only [nx]; omega) | ((repeat refine Fresh.push ?_ _); assumption) | (simp only [smA]; done) | (simp [oneCell, AW.next_push]; done) | fail) only [go_sem, Nat.reduceEqDiff, reduceIte, Nat.reduceAdd, Int.toNat_natCast, Nat.add_zero, Owes_true, e8, hlq, hrs', hb8]; try rfl), by (simp -dsimp -implicitDefEqProofs (maxSteps := 2000000) (disch := first | assumption | omega | (simp only [nx]; omega) | ((repeat refine Fresh.push ?_ _); assumption) | (simp only [smA]; done) | (simp [oneCell, AW.next_push]; done) | fail) only [go_sem, Nat.reduceEqDiff, reduceIte, Nat.reduceAdd, Int.toNat_natCast, Nat.add_zero, Owes_true, e10, hlq, hrs', hb8]; try rfl), ⟨u5, (by simp -dsimp -implicitDefEqProofs (maxSteps := 2000000) (disch := first | assumption | omega | (simp only [nx]; omega) | ((repeat refine Fresh.push ?_ _); assumption) | (simp only [smA]; done) | (simp [oneCell, AW.next_push]; done) | fail) only [go_sem, Nat.reduceEqDiff, reduceIte, Nat.reduceAdd, Int.toNat_natCast, Nat.add_zero, Owes_true]; try rfl), (by rw [hps, List.length_append, List.flatMap_append]; exact hA5)⟩, by rw [hlq, hrs', hb8]; omega, ⟨(gg.1.trans (hk5.mono (by have := g1.1.next; omega))), hf5⟩, by omega⟩
  have hmlt : m < (xx - N).toNat := by omega
  have hms : xx - ((m : Int) + 1) = xx - (m : Int) - 1 := by omega
  have hms' : xx - ((m + 1 : Nat) : Int) = xx - (m : Int) - 1 := by omega
  by_cases hgt : (a : Int) < (xx - (m : Int)) * cc
  · generalize hmul : (xx - (m : Int)) * cc = mc at *
    simp -dsimp -implicitDefEqProofs (maxSteps := 2000000) (disch := first | assumption | omega | (simp only [nx]; omega) | ((repeat refine Fresh.push ?_ _); assumption) | (simp only [smA]; done) | (simp [oneCell, AW.next_push]; done) | fail) only [go_sem, Nat.reduceEqDiff, reduceIte, Nat.reduceAdd, Int.toNat_natCast, Nat.add_zero, Owes_true, e0, e1, e2, e8, e9, e10, e11, e12, hlt, hltH', indexV_eq, aC, aH, hmul, hgt]
    refine ⟨_, by omega, m + 1, by omega, rfl, rfl, by (simp -dsimp -implicitDefEqProofs (maxSteps := 2000000) (disch := first | assumption | omega | (simp only [nx]; omega) | ((repeat refine Fresh.push ?_ _); assumption) | (simp only [smA]; done) | (simp [oneCell, AW.next_push]; done) | fail) only [go_sem, Nat.reduceEqDiff, reduceIte, Nat.reduceAdd, Int.toNat_natCast, Nat.add_zero, Owes_true, e0, hms, hms']; try rfl), by (simp -dsimp -implicitDefEqProofs (maxSteps := 2000000) (disch := first | assumption | omega | (simp only [nx]; omega) | ((repeat refine Fresh.push ?_ _); assumption) | (simp only [smA]; done) | (simp [oneCell, AW.next_push]; done) | fail) only [go_sem, Nat.reduceEqDiff, reduceIte, Nat.reduceAdd, Int.toNat_natCast, Nat.add_zero, Owes_true, e1, hms, hms']; try rfl), by (simp -dsimp -implicitDefEqProofs (maxSteps := 2000000) (disch := first | assumption | omega | (simp only [nx]; omega) | ((repeat refine Fresh.push ?_ _); assumption) | (simp only [smA]; done) | (simp [oneCell, AW.next_push]; done) | fail) only [go_sem, Nat.reduceEqDiff, reduceIte, Nat.reduceAdd, Int.toNat_natCast, Nat.add_zero, Owes_true, e2, hms, hms']; try rfl), by (simp -dsimp -implicitDefEqProofs (maxSteps := 2000000) (disch := first | assumption | omega | (simp only [nx]; omega) | ((repeat refine Fresh.push ?_ _); assumption) | (simp only [smA]; done) | (simp [oneCell, AW.next_push]; done) | fail) only [go_sem, Nat.reduceEqDiff, reduceIte, Nat.reduceAdd, Int.toNat_natCast, Nat.add_zero, Owes_true, e8, hms, hms']; try rfl), by (simp -dsimp -implicitDefEqProofs (maxSteps := 2000000) (disch := first | assumption | omega | (simp only [nx]; omega) | ((repeat refine Fresh.push ?_ _); assumption) | (simp only [smA]; done) | (simp [oneCell, AW.next_push]; done) | fail) only [go_sem, Nat.reduceEqDiff, reduceIte, Nat.reduceAdd, Int.toNat_natCast, Nat.add_zero, Owes_true, e10, hms, hms']; try rfl), by (simp -dsimp -implicitDefEqProofs (maxSteps := 2000000) (disch := first | assumption | omega | (simp only [nx]; omega) | ((repeat refine Fresh.push ?_ _); assumption) | (simp only [smA]; done) | (simp [oneCell, AW.next_push]; done) | fail) only [go_sem, Nat.reduceEqDiff, reduceIte, Nat.reduceAdd, Int.toNat_natCast, Nat.add_zero, Owes_true, e11, hms, hms']; try rfl), by (simp -dsimp -implicitDefEqProofs (maxSteps := 2000000) (disch := first | assumption | omega | (simp only [nx]; omega) | ((repeat refine Fresh.push ?_ _); assumption) | (simp only [smA]; done) | (simp [oneCell, AW.next_push]; done) | fail) only [go_sem, Nat.reduceEqDiff, reduceIte, Nat.reduceAdd, Int.toNat_natCast, Nat.add_zero, Owes_true, e12, hms, hms']; try rfl), rfl, by simp -dsimp -implicitDefEqProofs (maxSteps := 2000000) (disch := first | assumption | omega | (simp only [nx]; omega) | ((repeat refine Fresh.push ?_ _); assumption) | (simp only [smA]; done) | (simp [oneCell, AW.next_push]; done) | fail) only [go_sem, Nat.reduceEqDiff, reduceIte, Nat.reduceAdd, Int.toNat_natCast, Nat.add_zero, Owes_true, e9]; try rfl⟩
  · have hne := hno' (by omega) (by omega) (by omega)
    generalize hmul : (xx - (m : Int)) * cc = mc at *
    obtain ⟨x, hx⟩ : ∃ x : Nat, (a : Int) - mc = (x : Int) := ⟨((a : Int) - mc).toNat, by omega⟩
    have hxT : x < T3.length := by omega
    have hxT' : (x : Int) < (T3.length : Int) := by omega
    obtain ⟨b5, o5, e5', hb5, hc5⟩ := hatT x hxT
    subst e5'
    have aT := hc5 _ (Keep.refl _ _) 0 _ rfl
    rw [hx] at hne
    rw [Nat.add_zero, hTa3 x T3[x] (by omega) (List.getElem?_eq_getElem hxT)] at aT
    generalize numOf (bestV lq (x : Int)).2 = X at *
    have heq : decide (X = most - (xx - (m : Int))) = false := decide_eq_false hne
    simp -dsimp -implicitDefEqProofs (maxSteps := 2000000) (disch := first | assumption | omega | (simp only [nx]; omega) | ((repeat refine Fresh.push ?_ _); assumption) | (simp only [smA]; done) | (simp [oneCell, AW.next_push]; done) | fail) only [go_sem, Nat.reduceEqDiff, reduceIte, Nat.reduceAdd, Int.toNat_natCast, Nat.add_zero, Owes_true, e0, e1, e2, e8, e9, e10, e11, e12, hlt, hltH', indexV_eq, aC, aH, hmul, hgt, hx, hxT', aT, heq]
    refine ⟨_, by omega, m + 1, by omega, rfl, rfl, by (simp -dsimp -implicitDefEqProofs (maxSteps := 2000000) (disch := first | assumption | omega | (simp only [nx]; omega) | ((repeat refine Fresh.push ?_ _); assumption) | (simp only [smA]; done) | (simp [oneCell, AW.next_push]; done) | fail) only [go_sem, Nat.reduceEqDiff, reduceIte, Nat.reduceAdd, Int.toNat_natCast, Nat.add_zero, Owes_true, e0, hms, hms']; try rfl), by (simp -dsimp -implicitDefEqProofs (maxSteps := 2000000) (disch := first | assumption | omega | (simp only [nx]; omega) | ((repeat refine Fresh.push ?_ _); assumption) | (simp only [smA]; done) | (simp [oneCell, AW.next_push]; done) | fail) only [go_sem, Nat.reduceEqDiff, reduceIte, Nat.reduceAdd, Int.toNat_natCast, Nat.add_zero, Owes_true, e1, hms, hms']; try rfl), by (simp -dsimp -implicitDefEqProofs (maxSteps := 2000000) (disch := first | assumption | omega | (simp only [nx]; omega) | ((repeat refine Fresh.push ?_ _); assumption) | (simp only [smA]; done) | (simp [oneCell, AW.next_push]; done) | fail) only [go_sem, Nat.reduceEqDiff, reduceIte, Nat.reduceAdd, Int.toNat_natCast, Nat.add_zero, Owes_true, e2, hms, hms']; try rfl), by (simp -dsimp -implicitDefEqProofs (maxSteps := 2000000) (disch := first | assumption | omega | (simp only [nx]; omega) | ((repeat refine Fresh.push ?_ _); assumption) | (simp only [smA]; done) | (simp [oneCell, AW.next_push]; done) | fail) only [go_sem, Nat.reduceEqDiff, reduceIte, Nat.reduceAdd, Int.toNat_natCast, Nat.add_zero, Owes_true, e8, hms, hms']; try rfl), by (simp -dsimp -implicitDefEqProofs (maxSteps := 2000000) (disch := first | assumption | omega | (simp only [nx]; omega) | ((repeat refine Fresh.push ?_ _); assumption) | (simp only [smA]; done) | (simp [oneCell, AW.next_push]; done) | fail) only [go_sem, Nat.reduceEqDiff, reduceIte, Nat.reduceAdd, Int.toNat_natCast, Nat.add_zero, Owes_true, e10, hms, hms']; try rfl), by (simp -dsimp -implicitDefEqProofs (maxSteps := 2000000) (disch := first | assumption | omega | (simp only [nx]; omega) | ((repeat refine Fresh.push ?_ _); assumption) | (simp only [smA]; done) | (simp [oneCell, AW.next_push]; done) | fail) only [go_sem, Nat.reduceEqDiff, reduceIte, Nat.reduceAdd, Int.toNat_natCast, Nat.add_zero, Owes_true, e11, hms, hms']; try rfl), by (simp -dsimp -implicitDefEqProofs (maxSteps := 2000000) (disch := first | assumption | omega | (simp only [nx]; omega) | ((repeat refine Fresh.push ?_ _); assumption) | (simp only [smA]; done) | (simp [oneCell, AW.next_push]; done) | fail) only [go_sem, Nat.reduceEqDiff, reduceIte, Nat.reduceAdd, Int.toNat_natCast, Nat.add_zero, Owes_true, e12, hms, hms']; try rfl), rfl, by simp -dsimp -implicitDefEqProofs (maxSteps := 2000000) (disch := first | assumption | omega | (simp only [nx]; omega) | ((repeat refine Fresh.push ?_ _); assumption) | (simp only [smA]; done) | (simp [oneCell, AW.next_push]; done) | fail) only [go_sem, Nat.reduceEqDiff, reduceIte, Nat.reduceAdd, Int.toNat_natCast, Nat.add_zero, Owes_true, e9]; try rfl⟩
end Go.Proofs

namespace Go.Proofs
open Go Go.RowKit Go.Sim
set_option maxRecDepth 100000
theorem take_eq {L M : List Int} {i : Nat} (h : L.take i = M.take i) (a : i < L.length) (b : i < M.length) : (L.take (i + 1) = M.take (i + 1)) ↔ L[i] = M[i] := by
  rw [List.take_succ_eq_append_getElem a, List.take_succ_eq_append_getElem b, h]
  exact ⟨fun e => by have := List.append_cancel_left e; injection this, fun e => by rw [e]⟩
set_option maxHeartbeats 4000000 in
theorem Same_ok (L M : List Int) (u v : Value) (w : AW) (hL : ArrOf w 1 icells u L) (hM : ArrOf w 1 icells v M) :
    CallT Tryz.prog Tryz.T1 (.fn (.func 16) #[]) #[u, v] w (Ret (.bool (decide (L = M))) fun w' => w = w') := by
  obtain ⟨p, cap, rfl, _, _, hatC⟩ := id hL.open
  obtain ⟨q, cq, rfl, _, _, hatH⟩ := id hM.open
  refine callT_code rfl Tryz.func16 rfl Tryz.s16_eq rfl ?_
  unfold Tryz.s16
  by_cases hl : (L.length : Int) = (M.length : Int)
  case neg =>
    have hd : decide ((L.length : Int) = (M.length : Int)) = false := decide_eq_false hl
    have hE : decide (L = M) = false := decide_eq_false fun e => hl (by rw [e])
    simp -dsimp -implicitDefEqProofs (maxSteps := 2000000) (disch := first | assumption | omega | (simp only [nx]; omega) | ((repeat refine Fresh.push ?_ _); assumption) | (simp only [smA]; done) | (simp [oneCell, AW.next_push]; done) | fail) only [go_sem, Nat.reduceEqDiff, reduceIte, Nat.reduceAdd, Int.toNat_natCast, Nat.add_zero, Owes_true, Tryz.results16, hd]
    refine loopR (fun k t ds w1 => ∃ i : Nat, i ≤ 0 ∧ k = 0 - i ∧ ds = [] ∧ ev t (.tmp 5) = .bool false ∧ w = w1) (0) ?_ ?_
    · refine ⟨0, by omega, by omega, rfl, ?_, rfl⟩ <;> simp -dsimp -implicitDefEqProofs (maxSteps := 2000000) (disch := first | assumption | omega | (simp only [nx]; omega) | ((repeat refine Fresh.push ?_ _); assumption) | (simp only [smA]; done) | (simp [oneCell, AW.next_push]; done) | fail) only [go_sem, Nat.reduceEqDiff, reduceIte, Nat.reduceAdd, Int.toNat_natCast, Nat.add_zero, Owes_true] <;> rfl
    rintro k t ds w1 ⟨i, hii, rfl, rfl, e5, hw⟩
    subst hw
    simp -dsimp -implicitDefEqProofs (maxSteps := 2000000) (disch := first | assumption | omega | (simp only [nx]; omega) | ((repeat refine Fresh.push ?_ _); assumption) | (simp only [smA]; done) | (simp [oneCell, AW.next_push]; done) | fail) only [go_sem, Nat.reduceEqDiff, reduceIte, Nat.reduceAdd, Int.toNat_natCast, Nat.add_zero, Owes_true, Tryz.results16, e5]
    exact ⟨by rw [hE], rfl⟩
  have hd : decide ((L.length : Int) = (M.length : Int)) = true := decide_eq_true hl
  simp -dsimp -implicitDefEqProofs (maxSteps := 2000000) (disch := first | assumption | omega | (simp only [nx]; omega) | ((repeat refine Fresh.push ?_ _); assumption) | (simp only [smA]; done) | (simp [oneCell, AW.next_push]; done) | fail) only [go_sem, Nat.reduceEqDiff, reduceIte, Nat.reduceAdd, Int.toNat_natCast, Nat.add_zero, Owes_true, Tryz.results16, hd]
  refine loopR (fun k t ds w1 => ∃ i : Nat, i ≤ L.length ∧ k = L.length - i ∧ ds = [] ∧ ev t (.tmp 0) = .slice p L.length cap ∧ ev t (.tmp 1) = .slice q M.length cq ∧ ev t (.tmp 6) = .int .i64 (i : Int) ∧ w = w1 ∧ ∃ B, ev t (.tmp 5) = .bool B ∧ (B = true → L.take i = M.take i) ∧ (B = false → L ≠ M)) (L.length) ?_ ?_
  · refine ⟨0, by omega, by omega, rfl, ?_, ?_, ?_, rfl, ⟨true, (by simp -dsimp -implicitDefEqProofs (maxSteps := 2000000) (disch := first | assumption | omega | (simp only [nx]; omega) | ((repeat refine Fresh.push ?_ _); assumption) | (simp only [smA]; done) | (simp [oneCell, AW.next_push]; done) | fail) only [go_sem, Nat.reduceEqDiff, reduceIte, Nat.reduceAdd, Int.toNat_natCast, Nat.add_zero, Owes_true]; try rfl), (fun _ => rfl), fun h => by cases h⟩⟩ <;> simp -dsimp -implicitDefEqProofs (maxSteps := 2000000) (disch := first | assumption | omega | (simp only [nx]; omega) | ((repeat refine Fresh.push ?_ _); assumption) | (simp only [smA]; done) | (simp [oneCell, AW.next_push]; done) | fail) only [go_sem, Nat.reduceEqDiff, reduceIte, Nat.reduceAdd, Int.toNat_natCast, Nat.add_zero, Owes_true] <;> rfl
  rintro k t ds w1 ⟨i, hii, rfl, rfl, e0, e1, e6, hw, hB⟩
  subst hw
  obtain ⟨B, e5, hB1, hB2⟩ := hB
  cases B with
  | false =>
    simp -dsimp -implicitDefEqProofs (maxSteps := 2000000) (disch := first | assumption | omega | (simp only [nx]; omega) | ((repeat refine Fresh.push ?_ _); assumption) | (simp only [smA]; done) | (simp [oneCell, AW.next_push]; done) | fail) only [go_sem, Nat.reduceEqDiff, reduceIte, Nat.reduceAdd, Int.toNat_natCast, Nat.add_zero, Owes_true, Tryz.results16, e5]
    exact ⟨by rw [decide_eq_false (hB2 rfl)], rfl⟩
  | true =>
  have ha := hB1 rfl
  by_cases hlt : (i : Int) < (L.length : Int)
  case neg =>
    obtain rfl : i = L.length := by omega
    have hE : L = M := by rw [List.take_of_length_le (Nat.le_refl _), List.take_of_length_le (by omega)] at ha; exact ha
    simp -dsimp -implicitDefEqProofs (maxSteps := 2000000) (disch := first | assumption | omega | (simp only [nx]; omega) | ((repeat refine Fresh.push ?_ _); assumption) | (simp only [smA]; done) | (simp [oneCell, AW.next_push]; done) | fail) only [go_sem, Nat.reduceEqDiff, reduceIte, Nat.reduceAdd, Int.toNat_natCast, Nat.add_zero, Owes_true, Tryz.results16, e0, e1, e5, e6, hlt]
    exact ⟨by rw [decide_eq_true hE], rfl⟩
  have hlt' : i < L.length := by omega
  have hltM : i < M.length := by omega
  have hltM' : (i : Int) < (M.length : Int) := by omega
  have hte := take_eq ha hlt' hltM
  obtain ⟨b1, o1, rfl, hb1, hc1⟩ := hatC i hlt'
  obtain ⟨b2, o2, rfl, hb2, hc2⟩ := hatH i hltM
  have aC := hc1 _ (Keep.refl _ _) 0 _ rfl
  have aH := hc2 _ (Keep.refl _ _) 0 _ rfl
  simp only [Nat.add_zero] at aC aH
  by_cases hq : L[i] = M[i]
  · have hqd : decide (L[i] = M[i]) = true := decide_eq_true hq
    simp -dsimp -implicitDefEqProofs (maxSteps := 2000000) (disch := first | assumption | omega | (simp only [nx]; omega) | ((repeat refine Fresh.push ?_ _); assumption) | (simp only [smA]; done) | (simp [oneCell, AW.next_push]; done) | fail) only [go_sem, Nat.reduceEqDiff, reduceIte, Nat.reduceAdd, Int.toNat_natCast, Nat.add_zero, Owes_true, Tryz.results16, e0, e1, e5, e6, hlt, hltM', indexV_eq, aC, aH, hqd]
    refine ⟨_, by omega, i + 1, by omega, rfl, rfl, by (simp -dsimp -implicitDefEqProofs (maxSteps := 2000000) (disch := first | assumption | omega | (simp only [nx]; omega) | ((repeat refine Fresh.push ?_ _); assumption) | (simp only [smA]; done) | (simp [oneCell, AW.next_push]; done) | fail) only [go_sem, Nat.reduceEqDiff, reduceIte, Nat.reduceAdd, Int.toNat_natCast, Nat.add_zero, Owes_true, e0]; try rfl), by (simp -dsimp -implicitDefEqProofs (maxSteps := 2000000) (disch := first | assumption | omega | (simp only [nx]; omega) | ((repeat refine Fresh.push ?_ _); assumption) | (simp only [smA]; done) | (simp [oneCell, AW.next_push]; done) | fail) only [go_sem, Nat.reduceEqDiff, reduceIte, Nat.reduceAdd, Int.toNat_natCast, Nat.add_zero, Owes_true, e1]; try rfl), by (simp -dsimp -implicitDefEqProofs (maxSteps := 2000000) (disch := first | assumption | omega | (simp only [nx]; omega) | ((repeat refine Fresh.push ?_ _); assumption) | (simp only [smA]; done) | (simp [oneCell, AW.next_push]; done) | fail) only [go_sem, Nat.reduceEqDiff, reduceIte, Nat.reduceAdd, Int.toNat_natCast, Nat.add_zero, Owes_true, e6]; try rfl), rfl, ⟨true, (by simp -dsimp -implicitDefEqProofs (maxSteps := 2000000) (disch := first | assumption | omega | (simp only [nx]; omega) | ((repeat refine Fresh.push ?_ _); assumption) | (simp only [smA]; done) | (simp [oneCell, AW.next_push]; done) | fail) only [go_sem, Nat.reduceEqDiff, reduceIte, Nat.reduceAdd, Int.toNat_natCast, Nat.add_zero, Owes_true]; try rfl), (fun _ => hte.2 hq), fun h => by cases h⟩⟩
  · have hqd : decide (L[i] = M[i]) = false := decide_eq_false hq
    simp -dsimp -implicitDefEqProofs (maxSteps := 2000000) (disch := first | assumption | omega | (simp only [nx]; omega) | ((repeat refine Fresh.push ?_ _); assumption) | (simp only [smA]; done) | (simp [oneCell, AW.next_push]; done) | fail) only [go_sem, Nat.reduceEqDiff, reduceIte, Nat.reduceAdd, Int.toNat_natCast, Nat.add_zero, Owes_true, Tryz.results16, e0, e1, e5, e6, hlt, hltM', indexV_eq, aC, aH, hqd]
    refine ⟨_, by omega, i + 1, by omega, rfl, rfl, by (simp -dsimp -implicitDefEqProofs (maxSteps := 2000000) (disch := first | assumption | omega | (simp only [nx]; omega) | ((repeat refine Fresh.push ?_ _); assumption) | (simp only [smA]; done) | (simp [oneCell, AW.next_push]; done) | fail) only [go_sem, Nat.reduceEqDiff, reduceIte, Nat.reduceAdd, Int.toNat_natCast, Nat.add_zero, Owes_true, e0]; try rfl), by (simp -dsimp -implicitDefEqProofs (maxSteps := 2000000) (disch := first | assumption | omega | (simp only [nx]; omega) | ((repeat refine Fresh.push ?_ _); assumption) | (simp only [smA]; done) | (simp [oneCell, AW.next_push]; done) | fail) only [go_sem, Nat.reduceEqDiff, reduceIte, Nat.reduceAdd, Int.toNat_natCast, Nat.add_zero, Owes_true, e1]; try rfl), by (simp -dsimp -implicitDefEqProofs (maxSteps := 2000000) (disch := first | assumption | omega | (simp only [nx]; omega) | ((repeat refine Fresh.push ?_ _); assumption) | (simp only [smA]; done) | (simp [oneCell, AW.next_push]; done) | fail) only [go_sem, Nat.reduceEqDiff, reduceIte, Nat.reduceAdd, Int.toNat_natCast, Nat.add_zero, Owes_true, e6]; try rfl), rfl, ⟨false, (by simp -dsimp -implicitDefEqProofs (maxSteps := 2000000) (disch := first | assumption | omega | (simp only [nx]; omega) | ((repeat refine Fresh.push ?_ _); assumption) | (simp only [smA]; done) | (simp [oneCell, AW.next_push]; done) | fail) only [go_sem, Nat.reduceEqDiff, reduceIte, Nat.reduceAdd, Int.toNat_natCast, Nat.add_zero, Owes_true]; try rfl), (fun h => by cases h), fun _ e => hq (hte.1 (by rw [e]))⟩⟩
theorem ValueR_ok (C L : List Int) (u v : Value) (w : AW) (hC : ArrOf w 1 icells u C) (hL : ArrOf w 1 icells v L) (hc : ∀ c ∈ C, 1 ≤ c ∧ c ≤ 50000) (hl : ∀ x ∈ L, 0 ≤ x ∧ x ≤ 50) (hlen : L.length = C.length) (h8 : C.length ≤ 1000) :
    CallT Tryz.prog Tryz.T1 (.fn (.func 56) #[]) #[u, v] w (Ret (.int .i64 (worth C L L.length)) fun w' => w = w') := by
  obtain ⟨p, cap, rfl, _, _, hatC⟩ := id hC.open
  obtain ⟨q, cq, rfl, _, _, hatH⟩ := id hL.open
  refine callT_code rfl Tryz.func56 rfl Tryz.s56_eq rfl ?_
  unfold Tryz.s56
  simp -dsimp -implicitDefEqProofs (maxSteps := 2000000) (disch := first | assumption | omega | (simp only [nx]; omega) | ((repeat refine Fresh.push ?_ _); assumption) | (simp only [smA]; done) | (simp [oneCell, AW.next_push]; done) | fail) only [go_sem, Nat.reduceEqDiff, reduceIte, Nat.reduceAdd, Int.toNat_natCast, Nat.add_zero, Owes_true, Tryz.results56]
  refine loopR (fun k t ds w1 => ∃ i : Nat, i ≤ L.length ∧ k = L.length - i ∧ ds = [] ∧ ev t (.tmp 0) = .slice p C.length cap ∧ ev t (.tmp 1) = .slice q L.length cq ∧ ev t (.tmp 5) = .int .i64 (worth C L i) ∧ ev t (.tmp 6) = .int .i64 (i : Int) ∧ w = w1) (L.length) ?_ ?_
  · refine ⟨0, by omega, by omega, rfl, ?_, ?_, ?_, ?_, rfl⟩ <;> simp -dsimp -implicitDefEqProofs (maxSteps := 2000000) (disch := first | assumption | omega | (simp only [nx]; omega) | ((repeat refine Fresh.push ?_ _); assumption) | (simp only [smA]; done) | (simp [oneCell, AW.next_push]; done) | fail) only [go_sem, Nat.reduceEqDiff, reduceIte, Nat.reduceAdd, Int.toNat_natCast, Nat.add_zero, Owes_true] <;> rfl
  rintro k t ds w1 ⟨i, hii, rfl, rfl, e0, e1, e5, e6, hw⟩
  subst hw
  by_cases hlt : (i : Int) < (L.length : Int)
  case neg =>
    obtain rfl : i = L.length := by omega
    simp -dsimp -implicitDefEqProofs (maxSteps := 2000000) (disch := first | assumption | omega | (simp only [nx]; omega) | ((repeat refine Fresh.push ?_ _); assumption) | (simp only [smA]; done) | (simp [oneCell, AW.next_push]; done) | fail) only [go_sem, Nat.reduceEqDiff, reduceIte, Nat.reduceAdd, Int.toNat_natCast, Nat.add_zero, Owes_true, Tryz.results56, e0, e1, e5, e6, hlt]
    exact ⟨rfl, rfl⟩
  have hlt' : i < L.length := by omega
  have hltC : i < C.length := by omega
  have hltC' : (i : Int) < (C.length : Int) := by omega
  obtain ⟨b1, o1, rfl, hb1, hc1⟩ := hatC i hltC
  obtain ⟨b2, o2, rfl, hb2, hc2⟩ := hatH i hlt'
  have aC := hc1 _ (Keep.refl _ _) 0 _ rfl
  have aH := hc2 _ (Keep.refl _ _) 0 _ rfl
  simp only [Nat.add_zero] at aC aH
  have hws := worth_succ (C := C) (L := L) hlt' hltC
  have hwi := worth_in (m := 50) hc hl (by omega) i (by omega) (by omega)
  have hgi := hl _ (List.getElem_mem hlt')
  have hci := hc _ (List.getElem_mem hltC)
  have hmul0 : 0 ≤ L[i] * C[i] := Int.mul_nonneg hgi.1 (by omega)
  have hmul1 : L[i] * C[i] ≤ 50 * 50000 := Int.mul_le_mul hgi.2 hci.2 (by omega) (by omega)
  generalize L[i] = gi at *
  generalize C[i] = ci at *
  generalize hmm : gi * ci = gc at *
  generalize hwt : worth C L i = wt at *
  simp -dsimp -implicitDefEqProofs (maxSteps := 2000000) (disch := first | assumption | omega | (simp only [nx]; omega) | ((repeat refine Fresh.push ?_ _); assumption) | (simp only [smA]; done) | (simp [oneCell, AW.next_push]; done) | fail) only [go_sem, Nat.reduceEqDiff, reduceIte, Nat.reduceAdd, Int.toNat_natCast, Nat.add_zero, Owes_true, Tryz.results56, e0, e1, e5, e6, hlt, hltC', indexV_eq, aC, aH, hmm]
  refine ⟨_, by omega, i + 1, by omega, rfl, rfl, by (simp -dsimp -implicitDefEqProofs (maxSteps := 2000000) (disch := first | assumption | omega | (simp only [nx]; omega) | ((repeat refine Fresh.push ?_ _); assumption) | (simp only [smA]; done) | (simp [oneCell, AW.next_push]; done) | fail) only [go_sem, Nat.reduceEqDiff, reduceIte, Nat.reduceAdd, Int.toNat_natCast, Nat.add_zero, Owes_true, e0, hws]; try rfl), by (simp -dsimp -implicitDefEqProofs (maxSteps := 2000000) (disch := first | assumption | omega | (simp only [nx]; omega) | ((repeat refine Fresh.push ?_ _); assumption) | (simp only [smA]; done) | (simp [oneCell, AW.next_push]; done) | fail) only [go_sem, Nat.reduceEqDiff, reduceIte, Nat.reduceAdd, Int.toNat_natCast, Nat.add_zero, Owes_true, e1, hws]; try rfl), by (simp -dsimp -implicitDefEqProofs (maxSteps := 2000000) (disch := first | assumption | omega | (simp only [nx]; omega) | ((repeat refine Fresh.push ?_ _); assumption) | (simp only [smA]; done) | (simp [oneCell, AW.next_push]; done) | fail) only [go_sem, Nat.reduceEqDiff, reduceIte, Nat.reduceAdd, Int.toNat_natCast, Nat.add_zero, Owes_true, e5, hws]; try rfl), by (simp -dsimp -implicitDefEqProofs (maxSteps := 2000000) (disch := first | assumption | omega | (simp only [nx]; omega) | ((repeat refine Fresh.push ?_ _); assumption) | (simp only [smA]; done) | (simp [oneCell, AW.next_push]; done) | fail) only [go_sem, Nat.reduceEqDiff, reduceIte, Nat.reduceAdd, Int.toNat_natCast, Nat.add_zero, Owes_true, e6, hws]; try rfl), rfl⟩
theorem PayR_ok (C H : List Int) (u h : Value) (s : Int) (w : AW) (f : Fresh w) (hC : ArrOf w 1 icells u C) (hH : ArrOf w 1 icells h H) :
    CallT Tryz.prog Tryz.T1 (.fn (.func 15) #[]) #[.agg #[u, h], .int .i64 s] w (fun rv w' => ∃ v, rv = .tuple #[v, .int .i64 (PayE C H s)] ∧ (PayE C H s = 0 → ArrOf w' 1 icells v (payL (C.zip H) s C.length)) ∧ (PayE C H s ≠ 0 → v = .slice none 0 0) ∧ Grown w w') := by
  obtain ⟨p, cC, rfl, _⟩ := id hC.open
  obtain ⟨q, cH, rfl, _⟩ := id hH.open
  have g1 := (Grown.refl f).push (.cells [.slice p C.length cC, .slice q H.length cH] 24 w.next 0 0)
  have O1 := Own.new f 24 [.slice p C.length cC, .slice q H.length cH]
  have c0 := O1.cell (o := 0) rfl rfl
  have c1 := O1.cell (o := 1) rfl rfl
  refine callT_code rfl Tryz.func15 rfl Tryz.s15_eq rfl ?_
  unfold Tryz.s15
  simp -dsimp -implicitDefEqProofs (maxSteps := 2000000) (disch := first | assumption | omega | (simp only [nx]; omega) | ((repeat refine Fresh.push ?_ _); assumption) | (simp only [smA]; done) | (simp [oneCell, AW.next_push]; done) | fail) only [go_sem, Nat.reduceEqDiff, reduceIte, Nat.reduceAdd, Int.toNat_natCast, Nat.add_zero, Owes_true, Tryz.results15, Nat.zero_add, c0, c1]
  apply callV_of (e := rfl)
  · exact refCheck_ok C H _ _ _ g1.2 (hC.grown g1) (hH.grown g1)
  rintro _ w1 ⟨rfl, hg1⟩
  have gg := g1.trans hg1
  by_cases he : drawE C H = 0
  case neg =>
    have hed : decide (drawE C H = 0) = false := decide_eq_false he
    have hPE : PayE C H s = drawE C H := by unfold PayE; rw [if_pos he]
    simp -dsimp -implicitDefEqProofs (maxSteps := 2000000) (disch := first | assumption | omega | (simp only [nx]; omega) | ((repeat refine Fresh.push ?_ _); assumption) | (simp only [smA]; done) | (simp [oneCell, AW.next_push]; done) | fail) only [go_sem, Nat.reduceEqDiff, reduceIte, Nat.reduceAdd, Int.toNat_natCast, Nat.add_zero, Owes_true, Tryz.results15, hed]
    exact ⟨_, by rw [hPE], fun q => absurd (hPE ▸ q) he, fun _ => rfl, gg⟩
  have hed : decide (drawE C H = 0) = true := decide_eq_true he
  obtain ⟨d, h8⟩ := drawE_in he
  have hPE : PayE C H s = payE C H s := by unfold PayE; rw [if_neg (by rw [he]; simp)]
  have O2 := O1.keep hg1.1
  have d0 := O2.cell (o := 0) rfl rfl
  have d1 := O2.cell (o := 1) rfl rfl
  simp -dsimp -implicitDefEqProofs (maxSteps := 2000000) (disch := first | assumption | omega | (simp only [nx]; omega) | ((repeat refine Fresh.push ?_ _); assumption) | (simp only [smA]; done) | (simp [oneCell, AW.next_push]; done) | fail) only [go_sem, Nat.reduceEqDiff, reduceIte, Nat.reduceAdd, Int.toNat_natCast, Nat.add_zero, Owes_true, Tryz.results15, hed]
  apply callV_of (e := rfl)
  · exact From_ok _ _ _ _
  rintro _ _ ⟨rfl, rfl⟩
  cases hr : inR 0 s 2000 with
  | false =>
    have hE : payE C H s = 7 := by unfold payE; rw [if_pos hr]
    rw [hE] at hPE
    simp -dsimp -implicitDefEqProofs (maxSteps := 2000000) (disch := first | assumption | omega | (simp only [nx]; omega) | ((repeat refine Fresh.push ?_ _); assumption) | (simp only [smA]; done) | (simp [oneCell, AW.next_push]; done) | fail) only [go_sem, Nat.reduceEqDiff, reduceIte, Nat.reduceAdd, Int.toNat_natCast, Nat.add_zero, Owes_true, Tryz.results15, hr]
    exact ⟨_, by rw [hPE], fun q => by rw [hPE] at q; exact absurd q (by decide), fun _ => rfl, gg⟩
  | true =>
  have hs := (inR_iff _ _ _).1 hr
  obtain ⟨a, rfl⟩ : ∃ a : Nat, s = (a : Int) := ⟨s.toNat, by omega⟩
  simp -dsimp -implicitDefEqProofs (maxSteps := 2000000) (disch := first | assumption | omega | (simp only [nx]; omega) | ((repeat refine Fresh.push ?_ _); assumption) | (simp only [smA]; done) | (simp [oneCell, AW.next_push]; done) | fail) only [go_sem, Nat.reduceEqDiff, reduceIte, Nat.reduceAdd, Int.toNat_natCast, Nat.add_zero, Owes_true, Tryz.results15, hr, Nat.zero_add, d0, d1]
  apply callV_of (e := rfl)
  · exact payR_ok C H _ _ a (by omega) w1 gg.2 (hC.grown gg) (hH.grown gg) d (draw_desc he) (by omega)
  rintro _ w2 ⟨v, rfl, h1, h2, hg2⟩
  by_cases hb : (bestV (C.zip H) (a : Int)).2 = 1048576
  · have hE : payE C H (a : Int) = 4 := by unfold payE; rw [if_neg (by rw [hr]; simp), if_pos hb]
    rw [hE] at hPE
    have hbd : decide ((bestV (C.zip H) (a : Int)).2 = 1048576) = true := decide_eq_true hb
    simp -dsimp -implicitDefEqProofs (maxSteps := 2000000) (disch := first | assumption | omega | (simp only [nx]; omega) | ((repeat refine Fresh.push ?_ _); assumption) | (simp only [smA]; done) | (simp [oneCell, AW.next_push]; done) | fail) only [go_sem, Nat.reduceEqDiff, reduceIte, Nat.reduceAdd, Int.toNat_natCast, Nat.add_zero, Owes_true, Tryz.results15, hbd, Bool.not_true]
    exact ⟨_, by rw [hPE], fun q => by rw [hPE] at q; exact absurd q (by decide), fun _ => rfl, gg.trans hg2⟩
  · have hE : payE C H (a : Int) = 0 := by unfold payE; rw [if_neg (by rw [hr]; simp), if_neg hb]
    rw [hE] at hPE
    have hbd : decide ((bestV (C.zip H) (a : Int)).2 = 1048576) = false := decide_eq_false hb
    have hv := h1 hb
    obtain ⟨pv, cv, rfl, _⟩ := id hv.open
    simp -dsimp -implicitDefEqProofs (maxSteps := 2000000) (disch := first | assumption | omega | (simp only [nx]; omega) | ((repeat refine Fresh.push ?_ _); assumption) | (simp only [smA]; done) | (simp [oneCell, AW.next_push]; done) | fail) only [go_sem, Nat.reduceEqDiff, reduceIte, Nat.reduceAdd, Int.toNat_natCast, Nat.add_zero, Owes_true, Tryz.results15, hbd, Bool.not_false]
    exact ⟨_, by rw [hPE], fun _ => hv, fun q => absurd hPE q, gg.trans hg2⟩
end Go.Proofs

namespace Go.Proofs
open Go Go.RowKit Go.Sim
set_option maxRecDepth 100000
set_option maxHeartbeats 16000000 in
theorem ChangeR_ok (C H G : List Int) (u h g : Value) (P : Int) (hP : P ≤ 9223372036854775807) (w : AW) (f : Fresh w) (hC : ArrOf w 1 icells u C) (hH : ArrOf w 1 icells h H) (hG : ArrOf w 1 icells g G) :
    CallT Tryz.prog Tryz.T1 (.fn (.func 20) #[]) #[.agg #[u, h], g, .int .i64 P] w (fun rv w' => ∃ v, rv = .tuple #[v, .int .i64 (changeE C H G P)] ∧ (changeE C H G P = 0 → ArrOf w' 1 icells v (payL (C.zip (both H G G.length)) (worth C G G.length - P) C.length)) ∧ (changeE C H G P ≠ 0 → v = .slice none 0 0) ∧ Grown w w') := by
  obtain ⟨p, cC, rfl, _⟩ := id hC.open
  obtain ⟨q, cH, rfl, _⟩ := id hH.open
  obtain ⟨pg, cG, rfl, _, _, hatG⟩ := id hG.open
  have g1 := (Grown.refl f).push (.cells [.slice p C.length cC, .slice q H.length cH] 24 w.next 0 0)
  have O1 := Own.new f 24 [.slice p C.length cC, .slice q H.length cH]
  have c0 := O1.cell (o := 0) rfl rfl
  have c1 := O1.cell (o := 1) rfl rfl
  refine callT_code rfl Tryz.func20 rfl Tryz.s20_eq rfl ?_
  unfold Tryz.s20
  simp -dsimp -implicitDefEqProofs (maxSteps := 2000000) (disch := first | assumption | omega | (simp only [nx]; omega) | ((repeat refine Fresh.push ?_ _); assumption) | (simp only [smA]; done) | (simp [oneCell, AW.next_push]; done) | fail) only [go_sem, Nat.reduceEqDiff, reduceIte, Nat.reduceAdd, Int.toNat_natCast, Nat.add_zero, Owes_true, Tryz.results20, Nat.zero_add, c0, c1]
  apply callV_of (e := rfl)
  · exact refCheck_ok C H _ _ _ g1.2 (hC.grown g1) (hH.grown g1)
  rintro _ w1 ⟨rfl, hg1⟩
  have gg := g1.trans hg1
  have O2 := O1.keep hg1.1
  have d0 := O2.cell (o := 0) rfl rfl
  have d1 := O2.cell (o := 1) rfl rfl
  by_cases he : drawE C H = 0
  case neg =>
    have hed : decide (drawE C H = 0) = false := decide_eq_false he
    have hE : changeE C H G P = drawE C H := by unfold changeE; rw [if_pos he]
    simp -dsimp -implicitDefEqProofs (maxSteps := 2000000) (disch := first | assumption | omega | (simp only [nx]; omega) | ((repeat refine Fresh.push ?_ _); assumption) | (simp only [smA]; done) | (simp [oneCell, AW.next_push]; done) | fail) only [go_sem, Nat.reduceEqDiff, reduceIte, Nat.reduceAdd, Int.toNat_natCast, Nat.add_zero, Owes_true, Tryz.results20, hed]
    exact ⟨_, by rw [hE], fun q => absurd (hE ▸ q) he, fun _ => rfl, gg⟩
  have hed : decide (drawE C H = 0) = true := decide_eq_true he
  obtain ⟨d, h8⟩ := drawE_in he
  by_cases hl : (G.length : Int) = (C.length : Int)
  case neg =>
    have hld : decide ((G.length : Int) = (C.length : Int)) = false := decide_eq_false hl
    have hb : haveB C G = false := by unfold haveB; rw [decide_eq_false (by omega : ¬ G.length = C.length)]; rfl
    have hE : changeE C H G P = 7 := by unfold changeE; rw [if_neg (by rw [he]; simp), if_pos hb]
    simp -dsimp -implicitDefEqProofs (maxSteps := 2000000) (disch := first | assumption | omega | (simp only [nx]; omega) | ((repeat refine Fresh.push ?_ _); assumption) | (simp only [smA]; done) | (simp [oneCell, AW.next_push]; done) | fail) only [go_sem, Nat.reduceEqDiff, reduceIte, Nat.reduceAdd, Int.toNat_natCast, Nat.add_zero, Owes_true, Tryz.results20, hed, Nat.zero_add, d0, d1, hld]
    refine loopR (fun k t ds w3 => ∃ i : Nat, i ≤ G.length ∧ k = G.length - i ∧ ds = [] ∧ ev t (.tmp 1) = .slice pg G.length cG ∧ ev t (.tmp 9) = .bool false ∧ ev t (.tmp 10) = .int .i64 (i : Int) ∧ w3 = w1) (G.length) ?_ ?_
    · refine ⟨0, by omega, by omega, rfl, ?_, ?_, ?_, rfl⟩ <;> simp -dsimp -implicitDefEqProofs (maxSteps := 2000000) (disch := first | assumption | omega | (simp only [nx]; omega) | ((repeat refine Fresh.push ?_ _); assumption) | (simp only [smA]; done) | (simp [oneCell, AW.next_push]; done) | fail) only [go_sem, Nat.reduceEqDiff, reduceIte, Nat.reduceAdd, Int.toNat_natCast, Nat.add_zero, Owes_true] <;> rfl
    rintro k t ds w3 ⟨i, hii, rfl, rfl, e1, e9, e10, hw⟩
    subst hw
    by_cases hlt : (i : Int) < (G.length : Int)
    case neg =>
      simp -dsimp -implicitDefEqProofs (maxSteps := 2000000) (disch := first | assumption | omega | (simp only [nx]; omega) | ((repeat refine Fresh.push ?_ _); assumption) | (simp only [smA]; done) | (simp [oneCell, AW.next_push]; done) | fail) only [go_sem, Nat.reduceEqDiff, reduceIte, Nat.reduceAdd, Int.toNat_natCast, Nat.add_zero, Owes_true, Tryz.results20, e1, e9, e10, hlt]
      exact ⟨_, by rw [hE], fun q => by rw [hE] at q; exact absurd q (by decide), fun _ => rfl, gg⟩
    simp -dsimp -implicitDefEqProofs (maxSteps := 2000000) (disch := first | assumption | omega | (simp only [nx]; omega) | ((repeat refine Fresh.push ?_ _); assumption) | (simp only [smA]; done) | (simp [oneCell, AW.next_push]; done) | fail) only [go_sem, Nat.reduceEqDiff, reduceIte, Nat.reduceAdd, Int.toNat_natCast, Nat.add_zero, Owes_true, Tryz.results20, e1, e9, e10, hlt]
    refine ⟨_, by omega, i + 1, by omega, rfl, rfl, by (simp -dsimp -implicitDefEqProofs (maxSteps := 2000000) (disch := first | assumption | omega | (simp only [nx]; omega) | ((repeat refine Fresh.push ?_ _); assumption) | (simp only [smA]; done) | (simp [oneCell, AW.next_push]; done) | fail) only [go_sem, Nat.reduceEqDiff, reduceIte, Nat.reduceAdd, Int.toNat_natCast, Nat.add_zero, Owes_true, e1]; try rfl), by (simp -dsimp -implicitDefEqProofs (maxSteps := 2000000) (disch := first | assumption | omega | (simp only [nx]; omega) | ((repeat refine Fresh.push ?_ _); assumption) | (simp only [smA]; done) | (simp [oneCell, AW.next_push]; done) | fail) only [go_sem, Nat.reduceEqDiff, reduceIte, Nat.reduceAdd, Int.toNat_natCast, Nat.add_zero, Owes_true, e9]; try rfl), by (simp -dsimp -implicitDefEqProofs (maxSteps := 2000000) (disch := first | assumption | omega | (simp only [nx]; omega) | ((repeat refine Fresh.push ?_ _); assumption) | (simp only [smA]; done) | (simp [oneCell, AW.next_push]; done) | fail) only [go_sem, Nat.reduceEqDiff, reduceIte, Nat.reduceAdd, Int.toNat_natCast, Nat.add_zero, Owes_true, e10]; try rfl), rfl⟩
  have hld : decide ((G.length : Int) = (C.length : Int)) = true := decide_eq_true hl
  by_cases hp0 : P ≥ 0
  case neg =>
    have hpd : decide (P ≥ 0) = false := decide_eq_false hp0
    have hE : changeE C H G P = 7 := by
      unfold changeE
      rw [if_neg (by rw [he]; simp)]
      split
      · rfl
      · rw [if_pos (by omega)]
    simp -dsimp -implicitDefEqProofs (maxSteps := 2000000) (disch := first | assumption | omega | (simp only [nx]; omega) | ((repeat refine Fresh.push ?_ _); assumption) | (simp only [smA]; done) | (simp [oneCell, AW.next_push]; done) | fail) only [go_sem, Nat.reduceEqDiff, reduceIte, Nat.reduceAdd, Int.toNat_natCast, Nat.add_zero, Owes_true, Tryz.results20, hed, Nat.zero_add, d0, d1, hld, hpd]
    refine loopR (fun k t ds w3 => ∃ i : Nat, i ≤ G.length ∧ k = G.length - i ∧ ds = [] ∧ ev t (.tmp 1) = .slice pg G.length cG ∧ ev t (.tmp 9) = .bool false ∧ ev t (.tmp 10) = .int .i64 (i : Int) ∧ w3 = w1) (G.length) ?_ ?_
    · refine ⟨0, by omega, by omega, rfl, ?_, ?_, ?_, rfl⟩ <;> simp -dsimp -implicitDefEqProofs (maxSteps := 2000000) (disch := first | assumption | omega | (simp only [nx]; omega) | ((repeat refine Fresh.push ?_ _); assumption) | (simp only [smA]; done) | (simp [oneCell, AW.next_push]; done) | fail) only [go_sem, Nat.reduceEqDiff, reduceIte, Nat.reduceAdd, Int.toNat_natCast, Nat.add_zero, Owes_true] <;> rfl
    rintro k t ds w3 ⟨i, hii, rfl, rfl, e1, e9, e10, hw⟩
    subst hw
    by_cases hlt : (i : Int) < (G.length : Int)
    case neg =>
      simp -dsimp -implicitDefEqProofs (maxSteps := 2000000) (disch := first | assumption | omega | (simp only [nx]; omega) | ((repeat refine Fresh.push ?_ _); assumption) | (simp only [smA]; done) | (simp [oneCell, AW.next_push]; done) | fail) only [go_sem, Nat.reduceEqDiff, reduceIte, Nat.reduceAdd, Int.toNat_natCast, Nat.add_zero, Owes_true, Tryz.results20, e1, e9, e10, hlt]
      exact ⟨_, by rw [hE], fun q => by rw [hE] at q; exact absurd q (by decide), fun _ => rfl, gg⟩
    simp -dsimp -implicitDefEqProofs (maxSteps := 2000000) (disch := first | assumption | omega | (simp only [nx]; omega) | ((repeat refine Fresh.push ?_ _); assumption) | (simp only [smA]; done) | (simp [oneCell, AW.next_push]; done) | fail) only [go_sem, Nat.reduceEqDiff, reduceIte, Nat.reduceAdd, Int.toNat_natCast, Nat.add_zero, Owes_true, Tryz.results20, e1, e9, e10, hlt]
    refine ⟨_, by omega, i + 1, by omega, rfl, rfl, by (simp -dsimp -implicitDefEqProofs (maxSteps := 2000000) (disch := first | assumption | omega | (simp only [nx]; omega) | ((repeat refine Fresh.push ?_ _); assumption) | (simp only [smA]; done) | (simp [oneCell, AW.next_push]; done) | fail) only [go_sem, Nat.reduceEqDiff, reduceIte, Nat.reduceAdd, Int.toNat_natCast, Nat.add_zero, Owes_true, e1]; try rfl), by (simp -dsimp -implicitDefEqProofs (maxSteps := 2000000) (disch := first | assumption | omega | (simp only [nx]; omega) | ((repeat refine Fresh.push ?_ _); assumption) | (simp only [smA]; done) | (simp [oneCell, AW.next_push]; done) | fail) only [go_sem, Nat.reduceEqDiff, reduceIte, Nat.reduceAdd, Int.toNat_natCast, Nat.add_zero, Owes_true, e9]; try rfl), by (simp -dsimp -implicitDefEqProofs (maxSteps := 2000000) (disch := first | assumption | omega | (simp only [nx]; omega) | ((repeat refine Fresh.push ?_ _); assumption) | (simp only [smA]; done) | (simp [oneCell, AW.next_push]; done) | fail) only [go_sem, Nat.reduceEqDiff, reduceIte, Nat.reduceAdd, Int.toNat_natCast, Nat.add_zero, Owes_true, e10]; try rfl), rfl⟩
  have hpd : decide (P ≥ 0) = true := decide_eq_true hp0
  simp -dsimp -implicitDefEqProofs (maxSteps := 2000000) (disch := first | assumption | omega | (simp only [nx]; omega) | ((repeat refine Fresh.push ?_ _); assumption) | (simp only [smA]; done) | (simp [oneCell, AW.next_push]; done) | fail) only [go_sem, Nat.reduceEqDiff, reduceIte, Nat.reduceAdd, Int.toNat_natCast, Nat.add_zero, Owes_true, Tryz.results20, hed, Nat.zero_add, d0, d1, hld, hpd]
  refine loopR (fun k t ds w3 => ∃ i : Nat, i ≤ G.length ∧ k = G.length - i ∧ ds = [] ∧ ev t (.tmp 1) = .slice pg G.length cG ∧ ev t (.tmp 2) = .int .i64 P ∧ ev t (.tmp 3) = .pointer (some ⟨w.next, 0, none⟩) ∧ ev t (.tmp 10) = .int .i64 (i : Int) ∧ w3 = w1 ∧ ∃ B, ev t (.tmp 9) = .bool B ∧ (B = true → (G.take i).all (fun n => inR 0 n 50) = true) ∧ (B = false → haveB C G = false)) (G.length) ?_ ?_
  · refine ⟨0, by omega, by omega, rfl, ?_, ?_, ?_, ?_, rfl, ⟨true, (by simp -dsimp -implicitDefEqProofs (maxSteps := 2000000) (disch := first | assumption | omega | (simp only [nx]; omega) | ((repeat refine Fresh.push ?_ _); assumption) | (simp only [smA]; done) | (simp [oneCell, AW.next_push]; done) | fail) only [go_sem, Nat.reduceEqDiff, reduceIte, Nat.reduceAdd, Int.toNat_natCast, Nat.add_zero, Owes_true]; try rfl), (fun _ => rfl), fun h => by cases h⟩⟩ <;> simp -dsimp -implicitDefEqProofs (maxSteps := 2000000) (disch := first | assumption | omega | (simp only [nx]; omega) | ((repeat refine Fresh.push ?_ _); assumption) | (simp only [smA]; done) | (simp [oneCell, AW.next_push]; done) | fail) only [go_sem, Nat.reduceEqDiff, reduceIte, Nat.reduceAdd, Int.toNat_natCast, Nat.add_zero, Owes_true] <;> rfl
  rintro k t ds w3 ⟨i, hii, rfl, rfl, e1, e2, e3, e10, hw, hB⟩
  subst hw
  obtain ⟨B, e9, hB1, hB2⟩ := hB
  by_cases hlt : (i : Int) < (G.length : Int)
  · have hlt' : i < G.length := by omega
    obtain ⟨bG, oG, rfl, hbG, hcG⟩ := hatG i hlt'
    have aG := hcG _ gg.1 0 _ rfl
    simp only [Nat.add_zero] at aG
    cases B with
    | false =>
      simp -dsimp -implicitDefEqProofs (maxSteps := 2000000) (disch := first | assumption | omega | (simp only [nx]; omega) | ((repeat refine Fresh.push ?_ _); assumption) | (simp only [smA]; done) | (simp [oneCell, AW.next_push]; done) | fail) only [go_sem, Nat.reduceEqDiff, reduceIte, Nat.reduceAdd, Int.toNat_natCast, Nat.add_zero, Owes_true, Tryz.results20, e1, e2, e3, e9, e10, hlt]
      refine ⟨_, by omega, i + 1, by omega, rfl, rfl, by (simp -dsimp -implicitDefEqProofs (maxSteps := 2000000) (disch := first | assumption | omega | (simp only [nx]; omega) | ((repeat refine Fresh.push ?_ _); assumption) | (simp only [smA]; done) | (simp [oneCell, AW.next_push]; done) | fail) only [go_sem, Nat.reduceEqDiff, reduceIte, Nat.reduceAdd, Int.toNat_natCast, Nat.add_zero, Owes_true, e1]; try rfl), by (simp -dsimp -implicitDefEqProofs (maxSteps := 2000000) (disch := first | assumption | omega | (simp only [nx]; omega) | ((repeat refine Fresh.push ?_ _); assumption) | (simp only [smA]; done) | (simp [oneCell, AW.next_push]; done) | fail) only [go_sem, Nat.reduceEqDiff, reduceIte, Nat.reduceAdd, Int.toNat_natCast, Nat.add_zero, Owes_true, e2]; try rfl), by (simp -dsimp -implicitDefEqProofs (maxSteps := 2000000) (disch := first | assumption | omega | (simp only [nx]; omega) | ((repeat refine Fresh.push ?_ _); assumption) | (simp only [smA]; done) | (simp [oneCell, AW.next_push]; done) | fail) only [go_sem, Nat.reduceEqDiff, reduceIte, Nat.reduceAdd, Int.toNat_natCast, Nat.add_zero, Owes_true, e3]; try rfl), by (simp -dsimp -implicitDefEqProofs (maxSteps := 2000000) (disch := first | assumption | omega | (simp only [nx]; omega) | ((repeat refine Fresh.push ?_ _); assumption) | (simp only [smA]; done) | (simp [oneCell, AW.next_push]; done) | fail) only [go_sem, Nat.reduceEqDiff, reduceIte, Nat.reduceAdd, Int.toNat_natCast, Nat.add_zero, Owes_true, e10]; try rfl), rfl, ⟨false, (by simp -dsimp -implicitDefEqProofs (maxSteps := 2000000) (disch := first | assumption | omega | (simp only [nx]; omega) | ((repeat refine Fresh.push ?_ _); assumption) | (simp only [smA]; done) | (simp [oneCell, AW.next_push]; done) | fail) only [go_sem, Nat.reduceEqDiff, reduceIte, Nat.reduceAdd, Int.toNat_natCast, Nat.add_zero, Owes_true]; try rfl), (fun h => by cases h), hB2⟩⟩
    | true =>
      simp -dsimp -implicitDefEqProofs (maxSteps := 2000000) (disch := first | assumption | omega | (simp only [nx]; omega) | ((repeat refine Fresh.push ?_ _); assumption) | (simp only [smA]; done) | (simp [oneCell, AW.next_push]; done) | fail) only [go_sem, Nat.reduceEqDiff, reduceIte, Nat.reduceAdd, Int.toNat_natCast, Nat.add_zero, Owes_true, Tryz.results20, e1, e2, e3, e9, e10, hlt, indexV_eq, aG]
      apply callV_of (e := rfl)
      · exact From_ok _ _ _ _
      rintro _ _ ⟨rfl, rfl⟩
      cases hq : inR 0 G[i] 50 with
      | true =>
        simp -dsimp -implicitDefEqProofs (maxSteps := 2000000) (disch := first | assumption | omega | (simp only [nx]; omega) | ((repeat refine Fresh.push ?_ _); assumption) | (simp only [smA]; done) | (simp [oneCell, AW.next_push]; done) | fail) only [go_sem, Nat.reduceEqDiff, reduceIte, Nat.reduceAdd, Int.toNat_natCast, Nat.add_zero, Owes_true, Tryz.results20, hq, e1, e2, e3, e9, e10]
        refine ⟨_, by omega, i + 1, by omega, rfl, rfl, by (simp -dsimp -implicitDefEqProofs (maxSteps := 2000000) (disch := first | assumption | omega | (simp only [nx]; omega) | ((repeat refine Fresh.push ?_ _); assumption) | (simp only [smA]; done) | (simp [oneCell, AW.next_push]; done) | fail) only [go_sem, Nat.reduceEqDiff, reduceIte, Nat.reduceAdd, Int.toNat_natCast, Nat.add_zero, Owes_true, e1]; try rfl), by (simp -dsimp -implicitDefEqProofs (maxSteps := 2000000) (disch := first | assumption | omega | (simp only [nx]; omega) | ((repeat refine Fresh.push ?_ _); assumption) | (simp only [smA]; done) | (simp [oneCell, AW.next_push]; done) | fail) only [go_sem, Nat.reduceEqDiff, reduceIte, Nat.reduceAdd, Int.toNat_natCast, Nat.add_zero, Owes_true, e2]; try rfl), by (simp -dsimp -implicitDefEqProofs (maxSteps := 2000000) (disch := first | assumption | omega | (simp only [nx]; omega) | ((repeat refine Fresh.push ?_ _); assumption) | (simp only [smA]; done) | (simp [oneCell, AW.next_push]; done) | fail) only [go_sem, Nat.reduceEqDiff, reduceIte, Nat.reduceAdd, Int.toNat_natCast, Nat.add_zero, Owes_true, e3]; try rfl), by (simp -dsimp -implicitDefEqProofs (maxSteps := 2000000) (disch := first | assumption | omega | (simp only [nx]; omega) | ((repeat refine Fresh.push ?_ _); assumption) | (simp only [smA]; done) | (simp [oneCell, AW.next_push]; done) | fail) only [go_sem, Nat.reduceEqDiff, reduceIte, Nat.reduceAdd, Int.toNat_natCast, Nat.add_zero, Owes_true, e10]; try rfl), rfl, ⟨true, (by simp -dsimp -implicitDefEqProofs (maxSteps := 2000000) (disch := first | assumption | omega | (simp only [nx]; omega) | ((repeat refine Fresh.push ?_ _); assumption) | (simp only [smA]; done) | (simp [oneCell, AW.next_push]; done) | fail) only [go_sem, Nat.reduceEqDiff, reduceIte, Nat.reduceAdd, Int.toNat_natCast, Nat.add_zero, Owes_true]; try rfl), (fun _ => by rw [List.take_succ_eq_append_getElem hlt', List.all_append, hB1 rfl]; simp [hq]), fun h => by cases h⟩⟩
      | false =>
        have hb : haveB C G = false := by
          unfold haveB
          rw [show G.all (fun n => inR 0 n 50) = false from by rw [List.all_eq_false]; exact ⟨G[i], List.getElem_mem hlt', by rw [hq]; simp⟩, Bool.and_false]
        simp -dsimp -implicitDefEqProofs (maxSteps := 2000000) (disch := first | assumption | omega | (simp only [nx]; omega) | ((repeat refine Fresh.push ?_ _); assumption) | (simp only [smA]; done) | (simp [oneCell, AW.next_push]; done) | fail) only [go_sem, Nat.reduceEqDiff, reduceIte, Nat.reduceAdd, Int.toNat_natCast, Nat.add_zero, Owes_true, Tryz.results20, hq, e1, e2, e3, e9, e10]
        refine ⟨_, by omega, i + 1, by omega, rfl, rfl, by (simp -dsimp -implicitDefEqProofs (maxSteps := 2000000) (disch := first | assumption | omega | (simp only [nx]; omega) | ((repeat refine Fresh.push ?_ _); assumption) | (simp only [smA]; done) | (simp [oneCell, AW.next_push]; done) | fail) only [go_sem, Nat.reduceEqDiff, reduceIte, Nat.reduceAdd, Int.toNat_natCast, Nat.add_zero, Owes_true, e1]; try rfl), by (simp -dsimp -implicitDefEqProofs (maxSteps := 2000000) (disch := first | assumption | omega | (simp only [nx]; omega) | ((repeat refine Fresh.push ?_ _); assumption) | (simp only [smA]; done) | (simp [oneCell, AW.next_push]; done) | fail) only [go_sem, Nat.reduceEqDiff, reduceIte, Nat.reduceAdd, Int.toNat_natCast, Nat.add_zero, Owes_true, e2]; try rfl), by (simp -dsimp -implicitDefEqProofs (maxSteps := 2000000) (disch := first | assumption | omega | (simp only [nx]; omega) | ((repeat refine Fresh.push ?_ _); assumption) | (simp only [smA]; done) | (simp [oneCell, AW.next_push]; done) | fail) only [go_sem, Nat.reduceEqDiff, reduceIte, Nat.reduceAdd, Int.toNat_natCast, Nat.add_zero, Owes_true, e3]; try rfl), by (simp -dsimp -implicitDefEqProofs (maxSteps := 2000000) (disch := first | assumption | omega | (simp only [nx]; omega) | ((repeat refine Fresh.push ?_ _); assumption) | (simp only [smA]; done) | (simp [oneCell, AW.next_push]; done) | fail) only [go_sem, Nat.reduceEqDiff, reduceIte, Nat.reduceAdd, Int.toNat_natCast, Nat.add_zero, Owes_true, e10]; try rfl), rfl, ⟨false, (by simp -dsimp -implicitDefEqProofs (maxSteps := 2000000) (disch := first | assumption | omega | (simp only [nx]; omega) | ((repeat refine Fresh.push ?_ _); assumption) | (simp only [smA]; done) | (simp [oneCell, AW.next_push]; done) | fail) only [go_sem, Nat.reduceEqDiff, reduceIte, Nat.reduceAdd, Int.toNat_natCast, Nat.add_zero, Owes_true]; try rfl), (fun h => by cases h), fun _ => hb⟩⟩
  obtain rfl : i = G.length := by omega
  cases B with
  | false =>
    have hE : changeE C H G P = 7 := by unfold changeE; rw [if_neg (by rw [he]; simp), if_pos (hB2 rfl)]
    simp -dsimp -implicitDefEqProofs (maxSteps := 2000000) (disch := first | assumption | omega | (simp only [nx]; omega) | ((repeat refine Fresh.push ?_ _); assumption) | (simp only [smA]; done) | (simp [oneCell, AW.next_push]; done) | fail) only [go_sem, Nat.reduceEqDiff, reduceIte, Nat.reduceAdd, Int.toNat_natCast, Nat.add_zero, Owes_true, Tryz.results20, e1, e2, e3, e9, e10, hlt]
    exact ⟨_, by rw [hE], fun q => by rw [hE] at q; exact absurd q (by decide), fun _ => rfl, gg⟩
  | true =>
  have hGa := hB1 rfl
  rw [List.take_of_length_le (Nat.le_refl _)] at hGa
  have hb : haveB C G = true := by unfold haveB; rw [hGa, decide_eq_true (by omega : G.length = C.length)]; rfl
  have hGl : G.length = C.length := by omega
  have hGi := (haveB_in hb).2
  have hHi : ∀ x ∈ H, 0 ≤ x ∧ x ≤ 100 := d.h
  have hww := worth_in (m := 50) d.c hGi (by omega) G.length (by omega) (by omega)
  have hdb := both_in he hb
  simp -dsimp -implicitDefEqProofs (maxSteps := 2000000) (disch := first | assumption | omega | (simp only [nx]; omega) | ((repeat refine Fresh.push ?_ _); assumption) | (simp only [smA]; done) | (simp [oneCell, AW.next_push]; done) | fail) only [go_sem, Nat.reduceEqDiff, reduceIte, Nat.reduceAdd, Int.toNat_natCast, Nat.add_zero, Owes_true, Tryz.results20, e1, e2, e3, e9, e10, hlt, Nat.zero_add, d0, d1]
  apply callV_of (e := rfl)
  · exact ValueR_ok C G _ _ w3 (hC.grown gg) (hG.grown gg) d.c hGi hGl (by omega)
  rintro _ _ ⟨rfl, rfl⟩
  generalize hW : worth C G G.length = W at *
  by_cases hov : W - P < 0
  · have hE : changeE C H G P = 81 := by unfold changeE; rw [if_neg (by rw [he]; simp), if_neg (by rw [hb]; simp), if_neg (by omega), hW, if_pos hov]
    simp -dsimp -implicitDefEqProofs (maxSteps := 2000000) (disch := first | assumption | omega | (simp only [nx]; omega) | ((repeat refine Fresh.push ?_ _); assumption) | (simp only [smA]; done) | (simp [oneCell, AW.next_push]; done) | fail) only [go_sem, Nat.reduceEqDiff, reduceIte, Nat.reduceAdd, Int.toNat_natCast, Nat.add_zero, Owes_true, Tryz.results20, e2, hov]
    exact ⟨_, by rw [hE], fun q => by rw [hE] at q; exact absurd q (by decide), fun _ => rfl, gg⟩
  have hE0 : changeE C H G P = payE C (both H G G.length) (W - P) := by unfold changeE; rw [if_neg (by rw [he]; simp), if_neg (by rw [hb]; simp), if_neg (by omega), hW, if_neg hov]
  by_cases hbig : 2000 < W - P
  · have hE : changeE C H G P = 7 := by
      rw [hE0]; unfold payE
      rw [if_pos]
      cases hr : inR 0 (W - P) 2000 with
      | false => rfl
      | true => have := (inR_iff _ _ _).1 hr; omega
    simp -dsimp -implicitDefEqProofs (maxSteps := 2000000) (disch := first | assumption | omega | (simp only [nx]; omega) | ((repeat refine Fresh.push ?_ _); assumption) | (simp only [smA]; done) | (simp [oneCell, AW.next_push]; done) | fail) only [go_sem, Nat.reduceEqDiff, reduceIte, Nat.reduceAdd, Int.toNat_natCast, Nat.add_zero, Owes_true, Tryz.results20, e2, hov, hbig]
    exact ⟨_, by rw [hE], fun q => by rw [hE] at q; exact absurd q (by decide), fun _ => rfl, gg⟩
  simp -dsimp -implicitDefEqProofs (maxSteps := 2000000) (disch := first | assumption | omega | (simp only [nx]; omega) | ((repeat refine Fresh.push ?_ _); assumption) | (simp only [smA]; done) | (simp [oneCell, AW.next_push]; done) | fail) only [go_sem, Nat.reduceEqDiff, reduceIte, Nat.reduceAdd, Int.toNat_natCast, Nat.add_zero, Owes_true, Tryz.results20, e1, e2, e3, hov, hbig]
  have hr : inR 0 (W - P) 2000 = true := (inR_iff _ _ _).2 (by omega)
  obtain ⟨a, ha⟩ : ∃ a : Nat, W - P = (a : Int) := ⟨(W - P).toNat, by omega⟩
  rw [ha] at hE0 hr ⊢
  refine loopR (fun k t ds w4 => ∃ i : Nat, i ≤ G.length ∧ k = G.length - i ∧ ds = [] ∧ ev t (.tmp 1) = .slice pg G.length cG ∧ ev t (.tmp 3) = .pointer (some ⟨w.next, 0, none⟩) ∧ ev t (.tmp 11) = .int .i64 (a : Int) ∧ ev t (.tmp 13) = .int .i64 (i : Int) ∧ (∃ u4, ev t (.tmp 12) = u4 ∧ AOwn w3.next w4 3 1 u4 (both H G i).length ((both H G i).flatMap icells)) ∧ Grown w3 w4 ∧ w3.next ≤ w4.next) (G.length) ?_ ?_
  · refine ⟨0, by omega, by omega, rfl, ?_, ?_, ?_, ?_, ⟨_, (by simp -dsimp -implicitDefEqProofs (maxSteps := 2000000) (disch := first | assumption | omega | (simp only [nx]; omega) | ((repeat refine Fresh.push ?_ _); assumption) | (simp only [smA]; done) | (simp [oneCell, AW.next_push]; done) | fail) only [go_sem, Nat.reduceEqDiff, reduceIte, Nat.reduceAdd, Int.toNat_natCast, Nat.add_zero, Owes_true]; try rfl), .inl ⟨rfl, rfl, rfl⟩⟩, Grown.refl gg.2, Nat.le_refl _⟩ <;> simp -dsimp -implicitDefEqProofs (maxSteps := 2000000) (disch := first | assumption | omega | (simp only [nx]; omega) | ((repeat refine Fresh.push ?_ _); assumption) | (simp only [smA]; done) | (simp [oneCell, AW.next_push]; done) | fail) only [go_sem, Nat.reduceEqDiff, reduceIte, Nat.reduceAdd, Int.toNat_natCast, Nat.add_zero, Owes_true, ha, e1, e3] <;> rfl
  rintro k t ds w4 ⟨i, hii, rfl, rfl, e1, e3, e11, e13, hT, g4, hn4⟩
  obtain ⟨u4, e12, hA4⟩ := hT
  obtain ⟨pu, nu, ku, rfl⟩ := AOwn.slice hA4
  have gw4 := gg.trans g4
  have O4 := O2.keep g4.1
  have y0 := O4.cell (o := 0) rfl rfl
  have y1 := O4.cell (o := 1) rfl rfl
  by_cases hlt2 : (i : Int) < (G.length : Int)
  case neg =>
    obtain rfl : i = G.length := by omega
    have hAr := hA4.arr icells_len (by rw [both_len]; omega)
    simp -dsimp -implicitDefEqProofs (maxSteps := 2000000) (disch := first | assumption | omega | (simp only [nx]; omega) | ((repeat refine Fresh.push ?_ _); assumption) | (simp only [smA]; done) | (simp [oneCell, AW.next_push]; done) | fail) only [go_sem, Nat.reduceEqDiff, reduceIte, Nat.reduceAdd, Int.toNat_natCast, Nat.add_zero, Owes_true, Tryz.results20, e1, e3, e11, e12, e13, hlt2, Nat.zero_add, y0, y1]
    apply callV_of (e := rfl)
    · exact payR_ok C (both H G G.length) _ _ a (by omega) w4 gw4.2 (hC.grown gw4) hAr hdb (draw_desc he) (by omega)
    rintro _ w5 ⟨v, rfl, h1, h2, hg5⟩
    by_cases hbv : (bestV (C.zip (both H G G.length)) (a : Int)).2 = 1048576
    · have hE : changeE C H G P = 4 := by rw [hE0]; unfold payE; rw [if_neg (by rw [hr]; simp), if_pos hbv]
      have hbd : decide ((bestV (C.zip (both H G G.length)) (a : Int)).2 = 1048576) = true := decide_eq_true hbv
      simp -dsimp -implicitDefEqProofs (maxSteps := 2000000) (disch := first | assumption | omega | (simp only [nx]; omega) | ((repeat refine Fresh.push ?_ _); assumption) | (simp only [smA]; done) | (simp [oneCell, AW.next_push]; done) | fail) only [go_sem, Nat.reduceEqDiff, reduceIte, Nat.reduceAdd, Int.toNat_natCast, Nat.add_zero, Owes_true, Tryz.results20, hbd, Bool.not_true]
      exact ⟨_, by rw [hE], fun q => by rw [hE] at q; exact absurd q (by decide), fun _ => rfl, gw4.trans hg5⟩
    · have hE : changeE C H G P = 0 := by rw [hE0]; unfold payE; rw [if_neg (by rw [hr]; simp), if_neg hbv]
      have hbd : decide ((bestV (C.zip (both H G G.length)) (a : Int)).2 = 1048576) = false := decide_eq_false hbv
      have hv := h1 hbv
      obtain ⟨pv, cv, rfl, _⟩ := id hv.open
      simp -dsimp -implicitDefEqProofs (maxSteps := 2000000) (disch := first | assumption | omega | (simp only [nx]; omega) | ((repeat refine Fresh.push ?_ _); assumption) | (simp only [smA]; done) | (simp [oneCell, AW.next_push]; done) | fail) only [go_sem, Nat.reduceEqDiff, reduceIte, Nat.reduceAdd, Int.toNat_natCast, Nat.add_zero, Owes_true, Tryz.results20, hbd, Bool.not_false]
      exact ⟨_, by rw [hE], fun _ => hv, fun q => absurd hE q, gw4.trans hg5⟩
  have hlt' : i < G.length := by omega
  have hiH' : i < H.length := by have := d.len; omega
  have hiH : (i : Int) < (H.length : Int) := by omega
  obtain ⟨pH, ch, eH, _, _, hatH⟩ := hH.open
  injection eH with eH1 eH2 eH3
  subst eH1
  obtain ⟨bH, oH, rfl, hbH, hcH⟩ := hatH i hiH'
  obtain ⟨bG, oG, rfl, hbG, hcG⟩ := hatG i hlt'
  have aH := hcH _ gw4.1 0 _ rfl
  have aG := hcG _ gw4.1 0 _ rfl
  simp only [Nat.add_zero] at aH aG
  have hbs := both_succ (H := H) (G := G) hiH' hlt'
  have hgi := hGi _ (List.getElem_mem hlt')
  have hhi := hHi _ (List.getElem_mem hiH')
  obtain ⟨u5, w5, happ, hA5, hk5, hf5, hn5, _⟩ := append_one (e' := 3) Tryz.ty22 Tryz.ty3 rfl (by omega) (by omega) hA4 g4.2 hn4 (icells_len (H[i] + G[i])) (icells_one _) (by rw [both_len]; omega)
  simp only [icells] at happ
  obtain ⟨pv, nv, kv, rfl⟩ := AOwn.slice hA5
  have hf4 : Fresh w4 := g4.2
  generalize hg0 : G[i] = gi at *
  generalize hh0 : H[i] = hi0 at *
  simp -dsimp -implicitDefEqProofs (maxSteps := 2000000) (disch := first | assumption | omega | (simp only [nx]; omega) | ((repeat refine Fresh.push ?_ _); assumption) | (simp only [smA]; done) | (simp [oneCell, AW.next_push]; done) | fail) only [go_sem, Nat.reduceEqDiff, reduceIte, Nat.reduceAdd, Int.toNat_natCast, Nat.add_zero, Owes_true, Tryz.results20, e1, e3, e11, e12, e13, hlt2, hiH, indexV_eq, aH, aG, Nat.zero_add, y0, y1, happ]
  refine ⟨_, by omega, i + 1, by omega, rfl, rfl, by (simp -dsimp -implicitDefEqProofs (maxSteps := 2000000) (disch := first | assumption | omega | (simp only [nx]; omega) | ((repeat refine Fresh.push ?_ _); assumption) | (simp only [smA]; done) | (simp [oneCell, AW.next_push]; done) | fail) only [go_sem, Nat.reduceEqDiff, reduceIte, Nat.reduceAdd, Int.toNat_natCast, Nat.add_zero, Owes_true, e1]; try rfl), by (simp -dsimp -implicitDefEqProofs (maxSteps := 2000000) (disch := first | assumption | omega | (simp only [nx]; omega) | ((repeat refine Fresh.push ?_ _); assumption) | (simp only [smA]; done) | (simp [oneCell, AW.next_push]; done) | fail) only [go_sem, Nat.reduceEqDiff, reduceIte, Nat.reduceAdd, Int.toNat_natCast, Nat.add_zero, Owes_true, e3]; try rfl), by (simp -dsimp -implicitDefEqProofs (maxSteps := 2000000) (disch := first | assumption | omega | (simp only [nx]; omega) | ((repeat refine Fresh.push ?_ _); assumption) | (simp only [smA]; done) | (simp [oneCell, AW.next_push]; done) | fail) only [go_sem, Nat.reduceEqDiff, reduceIte, Nat.reduceAdd, Int.toNat_natCast, Nat.add_zero, Owes_true, e11]; try rfl), by (simp -dsimp -implicitDefEqProofs (maxSteps := 2000000) (disch := first | assumption | omega | (simp only [nx]; omega) | ((repeat refine Fresh.push ?_ _); assumption) | (simp only [smA]; done) | (simp [oneCell, AW.next_push]; done) | fail) only [go_sem, Nat.reduceEqDiff, reduceIte, Nat.reduceAdd, Int.toNat_natCast, Nat.add_zero, Owes_true, e13]; try rfl), ⟨_, (by simp -dsimp -implicitDefEqProofs (maxSteps := 2000000) (disch := first | assumption | omega | (simp only [nx]; omega) | ((repeat refine Fresh.push ?_ _); assumption) | (simp only [smA]; done) | (simp [oneCell, AW.next_push]; done) | fail) only [go_sem, Nat.reduceEqDiff, reduceIte, Nat.reduceAdd, Int.toNat_natCast, Nat.add_zero, Owes_true]; try rfl), (by rw [hbs, List.length_append, List.flatMap_append]; exact hA5)⟩, ⟨g4.1.trans hk5, hf5⟩, by omega⟩
end Go.Proofs

namespace Go.Proofs
open Go Go.RowKit Go.Sim
set_option maxRecDepth 100000
theorem Tryz.ty25 : (prg Tryz.prog).ty 25 = some ⟨true, (.array 2 3), 2, 16, .agg #[.int .i64 0, .int .i64 0]⟩ := by kernel_rfl
attribute [go_sem] Tryz.ty25
theorem Tryz.ia25 (t : Tmps) (w : AW) (x y : Operand) : fast (prg Tryz.prog) t w (.indexAddr 25 x y) = indexA 1 2 (ev t x) (ev t y) := fast_indexAddrA Tryz.ty25 Tryz.ty3
theorem indexA_0 (b o : Nat) (k : IntKind) : indexA 1 2 (.pointer (some ⟨b, o, none⟩)) (.int k 0) = some (.pointer (some ⟨b, o, none⟩)) := rfl
theorem indexA_1 (b o : Nat) (k : IntKind) : indexA 1 2 (.pointer (some ⟨b, o, none⟩)) (.int k 1) = some (.pointer (some ⟨b, o + 1, none⟩)) := rfl
attribute [go_sem] Tryz.ia25 indexA_0 indexA_1
theorem Tryz.und25 : Tryz.prog.underlying 25 = some (.array 2 3) := by kernel_rfl
theorem given_two {w : AW} {n : Nat} {v : Value} (h : HdV Tryz.prog w n 25 v) : ∃ a b : Int, v = .agg #[.int .i64 a, .int .i64 b] ∧ a ≤ 9223372036854775807 ∧ b ≤ 9223372036854775807 := by
  simp only [HdV, Tryz.und25] at h
  obtain ⟨cs, rfl, h⟩ := h
  cases n with
  | zero => exact h.elim
  | succ n =>
    simp only [Hd, Tryz.und25] at h
    obtain ⟨parts, hc, hl, hp⟩ := h
    match parts, hl with
    | [p0, p1], _ =>
      obtain ⟨a, rfl, _, ha⟩ := given_int (hp p0 List.mem_cons_self)
      obtain ⟨b, rfl, _, hb⟩ := given_int (hp p1 (List.mem_cons_of_mem _ List.mem_cons_self))
      refine ⟨a, b, ?_, ha, hb⟩
      rw [show cs = cs.toList.toArray from rfl, hc]; rfl
theorem both_row {w : AW} {v : Value} {E : Int} {L : List Int} (h0 : E = 0 → ArrOf w 1 icells v L) (h1 : E ≠ 0 → v = .slice none 0 0) : ArrOf w 1 icells v (if E = 0 then L else []) := by
  split
  · rename_i q; exact h0 q
  · rename_i q; rw [h1 q]; exact ArrOf.nil _ _ _
theorem same_sliceN (k : Nat) (p : Option Addr) (n c : Nat) : same (k + 1) (.slice p n c) (.slice p n c) = true := by
  cases p with
  | none => simp [same]
  | some a => obtain ⟨b, o, s⟩ := a; cases s <;> simp [same]
theorem same_rows (a b : Option Addr) (m n c d : Nat) : same 12 (.agg #[.slice a m c, .slice b n d]) (.agg #[.slice a m c, .slice b n d]) = true := by
  simp [same, same.all, same_sliceN]
set_option maxHeartbeats 16000000 in
theorem pays_law (w : AW) (xs : List Value) (f : Fresh w) (h : HdAll Tryz.prog w [24, 22, 25] xs) : CallT Tryz.prog Tryz.T1 (.fn (.func 3) #[]) xs.toArray w fun v _ => v = .bool true := by
  cases h with
  | cons n1 h1 h =>
  cases h with
  | cons n2 h2 h =>
  cases h with
  | cons n3 h3 h =>
  cases h
  rename_i v1 v2 v3
  obtain ⟨u, x, rfl, ⟨C, hC⟩, H, hH⟩ := given_drawer h1
  obtain ⟨G, hG⟩ := given_intsV h2
  obtain ⟨S, P, rfl, hS1, hP1⟩ := given_two h3
  clear h1 h2 h3
  obtain ⟨p, cC, rfl, _⟩ := id hC.open
  obtain ⟨q, cH, rfl, _⟩ := id hH.open
  obtain ⟨pg, cG, rfl, _⟩ := id hG.open
  show CallT Tryz.prog Tryz.T1 (.fn (.func 3) #[]) #[.agg #[.slice p C.length cC, .slice q H.length cH], .slice pg G.length cG, .agg #[.int .i64 S, .int .i64 P]] w _
  have g1 := (Grown.refl f).push (.cells [.slice p C.length cC, .slice q H.length cH] 24 w.next 0 0)
  have O1 := Own.new f 24 [.slice p C.length cC, .slice q H.length cH]
  have hn1 := AW.next_push w (.cells [.slice p C.length cC, .slice q H.length cH] 24 w.next 0 0)
  have g2 := g1.push (.cells [.int .i64 S, .int .i64 P] 25 (w.push (.cells [.slice p C.length cC, .slice q H.length cH] 24 w.next 0 0)).next 0 0)
  have N1 := Own.new g1.2 25 [.int .i64 S, .int .i64 P]
  have O2 := O1.keep ((Grown.refl g1.2).push (.cells [.int .i64 S, .int .i64 P] 25 (w.push (.cells [.slice p C.length cC, .slice q H.length cH] 24 w.next 0 0)).next 0 0)).1
  have c0 := O2.cell (o := 0) rfl rfl
  have c1 := O2.cell (o := 1) rfl rfl
  have m0 := N1.cell (o := 0) rfl rfl
  have m1 := N1.cell (o := 1) rfl rfl
  rw [hn1] at g2 O2 c0 c1 m0 m1 N1
  refine callT_code rfl Tryz.func3 rfl Tryz.s3_eq rfl ?_
  unfold Tryz.s3
  simp -dsimp -implicitDefEqProofs (maxSteps := 2000000) (disch := first | assumption | omega | (simp only [nx]; omega) | ((repeat refine Fresh.push ?_ _); assumption) | (simp only [smA]; done) | (simp [oneCell, AW.next_push]; done) | fail) only [go_sem, Nat.reduceEqDiff, reduceIte, Nat.reduceAdd, Int.toNat_natCast, Nat.add_zero, Owes_true, Tryz.results3, Nat.zero_add, c0, c1, m0, m1, hn1]
  apply callV_of (e := rfl)
  · exact Pay_ok C H _ _ S _ g2.2 (hC.grown g2) (hH.grown g2)
  rintro _ w1 ⟨v, rfl, hv0, hv1, hg1⟩
  have gg1 := g2.trans hg1
  have O3 := O2.keep hg1.1
  have N3 := N1.keep hg1.1
  have d0 := O3.cell (o := 0) rfl rfl
  have d1 := O3.cell (o := 1) rfl rfl
  have k0 := N3.cell (o := 0) rfl rfl
  have k1 := N3.cell (o := 1) rfl rfl
  have hL := both_row hv0 hv1
  generalize hLL : (if PayE C H S = 0 then payL (C.zip H) S C.length else []) = L at hL
  obtain ⟨pv, cv, rfl, _⟩ := id hL.open
  simp -dsimp -implicitDefEqProofs (maxSteps := 2000000) (disch := first | assumption | omega | (simp only [nx]; omega) | ((repeat refine Fresh.push ?_ _); assumption) | (simp only [smA]; done) | (simp [oneCell, AW.next_push]; done) | fail) only [go_sem, Nat.reduceEqDiff, reduceIte, Nat.reduceAdd, Int.toNat_natCast, Nat.add_zero, Owes_true, Nat.zero_add, d0, d1, k0, k1]
  apply callV_of (e := rfl)
  · exact PayR_ok C H _ _ S _ gg1.2 (hC.grown gg1) (hH.grown gg1)
  rintro _ w2 ⟨v', rfl, hv0', hv1', hg2⟩
  have gg2 := gg1.trans hg2
  have O4 := O3.keep hg2.1
  have N4 := N3.keep hg2.1
  have e0 := O4.cell (o := 0) rfl rfl
  have e1 := O4.cell (o := 1) rfl rfl
  have l0 := N4.cell (o := 0) rfl rfl
  have l1 := N4.cell (o := 1) rfl rfl
  have hL' := both_row hv0' hv1'
  rw [hLL] at hL'
  obtain ⟨pv', cv', rfl, _⟩ := id hL'.open
  clear hv0 hv1 hv0' hv1' hLL
  have hsame := Same_ok L L _ _ w2 (hL.grown hg2) hL'
  rw [show decide (L = L) = true from decide_eq_true rfl] at hsame
  generalize hE1 : PayE C H S = E1 at *
  have hz1 : decide (E1 = E1) = true := decide_eq_true rfl
  simp -dsimp -implicitDefEqProofs (maxSteps := 2000000) (disch := first | assumption | omega | (simp only [nx]; omega) | ((repeat refine Fresh.push ?_ _); assumption) | (simp only [smA]; done) | (simp [oneCell, AW.next_push]; done) | fail) only [go_sem, Nat.reduceEqDiff, reduceIte, Nat.reduceAdd, Int.toNat_natCast, Nat.add_zero, Owes_true]
  apply callV_of (e := rfl)
  · exact hsame
  rintro _ _ ⟨rfl, rfl⟩
  have hsm : same 12 (Value.agg #[.slice p C.length cC, .slice q H.length cH]) (Value.agg #[.slice p C.length cC, .slice q H.length cH]) = true := same_rows _ _ _ _ _ _
  simp -dsimp -implicitDefEqProofs (maxSteps := 2000000) (disch := first | assumption | omega | (simp only [nx]; omega) | ((repeat refine Fresh.push ?_ _); assumption) | (simp only [smA]; done) | (simp [oneCell, AW.next_push]; done) | fail) only [go_sem, Nat.reduceEqDiff, reduceIte, Nat.reduceAdd, Int.toNat_natCast, Nat.add_zero, Owes_true, hz1, Bool.not_true, Nat.zero_add, e0, e1, hsm]
  apply callV_of (e := rfl)
  · exact Check_ok C H _ _ _ gg2.2 (hC.grown gg2) (hH.grown gg2)
  rintro _ w3 ⟨rfl, hg3⟩
  have gg3 := gg2.trans hg3
  have hle := hg3.1.wle gg2.2
  simp -dsimp -implicitDefEqProofs (maxSteps := 2000000) (disch := first | assumption | omega | (simp only [nx]; omega) | ((repeat refine Fresh.push ?_ _); assumption) | (simp only [smA]; done) | (simp [oneCell, AW.next_push]; done) | fail) only [go_sem, Nat.reduceEqDiff, reduceIte, Nat.reduceAdd, Int.toNat_natCast, Nat.add_zero, Owes_true, hsm]
  apply callV_of (e := rfl)
  · exact refCheck_ok C H _ _ _ gg3.2 (hC.grown gg3) (hH.grown gg3)
  rintro _ w4 ⟨rfl, hg4⟩
  have gg4 := gg3.trans hg4
  have hle4 := hg4.1.wle gg3.2
  have O5 := O4.keep (hg3.trans hg4).1
  have N5 := N4.keep (hg3.trans hg4).1
  have a0 := O5.cell (o := 0) rfl rfl
  have a1 := O5.cell (o := 1) rfl rfl
  have b0 := N5.cell (o := 0) rfl rfl
  have b1 := N5.cell (o := 1) rfl rfl
  generalize hE2 : drawE C H = E2 at *
  have hz2 : decide (E2 = E2) = true := decide_eq_true rfl
  simp -dsimp -implicitDefEqProofs (maxSteps := 2000000) (disch := first | assumption | omega | (simp only [nx]; omega) | ((repeat refine Fresh.push ?_ _); assumption) | (simp only [smA]; done) | (simp [oneCell, AW.next_push]; done) | fail) only [go_sem, Nat.reduceEqDiff, reduceIte, Nat.reduceAdd, Int.toNat_natCast, Nat.add_zero, Owes_true, hz2, Bool.not_true, Nat.zero_add, a0, a1, b0, b1]
  apply callV_of (e := rfl)
  · exact Change_ok C H G _ _ _ P hP1 _ gg4.2 (hC.grown gg4) (hH.grown gg4) (hG.grown gg4)
  rintro _ w5 ⟨v2, rfl, hv0, hv1, hg5⟩
  have gg5 := gg4.trans hg5
  have O6 := O5.keep hg5.1
  have N6 := N5.keep hg5.1
  have s0 := O6.cell (o := 0) rfl rfl
  have s1 := O6.cell (o := 1) rfl rfl
  have t0 := N6.cell (o := 0) rfl rfl
  have t1 := N6.cell (o := 1) rfl rfl
  have hM := both_row hv0 hv1
  generalize hMM : (if changeE C H G P = 0 then payL (C.zip (both H G G.length)) (worth C G G.length - P) C.length else []) = M at hM
  obtain ⟨pw, cw, rfl, _⟩ := id hM.open
  simp -dsimp -implicitDefEqProofs (maxSteps := 2000000) (disch := first | assumption | omega | (simp only [nx]; omega) | ((repeat refine Fresh.push ?_ _); assumption) | (simp only [smA]; done) | (simp [oneCell, AW.next_push]; done) | fail) only [go_sem, Nat.reduceEqDiff, reduceIte, Nat.reduceAdd, Int.toNat_natCast, Nat.add_zero, Owes_true, Nat.zero_add, s0, s1, t0, t1]
  apply callV_of (e := rfl)
  · exact ChangeR_ok C H G _ _ _ P hP1 _ gg5.2 (hC.grown gg5) (hH.grown gg5) (hG.grown gg5)
  rintro _ w6 ⟨v3, rfl, hv0', hv1', hg6⟩
  have hM' := both_row hv0' hv1'
  rw [hMM] at hM'
  obtain ⟨pw', cw', rfl, _⟩ := id hM'.open
  clear hv0 hv1 hv0' hv1' hMM
  have hsame2 := Same_ok M M _ _ w6 (hM.grown hg6) hM'
  rw [show decide (M = M) = true from decide_eq_true rfl] at hsame2
  generalize hE3 : changeE C H G P = E3 at *
  have hz3 : decide (E3 = E3) = true := decide_eq_true rfl
  simp -dsimp -implicitDefEqProofs (maxSteps := 2000000) (disch := first | assumption | omega | (simp only [nx]; omega) | ((repeat refine Fresh.push ?_ _); assumption) | (simp only [smA]; done) | (simp [oneCell, AW.next_push]; done) | fail) only [go_sem, Nat.reduceEqDiff, reduceIte, Nat.reduceAdd, Int.toNat_natCast, Nat.add_zero, Owes_true]
  apply callV_of (e := rfl)
  · exact hsame2
  rintro _ _ ⟨rfl, rfl⟩
  simp -dsimp -implicitDefEqProofs (maxSteps := 2000000) (disch := first | assumption | omega | (simp only [nx]; omega) | ((repeat refine Fresh.push ?_ _); assumption) | (simp only [smA]; done) | (simp [oneCell, AW.next_push]; done) | fail) only [go_sem, Nat.reduceEqDiff, reduceIte, Nat.reduceAdd, Int.toNat_natCast, Nat.add_zero, Owes_true, hz3]
  apply callV_of (e := rfl)
  · exact callT_told (Q := fun v w' => v = .bool true ∧ w6 = w') (v := .bool true) (w' := w6) rfl ⟨rfl, rfl⟩
  rintro _ _ ⟨rfl, rfl⟩
  simp -dsimp -implicitDefEqProofs (maxSteps := 2000000) (disch := first | assumption | omega | (simp only [nx]; omega) | ((repeat refine Fresh.push ?_ _); assumption) | (simp only [smA]; done) | (simp [oneCell, AW.next_push]; done) | fail) only [go_sem, Nat.reduceEqDiff, reduceIte, Nat.reduceAdd, Int.toNat_natCast, Nat.add_zero, Owes_true, Tryz.results3]
end Go.Proofs

namespace Go.Proofs
open Go Go.RowKit Go.Sim Go.ChangeShapes Go.WideShapes Go.ChangeAt
set_option maxRecDepth 100000
theorem Tryz.own : ownKnob Tryz.prog.godebug = none := by kernel_rfl
theorem Tryz.laidOut : laidOutB Tryz.prog = true := by kernel_rfl
end Go.Proofs
