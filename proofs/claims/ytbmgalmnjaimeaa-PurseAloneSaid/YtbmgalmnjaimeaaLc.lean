/- Sums are spread rank by rank: the law on the machine. -/
import Derived.Test.YtbmgalmnjaimeaaPb
import Derived.Test.YtbmgalmnjaimeaaTc
set_option linter.unusedVariables false
set_option linter.unusedSimpArgs false
/- Sums are spread rank by rank: the law on the machine. -/
namespace Go.Proofs
open Go Go.RowKit Go.Sim
set_option maxRecDepth 100000
theorem Ring_ok (n many : Int) (h1 : 1 ≤ many) (h2 : many ≤ 4611686018427387000) (w : AW) : CallT Try.prog Try.T1 (.fn (.func 38) #[]) #[.int .i64 n, .int .i64 many] w (fun r w' => ∃ k : Int, r = .int .i64 k ∧ 0 ≤ k ∧ k < many ∧ w = w') := by
  have a1 : n.tmod many < many := Int.tmod_lt_of_pos n (by omega)
  have a2 : -many < n.tmod many := by
    have := Int.tmod_lt_of_pos (-n) (show 0 < many by omega)
    rw [Int.neg_tmod] at this; omega
  have a3 : 0 ≤ (n.tmod many + many).tmod many := Int.tmod_nonneg _ (by omega)
  have a4 : (n.tmod many + many).tmod many < many := Int.tmod_lt_of_pos _ (by omega)
  have h0 : ¬ many ≤ 0 := by omega
  have hn0 : ¬ many = 0 := by omega
  refine callT_code rfl Try.func38 rfl Try.s38_eq rfl ?_
  unfold Try.s38
  simp -dsimp -implicitDefEqProofs (maxSteps := 2000000) (disch := first | assumption | omega | (simp only [AW.next_push, AW.next_put]; omega) | ((repeat refine Fresh.push ?_ _); assumption) | (simp only [same_int, same_bool, same_ptr, same_slice, same_sliceP, same_nil, same_agg2, same_string]; done) | (simp [oneCell, AW.next_push]; done) | fail) only [go_sem, Nat.reduceEqDiff, reduceIte, Nat.reduceAdd, Int.toNat_natCast, Nat.add_zero, Owes_true, Try.results38, h0, hn0]
  exact ⟨_, rfl, a3, a4, trivial⟩
set_option maxHeartbeats 8000000 in
theorem ranks_law (w : AW) (xs : List Value) (f : Fresh w) (h : HdAll Try.prog w [23, 3, 3] xs) : CallT Try.prog Try.T1 (.fn (.func 9) #[]) xs.toArray w fun v _ => v = .bool true := by
  cases h with
  | cons n1 h1 h =>
  cases h with
  | cons n2 h2 h =>
  cases h with
  | cons n3 h3 h =>
  cases h
  rename_i v1 v2 v3
  obtain ⟨D, hs⟩ := given_duesV h1
  obtain ⟨s, rfl⟩ := given_num h2
  obtain ⟨more, rfl⟩ := given_num h3
  clear h1 h2 h3
  obtain ⟨p, cap, rfl, _, _, hat⟩ := id hs.open
  show CallT Try.prog Try.T1 (.fn (.func 9) #[]) #[.slice p D.length cap, .int .i64 s, .int .i64 more] w _
  refine callT_code rfl Try.func9 rfl Try.s9_eq rfl ?_
  unfold Try.s9
  simp -dsimp -implicitDefEqProofs (maxSteps := 2000000) (disch := first | assumption | omega | (simp only [AW.next_push, AW.next_put]; omega) | ((repeat refine Fresh.push ?_ _); assumption) | (simp only [same_int, same_bool, same_ptr, same_slice, same_sliceP, same_nil, same_agg2, same_string]; done) | (simp [oneCell, AW.next_push]; done) | fail) only [go_sem, Nat.reduceEqDiff, reduceIte, Nat.reduceAdd, Int.toNat_natCast, Nat.add_zero, Owes_true, Try.results9]
  apply callV_of (e := rfl)
  · exact Spread_ok D _ s w f hs
  rintro _ w1 ⟨u1, rfl, hA1, g1⟩
  by_cases hE : spreadE D s = 0
  case neg =>
    have hO : spreadO D s = [] := by rw [spreadO, if_neg hE]
    have hL : spreadL D s = 0 := by rw [spreadL, if_neg hE]
    rw [hO] at hA1
    rw [hL]
    obtain ⟨q, cap2, rfl, _, _, hat2⟩ := id hA1.open
    have hl0 : decide ((([] : List Int).length : Int) = 0) = true := rfl
    simp -dsimp -implicitDefEqProofs (maxSteps := 2000000) (disch := first | assumption | omega | (simp only [AW.next_push, AW.next_put]; omega) | ((repeat refine Fresh.push ?_ _); assumption) | (simp only [same_int, same_bool, same_ptr, same_slice, same_sliceP, same_nil, same_agg2, same_string]; done) | (simp [oneCell, AW.next_push]; done) | fail) only [go_sem, Nat.reduceEqDiff, reduceIte, Nat.reduceAdd, Int.toNat_natCast, Nat.add_zero, Owes_true, Try.results9, hE, ne_eq, not_false_eq_true, hl0]
    apply callV_of (e := rfl)
    · exact callT_told (Q := fun v w' => v = .bool true ∧ w1 = w') (v := .bool true) (w' := w1) rfl ⟨rfl, rfl⟩
    rintro _ _ ⟨rfl, rfl⟩
    simp -dsimp -implicitDefEqProofs (maxSteps := 2000000) (disch := first | assumption | omega | (simp only [AW.next_push, AW.next_put]; omega) | ((repeat refine Fresh.push ?_ _); assumption) | (simp only [same_int, same_bool, same_ptr, same_slice, same_sliceP, same_nil, same_agg2, same_string]; done) | (simp [oneCell, AW.next_push]; done) | fail) only [go_sem, Nat.reduceEqDiff, reduceIte, Nat.reduceAdd, Int.toNat_natCast, Nat.add_zero, Owes_true, Try.results9]
  obtain ⟨hD, hl, h0, h1⟩ := spreadE_in hE
  have hO : spreadO D s = paidN D s 10 := by rw [spreadO, if_pos hE]
  have hL : spreadL D s = leftN D s 10 := by rw [spreadL, if_pos hE]
  rw [hO] at hA1
  rw [hL]
  have hsum := paidN_sum hD h0 10
  have hleft := leftN_nn hD.nn h0 10
  have hpl := paidN_len D s 10
  have hin : ∀ i (hi : i < D.length), 0 ≤ W (paidN D s 10) i ∧ W (paidN D s 10) i ≤ D[i].a := fun i hi => ⟨(paid_in hD h0 hi).1, (paid_in hD h0 hi).2.1⟩
  have hle1 : ∀ i (hi : i < D.length), W (paidN D s 10) i < D[i].a → leftN D s 10 = 0 := fun i hi hlt => paid_left hD h0 hi hlt
  have hrk : ∀ i j (hi : i < D.length) (hj : j < D.length), D[i].r < D[j].r → W (paidN D s 10) i < D[i].a → W (paidN D s 10) j = 0 := fun i j hi hj hr hlt => paid_rank hD h0 hi hj hr hlt
  have hnn : NN (paidN D s 10) := fun i => by
    rcases Nat.lt_or_ge i D.length with q | q
    · exact (hin i q).1
    · rw [W_out (by rw [hpl]; exact q)]; exact Int.le_refl _
  have hsn := small_nn hnn (by omega)
  have hmono : ∀ t, s ≤ t → (∀ i, i < D.length → W (paidN D s 10) i ≤ W (paidN D t 10) i) ∧ leftN D s 10 ≤ leftN D t 10 := fun t ht => ⟨fun i hi => paid_mono hD h0 ht hi, leftN_mono hD.nn h0 ht 10⟩
  generalize paidN D s 10 = P at *
  generalize leftN D s 10 = lf at *
  obtain ⟨q, cap2, rfl, _, _, hat2⟩ := id hA1.open
  have hplI : (P.length : Int) = (D.length : Int) := by omega
  have hle := WLe.refl w1
  simp -dsimp -implicitDefEqProofs (maxSteps := 2000000) (disch := first | assumption | omega | (simp only [AW.next_push, AW.next_put]; omega) | ((repeat refine Fresh.push ?_ _); assumption) | (simp only [same_int, same_bool, same_ptr, same_slice, same_sliceP, same_nil, same_agg2, same_string]; done) | (simp [oneCell, AW.next_push]; done) | fail) only [go_sem, Nat.reduceEqDiff, reduceIte, Nat.reduceAdd, Int.toNat_natCast, Nat.add_zero, Owes_true, Try.results9, hE, hplI]
  apply callV_of (e := rfl)
  · exact Sum_ok P _ w1 hA1 hsn
  rintro _ _ ⟨rfl, rfl⟩
  have hno : ¬ lf < 0 := by omega
  simp -dsimp -implicitDefEqProofs (maxSteps := 2000000) (disch := first | assumption | omega | (simp only [AW.next_push, AW.next_put]; omega) | ((repeat refine Fresh.push ?_ _); assumption) | (simp only [same_int, same_bool, same_ptr, same_slice, same_sliceP, same_nil, same_agg2, same_string]; done) | (simp [oneCell, AW.next_push]; done) | fail) only [go_sem, Nat.reduceEqDiff, reduceIte, Nat.reduceAdd, Int.toNat_natCast, Nat.add_zero, Owes_true, Try.results9, hsum, hno]
  apply callV_of (e := rfl)
  · exact Ring_ok more 1000 (by omega) (by omega) w1
  rintro _ _ ⟨k1, rfl, hk0, hk1, rfl⟩
  simp -dsimp -implicitDefEqProofs (maxSteps := 2000000) (disch := first | assumption | omega | (simp only [AW.next_push, AW.next_put]; omega) | ((repeat refine Fresh.push ?_ _); assumption) | (simp only [same_int, same_bool, same_ptr, same_slice, same_sliceP, same_nil, same_agg2, same_string]; done) | (simp [oneCell, AW.next_push]; done) | fail) only [go_sem, Nat.reduceEqDiff, reduceIte, Nat.reduceAdd, Int.toNat_natCast, Nat.add_zero, Owes_true, Try.results9]
  generalize hT : min 34359738368 (s + k1) = T at *
  have hsT : s ≤ T := by omega
  have hT1 : T ≤ 34359738368 := by omega
  apply callV_of (e := rfl)
  · exact Spread_ok D _ T w1 g1.2 (hs.grown g1)
  rintro _ w2 ⟨u2, rfl, hA2, hg2⟩
  have g2 := g1.trans hg2
  have hE2 : spreadE D T = 0 := by
    have q1 : duesB D = true := by
      cases hw : duesB D with
      | true => rfl
      | false => rw [spreadE, if_pos hw] at hE; exact absurd hE (by decide)
    have q2 : inR 0 T 34359738368 = true := (inR_iff _ _ _).2 ⟨by omega, by omega⟩
    rw [spreadE, if_neg (by rw [q1]; simp), if_neg (by rw [q2]; simp)]
  have hO2 : spreadO D T = paidN D T 10 := by rw [spreadO, if_pos hE2]
  have hL2 : spreadL D T = leftN D T 10 := by rw [spreadL, if_pos hE2]
  rw [hO2] at hA2
  rw [hL2]
  obtain ⟨hm1, hm2⟩ := hmono T hsT
  have hpl2 := paidN_len D T 10
  generalize paidN D T 10 = P2 at *
  generalize leftN D T 10 = lf2 at *
  obtain ⟨q2, cap3, rfl, _, _, hat3⟩ := id hA2.open
  have hplI2 : (P2.length : Int) = (D.length : Int) := by omega
  have hno2 : ¬ lf2 < lf := by omega
  simp -dsimp -implicitDefEqProofs (maxSteps := 2000000) (disch := first | assumption | omega | (simp only [AW.next_push, AW.next_put]; omega) | ((repeat refine Fresh.push ?_ _); assumption) | (simp only [same_int, same_bool, same_ptr, same_slice, same_sliceP, same_nil, same_agg2, same_string]; done) | (simp [oneCell, AW.next_push]; done) | fail) only [go_sem, Nat.reduceEqDiff, reduceIte, Nat.reduceAdd, Int.toNat_natCast, Nat.add_zero, Owes_true, Try.results9, hE2, hplI2, hno2]
  refine loopR (fun k t ds w3 => ∃ i : Nat, i ≤ D.length ∧ k = D.length - i ∧ ds = [] ∧ ev t (.tmp 0) = .slice p D.length cap ∧ ev t (.tmp 7) = .slice q P.length cap2 ∧ ev t (.tmp 8) = .int .i64 lf ∧ ev t (.tmp 10) = .slice q2 P2.length cap3 ∧ ev t (.tmp 12) = .int .i64 (i : Int) ∧ w2 = w3) (D.length) ?_ ?_
  · refine ⟨0, by omega, by omega, rfl, ?_, ?_, ?_, ?_, ?_, rfl⟩ <;> simp -dsimp -implicitDefEqProofs (maxSteps := 2000000) (disch := first | assumption | omega | (simp only [AW.next_push, AW.next_put]; omega) | ((repeat refine Fresh.push ?_ _); assumption) | (simp only [same_int, same_bool, same_ptr, same_slice, same_sliceP, same_nil, same_agg2, same_string]; done) | (simp [oneCell, AW.next_push]; done) | fail) only [go_sem, Nat.reduceEqDiff, reduceIte, Nat.reduceAdd, Int.toNat_natCast, Nat.add_zero, Owes_true] <;> rfl
  rintro k t ds w3 ⟨i, hii, rfl, rfl, e0, e7, e8, e10, e12, hw⟩
  subst hw
  by_cases hlt : (i : Int) < (D.length : Int)
  case neg =>
    simp -dsimp -implicitDefEqProofs (maxSteps := 2000000) (disch := first | assumption | omega | (simp only [AW.next_push, AW.next_put]; omega) | ((repeat refine Fresh.push ?_ _); assumption) | (simp only [same_int, same_bool, same_ptr, same_slice, same_sliceP, same_nil, same_agg2, same_string]; done) | (simp [oneCell, AW.next_push]; done) | fail) only [go_sem, Nat.reduceEqDiff, reduceIte, Nat.reduceAdd, Int.toNat_natCast, Nat.add_zero, Owes_true, Try.results9, e0, e7, e8, e10, e12, hlt]
    apply callV_of (e := rfl)
    · exact callT_told (Q := fun v w' => v = .bool true ∧ w2 = w') (v := .bool true) (w' := w2) rfl ⟨rfl, rfl⟩
    rintro _ _ ⟨rfl, rfl⟩
    simp -dsimp -implicitDefEqProofs (maxSteps := 2000000) (disch := first | assumption | omega | (simp only [AW.next_push, AW.next_put]; omega) | ((repeat refine Fresh.push ?_ _); assumption) | (simp only [same_int, same_bool, same_ptr, same_slice, same_sliceP, same_nil, same_agg2, same_string]; done) | (simp [oneCell, AW.next_push]; done) | fail) only [go_sem, Nat.reduceEqDiff, reduceIte, Nat.reduceAdd, Int.toNat_natCast, Nat.add_zero, Owes_true, Try.results9]
  have hlt' : i < D.length := by omega
  have hltP : (i : Int) < (P.length : Int) := by omega
  have hltP2 : (i : Int) < (P2.length : Int) := by omega
  obtain ⟨b1, o1, rfl, hb1, hcell⟩ := hat i hlt'
  have a0 := hcell _ g2.1 0 _ rfl
  have a1 := hcell _ g2.1 1 _ rfl
  rw [Nat.add_zero] at a0
  obtain ⟨b2, o2, rfl, hb2, hcell2⟩ := hat2 i (by omega)
  have d0 := hcell2 _ hg2.1 0 _ rfl
  rw [Nat.add_zero, ← W_at (show i < P.length by omega)] at d0
  obtain ⟨b3, o3, rfl, hb3, hcell3⟩ := hat3 i (by omega)
  have c0 := hcell3 _ (.refl _ _) 0 _ rfl
  rw [Nat.add_zero, ← W_at (show i < P2.length by omega)] at c0
  obtain ⟨v1, v2⟩ := hin i hlt'
  have v3 := hle1 i hlt'
  have v4 := hm1 i hlt'
  have hr : inR 0 (W P i) D[i].a = true := (inR_iff _ _ _).2 ⟨v1, v2⟩
  have v5 : ¬ W P2 i < W P i := by omega
  simp -dsimp -implicitDefEqProofs (maxSteps := 2000000) (disch := first | assumption | omega | (simp only [AW.next_push, AW.next_put]; omega) | ((repeat refine Fresh.push ?_ _); assumption) | (simp only [same_int, same_bool, same_ptr, same_slice, same_sliceP, same_nil, same_agg2, same_string]; done) | (simp [oneCell, AW.next_push]; done) | fail) only [go_sem, Nat.reduceEqDiff, reduceIte, Nat.reduceAdd, Int.toNat_natCast, Nat.add_zero, Owes_true, Try.results9, e0, e7, e8, e10, e12, hlt, hltP, hltP2, indexV_eq, a0, a1, d0, c0]
  apply callV_of (e := rfl)
  · exact From_ok _ _ _ _
  rintro _ _ ⟨rfl, rfl⟩
  rw [hr]
  obtain ⟨IJ, hIJ⟩ : ∃ I : Nat → Tmps → List DI → AW → Prop, I = (fun k t ds w4 => ∃ j : Nat, j ≤ D.length ∧ k = D.length - j ∧ ds = [] ∧ ev t (.tmp 0) = .slice (some ⟨b1, o1, none⟩) D.length cap ∧ ev t (.tmp 7) = .slice (some ⟨b2, o2, none⟩) P.length cap2 ∧ ev t (.tmp 8) = .int .i64 lf ∧ ev t (.tmp 10) = .slice (some ⟨b3, o3, none⟩) P2.length cap3 ∧ ev t (.tmp 12) = .int .i64 (i : Int) ∧ ev t (.tmp 13) = .int .i64 (j : Int) ∧ w2 = w4) := ⟨_, rfl⟩
  apply joinMain (I := IJ)
  case mainJ =>
    intro stepJ
    by_cases hq : W P i < D[i].a
    · have hz : ¬ 0 < lf := by have := v3 hq; omega
      simp -dsimp -implicitDefEqProofs (maxSteps := 2000000) (disch := first | assumption | omega | (simp only [AW.next_push, AW.next_put]; omega) | ((repeat refine Fresh.push ?_ _); assumption) | (simp only [same_int, same_bool, same_ptr, same_slice, same_sliceP, same_nil, same_agg2, same_string]; done) | (simp [oneCell, AW.next_push]; done) | fail) only [go_sem, Nat.reduceEqDiff, reduceIte, Nat.reduceAdd, Int.toNat_natCast, Nat.add_zero, Owes_true, Try.results9, e0, e7, e8, e10, e12, hlt, hltP, hltP2, indexV_eq, a0, a1, d0, c0, hq, hz, v5]
      refine loopJ IJ (D.length) ?_ stepJ
      rw [hIJ]
      refine ⟨0, by omega, by omega, rfl, ?_, ?_, ?_, ?_, ?_, ?_, rfl⟩ <;> simp -dsimp -implicitDefEqProofs (maxSteps := 2000000) (disch := first | assumption | omega | (simp only [AW.next_push, AW.next_put]; omega) | ((repeat refine Fresh.push ?_ _); assumption) | (simp only [same_int, same_bool, same_ptr, same_slice, same_sliceP, same_nil, same_agg2, same_string]; done) | (simp [oneCell, AW.next_push]; done) | fail) only [go_sem, Nat.reduceEqDiff, reduceIte, Nat.reduceAdd, Int.toNat_natCast, Nat.add_zero, Owes_true, e0, e7, e8, e10, e12] <;> rfl
    · simp -dsimp -implicitDefEqProofs (maxSteps := 2000000) (disch := first | assumption | omega | (simp only [AW.next_push, AW.next_put]; omega) | ((repeat refine Fresh.push ?_ _); assumption) | (simp only [same_int, same_bool, same_ptr, same_slice, same_sliceP, same_nil, same_agg2, same_string]; done) | (simp [oneCell, AW.next_push]; done) | fail) only [go_sem, Nat.reduceEqDiff, reduceIte, Nat.reduceAdd, Int.toNat_natCast, Nat.add_zero, Owes_true, Try.results9, e0, e7, e8, e10, e12, hlt, hltP, hltP2, indexV_eq, a0, a1, d0, c0, hq, v5]
      refine loopJ IJ (D.length) ?_ stepJ
      rw [hIJ]
      refine ⟨0, by omega, by omega, rfl, ?_, ?_, ?_, ?_, ?_, ?_, rfl⟩ <;> simp -dsimp -implicitDefEqProofs (maxSteps := 2000000) (disch := first | assumption | omega | (simp only [AW.next_push, AW.next_put]; omega) | ((repeat refine Fresh.push ?_ _); assumption) | (simp only [same_int, same_bool, same_ptr, same_slice, same_sliceP, same_nil, same_agg2, same_string]; done) | (simp [oneCell, AW.next_push]; done) | fail) only [go_sem, Nat.reduceEqDiff, reduceIte, Nat.reduceAdd, Int.toNat_natCast, Nat.add_zero, Owes_true, e0, e7, e8, e10, e12] <;> rfl
  case stepJ =>
  intro k t ds w4 hJ
  rw [hIJ] at hJ
  obtain ⟨j, hij, rfl, rfl, e0, e7, e8, e10, e12, e13, hw⟩ := hJ
  subst hIJ
  subst hw
  by_cases hlt2 : (j : Int) < (D.length : Int)
  case neg =>
    simp -dsimp -implicitDefEqProofs (maxSteps := 2000000) (disch := first | assumption | omega | (simp only [AW.next_push, AW.next_put]; omega) | ((repeat refine Fresh.push ?_ _); assumption) | (simp only [same_int, same_bool, same_ptr, same_slice, same_sliceP, same_nil, same_agg2, same_string]; done) | (simp [oneCell, AW.next_push]; done) | fail) only [go_sem, Nat.reduceEqDiff, reduceIte, Nat.reduceAdd, Int.toNat_natCast, Nat.add_zero, Owes_true, Try.results9, e0, e7, e8, e10, e12, e13, hlt2]
    refine ⟨_, by omega, i + 1, by omega, rfl, rfl, by (simp -dsimp -implicitDefEqProofs (maxSteps := 2000000) (disch := first | assumption | omega | (simp only [AW.next_push, AW.next_put]; omega) | ((repeat refine Fresh.push ?_ _); assumption) | (simp only [same_int, same_bool, same_ptr, same_slice, same_sliceP, same_nil, same_agg2, same_string]; done) | (simp [oneCell, AW.next_push]; done) | fail) only [go_sem, Nat.reduceEqDiff, reduceIte, Nat.reduceAdd, Int.toNat_natCast, Nat.add_zero, Owes_true, e0]; try rfl), by (simp -dsimp -implicitDefEqProofs (maxSteps := 2000000) (disch := first | assumption | omega | (simp only [AW.next_push, AW.next_put]; omega) | ((repeat refine Fresh.push ?_ _); assumption) | (simp only [same_int, same_bool, same_ptr, same_slice, same_sliceP, same_nil, same_agg2, same_string]; done) | (simp [oneCell, AW.next_push]; done) | fail) only [go_sem, Nat.reduceEqDiff, reduceIte, Nat.reduceAdd, Int.toNat_natCast, Nat.add_zero, Owes_true, e7]; try rfl), by (simp -dsimp -implicitDefEqProofs (maxSteps := 2000000) (disch := first | assumption | omega | (simp only [AW.next_push, AW.next_put]; omega) | ((repeat refine Fresh.push ?_ _); assumption) | (simp only [same_int, same_bool, same_ptr, same_slice, same_sliceP, same_nil, same_agg2, same_string]; done) | (simp [oneCell, AW.next_push]; done) | fail) only [go_sem, Nat.reduceEqDiff, reduceIte, Nat.reduceAdd, Int.toNat_natCast, Nat.add_zero, Owes_true, e8]; try rfl), by (simp -dsimp -implicitDefEqProofs (maxSteps := 2000000) (disch := first | assumption | omega | (simp only [AW.next_push, AW.next_put]; omega) | ((repeat refine Fresh.push ?_ _); assumption) | (simp only [same_int, same_bool, same_ptr, same_slice, same_sliceP, same_nil, same_agg2, same_string]; done) | (simp [oneCell, AW.next_push]; done) | fail) only [go_sem, Nat.reduceEqDiff, reduceIte, Nat.reduceAdd, Int.toNat_natCast, Nat.add_zero, Owes_true, e10]; try rfl), by (simp -dsimp -implicitDefEqProofs (maxSteps := 2000000) (disch := first | assumption | omega | (simp only [AW.next_push, AW.next_put]; omega) | ((repeat refine Fresh.push ?_ _); assumption) | (simp only [same_int, same_bool, same_ptr, same_slice, same_sliceP, same_nil, same_agg2, same_string]; done) | (simp [oneCell, AW.next_push]; done) | fail) only [go_sem, Nat.reduceEqDiff, reduceIte, Nat.reduceAdd, Int.toNat_natCast, Nat.add_zero, Owes_true, e12]; try rfl), rfl⟩
  have hlt2' : j < D.length := by omega
  have hlt2P : (j : Int) < (P.length : Int) := by omega
  obtain ⟨b4, o4, hp4, hb4, hcell4⟩ := hat j hlt2'
  injection hp4 with hp4
  injection hp4 with hp41 hp42 hp43
  subst hp41 hp42
  have a2 := hcell4 _ g2.1 0 _ rfl
  rw [Nat.add_zero] at a2
  obtain ⟨b5, o5, hp5, hb5, hcell5⟩ := hat2 j (by omega)
  injection hp5 with hp5
  injection hp5 with hp51 hp52 hp53
  subst hp51 hp52
  have d1 := hcell5 _ hg2.1 0 _ rfl
  rw [Nat.add_zero, ← W_at (show j < P.length by omega)] at d1
  have hk := hrk i j hlt' hlt2'
  by_cases hrr : D[i].r < D[j].r
  case neg =>
    simp -dsimp -implicitDefEqProofs (maxSteps := 2000000) (disch := first | assumption | omega | (simp only [AW.next_push, AW.next_put]; omega) | ((repeat refine Fresh.push ?_ _); assumption) | (simp only [same_int, same_bool, same_ptr, same_slice, same_sliceP, same_nil, same_agg2, same_string]; done) | (simp [oneCell, AW.next_push]; done) | fail) only [go_sem, Nat.reduceEqDiff, reduceIte, Nat.reduceAdd, Int.toNat_natCast, Nat.add_zero, Owes_true, Try.results9, e0, e7, e8, e10, e12, e13, hlt2, hlt, hltP, hlt2P, indexV_eq, a0, a1, a2, d0, d1, hrr]
    refine ⟨_, by omega, j + 1, by omega, rfl, rfl, by (simp -dsimp -implicitDefEqProofs (maxSteps := 2000000) (disch := first | assumption | omega | (simp only [AW.next_push, AW.next_put]; omega) | ((repeat refine Fresh.push ?_ _); assumption) | (simp only [same_int, same_bool, same_ptr, same_slice, same_sliceP, same_nil, same_agg2, same_string]; done) | (simp [oneCell, AW.next_push]; done) | fail) only [go_sem, Nat.reduceEqDiff, reduceIte, Nat.reduceAdd, Int.toNat_natCast, Nat.add_zero, Owes_true, e0]; try rfl), by (simp -dsimp -implicitDefEqProofs (maxSteps := 2000000) (disch := first | assumption | omega | (simp only [AW.next_push, AW.next_put]; omega) | ((repeat refine Fresh.push ?_ _); assumption) | (simp only [same_int, same_bool, same_ptr, same_slice, same_sliceP, same_nil, same_agg2, same_string]; done) | (simp [oneCell, AW.next_push]; done) | fail) only [go_sem, Nat.reduceEqDiff, reduceIte, Nat.reduceAdd, Int.toNat_natCast, Nat.add_zero, Owes_true, e7]; try rfl), by (simp -dsimp -implicitDefEqProofs (maxSteps := 2000000) (disch := first | assumption | omega | (simp only [AW.next_push, AW.next_put]; omega) | ((repeat refine Fresh.push ?_ _); assumption) | (simp only [same_int, same_bool, same_ptr, same_slice, same_sliceP, same_nil, same_agg2, same_string]; done) | (simp [oneCell, AW.next_push]; done) | fail) only [go_sem, Nat.reduceEqDiff, reduceIte, Nat.reduceAdd, Int.toNat_natCast, Nat.add_zero, Owes_true, e8]; try rfl), by (simp -dsimp -implicitDefEqProofs (maxSteps := 2000000) (disch := first | assumption | omega | (simp only [AW.next_push, AW.next_put]; omega) | ((repeat refine Fresh.push ?_ _); assumption) | (simp only [same_int, same_bool, same_ptr, same_slice, same_sliceP, same_nil, same_agg2, same_string]; done) | (simp [oneCell, AW.next_push]; done) | fail) only [go_sem, Nat.reduceEqDiff, reduceIte, Nat.reduceAdd, Int.toNat_natCast, Nat.add_zero, Owes_true, e10]; try rfl), by (simp -dsimp -implicitDefEqProofs (maxSteps := 2000000) (disch := first | assumption | omega | (simp only [AW.next_push, AW.next_put]; omega) | ((repeat refine Fresh.push ?_ _); assumption) | (simp only [same_int, same_bool, same_ptr, same_slice, same_sliceP, same_nil, same_agg2, same_string]; done) | (simp [oneCell, AW.next_push]; done) | fail) only [go_sem, Nat.reduceEqDiff, reduceIte, Nat.reduceAdd, Int.toNat_natCast, Nat.add_zero, Owes_true, e12]; try rfl), by (simp -dsimp -implicitDefEqProofs (maxSteps := 2000000) (disch := first | assumption | omega | (simp only [AW.next_push, AW.next_put]; omega) | ((repeat refine Fresh.push ?_ _); assumption) | (simp only [same_int, same_bool, same_ptr, same_slice, same_sliceP, same_nil, same_agg2, same_string]; done) | (simp [oneCell, AW.next_push]; done) | fail) only [go_sem, Nat.reduceEqDiff, reduceIte, Nat.reduceAdd, Int.toNat_natCast, Nat.add_zero, Owes_true, e13]; try rfl), rfl⟩
  by_cases hpp : W P i < D[i].a
  case neg =>
    simp -dsimp -implicitDefEqProofs (maxSteps := 2000000) (disch := first | assumption | omega | (simp only [AW.next_push, AW.next_put]; omega) | ((repeat refine Fresh.push ?_ _); assumption) | (simp only [same_int, same_bool, same_ptr, same_slice, same_sliceP, same_nil, same_agg2, same_string]; done) | (simp [oneCell, AW.next_push]; done) | fail) only [go_sem, Nat.reduceEqDiff, reduceIte, Nat.reduceAdd, Int.toNat_natCast, Nat.add_zero, Owes_true, Try.results9, e0, e7, e8, e10, e12, e13, hlt2, hlt, hltP, hlt2P, indexV_eq, a0, a1, a2, d0, d1, hrr, hpp]
    refine ⟨_, by omega, j + 1, by omega, rfl, rfl, by (simp -dsimp -implicitDefEqProofs (maxSteps := 2000000) (disch := first | assumption | omega | (simp only [AW.next_push, AW.next_put]; omega) | ((repeat refine Fresh.push ?_ _); assumption) | (simp only [same_int, same_bool, same_ptr, same_slice, same_sliceP, same_nil, same_agg2, same_string]; done) | (simp [oneCell, AW.next_push]; done) | fail) only [go_sem, Nat.reduceEqDiff, reduceIte, Nat.reduceAdd, Int.toNat_natCast, Nat.add_zero, Owes_true, e0]; try rfl), by (simp -dsimp -implicitDefEqProofs (maxSteps := 2000000) (disch := first | assumption | omega | (simp only [AW.next_push, AW.next_put]; omega) | ((repeat refine Fresh.push ?_ _); assumption) | (simp only [same_int, same_bool, same_ptr, same_slice, same_sliceP, same_nil, same_agg2, same_string]; done) | (simp [oneCell, AW.next_push]; done) | fail) only [go_sem, Nat.reduceEqDiff, reduceIte, Nat.reduceAdd, Int.toNat_natCast, Nat.add_zero, Owes_true, e7]; try rfl), by (simp -dsimp -implicitDefEqProofs (maxSteps := 2000000) (disch := first | assumption | omega | (simp only [AW.next_push, AW.next_put]; omega) | ((repeat refine Fresh.push ?_ _); assumption) | (simp only [same_int, same_bool, same_ptr, same_slice, same_sliceP, same_nil, same_agg2, same_string]; done) | (simp [oneCell, AW.next_push]; done) | fail) only [go_sem, Nat.reduceEqDiff, reduceIte, Nat.reduceAdd, Int.toNat_natCast, Nat.add_zero, Owes_true, e8]; try rfl), by (simp -dsimp -implicitDefEqProofs (maxSteps := 2000000) (disch := first | assumption | omega | (simp only [AW.next_push, AW.next_put]; omega) | ((repeat refine Fresh.push ?_ _); assumption) | (simp only [same_int, same_bool, same_ptr, same_slice, same_sliceP, same_nil, same_agg2, same_string]; done) | (simp [oneCell, AW.next_push]; done) | fail) only [go_sem, Nat.reduceEqDiff, reduceIte, Nat.reduceAdd, Int.toNat_natCast, Nat.add_zero, Owes_true, e10]; try rfl), by (simp -dsimp -implicitDefEqProofs (maxSteps := 2000000) (disch := first | assumption | omega | (simp only [AW.next_push, AW.next_put]; omega) | ((repeat refine Fresh.push ?_ _); assumption) | (simp only [same_int, same_bool, same_ptr, same_slice, same_sliceP, same_nil, same_agg2, same_string]; done) | (simp [oneCell, AW.next_push]; done) | fail) only [go_sem, Nat.reduceEqDiff, reduceIte, Nat.reduceAdd, Int.toNat_natCast, Nat.add_zero, Owes_true, e12]; try rfl), by (simp -dsimp -implicitDefEqProofs (maxSteps := 2000000) (disch := first | assumption | omega | (simp only [AW.next_push, AW.next_put]; omega) | ((repeat refine Fresh.push ?_ _); assumption) | (simp only [same_int, same_bool, same_ptr, same_slice, same_sliceP, same_nil, same_agg2, same_string]; done) | (simp [oneCell, AW.next_push]; done) | fail) only [go_sem, Nat.reduceEqDiff, reduceIte, Nat.reduceAdd, Int.toNat_natCast, Nat.add_zero, Owes_true, e13]; try rfl), rfl⟩
  have hz : ¬ 0 < W P j := by have := hk hrr hpp; omega
  simp -dsimp -implicitDefEqProofs (maxSteps := 2000000) (disch := first | assumption | omega | (simp only [AW.next_push, AW.next_put]; omega) | ((repeat refine Fresh.push ?_ _); assumption) | (simp only [same_int, same_bool, same_ptr, same_slice, same_sliceP, same_nil, same_agg2, same_string]; done) | (simp [oneCell, AW.next_push]; done) | fail) only [go_sem, Nat.reduceEqDiff, reduceIte, Nat.reduceAdd, Int.toNat_natCast, Nat.add_zero, Owes_true, Try.results9, e0, e7, e8, e10, e12, e13, hlt2, hlt, hltP, hlt2P, indexV_eq, a0, a1, a2, d0, d1, hrr, hpp, hz]
  refine ⟨_, by omega, j + 1, by omega, rfl, rfl, by (simp -dsimp -implicitDefEqProofs (maxSteps := 2000000) (disch := first | assumption | omega | (simp only [AW.next_push, AW.next_put]; omega) | ((repeat refine Fresh.push ?_ _); assumption) | (simp only [same_int, same_bool, same_ptr, same_slice, same_sliceP, same_nil, same_agg2, same_string]; done) | (simp [oneCell, AW.next_push]; done) | fail) only [go_sem, Nat.reduceEqDiff, reduceIte, Nat.reduceAdd, Int.toNat_natCast, Nat.add_zero, Owes_true, e0]; try rfl), by (simp -dsimp -implicitDefEqProofs (maxSteps := 2000000) (disch := first | assumption | omega | (simp only [AW.next_push, AW.next_put]; omega) | ((repeat refine Fresh.push ?_ _); assumption) | (simp only [same_int, same_bool, same_ptr, same_slice, same_sliceP, same_nil, same_agg2, same_string]; done) | (simp [oneCell, AW.next_push]; done) | fail) only [go_sem, Nat.reduceEqDiff, reduceIte, Nat.reduceAdd, Int.toNat_natCast, Nat.add_zero, Owes_true, e7]; try rfl), by (simp -dsimp -implicitDefEqProofs (maxSteps := 2000000) (disch := first | assumption | omega | (simp only [AW.next_push, AW.next_put]; omega) | ((repeat refine Fresh.push ?_ _); assumption) | (simp only [same_int, same_bool, same_ptr, same_slice, same_sliceP, same_nil, same_agg2, same_string]; done) | (simp [oneCell, AW.next_push]; done) | fail) only [go_sem, Nat.reduceEqDiff, reduceIte, Nat.reduceAdd, Int.toNat_natCast, Nat.add_zero, Owes_true, e8]; try rfl), by (simp -dsimp -implicitDefEqProofs (maxSteps := 2000000) (disch := first | assumption | omega | (simp only [AW.next_push, AW.next_put]; omega) | ((repeat refine Fresh.push ?_ _); assumption) | (simp only [same_int, same_bool, same_ptr, same_slice, same_sliceP, same_nil, same_agg2, same_string]; done) | (simp [oneCell, AW.next_push]; done) | fail) only [go_sem, Nat.reduceEqDiff, reduceIte, Nat.reduceAdd, Int.toNat_natCast, Nat.add_zero, Owes_true, e10]; try rfl), by (simp -dsimp -implicitDefEqProofs (maxSteps := 2000000) (disch := first | assumption | omega | (simp only [AW.next_push, AW.next_put]; omega) | ((repeat refine Fresh.push ?_ _); assumption) | (simp only [same_int, same_bool, same_ptr, same_slice, same_sliceP, same_nil, same_agg2, same_string]; done) | (simp [oneCell, AW.next_push]; done) | fail) only [go_sem, Nat.reduceEqDiff, reduceIte, Nat.reduceAdd, Int.toNat_natCast, Nat.add_zero, Owes_true, e12]; try rfl), by (simp -dsimp -implicitDefEqProofs (maxSteps := 2000000) (disch := first | assumption | omega | (simp only [AW.next_push, AW.next_put]; omega) | ((repeat refine Fresh.push ?_ _); assumption) | (simp only [same_int, same_bool, same_ptr, same_slice, same_sliceP, same_nil, same_agg2, same_string]; done) | (simp [oneCell, AW.next_push]; done) | fail) only [go_sem, Nat.reduceEqDiff, reduceIte, Nat.reduceAdd, Int.toNat_natCast, Nat.add_zero, Owes_true, e13]; try rfl), rfl⟩
end Go.Proofs
