/- The law of the cheapest sets, on the machine. -/
import Derived.Test.YteeheldahpoppaaGreatCb
import Derived.Test.YteeheldahpoppaaGreatTf
set_option linter.unusedVariables false
set_option linter.unusedSimpArgs false
/- The law of the cheapest sets, on the machine. -/
namespace Go.Proofs
open Go Go.RowKit Go.Sim
set_option maxRecDepth 100000
theorem same_sliceM (m : Nat) (p : Option Addr) (n c : Nat) : same (m + 1) (.slice p n c) (.slice p n c) = true := by
  cases p with
  | none => simp [same]
  | some a => obtain ⟨b, o, s⟩ := a; cases s <;> simp [same]
theorem same_least (p : Option Addr) (n c : Nat) (m : Int) : same 12 (.tuple #[.slice p n c, .int .i64 m, .int .i64 0]) (.tuple #[.slice p n c, .int .i64 m, .int .i64 0]) = true := by
  show same.all 11 [_, _, _] [_, _, _] = true
  have h1 : same 11 (.int .i64 m) (.int .i64 m) = true := by simp [same, intEq_eq]
  have h2 : same 11 (.int .i64 0) (.int .i64 0) = true := by simp [same, intEq_eq]
  simp only [same.all, same_sliceM 10, h1, h2, Bool.and_self]
set_option maxHeartbeats 4000000 in
theorem cheap_law (w : AW) (xs : List Value) (f : Fresh w) (h : HdAll Tryz.prog w [38, 24, 24] xs) : CallT Tryz.prog Tryz.T (.fn (.func 8) #[]) xs.toArray w fun v _ => v = .bool true := by
  cases h with
  | cons n1 h1 h =>
  cases h with
  | cons n2 h2 h =>
  cases h with
  | cons n3 h3 h =>
  cases h
  obtain ⟨a, b, c, ms, rs, fss, rfl, hs, hr, hF, hGv⟩ := given_skillG h1
  obtain ⟨set, hS⟩ := given_intsV h2
  obtain ⟨ps, hP⟩ := given_intsV h3
  clear h1 h2 h3
  rename_i y z
  show CallT Tryz.prog Tryz.T (.fn (.func 8) #[]) #[.agg #[a, b, c], y, z] w _
  obtain ⟨vs, hvl, hvs, hvr⟩ := id hF
  obtain ⟨p, cap, rfl, hcap, hmax, hat⟩ := hs.open
  obtain ⟨q, cap2, rfl, hcap2, hmax2, hat2⟩ := hr.open
  obtain ⟨r, cap3, rfl, hcap3, hmax3, hat3⟩ := hvs.open
  obtain ⟨py, capy, rfl, hcapy, hmaxy, haty⟩ := hS.open
  obtain ⟨pz, capz, rfl, hcapz, hmaxz, hatz⟩ := hP.open
  have hO := Own.new f 38 [.slice p ms.length cap, .slice q rs.length cap2, .slice r vs.length cap3]
  have g0 := (Grown.refl f).push (.cells [.slice p ms.length cap, .slice q rs.length cap2, .slice r vs.length cap3] 38 w.next 0 0)
  have c0 := hO.cell (o := 0) rfl rfl
  have c1 := hO.cell (o := 1) rfl rfl
  have c2 := hO.cell (o := 2) rfl rfl
  refine callT_code rfl Tryz.func8 rfl Tryz.s8_eq rfl ?_
  unfold Tryz.s8
  simp -dsimp -implicitDefEqProofs (maxSteps := 2000000) (disch := first | assumption | omega | (simp only [AW.next_push, AW.next_put]; omega) | ((repeat refine Fresh.push ?_ _); assumption) | (simp only [same_int, same_bool, same_ptr, same_slice, same_sliceP, same_nil, same_agg2, same_string]; done) | (simp [oneCell, AW.next_push]; done) | fail) only [go_sem, Nat.reduceEqDiff, reduceIte, Nat.reduceAdd, Int.toNat_natCast, Nat.add_zero, Owes_true, Tryz.results8, Nat.zero_add, c0, c1, c2]
  apply callV_of (e := rfl)
  · exact Least_ok ms rs fss _ _ _ _ g0.2 (hs.grown g0) (hr.grown g0) (hF.grown g0)
  rintro _ w1 ⟨s1, rfl, hs1, hg1⟩
  have g1 := g0.trans hg1
  have hO1 := hO.keep hg1.1
  clear c0 c1 c2
  have c0 := hO1.cell (o := 0) rfl rfl
  have c1 := hO1.cell (o := 1) rfl rfl
  have c2 := hO1.cell (o := 2) rfl rfl
  simp -dsimp -implicitDefEqProofs (maxSteps := 2000000) (disch := first | assumption | omega | (simp only [AW.next_push, AW.next_put]; omega) | ((repeat refine Fresh.push ?_ _); assumption) | (simp only [same_int, same_bool, same_ptr, same_slice, same_sliceP, same_nil, same_agg2, same_string]; done) | (simp [oneCell, AW.next_push]; done) | fail) only [go_sem, Nat.reduceEqDiff, reduceIte, Nat.reduceAdd, Int.toNat_natCast, Nat.add_zero, Owes_true, Tryz.results8, Nat.zero_add, c0, c1, c2]
  apply callV_of (e := rfl)
  · exact Shows_ok ms rs fss set _ _ _ _ _ g1.2 (hs.grown g1) (hr.grown g1) (hF.grown g1) (hS.grown g1)
  rintro _ w2 ⟨rfl, hg2⟩
  have g2 := g1.trans hg2
  have hO2 := hO1.keep hg2.1
  have hs2 := hs1.grown hg2
  clear c0 c1 c2
  have c0 := hO2.cell (o := 0) rfl rfl
  have c1 := hO2.cell (o := 1) rfl rfl
  have c2 := hO2.cell (o := 2) rfl rfl
  obtain ⟨pa, capa, rfl, hcapa, hmaxa, hata⟩ := hs2.open
  by_cases hE : leastE ms rs fss = 0
  case neg =>
    have hS0 : leastS ms rs fss = [] := by rw [leastS, if_neg hE]
    have hN0 : leastN ms rs fss = 0 := by rw [leastN, if_neg hE]
    have hl0 : ((leastS ms rs fss).length : Int) = 0 := by rw [hS0]; rfl
    by_cases h4 : leastE ms rs fss = 4
    · have hR := least_none set h4
      have d4 : ¬ (4 : Int) = 0 := by omega
      simp -dsimp -implicitDefEqProofs (maxSteps := 2000000) (disch := first | assumption | omega | (simp only [AW.next_push, AW.next_put]; omega) | ((repeat refine Fresh.push ?_ _); assumption) | (simp only [same_int, same_bool, same_ptr, same_slice, same_sliceP, same_nil, same_agg2, same_string]; done) | (simp [oneCell, AW.next_push]; done) | fail) only [go_sem, Nat.reduceEqDiff, reduceIte, Nat.reduceAdd, Int.toNat_natCast, Nat.add_zero, Owes_true, Tryz.results8, hN0, hl0, h4, hR, d4]
      apply callV_of (e := rfl)
      · exact callT_told (Q := fun v w' => v = .bool true ∧ w2 = w') (v := .bool true) (w' := w2) rfl ⟨rfl, rfl⟩
      rintro _ w8 ⟨rfl, rfl⟩
      simp -dsimp -implicitDefEqProofs (maxSteps := 2000000) (disch := first | assumption | omega | (simp only [AW.next_push, AW.next_put]; omega) | ((repeat refine Fresh.push ?_ _); assumption) | (simp only [same_int, same_bool, same_ptr, same_slice, same_sliceP, same_nil, same_agg2, same_string]; done) | (simp [oneCell, AW.next_push]; done) | fail) only [go_sem, Nat.reduceEqDiff, reduceIte, Nat.reduceAdd, Int.toNat_natCast, Nat.add_zero, Owes_true, Tryz.results8]
    · simp -dsimp -implicitDefEqProofs (maxSteps := 2000000) (disch := first | assumption | omega | (simp only [AW.next_push, AW.next_put]; omega) | ((repeat refine Fresh.push ?_ _); assumption) | (simp only [same_int, same_bool, same_ptr, same_slice, same_sliceP, same_nil, same_agg2, same_string]; done) | (simp [oneCell, AW.next_push]; done) | fail) only [go_sem, Nat.reduceEqDiff, reduceIte, Nat.reduceAdd, Int.toNat_natCast, Nat.add_zero, Owes_true, Tryz.results8, hE, hN0, hl0, h4]
      apply callV_of (e := rfl)
      · exact callT_told (Q := fun v w' => v = .bool true ∧ w2 = w') (v := .bool true) (w' := w2) rfl ⟨rfl, rfl⟩
      rintro _ w8 ⟨rfl, rfl⟩
      simp -dsimp -implicitDefEqProofs (maxSteps := 2000000) (disch := first | assumption | omega | (simp only [AW.next_push, AW.next_put]; omega) | ((repeat refine Fresh.push ?_ _); assumption) | (simp only [same_int, same_bool, same_ptr, same_slice, same_sliceP, same_nil, same_agg2, same_string]; done) | (simp [oneCell, AW.next_push]; done) | fail) only [go_sem, Nat.reduceEqDiff, reduceIte, Nat.reduceAdd, Int.toNat_natCast, Nat.add_zero, Owes_true, Tryz.results8]
  obtain ⟨hA, _, _, _⟩ := least_zero hE
  obtain ⟨hM, _, _⟩ := ask_len hA
  obtain ⟨h8, _⟩ := okMs_lab hM
  obtain ⟨hoE, hoR, hoA, hoL⟩ := least_own hE
  simp -dsimp -implicitDefEqProofs (maxSteps := 2000000) (disch := first | assumption | omega | (simp only [AW.next_push, AW.next_put]; omega) | ((repeat refine Fresh.push ?_ _); assumption) | (simp only [same_int, same_bool, same_ptr, same_slice, same_sliceP, same_nil, same_agg2, same_string]; done) | (simp [oneCell, AW.next_push]; done) | fail) only [go_sem, Nat.reduceEqDiff, reduceIte, Nat.reduceAdd, Int.toNat_natCast, Nat.add_zero, Owes_true, Tryz.results8, Nat.zero_add, c0, c1, c2, hE]
  apply callV_of (e := rfl)
  · exact Shows_ok ms rs fss (leastS ms rs fss) _ _ _ _ _ g2.2 (hs.grown g2) (hr.grown g2) (hF.grown g2) hs2
  rintro _ w3 ⟨rfl, hg3⟩
  rw [hoE, hoR]
  have g3 := g2.trans hg3
  have hO3 := hO2.keep hg3.1
  have hs3 := hs2.grown hg3
  have hf3 := g3.2
  clear c0 c1 c2
  have c0 := hO3.cell (o := 0) rfl rfl
  have c1 := hO3.cell (o := 1) rfl rfl
  have c2 := hO3.cell (o := 2) rfl rfl
  simp -dsimp -implicitDefEqProofs (maxSteps := 2000000) (disch := first | assumption | omega | (simp only [AW.next_push, AW.next_put]; omega) | ((repeat refine Fresh.push ?_ _); assumption) | (simp only [same_int, same_bool, same_ptr, same_slice, same_sliceP, same_nil, same_agg2, same_string]; done) | (simp [oneCell, AW.next_push]; done) | fail) only [go_sem, Nat.reduceEqDiff, reduceIte, Nat.reduceAdd, Int.toNat_natCast, Nat.add_zero, Owes_true, Tryz.results8]
  refine loopR (fun k t ds w4 => ∃ i : Nat, i ≤ (leastS ms rs fss).length ∧ k = (leastS ms rs fss).length - i ∧ ds = [] ∧ ev t (.tmp 1) = .slice py set.length capy ∧ ev t (.tmp 2) = .slice pz ps.length capz ∧ ev t (.tmp 3) = .pointer (some ⟨w.next, 0, none⟩) ∧ ev t (.tmp 7) = .slice pa (leastS ms rs fss).length capa ∧ ev t (.tmp 8) = .int .i64 (leastN ms rs fss) ∧ ev t (.tmp 10) = .bool (showsR ms rs fss set) ∧ ev t (.tmp 11) = .int .i64 (showsE ms rs fss set) ∧ ev t (.tmp 12) = .bool true ∧ ev t (.tmp 13) = .int .i64 0 ∧ ev t (.tmp 14) = .int .i64 (sumZ (labAt ms) ((leastS ms rs fss).take i)) ∧ ev t (.tmp 15) = .int .i64 0 ∧ ev t (.tmp 16) = .int .i64 (i : Int) ∧ w3 = w4) ((leastS ms rs fss).length) ?_ ?_
  · refine ⟨0, by omega, by omega, rfl, ?_, ?_, ?_, ?_, ?_, ?_, ?_, ?_, ?_, ?_, ?_, ?_, rfl⟩ <;> simp -dsimp -implicitDefEqProofs (maxSteps := 2000000) (disch := first | assumption | omega | (simp only [AW.next_push, AW.next_put]; omega) | ((repeat refine Fresh.push ?_ _); assumption) | (simp only [same_int, same_bool, same_ptr, same_slice, same_sliceP, same_nil, same_agg2, same_string]; done) | (simp [oneCell, AW.next_push]; done) | fail) only [go_sem, Nat.reduceEqDiff, reduceIte, Nat.reduceAdd, Int.toNat_natCast, Nat.add_zero, Owes_true] <;> rfl
  rintro k t ds w4 ⟨i, hii, rfl, rfl, e1, e2, e3, e7, e8, e10, e11, e12, e13, e14, e15, e16, hw⟩
  subst hw
  by_cases hlt : (i : Int) < ((leastS ms rs fss).length : Int)
  · have hlt' : i < (leastS ms rs fss).length := by omega
    obtain ⟨b2, o2, rfl, hb2, hcell2⟩ := hata i hlt'
    have hx0 := hcell2 w3 hg3.1 0 _ rfl
    rw [Nat.add_zero] at hx0
    obtain ⟨ha, hb⟩ := hoA.2 _ (List.getElem_mem hlt')
    have hlab := lab_in hM hoA.2
    have hini := hlab _ (List.getElem_mem hlt')
    have hlen := hoA.len
    have hs1' := sumZ_in (g := labAt ms) (xs := (leastS ms rs fss).take i) fun x hx => hlab x (List.mem_of_mem_take hx)
    have hlen2 : ((leastS ms rs fss).take i).length = i := by rw [List.length_take]; omega
    have hn : sumZ (labAt ms) ((leastS ms rs fss).take (i + 1)) = sumZ (labAt ms) ((leastS ms rs fss).take i) + labAt ms (leastS ms rs fss)[i] := by rw [List.take_succ_eq_append_getElem hlt', sumZ_snoc]
    generalize (leastS ms rs fss)[i] = li at *
    obtain ⟨m, rfl⟩ := Int.eq_ofNat_of_zero_le ha
    have hm : m < ms.length := by omega
    have hm' : (m : Int) < (ms.length : Int) := by omega
    obtain ⟨b1, o1, rfl, hb1, hcell⟩ := hat m hm
    have hc1 := hcell w3 g3.1 1 _ rfl
    have hla : labAt ms (m : Int) = ms[m].2 := by rw [labAt, Int.toNat_natCast, getD_at hm]
    rw [hla] at hn hini
    have hle : WLe w3 w3 := .refl _
    have hin : inR 0 (m : Int) ((ms.length : Int) - 1) = true := (inR_iff _ _ _).2 (by omega)
    simp -dsimp -implicitDefEqProofs (maxSteps := 2000000) (disch := first | assumption | omega | (simp only [AW.next_push, AW.next_put]; omega) | ((repeat refine Fresh.push ?_ _); assumption) | (simp only [same_int, same_bool, same_ptr, same_slice, same_sliceP, same_nil, same_agg2, same_string]; done) | (simp [oneCell, AW.next_push]; done) | fail) only [go_sem, Nat.reduceEqDiff, reduceIte, Nat.reduceAdd, Int.toNat_natCast, Nat.add_zero, Owes_true, Tryz.results8, Nat.zero_add, c0, e1, e2, e3, e7, e8, e10, e11, e12, e13, e14, e15, e16, hlt, hm', indexV_eq, hx0]
    apply callV_of (e := rfl)
    · exact From_ok 0 (m : Int) ((ms.length : Int) - 1) w3
    rintro _ _ ⟨rfl, rfl⟩
    rw [hin]
    simp -dsimp -implicitDefEqProofs (maxSteps := 2000000) (disch := first | assumption | omega | (simp only [AW.next_push, AW.next_put]; omega) | ((repeat refine Fresh.push ?_ _); assumption) | (simp only [same_int, same_bool, same_ptr, same_slice, same_sliceP, same_nil, same_agg2, same_string]; done) | (simp [oneCell, AW.next_push]; done) | fail) only [go_sem, Nat.reduceEqDiff, reduceIte, Nat.reduceAdd, Int.toNat_natCast, Nat.add_zero, Owes_true, Tryz.results8, Nat.zero_add, c0, e1, e2, e3, e7, e8, e10, e11, e12, e13, e14, e15, e16, hlt, hm', indexV_eq, hx0, hc1]
    refine ⟨_, by omega, i + 1, by omega, rfl, rfl, by (simp -dsimp -implicitDefEqProofs (maxSteps := 2000000) (disch := first | assumption | omega | (simp only [AW.next_push, AW.next_put]; omega) | ((repeat refine Fresh.push ?_ _); assumption) | (simp only [same_int, same_bool, same_ptr, same_slice, same_sliceP, same_nil, same_agg2, same_string]; done) | (simp [oneCell, AW.next_push]; done) | fail) only [go_sem, Nat.reduceEqDiff, reduceIte, Nat.reduceAdd, Int.toNat_natCast, Nat.add_zero, Owes_true, e1, hn, e1, e2, e3, e7, e8, e10, e11, e12, e13, e15]; try rfl), by (simp -dsimp -implicitDefEqProofs (maxSteps := 2000000) (disch := first | assumption | omega | (simp only [AW.next_push, AW.next_put]; omega) | ((repeat refine Fresh.push ?_ _); assumption) | (simp only [same_int, same_bool, same_ptr, same_slice, same_sliceP, same_nil, same_agg2, same_string]; done) | (simp [oneCell, AW.next_push]; done) | fail) only [go_sem, Nat.reduceEqDiff, reduceIte, Nat.reduceAdd, Int.toNat_natCast, Nat.add_zero, Owes_true, e2, hn, e1, e2, e3, e7, e8, e10, e11, e12, e13, e15]; try rfl), by (simp -dsimp -implicitDefEqProofs (maxSteps := 2000000) (disch := first | assumption | omega | (simp only [AW.next_push, AW.next_put]; omega) | ((repeat refine Fresh.push ?_ _); assumption) | (simp only [same_int, same_bool, same_ptr, same_slice, same_sliceP, same_nil, same_agg2, same_string]; done) | (simp [oneCell, AW.next_push]; done) | fail) only [go_sem, Nat.reduceEqDiff, reduceIte, Nat.reduceAdd, Int.toNat_natCast, Nat.add_zero, Owes_true, e3, hn, e1, e2, e3, e7, e8, e10, e11, e12, e13, e15]; try rfl), by (simp -dsimp -implicitDefEqProofs (maxSteps := 2000000) (disch := first | assumption | omega | (simp only [AW.next_push, AW.next_put]; omega) | ((repeat refine Fresh.push ?_ _); assumption) | (simp only [same_int, same_bool, same_ptr, same_slice, same_sliceP, same_nil, same_agg2, same_string]; done) | (simp [oneCell, AW.next_push]; done) | fail) only [go_sem, Nat.reduceEqDiff, reduceIte, Nat.reduceAdd, Int.toNat_natCast, Nat.add_zero, Owes_true, e7, hn, e1, e2, e3, e7, e8, e10, e11, e12, e13, e15]; try rfl), by (simp -dsimp -implicitDefEqProofs (maxSteps := 2000000) (disch := first | assumption | omega | (simp only [AW.next_push, AW.next_put]; omega) | ((repeat refine Fresh.push ?_ _); assumption) | (simp only [same_int, same_bool, same_ptr, same_slice, same_sliceP, same_nil, same_agg2, same_string]; done) | (simp [oneCell, AW.next_push]; done) | fail) only [go_sem, Nat.reduceEqDiff, reduceIte, Nat.reduceAdd, Int.toNat_natCast, Nat.add_zero, Owes_true, e8, hn, e1, e2, e3, e7, e8, e10, e11, e12, e13, e15]; try rfl), by (simp -dsimp -implicitDefEqProofs (maxSteps := 2000000) (disch := first | assumption | omega | (simp only [AW.next_push, AW.next_put]; omega) | ((repeat refine Fresh.push ?_ _); assumption) | (simp only [same_int, same_bool, same_ptr, same_slice, same_sliceP, same_nil, same_agg2, same_string]; done) | (simp [oneCell, AW.next_push]; done) | fail) only [go_sem, Nat.reduceEqDiff, reduceIte, Nat.reduceAdd, Int.toNat_natCast, Nat.add_zero, Owes_true, e10, hn, e1, e2, e3, e7, e8, e10, e11, e12, e13, e15]; try rfl), by (simp -dsimp -implicitDefEqProofs (maxSteps := 2000000) (disch := first | assumption | omega | (simp only [AW.next_push, AW.next_put]; omega) | ((repeat refine Fresh.push ?_ _); assumption) | (simp only [same_int, same_bool, same_ptr, same_slice, same_sliceP, same_nil, same_agg2, same_string]; done) | (simp [oneCell, AW.next_push]; done) | fail) only [go_sem, Nat.reduceEqDiff, reduceIte, Nat.reduceAdd, Int.toNat_natCast, Nat.add_zero, Owes_true, e11, hn, e1, e2, e3, e7, e8, e10, e11, e12, e13, e15]; try rfl), by (simp -dsimp -implicitDefEqProofs (maxSteps := 2000000) (disch := first | assumption | omega | (simp only [AW.next_push, AW.next_put]; omega) | ((repeat refine Fresh.push ?_ _); assumption) | (simp only [same_int, same_bool, same_ptr, same_slice, same_sliceP, same_nil, same_agg2, same_string]; done) | (simp [oneCell, AW.next_push]; done) | fail) only [go_sem, Nat.reduceEqDiff, reduceIte, Nat.reduceAdd, Int.toNat_natCast, Nat.add_zero, Owes_true, e12, hn, e1, e2, e3, e7, e8, e10, e11, e12, e13, e15]; try rfl), by (simp -dsimp -implicitDefEqProofs (maxSteps := 2000000) (disch := first | assumption | omega | (simp only [AW.next_push, AW.next_put]; omega) | ((repeat refine Fresh.push ?_ _); assumption) | (simp only [same_int, same_bool, same_ptr, same_slice, same_sliceP, same_nil, same_agg2, same_string]; done) | (simp [oneCell, AW.next_push]; done) | fail) only [go_sem, Nat.reduceEqDiff, reduceIte, Nat.reduceAdd, Int.toNat_natCast, Nat.add_zero, Owes_true, e13, hn, e1, e2, e3, e7, e8, e10, e11, e12, e13, e15]; try rfl), by (simp -dsimp -implicitDefEqProofs (maxSteps := 2000000) (disch := first | assumption | omega | (simp only [AW.next_push, AW.next_put]; omega) | ((repeat refine Fresh.push ?_ _); assumption) | (simp only [same_int, same_bool, same_ptr, same_slice, same_sliceP, same_nil, same_agg2, same_string]; done) | (simp [oneCell, AW.next_push]; done) | fail) only [go_sem, Nat.reduceEqDiff, reduceIte, Nat.reduceAdd, Int.toNat_natCast, Nat.add_zero, Owes_true, e14, hn, e1, e2, e3, e7, e8, e10, e11, e12, e13, e15]; try rfl), by (simp -dsimp -implicitDefEqProofs (maxSteps := 2000000) (disch := first | assumption | omega | (simp only [AW.next_push, AW.next_put]; omega) | ((repeat refine Fresh.push ?_ _); assumption) | (simp only [same_int, same_bool, same_ptr, same_slice, same_sliceP, same_nil, same_agg2, same_string]; done) | (simp [oneCell, AW.next_push]; done) | fail) only [go_sem, Nat.reduceEqDiff, reduceIte, Nat.reduceAdd, Int.toNat_natCast, Nat.add_zero, Owes_true, e15, hn, e1, e2, e3, e7, e8, e10, e11, e12, e13, e15]; try rfl), by (simp -dsimp -implicitDefEqProofs (maxSteps := 2000000) (disch := first | assumption | omega | (simp only [AW.next_push, AW.next_put]; omega) | ((repeat refine Fresh.push ?_ _); assumption) | (simp only [same_int, same_bool, same_ptr, same_slice, same_sliceP, same_nil, same_agg2, same_string]; done) | (simp [oneCell, AW.next_push]; done) | fail) only [go_sem, Nat.reduceEqDiff, reduceIte, Nat.reduceAdd, Int.toNat_natCast, Nat.add_zero, Owes_true, e16, hn, e1, e2, e3, e7, e8, e10, e11, e12, e13, e15]; try rfl), rfl⟩
  have hi2 : (leastS ms rs fss).take i = leastS ms rs fss := List.take_of_length_le (by omega)
  rw [hi2] at e14
  have hsum : sumZ (labAt ms) (leastS ms rs fss) = leastN ms rs fss := hoL
  rw [hsum] at e14
  simp -dsimp -implicitDefEqProofs (maxSteps := 2000000) (disch := first | assumption | omega | (simp only [AW.next_push, AW.next_put]; omega) | ((repeat refine Fresh.push ?_ _); assumption) | (simp only [same_int, same_bool, same_ptr, same_slice, same_sliceP, same_nil, same_agg2, same_string]; done) | (simp [oneCell, AW.next_push]; done) | fail) only [go_sem, Nat.reduceEqDiff, reduceIte, Nat.reduceAdd, Int.toNat_natCast, Nat.add_zero, Owes_true, Tryz.results8, e1, e2, e3, e7, e8, e10, e11, e12, e13, e14, e15, e16, hlt]
  clear e7 e16 hlt hi2
  obtain ⟨N, hN1, hN2⟩ : ∃ N : Nat, (showsE ms rs fss set = 0 → N = set.length) ∧ (¬ showsE ms rs fss set = 0 → N = 0) := by
    by_cases q : showsE ms rs fss set = 0
    · exact ⟨set.length, fun _ => rfl, fun q' => absurd q q'⟩
    · exact ⟨0, fun q' => absurd q' q, fun _ => rfl⟩
  refine loopR (fun k t ds w5 => ∃ j : Nat, j ≤ N ∧ k = N - j ∧ ds = [] ∧ ev t (.tmp 1) = .slice py set.length capy ∧ ev t (.tmp 2) = .slice pz ps.length capz ∧ ev t (.tmp 3) = .pointer (some ⟨w.next, 0, none⟩) ∧ ev t (.tmp 8) = .int .i64 (leastN ms rs fss) ∧ ev t (.tmp 10) = .bool (showsR ms rs fss set) ∧ ev t (.tmp 11) = .int .i64 (showsE ms rs fss set) ∧ ev t (.tmp 12) = .bool true ∧ ev t (.tmp 13) = .int .i64 0 ∧ ev t (.tmp 14) = .int .i64 (leastN ms rs fss) ∧ ev t (.tmp 15) = .int .i64 (sumZ (labAt ms) (set.take j)) ∧ ev t (.tmp 17) = .int .i64 (j : Int) ∧ w3 = w5) (N) ?_ ?_
  · refine ⟨0, by omega, by omega, rfl, ?_, ?_, ?_, ?_, ?_, ?_, ?_, ?_, ?_, ?_, ?_, rfl⟩ <;> simp -dsimp -implicitDefEqProofs (maxSteps := 2000000) (disch := first | assumption | omega | (simp only [AW.next_push, AW.next_put]; omega) | ((repeat refine Fresh.push ?_ _); assumption) | (simp only [same_int, same_bool, same_ptr, same_slice, same_sliceP, same_nil, same_agg2, same_string]; done) | (simp [oneCell, AW.next_push]; done) | fail) only [go_sem, Nat.reduceEqDiff, reduceIte, Nat.reduceAdd, Int.toNat_natCast, Nat.add_zero, Owes_true, e1, e2, e3, e8, e10, e11, e12, e13, e14, e15] <;> rfl
  rintro k t ds w5 ⟨j, hij, rfl, rfl, e1, e2, e3, e8, e10, e11, e12, e13, e14, e15, e17, hw⟩
  subst hw
  by_cases hFE : showsE ms rs fss set = 0
  case neg =>
    clear c0 c1 c2
    have c0 := hO3.cell (o := 0) rfl rfl
    have c1 := hO3.cell (o := 1) rfl rfl
    have c2 := hO3.cell (o := 2) rfl rfl
    simp -dsimp -implicitDefEqProofs (maxSteps := 2000000) (disch := first | assumption | omega | (simp only [AW.next_push, AW.next_put]; omega) | ((repeat refine Fresh.push ?_ _); assumption) | (simp only [same_int, same_bool, same_ptr, same_slice, same_sliceP, same_nil, same_agg2, same_string]; done) | (simp [oneCell, AW.next_push]; done) | fail) only [go_sem, Nat.reduceEqDiff, reduceIte, Nat.reduceAdd, Int.toNat_natCast, Nat.add_zero, Owes_true, Tryz.results8, Nat.zero_add, c0, c1, c2, e1, e2, e3, e8, e10, e11, e12, e13, e14, e15, e17, beq_self_eq_true, hFE]
    apply callV_of (e := rfl)
    · exact Bound_ok ms rs fss ps _ _ _ _ w3 g3.2 (hs.grown g3) (hr.grown g3) (hF.grown g3) (hP.grown g3)
    rintro _ w6 ⟨rfl, hg6⟩
    have g6 := g3.trans hg6
    have hO6 := hO3.keep hg6.1
    clear c0 c1 c2
    have c0 := hO6.cell (o := 0) rfl rfl
    have c1 := hO6.cell (o := 1) rfl rfl
    have c2 := hO6.cell (o := 2) rfl rfl
    by_cases hB : boundE ms rs fss ps = 0
    · have hnb : ¬ leastN ms rs fss < boundR ms rs fss ps := by have := least_bound hE hB; omega
      by_cases h0 : (vs.length : Int) = 0
      · have hN0 : leastN ms rs fss = 0 := by
          cases fss with
          | nil => exact least_empty hE
          | cons x l => simp at hvl; omega
        rw [hN0] at hnb
        simp -dsimp -implicitDefEqProofs (maxSteps := 2000000) (disch := first | assumption | omega | (simp only [AW.next_push, AW.next_put]; omega) | ((repeat refine Fresh.push ?_ _); assumption) | (simp only [same_int, same_bool, same_ptr, same_slice, same_sliceP, same_nil, same_agg2, same_string]; done) | (simp [oneCell, AW.next_push]; done) | fail) only [go_sem, Nat.reduceEqDiff, reduceIte, Nat.reduceAdd, Int.toNat_natCast, Nat.add_zero, Owes_true, Tryz.results8, Nat.zero_add, c0, c1, c2, hB, hnb, e1, e2, e3, e8, h0, hN0]
        apply callV_of (e := rfl)
        · exact callT_told (Q := fun v w' => v = .bool true ∧ w6 = w') (v := .bool true) (w' := w6) rfl ⟨rfl, rfl⟩
        rintro _ w8 ⟨rfl, rfl⟩
        simp -dsimp -implicitDefEqProofs (maxSteps := 2000000) (disch := first | assumption | omega | (simp only [AW.next_push, AW.next_put]; omega) | ((repeat refine Fresh.push ?_ _); assumption) | (simp only [same_int, same_bool, same_ptr, same_slice, same_sliceP, same_nil, same_agg2, same_string]; done) | (simp [oneCell, AW.next_push]; done) | fail) only [go_sem, Nat.reduceEqDiff, reduceIte, Nat.reduceAdd, Int.toNat_natCast, Nat.add_zero, Owes_true, Tryz.results8]
      · obtain ⟨b3, o3, rfl, hb3, hcell3⟩ := hat3 0 (by omega)
        obtain ⟨hgb, cs, hblk⟩ := hGv b3 o3 none vs.length cap3 rfl (by omega)
        have hblk6 : w6.blk b3 = some (.given cs) := by rw [g6.1.blk b3 hgb]; exact hblk
        have hsl := sliceV_given (o := o3) (n := vs.length) (k := cap3) hblk6 (by omega) (by omega)
        have hF6 := hF.grown g6
        obtain ⟨fs, ft, hft⟩ : ∃ fs ft, fss = fs :: ft := by
          cases fss with
          | nil => exfalso; rw [List.length_nil] at hvl; omega
          | cons x l => exact ⟨x, l, rfl⟩
        have hT : Fks w6 (.slice (some ⟨b3, bif Nat.beq cap3 1 then o3 else o3 + 1 * 1, none⟩) (vs.length - 1) (cap3 - 1)) ft := by rw [hft] at hF6; exact hF6.tail
        obtain ⟨oo, hoo⟩ : ∃ oo, (bif Nat.beq cap3 1 then o3 else o3 + 1 * 1) = oo := ⟨_, rfl⟩
        rw [hoo] at hsl hT
        have hfew : leastE ms rs ft = 0 ∧ leastN ms rs ft ≤ leastN ms rs fss := by rw [hft] at hE ⊢; exact least_fewer hE
        obtain ⟨hfE, hfN⟩ := hfew
        simp -dsimp -implicitDefEqProofs (maxSteps := 2000000) (disch := first | assumption | omega | (simp only [AW.next_push, AW.next_put]; omega) | ((repeat refine Fresh.push ?_ _); assumption) | (simp only [same_int, same_bool, same_ptr, same_slice, same_sliceP, same_nil, same_agg2, same_string]; done) | (simp [oneCell, AW.next_push]; done) | fail) only [go_sem, Nat.reduceEqDiff, reduceIte, Nat.reduceAdd, Int.toNat_natCast, Nat.add_zero, Owes_true, Tryz.results8, Nat.zero_add, c0, c1, c2, hB, hnb, e1, e2, e3, e8, h0, Tryz.sl36, hsl]
        apply callV_of (e := rfl)
        · exact Least_ok ms rs ft _ _ _ w6 g6.2 (hs.grown g6) (hr.grown g6) hT
        rintro _ w7 ⟨s7, rfl, hs7, hg7⟩
        have hle7 : WLe w6 w7 := hg7.1.wle g6.2
        obtain ⟨p7, cap7, rfl, hcap7, hmax7, hat7⟩ := hs7.open
        have hsm := same_least p7 (leastS ms rs ft).length cap7 (leastN ms rs ft)
        simp -dsimp -implicitDefEqProofs (maxSteps := 2000000) (disch := first | assumption | omega | (simp only [AW.next_push, AW.next_put]; omega) | ((repeat refine Fresh.push ?_ _); assumption) | (simp only [same_int, same_bool, same_ptr, same_slice, same_sliceP, same_nil, same_agg2, same_string]; done) | (simp [oneCell, AW.next_push]; done) | fail) only [go_sem, Nat.reduceEqDiff, reduceIte, Nat.reduceAdd, Int.toNat_natCast, Nat.add_zero, Owes_true, Tryz.results8, Nat.zero_add, c0, c1, c2, e1, e2, e3, e8, hfE, hfN]
        apply callV_of (e := rfl)
        · exact callT_told (Q := fun v w' => v = .bool true ∧ w7 = w') (v := .bool true) (w' := w7) rfl ⟨rfl, rfl⟩
        rintro _ w8 ⟨rfl, rfl⟩
        simp -dsimp -implicitDefEqProofs (maxSteps := 2000000) (disch := first | assumption | omega | (simp only [AW.next_push, AW.next_put]; omega) | ((repeat refine Fresh.push ?_ _); assumption) | (simp only [same_int, same_bool, same_ptr, same_slice, same_sliceP, same_nil, same_agg2, same_string]; done) | (simp [oneCell, AW.next_push]; done) | fail) only [go_sem, Nat.reduceEqDiff, reduceIte, Nat.reduceAdd, Int.toNat_natCast, Nat.add_zero, Owes_true, Tryz.results8]
    · by_cases h0 : (vs.length : Int) = 0
      · have hN0 : leastN ms rs fss = 0 := by
          cases fss with
          | nil => exact least_empty hE
          | cons x l => simp at hvl; omega
        simp -dsimp -implicitDefEqProofs (maxSteps := 2000000) (disch := first | assumption | omega | (simp only [AW.next_push, AW.next_put]; omega) | ((repeat refine Fresh.push ?_ _); assumption) | (simp only [same_int, same_bool, same_ptr, same_slice, same_sliceP, same_nil, same_agg2, same_string]; done) | (simp [oneCell, AW.next_push]; done) | fail) only [go_sem, Nat.reduceEqDiff, reduceIte, Nat.reduceAdd, Int.toNat_natCast, Nat.add_zero, Owes_true, Tryz.results8, Nat.zero_add, c0, c1, c2, hB, e1, e2, e3, e8, h0, hN0]
        apply callV_of (e := rfl)
        · exact callT_told (Q := fun v w' => v = .bool true ∧ w6 = w') (v := .bool true) (w' := w6) rfl ⟨rfl, rfl⟩
        rintro _ w8 ⟨rfl, rfl⟩
        simp -dsimp -implicitDefEqProofs (maxSteps := 2000000) (disch := first | assumption | omega | (simp only [AW.next_push, AW.next_put]; omega) | ((repeat refine Fresh.push ?_ _); assumption) | (simp only [same_int, same_bool, same_ptr, same_slice, same_sliceP, same_nil, same_agg2, same_string]; done) | (simp [oneCell, AW.next_push]; done) | fail) only [go_sem, Nat.reduceEqDiff, reduceIte, Nat.reduceAdd, Int.toNat_natCast, Nat.add_zero, Owes_true, Tryz.results8]
      · obtain ⟨b3, o3, rfl, hb3, hcell3⟩ := hat3 0 (by omega)
        obtain ⟨hgb, cs, hblk⟩ := hGv b3 o3 none vs.length cap3 rfl (by omega)
        have hblk6 : w6.blk b3 = some (.given cs) := by rw [g6.1.blk b3 hgb]; exact hblk
        have hsl := sliceV_given (o := o3) (n := vs.length) (k := cap3) hblk6 (by omega) (by omega)
        have hF6 := hF.grown g6
        obtain ⟨fs, ft, hft⟩ : ∃ fs ft, fss = fs :: ft := by
          cases fss with
          | nil => exfalso; rw [List.length_nil] at hvl; omega
          | cons x l => exact ⟨x, l, rfl⟩
        have hT : Fks w6 (.slice (some ⟨b3, bif Nat.beq cap3 1 then o3 else o3 + 1 * 1, none⟩) (vs.length - 1) (cap3 - 1)) ft := by rw [hft] at hF6; exact hF6.tail
        obtain ⟨oo, hoo⟩ : ∃ oo, (bif Nat.beq cap3 1 then o3 else o3 + 1 * 1) = oo := ⟨_, rfl⟩
        rw [hoo] at hsl hT
        have hfew : leastE ms rs ft = 0 ∧ leastN ms rs ft ≤ leastN ms rs fss := by rw [hft] at hE ⊢; exact least_fewer hE
        obtain ⟨hfE, hfN⟩ := hfew
        simp -dsimp -implicitDefEqProofs (maxSteps := 2000000) (disch := first | assumption | omega | (simp only [AW.next_push, AW.next_put]; omega) | ((repeat refine Fresh.push ?_ _); assumption) | (simp only [same_int, same_bool, same_ptr, same_slice, same_sliceP, same_nil, same_agg2, same_string]; done) | (simp [oneCell, AW.next_push]; done) | fail) only [go_sem, Nat.reduceEqDiff, reduceIte, Nat.reduceAdd, Int.toNat_natCast, Nat.add_zero, Owes_true, Tryz.results8, Nat.zero_add, c0, c1, c2, hB, e1, e2, e3, e8, h0, Tryz.sl36, hsl]
        apply callV_of (e := rfl)
        · exact Least_ok ms rs ft _ _ _ w6 g6.2 (hs.grown g6) (hr.grown g6) hT
        rintro _ w7 ⟨s7, rfl, hs7, hg7⟩
        have hle7 : WLe w6 w7 := hg7.1.wle g6.2
        obtain ⟨p7, cap7, rfl, hcap7, hmax7, hat7⟩ := hs7.open
        have hsm := same_least p7 (leastS ms rs ft).length cap7 (leastN ms rs ft)
        simp -dsimp -implicitDefEqProofs (maxSteps := 2000000) (disch := first | assumption | omega | (simp only [AW.next_push, AW.next_put]; omega) | ((repeat refine Fresh.push ?_ _); assumption) | (simp only [same_int, same_bool, same_ptr, same_slice, same_sliceP, same_nil, same_agg2, same_string]; done) | (simp [oneCell, AW.next_push]; done) | fail) only [go_sem, Nat.reduceEqDiff, reduceIte, Nat.reduceAdd, Int.toNat_natCast, Nat.add_zero, Owes_true, Tryz.results8, Nat.zero_add, c0, c1, c2, e1, e2, e3, e8, hfE, hfN]
        apply callV_of (e := rfl)
        · exact callT_told (Q := fun v w' => v = .bool true ∧ w7 = w') (v := .bool true) (w' := w7) rfl ⟨rfl, rfl⟩
        rintro _ w8 ⟨rfl, rfl⟩
        simp -dsimp -implicitDefEqProofs (maxSteps := 2000000) (disch := first | assumption | omega | (simp only [AW.next_push, AW.next_put]; omega) | ((repeat refine Fresh.push ?_ _); assumption) | (simp only [same_int, same_bool, same_ptr, same_slice, same_sliceP, same_nil, same_agg2, same_string]; done) | (simp [oneCell, AW.next_push]; done) | fail) only [go_sem, Nat.reduceEqDiff, reduceIte, Nat.reduceAdd, Int.toNat_natCast, Nat.add_zero, Owes_true, Tryz.results8]
  have hN := hN1 hFE
  subst hN
  by_cases hjt : (j : Int) < (set.length : Int)
  case neg =>
    have hj2 : set.take j = set := List.take_of_length_le (by omega)
    rw [hj2] at e15
    by_cases hR : showsR ms rs fss set = true
    · have hX : ¬ sumZ (labAt ms) set < leastN ms rs fss := by have := least_less hE hR; rw [labZ] at this; omega
      clear c0 c1 c2
      have c0 := hO3.cell (o := 0) rfl rfl
      have c1 := hO3.cell (o := 1) rfl rfl
      have c2 := hO3.cell (o := 2) rfl rfl
      simp -dsimp -implicitDefEqProofs (maxSteps := 2000000) (disch := first | assumption | omega | (simp only [AW.next_push, AW.next_put]; omega) | ((repeat refine Fresh.push ?_ _); assumption) | (simp only [same_int, same_bool, same_ptr, same_slice, same_sliceP, same_nil, same_agg2, same_string]; done) | (simp [oneCell, AW.next_push]; done) | fail) only [go_sem, Nat.reduceEqDiff, reduceIte, Nat.reduceAdd, Int.toNat_natCast, Nat.add_zero, Owes_true, Tryz.results8, Nat.zero_add, c0, c1, c2, e1, e2, e3, e8, e10, e11, e12, e13, e14, e15, e17, beq_self_eq_true, hFE, hjt, hR, hX]
      apply callV_of (e := rfl)
      · exact Bound_ok ms rs fss ps _ _ _ _ w3 g3.2 (hs.grown g3) (hr.grown g3) (hF.grown g3) (hP.grown g3)
      rintro _ w6 ⟨rfl, hg6⟩
      have g6 := g3.trans hg6
      have hO6 := hO3.keep hg6.1
      clear c0 c1 c2
      have c0 := hO6.cell (o := 0) rfl rfl
      have c1 := hO6.cell (o := 1) rfl rfl
      have c2 := hO6.cell (o := 2) rfl rfl
      by_cases hB : boundE ms rs fss ps = 0
      · have hnb : ¬ leastN ms rs fss < boundR ms rs fss ps := by have := least_bound hE hB; omega
        by_cases h0 : (vs.length : Int) = 0
        · have hN0 : leastN ms rs fss = 0 := by
            cases fss with
            | nil => exact least_empty hE
            | cons x l => simp at hvl; omega
          rw [hN0] at hnb
          simp -dsimp -implicitDefEqProofs (maxSteps := 2000000) (disch := first | assumption | omega | (simp only [AW.next_push, AW.next_put]; omega) | ((repeat refine Fresh.push ?_ _); assumption) | (simp only [same_int, same_bool, same_ptr, same_slice, same_sliceP, same_nil, same_agg2, same_string]; done) | (simp [oneCell, AW.next_push]; done) | fail) only [go_sem, Nat.reduceEqDiff, reduceIte, Nat.reduceAdd, Int.toNat_natCast, Nat.add_zero, Owes_true, Tryz.results8, Nat.zero_add, c0, c1, c2, hB, hnb, e1, e2, e3, e8, h0, hN0]
          apply callV_of (e := rfl)
          · exact callT_told (Q := fun v w' => v = .bool true ∧ w6 = w') (v := .bool true) (w' := w6) rfl ⟨rfl, rfl⟩
          rintro _ w8 ⟨rfl, rfl⟩
          simp -dsimp -implicitDefEqProofs (maxSteps := 2000000) (disch := first | assumption | omega | (simp only [AW.next_push, AW.next_put]; omega) | ((repeat refine Fresh.push ?_ _); assumption) | (simp only [same_int, same_bool, same_ptr, same_slice, same_sliceP, same_nil, same_agg2, same_string]; done) | (simp [oneCell, AW.next_push]; done) | fail) only [go_sem, Nat.reduceEqDiff, reduceIte, Nat.reduceAdd, Int.toNat_natCast, Nat.add_zero, Owes_true, Tryz.results8]
        · obtain ⟨b3, o3, rfl, hb3, hcell3⟩ := hat3 0 (by omega)
          obtain ⟨hgb, cs, hblk⟩ := hGv b3 o3 none vs.length cap3 rfl (by omega)
          have hblk6 : w6.blk b3 = some (.given cs) := by rw [g6.1.blk b3 hgb]; exact hblk
          have hsl := sliceV_given (o := o3) (n := vs.length) (k := cap3) hblk6 (by omega) (by omega)
          have hF6 := hF.grown g6
          obtain ⟨fs, ft, hft⟩ : ∃ fs ft, fss = fs :: ft := by
            cases fss with
            | nil => exfalso; rw [List.length_nil] at hvl; omega
            | cons x l => exact ⟨x, l, rfl⟩
          have hT : Fks w6 (.slice (some ⟨b3, bif Nat.beq cap3 1 then o3 else o3 + 1 * 1, none⟩) (vs.length - 1) (cap3 - 1)) ft := by rw [hft] at hF6; exact hF6.tail
          obtain ⟨oo, hoo⟩ : ∃ oo, (bif Nat.beq cap3 1 then o3 else o3 + 1 * 1) = oo := ⟨_, rfl⟩
          rw [hoo] at hsl hT
          have hfew : leastE ms rs ft = 0 ∧ leastN ms rs ft ≤ leastN ms rs fss := by rw [hft] at hE ⊢; exact least_fewer hE
          obtain ⟨hfE, hfN⟩ := hfew
          simp -dsimp -implicitDefEqProofs (maxSteps := 2000000) (disch := first | assumption | omega | (simp only [AW.next_push, AW.next_put]; omega) | ((repeat refine Fresh.push ?_ _); assumption) | (simp only [same_int, same_bool, same_ptr, same_slice, same_sliceP, same_nil, same_agg2, same_string]; done) | (simp [oneCell, AW.next_push]; done) | fail) only [go_sem, Nat.reduceEqDiff, reduceIte, Nat.reduceAdd, Int.toNat_natCast, Nat.add_zero, Owes_true, Tryz.results8, Nat.zero_add, c0, c1, c2, hB, hnb, e1, e2, e3, e8, h0, Tryz.sl36, hsl]
          apply callV_of (e := rfl)
          · exact Least_ok ms rs ft _ _ _ w6 g6.2 (hs.grown g6) (hr.grown g6) hT
          rintro _ w7 ⟨s7, rfl, hs7, hg7⟩
          have hle7 : WLe w6 w7 := hg7.1.wle g6.2
          obtain ⟨p7, cap7, rfl, hcap7, hmax7, hat7⟩ := hs7.open
          have hsm := same_least p7 (leastS ms rs ft).length cap7 (leastN ms rs ft)
          simp -dsimp -implicitDefEqProofs (maxSteps := 2000000) (disch := first | assumption | omega | (simp only [AW.next_push, AW.next_put]; omega) | ((repeat refine Fresh.push ?_ _); assumption) | (simp only [same_int, same_bool, same_ptr, same_slice, same_sliceP, same_nil, same_agg2, same_string]; done) | (simp [oneCell, AW.next_push]; done) | fail) only [go_sem, Nat.reduceEqDiff, reduceIte, Nat.reduceAdd, Int.toNat_natCast, Nat.add_zero, Owes_true, Tryz.results8, Nat.zero_add, c0, c1, c2, e1, e2, e3, e8, hfE, hfN]
          apply callV_of (e := rfl)
          · exact callT_told (Q := fun v w' => v = .bool true ∧ w7 = w') (v := .bool true) (w' := w7) rfl ⟨rfl, rfl⟩
          rintro _ w8 ⟨rfl, rfl⟩
          simp -dsimp -implicitDefEqProofs (maxSteps := 2000000) (disch := first | assumption | omega | (simp only [AW.next_push, AW.next_put]; omega) | ((repeat refine Fresh.push ?_ _); assumption) | (simp only [same_int, same_bool, same_ptr, same_slice, same_sliceP, same_nil, same_agg2, same_string]; done) | (simp [oneCell, AW.next_push]; done) | fail) only [go_sem, Nat.reduceEqDiff, reduceIte, Nat.reduceAdd, Int.toNat_natCast, Nat.add_zero, Owes_true, Tryz.results8]
      · by_cases h0 : (vs.length : Int) = 0
        · have hN0 : leastN ms rs fss = 0 := by
            cases fss with
            | nil => exact least_empty hE
            | cons x l => simp at hvl; omega
          simp -dsimp -implicitDefEqProofs (maxSteps := 2000000) (disch := first | assumption | omega | (simp only [AW.next_push, AW.next_put]; omega) | ((repeat refine Fresh.push ?_ _); assumption) | (simp only [same_int, same_bool, same_ptr, same_slice, same_sliceP, same_nil, same_agg2, same_string]; done) | (simp [oneCell, AW.next_push]; done) | fail) only [go_sem, Nat.reduceEqDiff, reduceIte, Nat.reduceAdd, Int.toNat_natCast, Nat.add_zero, Owes_true, Tryz.results8, Nat.zero_add, c0, c1, c2, hB, e1, e2, e3, e8, h0, hN0]
          apply callV_of (e := rfl)
          · exact callT_told (Q := fun v w' => v = .bool true ∧ w6 = w') (v := .bool true) (w' := w6) rfl ⟨rfl, rfl⟩
          rintro _ w8 ⟨rfl, rfl⟩
          simp -dsimp -implicitDefEqProofs (maxSteps := 2000000) (disch := first | assumption | omega | (simp only [AW.next_push, AW.next_put]; omega) | ((repeat refine Fresh.push ?_ _); assumption) | (simp only [same_int, same_bool, same_ptr, same_slice, same_sliceP, same_nil, same_agg2, same_string]; done) | (simp [oneCell, AW.next_push]; done) | fail) only [go_sem, Nat.reduceEqDiff, reduceIte, Nat.reduceAdd, Int.toNat_natCast, Nat.add_zero, Owes_true, Tryz.results8]
        · obtain ⟨b3, o3, rfl, hb3, hcell3⟩ := hat3 0 (by omega)
          obtain ⟨hgb, cs, hblk⟩ := hGv b3 o3 none vs.length cap3 rfl (by omega)
          have hblk6 : w6.blk b3 = some (.given cs) := by rw [g6.1.blk b3 hgb]; exact hblk
          have hsl := sliceV_given (o := o3) (n := vs.length) (k := cap3) hblk6 (by omega) (by omega)
          have hF6 := hF.grown g6
          obtain ⟨fs, ft, hft⟩ : ∃ fs ft, fss = fs :: ft := by
            cases fss with
            | nil => exfalso; rw [List.length_nil] at hvl; omega
            | cons x l => exact ⟨x, l, rfl⟩
          have hT : Fks w6 (.slice (some ⟨b3, bif Nat.beq cap3 1 then o3 else o3 + 1 * 1, none⟩) (vs.length - 1) (cap3 - 1)) ft := by rw [hft] at hF6; exact hF6.tail
          obtain ⟨oo, hoo⟩ : ∃ oo, (bif Nat.beq cap3 1 then o3 else o3 + 1 * 1) = oo := ⟨_, rfl⟩
          rw [hoo] at hsl hT
          have hfew : leastE ms rs ft = 0 ∧ leastN ms rs ft ≤ leastN ms rs fss := by rw [hft] at hE ⊢; exact least_fewer hE
          obtain ⟨hfE, hfN⟩ := hfew
          simp -dsimp -implicitDefEqProofs (maxSteps := 2000000) (disch := first | assumption | omega | (simp only [AW.next_push, AW.next_put]; omega) | ((repeat refine Fresh.push ?_ _); assumption) | (simp only [same_int, same_bool, same_ptr, same_slice, same_sliceP, same_nil, same_agg2, same_string]; done) | (simp [oneCell, AW.next_push]; done) | fail) only [go_sem, Nat.reduceEqDiff, reduceIte, Nat.reduceAdd, Int.toNat_natCast, Nat.add_zero, Owes_true, Tryz.results8, Nat.zero_add, c0, c1, c2, hB, e1, e2, e3, e8, h0, Tryz.sl36, hsl]
          apply callV_of (e := rfl)
          · exact Least_ok ms rs ft _ _ _ w6 g6.2 (hs.grown g6) (hr.grown g6) hT
          rintro _ w7 ⟨s7, rfl, hs7, hg7⟩
          have hle7 : WLe w6 w7 := hg7.1.wle g6.2
          obtain ⟨p7, cap7, rfl, hcap7, hmax7, hat7⟩ := hs7.open
          have hsm := same_least p7 (leastS ms rs ft).length cap7 (leastN ms rs ft)
          simp -dsimp -implicitDefEqProofs (maxSteps := 2000000) (disch := first | assumption | omega | (simp only [AW.next_push, AW.next_put]; omega) | ((repeat refine Fresh.push ?_ _); assumption) | (simp only [same_int, same_bool, same_ptr, same_slice, same_sliceP, same_nil, same_agg2, same_string]; done) | (simp [oneCell, AW.next_push]; done) | fail) only [go_sem, Nat.reduceEqDiff, reduceIte, Nat.reduceAdd, Int.toNat_natCast, Nat.add_zero, Owes_true, Tryz.results8, Nat.zero_add, c0, c1, c2, e1, e2, e3, e8, hfE, hfN]
          apply callV_of (e := rfl)
          · exact callT_told (Q := fun v w' => v = .bool true ∧ w7 = w') (v := .bool true) (w' := w7) rfl ⟨rfl, rfl⟩
          rintro _ w8 ⟨rfl, rfl⟩
          simp -dsimp -implicitDefEqProofs (maxSteps := 2000000) (disch := first | assumption | omega | (simp only [AW.next_push, AW.next_put]; omega) | ((repeat refine Fresh.push ?_ _); assumption) | (simp only [same_int, same_bool, same_ptr, same_slice, same_sliceP, same_nil, same_agg2, same_string]; done) | (simp [oneCell, AW.next_push]; done) | fail) only [go_sem, Nat.reduceEqDiff, reduceIte, Nat.reduceAdd, Int.toNat_natCast, Nat.add_zero, Owes_true, Tryz.results8]
    · rw [Bool.not_eq_true] at hR
      clear c0 c1 c2
      have c0 := hO3.cell (o := 0) rfl rfl
      have c1 := hO3.cell (o := 1) rfl rfl
      have c2 := hO3.cell (o := 2) rfl rfl
      simp -dsimp -implicitDefEqProofs (maxSteps := 2000000) (disch := first | assumption | omega | (simp only [AW.next_push, AW.next_put]; omega) | ((repeat refine Fresh.push ?_ _); assumption) | (simp only [same_int, same_bool, same_ptr, same_slice, same_sliceP, same_nil, same_agg2, same_string]; done) | (simp [oneCell, AW.next_push]; done) | fail) only [go_sem, Nat.reduceEqDiff, reduceIte, Nat.reduceAdd, Int.toNat_natCast, Nat.add_zero, Owes_true, Tryz.results8, Nat.zero_add, c0, c1, c2, e1, e2, e3, e8, e10, e11, e12, e13, e14, e15, e17, beq_self_eq_true, hFE, hjt, hR]
      apply callV_of (e := rfl)
      · exact Bound_ok ms rs fss ps _ _ _ _ w3 g3.2 (hs.grown g3) (hr.grown g3) (hF.grown g3) (hP.grown g3)
      rintro _ w6 ⟨rfl, hg6⟩
      have g6 := g3.trans hg6
      have hO6 := hO3.keep hg6.1
      clear c0 c1 c2
      have c0 := hO6.cell (o := 0) rfl rfl
      have c1 := hO6.cell (o := 1) rfl rfl
      have c2 := hO6.cell (o := 2) rfl rfl
      by_cases hB : boundE ms rs fss ps = 0
      · have hnb : ¬ leastN ms rs fss < boundR ms rs fss ps := by have := least_bound hE hB; omega
        by_cases h0 : (vs.length : Int) = 0
        · have hN0 : leastN ms rs fss = 0 := by
            cases fss with
            | nil => exact least_empty hE
            | cons x l => simp at hvl; omega
          rw [hN0] at hnb
          simp -dsimp -implicitDefEqProofs (maxSteps := 2000000) (disch := first | assumption | omega | (simp only [AW.next_push, AW.next_put]; omega) | ((repeat refine Fresh.push ?_ _); assumption) | (simp only [same_int, same_bool, same_ptr, same_slice, same_sliceP, same_nil, same_agg2, same_string]; done) | (simp [oneCell, AW.next_push]; done) | fail) only [go_sem, Nat.reduceEqDiff, reduceIte, Nat.reduceAdd, Int.toNat_natCast, Nat.add_zero, Owes_true, Tryz.results8, Nat.zero_add, c0, c1, c2, hB, hnb, e1, e2, e3, e8, h0, hN0]
          apply callV_of (e := rfl)
          · exact callT_told (Q := fun v w' => v = .bool true ∧ w6 = w') (v := .bool true) (w' := w6) rfl ⟨rfl, rfl⟩
          rintro _ w8 ⟨rfl, rfl⟩
          simp -dsimp -implicitDefEqProofs (maxSteps := 2000000) (disch := first | assumption | omega | (simp only [AW.next_push, AW.next_put]; omega) | ((repeat refine Fresh.push ?_ _); assumption) | (simp only [same_int, same_bool, same_ptr, same_slice, same_sliceP, same_nil, same_agg2, same_string]; done) | (simp [oneCell, AW.next_push]; done) | fail) only [go_sem, Nat.reduceEqDiff, reduceIte, Nat.reduceAdd, Int.toNat_natCast, Nat.add_zero, Owes_true, Tryz.results8]
        · obtain ⟨b3, o3, rfl, hb3, hcell3⟩ := hat3 0 (by omega)
          obtain ⟨hgb, cs, hblk⟩ := hGv b3 o3 none vs.length cap3 rfl (by omega)
          have hblk6 : w6.blk b3 = some (.given cs) := by rw [g6.1.blk b3 hgb]; exact hblk
          have hsl := sliceV_given (o := o3) (n := vs.length) (k := cap3) hblk6 (by omega) (by omega)
          have hF6 := hF.grown g6
          obtain ⟨fs, ft, hft⟩ : ∃ fs ft, fss = fs :: ft := by
            cases fss with
            | nil => exfalso; rw [List.length_nil] at hvl; omega
            | cons x l => exact ⟨x, l, rfl⟩
          have hT : Fks w6 (.slice (some ⟨b3, bif Nat.beq cap3 1 then o3 else o3 + 1 * 1, none⟩) (vs.length - 1) (cap3 - 1)) ft := by rw [hft] at hF6; exact hF6.tail
          obtain ⟨oo, hoo⟩ : ∃ oo, (bif Nat.beq cap3 1 then o3 else o3 + 1 * 1) = oo := ⟨_, rfl⟩
          rw [hoo] at hsl hT
          have hfew : leastE ms rs ft = 0 ∧ leastN ms rs ft ≤ leastN ms rs fss := by rw [hft] at hE ⊢; exact least_fewer hE
          obtain ⟨hfE, hfN⟩ := hfew
          simp -dsimp -implicitDefEqProofs (maxSteps := 2000000) (disch := first | assumption | omega | (simp only [AW.next_push, AW.next_put]; omega) | ((repeat refine Fresh.push ?_ _); assumption) | (simp only [same_int, same_bool, same_ptr, same_slice, same_sliceP, same_nil, same_agg2, same_string]; done) | (simp [oneCell, AW.next_push]; done) | fail) only [go_sem, Nat.reduceEqDiff, reduceIte, Nat.reduceAdd, Int.toNat_natCast, Nat.add_zero, Owes_true, Tryz.results8, Nat.zero_add, c0, c1, c2, hB, hnb, e1, e2, e3, e8, h0, Tryz.sl36, hsl]
          apply callV_of (e := rfl)
          · exact Least_ok ms rs ft _ _ _ w6 g6.2 (hs.grown g6) (hr.grown g6) hT
          rintro _ w7 ⟨s7, rfl, hs7, hg7⟩
          have hle7 : WLe w6 w7 := hg7.1.wle g6.2
          obtain ⟨p7, cap7, rfl, hcap7, hmax7, hat7⟩ := hs7.open
          have hsm := same_least p7 (leastS ms rs ft).length cap7 (leastN ms rs ft)
          simp -dsimp -implicitDefEqProofs (maxSteps := 2000000) (disch := first | assumption | omega | (simp only [AW.next_push, AW.next_put]; omega) | ((repeat refine Fresh.push ?_ _); assumption) | (simp only [same_int, same_bool, same_ptr, same_slice, same_sliceP, same_nil, same_agg2, same_string]; done) | (simp [oneCell, AW.next_push]; done) | fail) only [go_sem, Nat.reduceEqDiff, reduceIte, Nat.reduceAdd, Int.toNat_natCast, Nat.add_zero, Owes_true, Tryz.results8, Nat.zero_add, c0, c1, c2, e1, e2, e3, e8, hfE, hfN]
          apply callV_of (e := rfl)
          · exact callT_told (Q := fun v w' => v = .bool true ∧ w7 = w') (v := .bool true) (w' := w7) rfl ⟨rfl, rfl⟩
          rintro _ w8 ⟨rfl, rfl⟩
          simp -dsimp -implicitDefEqProofs (maxSteps := 2000000) (disch := first | assumption | omega | (simp only [AW.next_push, AW.next_put]; omega) | ((repeat refine Fresh.push ?_ _); assumption) | (simp only [same_int, same_bool, same_ptr, same_slice, same_sliceP, same_nil, same_agg2, same_string]; done) | (simp [oneCell, AW.next_push]; done) | fail) only [go_sem, Nat.reduceEqDiff, reduceIte, Nat.reduceAdd, Int.toNat_natCast, Nat.add_zero, Owes_true, Tryz.results8]
      · by_cases h0 : (vs.length : Int) = 0
        · have hN0 : leastN ms rs fss = 0 := by
            cases fss with
            | nil => exact least_empty hE
            | cons x l => simp at hvl; omega
          simp -dsimp -implicitDefEqProofs (maxSteps := 2000000) (disch := first | assumption | omega | (simp only [AW.next_push, AW.next_put]; omega) | ((repeat refine Fresh.push ?_ _); assumption) | (simp only [same_int, same_bool, same_ptr, same_slice, same_sliceP, same_nil, same_agg2, same_string]; done) | (simp [oneCell, AW.next_push]; done) | fail) only [go_sem, Nat.reduceEqDiff, reduceIte, Nat.reduceAdd, Int.toNat_natCast, Nat.add_zero, Owes_true, Tryz.results8, Nat.zero_add, c0, c1, c2, hB, e1, e2, e3, e8, h0, hN0]
          apply callV_of (e := rfl)
          · exact callT_told (Q := fun v w' => v = .bool true ∧ w6 = w') (v := .bool true) (w' := w6) rfl ⟨rfl, rfl⟩
          rintro _ w8 ⟨rfl, rfl⟩
          simp -dsimp -implicitDefEqProofs (maxSteps := 2000000) (disch := first | assumption | omega | (simp only [AW.next_push, AW.next_put]; omega) | ((repeat refine Fresh.push ?_ _); assumption) | (simp only [same_int, same_bool, same_ptr, same_slice, same_sliceP, same_nil, same_agg2, same_string]; done) | (simp [oneCell, AW.next_push]; done) | fail) only [go_sem, Nat.reduceEqDiff, reduceIte, Nat.reduceAdd, Int.toNat_natCast, Nat.add_zero, Owes_true, Tryz.results8]
        · obtain ⟨b3, o3, rfl, hb3, hcell3⟩ := hat3 0 (by omega)
          obtain ⟨hgb, cs, hblk⟩ := hGv b3 o3 none vs.length cap3 rfl (by omega)
          have hblk6 : w6.blk b3 = some (.given cs) := by rw [g6.1.blk b3 hgb]; exact hblk
          have hsl := sliceV_given (o := o3) (n := vs.length) (k := cap3) hblk6 (by omega) (by omega)
          have hF6 := hF.grown g6
          obtain ⟨fs, ft, hft⟩ : ∃ fs ft, fss = fs :: ft := by
            cases fss with
            | nil => exfalso; rw [List.length_nil] at hvl; omega
            | cons x l => exact ⟨x, l, rfl⟩
          have hT : Fks w6 (.slice (some ⟨b3, bif Nat.beq cap3 1 then o3 else o3 + 1 * 1, none⟩) (vs.length - 1) (cap3 - 1)) ft := by rw [hft] at hF6; exact hF6.tail
          obtain ⟨oo, hoo⟩ : ∃ oo, (bif Nat.beq cap3 1 then o3 else o3 + 1 * 1) = oo := ⟨_, rfl⟩
          rw [hoo] at hsl hT
          have hfew : leastE ms rs ft = 0 ∧ leastN ms rs ft ≤ leastN ms rs fss := by rw [hft] at hE ⊢; exact least_fewer hE
          obtain ⟨hfE, hfN⟩ := hfew
          simp -dsimp -implicitDefEqProofs (maxSteps := 2000000) (disch := first | assumption | omega | (simp only [AW.next_push, AW.next_put]; omega) | ((repeat refine Fresh.push ?_ _); assumption) | (simp only [same_int, same_bool, same_ptr, same_slice, same_sliceP, same_nil, same_agg2, same_string]; done) | (simp [oneCell, AW.next_push]; done) | fail) only [go_sem, Nat.reduceEqDiff, reduceIte, Nat.reduceAdd, Int.toNat_natCast, Nat.add_zero, Owes_true, Tryz.results8, Nat.zero_add, c0, c1, c2, hB, e1, e2, e3, e8, h0, Tryz.sl36, hsl]
          apply callV_of (e := rfl)
          · exact Least_ok ms rs ft _ _ _ w6 g6.2 (hs.grown g6) (hr.grown g6) hT
          rintro _ w7 ⟨s7, rfl, hs7, hg7⟩
          have hle7 : WLe w6 w7 := hg7.1.wle g6.2
          obtain ⟨p7, cap7, rfl, hcap7, hmax7, hat7⟩ := hs7.open
          have hsm := same_least p7 (leastS ms rs ft).length cap7 (leastN ms rs ft)
          simp -dsimp -implicitDefEqProofs (maxSteps := 2000000) (disch := first | assumption | omega | (simp only [AW.next_push, AW.next_put]; omega) | ((repeat refine Fresh.push ?_ _); assumption) | (simp only [same_int, same_bool, same_ptr, same_slice, same_sliceP, same_nil, same_agg2, same_string]; done) | (simp [oneCell, AW.next_push]; done) | fail) only [go_sem, Nat.reduceEqDiff, reduceIte, Nat.reduceAdd, Int.toNat_natCast, Nat.add_zero, Owes_true, Tryz.results8, Nat.zero_add, c0, c1, c2, e1, e2, e3, e8, hfE, hfN]
          apply callV_of (e := rfl)
          · exact callT_told (Q := fun v w' => v = .bool true ∧ w7 = w') (v := .bool true) (w' := w7) rfl ⟨rfl, rfl⟩
          rintro _ w8 ⟨rfl, rfl⟩
          simp -dsimp -implicitDefEqProofs (maxSteps := 2000000) (disch := first | assumption | omega | (simp only [AW.next_push, AW.next_put]; omega) | ((repeat refine Fresh.push ?_ _); assumption) | (simp only [same_int, same_bool, same_ptr, same_slice, same_sliceP, same_nil, same_agg2, same_string]; done) | (simp [oneCell, AW.next_push]; done) | fail) only [go_sem, Nat.reduceEqDiff, reduceIte, Nat.reduceAdd, Int.toNat_natCast, Nat.add_zero, Owes_true, Tryz.results8]
  have hjt' : j < set.length := by omega
  obtain ⟨_, hok⟩ := shows_zero hFE
  have hoA := Asc.of hok
  obtain ⟨b2, o2, rfl, hb2, hcell2⟩ := haty j hjt'
  have hx0 := hcell2 w3 g3.1 0 _ rfl
  rw [Nat.add_zero] at hx0
  obtain ⟨ha, hb⟩ := hoA.2 _ (List.getElem_mem hjt')
  have hlab := lab_in hM hoA.2
  have hini := hlab _ (List.getElem_mem hjt')
  have hlen := hoA.len
  have hs1' := sumZ_in (g := labAt ms) (xs := set.take j) fun x hx => hlab x (List.mem_of_mem_take hx)
  have hlen2 : (set.take j).length = j := by rw [List.length_take]; omega
  have hn : sumZ (labAt ms) (set.take (j + 1)) = sumZ (labAt ms) (set.take j) + labAt ms set[j] := by rw [List.take_succ_eq_append_getElem hjt', sumZ_snoc]
  generalize set[j] = li at *
  obtain ⟨m, rfl⟩ := Int.eq_ofNat_of_zero_le ha
  have hm : m < ms.length := by omega
  have hm' : (m : Int) < (ms.length : Int) := by omega
  obtain ⟨b1, o1, rfl, hb1, hcell⟩ := hat m hm
  have hc1 := hcell w3 g3.1 1 _ rfl
  have hla : labAt ms (m : Int) = ms[m].2 := by rw [labAt, Int.toNat_natCast, getD_at hm]
  rw [hla] at hn hini
  have hle : WLe w3 w3 := .refl _
  have hin : inR 0 (m : Int) ((ms.length : Int) - 1) = true := (inR_iff _ _ _).2 (by omega)
  simp -dsimp -implicitDefEqProofs (maxSteps := 2000000) (disch := first | assumption | omega | (simp only [AW.next_push, AW.next_put]; omega) | ((repeat refine Fresh.push ?_ _); assumption) | (simp only [same_int, same_bool, same_ptr, same_slice, same_sliceP, same_nil, same_agg2, same_string]; done) | (simp [oneCell, AW.next_push]; done) | fail) only [go_sem, Nat.reduceEqDiff, reduceIte, Nat.reduceAdd, Int.toNat_natCast, Nat.add_zero, Owes_true, Tryz.results8, Nat.zero_add, c0, e1, e2, e3, e8, e10, e11, e12, e13, e14, e15, e17, hFE, hjt, hm', indexV_eq, hx0]
  apply callV_of (e := rfl)
  · exact From_ok 0 (m : Int) ((ms.length : Int) - 1) w3
  rintro _ _ ⟨rfl, rfl⟩
  rw [hin]
  simp -dsimp -implicitDefEqProofs (maxSteps := 2000000) (disch := first | assumption | omega | (simp only [AW.next_push, AW.next_put]; omega) | ((repeat refine Fresh.push ?_ _); assumption) | (simp only [same_int, same_bool, same_ptr, same_slice, same_sliceP, same_nil, same_agg2, same_string]; done) | (simp [oneCell, AW.next_push]; done) | fail) only [go_sem, Nat.reduceEqDiff, reduceIte, Nat.reduceAdd, Int.toNat_natCast, Nat.add_zero, Owes_true, Tryz.results8, Nat.zero_add, c0, e1, e2, e3, e8, e10, e11, e12, e13, e14, e15, e17, hFE, hjt, hm', indexV_eq, hx0, hc1]
  refine ⟨_, by omega, j + 1, by omega, rfl, rfl, by (simp -dsimp -implicitDefEqProofs (maxSteps := 2000000) (disch := first | assumption | omega | (simp only [AW.next_push, AW.next_put]; omega) | ((repeat refine Fresh.push ?_ _); assumption) | (simp only [same_int, same_bool, same_ptr, same_slice, same_sliceP, same_nil, same_agg2, same_string]; done) | (simp [oneCell, AW.next_push]; done) | fail) only [go_sem, Nat.reduceEqDiff, reduceIte, Nat.reduceAdd, Int.toNat_natCast, Nat.add_zero, Owes_true, e1, hn, e1, e2, e3, e8, e10, e11, e12, e13, e14, hFE]; try rfl), by (simp -dsimp -implicitDefEqProofs (maxSteps := 2000000) (disch := first | assumption | omega | (simp only [AW.next_push, AW.next_put]; omega) | ((repeat refine Fresh.push ?_ _); assumption) | (simp only [same_int, same_bool, same_ptr, same_slice, same_sliceP, same_nil, same_agg2, same_string]; done) | (simp [oneCell, AW.next_push]; done) | fail) only [go_sem, Nat.reduceEqDiff, reduceIte, Nat.reduceAdd, Int.toNat_natCast, Nat.add_zero, Owes_true, e2, hn, e1, e2, e3, e8, e10, e11, e12, e13, e14, hFE]; try rfl), by (simp -dsimp -implicitDefEqProofs (maxSteps := 2000000) (disch := first | assumption | omega | (simp only [AW.next_push, AW.next_put]; omega) | ((repeat refine Fresh.push ?_ _); assumption) | (simp only [same_int, same_bool, same_ptr, same_slice, same_sliceP, same_nil, same_agg2, same_string]; done) | (simp [oneCell, AW.next_push]; done) | fail) only [go_sem, Nat.reduceEqDiff, reduceIte, Nat.reduceAdd, Int.toNat_natCast, Nat.add_zero, Owes_true, e3, hn, e1, e2, e3, e8, e10, e11, e12, e13, e14, hFE]; try rfl), by (simp -dsimp -implicitDefEqProofs (maxSteps := 2000000) (disch := first | assumption | omega | (simp only [AW.next_push, AW.next_put]; omega) | ((repeat refine Fresh.push ?_ _); assumption) | (simp only [same_int, same_bool, same_ptr, same_slice, same_sliceP, same_nil, same_agg2, same_string]; done) | (simp [oneCell, AW.next_push]; done) | fail) only [go_sem, Nat.reduceEqDiff, reduceIte, Nat.reduceAdd, Int.toNat_natCast, Nat.add_zero, Owes_true, e8, hn, e1, e2, e3, e8, e10, e11, e12, e13, e14, hFE]; try rfl), by (simp -dsimp -implicitDefEqProofs (maxSteps := 2000000) (disch := first | assumption | omega | (simp only [AW.next_push, AW.next_put]; omega) | ((repeat refine Fresh.push ?_ _); assumption) | (simp only [same_int, same_bool, same_ptr, same_slice, same_sliceP, same_nil, same_agg2, same_string]; done) | (simp [oneCell, AW.next_push]; done) | fail) only [go_sem, Nat.reduceEqDiff, reduceIte, Nat.reduceAdd, Int.toNat_natCast, Nat.add_zero, Owes_true, e10, hn, e1, e2, e3, e8, e10, e11, e12, e13, e14, hFE]; try rfl), by (simp -dsimp -implicitDefEqProofs (maxSteps := 2000000) (disch := first | assumption | omega | (simp only [AW.next_push, AW.next_put]; omega) | ((repeat refine Fresh.push ?_ _); assumption) | (simp only [same_int, same_bool, same_ptr, same_slice, same_sliceP, same_nil, same_agg2, same_string]; done) | (simp [oneCell, AW.next_push]; done) | fail) only [go_sem, Nat.reduceEqDiff, reduceIte, Nat.reduceAdd, Int.toNat_natCast, Nat.add_zero, Owes_true, e11, hn, e1, e2, e3, e8, e10, e11, e12, e13, e14, hFE]; try rfl), by (simp -dsimp -implicitDefEqProofs (maxSteps := 2000000) (disch := first | assumption | omega | (simp only [AW.next_push, AW.next_put]; omega) | ((repeat refine Fresh.push ?_ _); assumption) | (simp only [same_int, same_bool, same_ptr, same_slice, same_sliceP, same_nil, same_agg2, same_string]; done) | (simp [oneCell, AW.next_push]; done) | fail) only [go_sem, Nat.reduceEqDiff, reduceIte, Nat.reduceAdd, Int.toNat_natCast, Nat.add_zero, Owes_true, e12, hn, e1, e2, e3, e8, e10, e11, e12, e13, e14, hFE]; try rfl), by (simp -dsimp -implicitDefEqProofs (maxSteps := 2000000) (disch := first | assumption | omega | (simp only [AW.next_push, AW.next_put]; omega) | ((repeat refine Fresh.push ?_ _); assumption) | (simp only [same_int, same_bool, same_ptr, same_slice, same_sliceP, same_nil, same_agg2, same_string]; done) | (simp [oneCell, AW.next_push]; done) | fail) only [go_sem, Nat.reduceEqDiff, reduceIte, Nat.reduceAdd, Int.toNat_natCast, Nat.add_zero, Owes_true, e13, hn, e1, e2, e3, e8, e10, e11, e12, e13, e14, hFE]; try rfl), by (simp -dsimp -implicitDefEqProofs (maxSteps := 2000000) (disch := first | assumption | omega | (simp only [AW.next_push, AW.next_put]; omega) | ((repeat refine Fresh.push ?_ _); assumption) | (simp only [same_int, same_bool, same_ptr, same_slice, same_sliceP, same_nil, same_agg2, same_string]; done) | (simp [oneCell, AW.next_push]; done) | fail) only [go_sem, Nat.reduceEqDiff, reduceIte, Nat.reduceAdd, Int.toNat_natCast, Nat.add_zero, Owes_true, e14, hn, e1, e2, e3, e8, e10, e11, e12, e13, e14, hFE]; try rfl), by (simp -dsimp -implicitDefEqProofs (maxSteps := 2000000) (disch := first | assumption | omega | (simp only [AW.next_push, AW.next_put]; omega) | ((repeat refine Fresh.push ?_ _); assumption) | (simp only [same_int, same_bool, same_ptr, same_slice, same_sliceP, same_nil, same_agg2, same_string]; done) | (simp [oneCell, AW.next_push]; done) | fail) only [go_sem, Nat.reduceEqDiff, reduceIte, Nat.reduceAdd, Int.toNat_natCast, Nat.add_zero, Owes_true, e15, hn, e1, e2, e3, e8, e10, e11, e12, e13, e14, hFE]; try rfl), by (simp -dsimp -implicitDefEqProofs (maxSteps := 2000000) (disch := first | assumption | omega | (simp only [AW.next_push, AW.next_put]; omega) | ((repeat refine Fresh.push ?_ _); assumption) | (simp only [same_int, same_bool, same_ptr, same_slice, same_sliceP, same_nil, same_agg2, same_string]; done) | (simp [oneCell, AW.next_push]; done) | fail) only [go_sem, Nat.reduceEqDiff, reduceIte, Nat.reduceAdd, Int.toNat_natCast, Nat.add_zero, Owes_true, e17, hn, e1, e2, e3, e8, e10, e11, e12, e13, e14, hFE]; try rfl), rfl⟩
end Go.Proofs
