/- Contracts of what looks at fakes: Finds and Shows, of the program and of the papers, and the law on the machine. -/
import Derived.Test.YteeheldahpoppaaGreatRa
import Derived.Test.YteeheldahpoppaaGreatTc
import Derived.Test.YteeheldahpoppaaGreatTa
set_option linter.unusedVariables false
set_option linter.unusedSimpArgs false
/- Fakes: what both versions ask of them. -/
namespace Go.Proofs
open Go Go.RowKit Go.Sim
set_option maxRecDepth 100000
def okSp (s : Int × Int) : Bool := decide (0 ≤ s.1) && decide (s.1 ≤ s.2) && decide (s.2 ≤ 100000)
def okF (n : Nat) (fs : List (Int × Int)) : Bool := decide (fs.length = n) && fs.all okSp
def okFs (n : Nat) (fss : List (List (Int × Int))) : Bool := decide (fss.length ≤ 10) && fss.all (okF n)
/-- A slice of lists of spans. -/
def Fks (w : AW) (u : Value) (fss : List (List (Int × Int))) : Prop := ∃ vs : List Value, vs.length = fss.length ∧ ArrOf w 1 vcells u vs ∧ ∀ (i : Nat) v fs, vs[i]? = some v → fss[i]? = some fs → ArrOf w 2 mcells v fs
theorem Fks.grown {w w' : AW} {u : Value} {fss : List (List (Int × Int))} (h : Fks w u fss) (k : Grown w w') : Fks w' u fss := by
  obtain ⟨vs, a, b, c⟩ := h
  exact ⟨vs, a, b.grown k, fun i v rs h1 h2 => (c i v rs h1 h2).grown k⟩
theorem okFs_not {n i : Nat} {fss : List (List (Int × Int))} (h : i < fss.length) (hb : okF n fss[i] = false) : okFs n fss = false := by
  have : fss.all (okF n) = false := by rw [List.all_eq_false]; exact ⟨fss[i], List.getElem_mem h, by rw [hb]; simp⟩
  simp [okFs, this]
theorem okF_not {n j : Nat} {fs : List (Int × Int)} (h : j < fs.length) (hb : okSp fs[j] = false) : okF n fs = false := by
  have : fs.all okSp = false := by rw [List.all_eq_false]; exact ⟨fs[j], List.getElem_mem h, by rw [hb]; simp⟩
  simp [okF, this]
set_option maxHeartbeats 1000000 in
theorem areFakes_ok (ms : List (Int × Int)) (fss : List (List (Int × Int))) (v u : Value) (w : AW) (f : Fresh w) (hs : ArrOf w 2 mcells v ms) (hr : Fks w u fss) :
    CallT Tryz.prog Tryz.T (.fn (.func 63) #[]) #[v, u] w (Ret (.bool (okFs ms.length fss)) (Grown w)) := by
  obtain ⟨vs, hvl, hvs, hrow⟩ := id hr
  obtain ⟨p, cap, rfl, hcap, hmax, hat⟩ := hs.open
  obtain ⟨q, cap2, rfl, hcap2, hmax2, hat2⟩ := hvs.open
  refine callT_code rfl Tryz.func63 rfl Tryz.s63_eq rfl ?_
  unfold Tryz.s63
  by_cases h1 : 10 < (vs.length : Int)
  · simp -dsimp -implicitDefEqProofs (maxSteps := 2000000) (disch := first | assumption | omega | (simp only [AW.next_push, AW.next_put]; omega) | ((repeat refine Fresh.push ?_ _); assumption) | (simp only [same_int, same_bool, same_ptr, same_slice, same_sliceP, same_nil, same_agg2, same_string]; done) | (simp [oneCell, AW.next_push]; done) | fail) only [go_sem, Nat.reduceEqDiff, reduceIte, Nat.reduceAdd, Int.toNat_natCast, Nat.add_zero, Owes_true, Tryz.results63, h1]
    refine ⟨?_, .refl f⟩
    have : ¬ fss.length ≤ 10 := by omega
    simp [okFs, this]
  simp -dsimp -implicitDefEqProofs (maxSteps := 2000000) (disch := first | assumption | omega | (simp only [AW.next_push, AW.next_put]; omega) | ((repeat refine Fresh.push ?_ _); assumption) | (simp only [same_int, same_bool, same_ptr, same_slice, same_sliceP, same_nil, same_agg2, same_string]; done) | (simp [oneCell, AW.next_push]; done) | fail) only [go_sem, Nat.reduceEqDiff, reduceIte, Nat.reduceAdd, Int.toNat_natCast, Nat.add_zero, Owes_true, Tryz.results63, h1]
  refine loopR (fun k t ds w1 => ∃ i : Nat, i ≤ vs.length ∧ k = vs.length - i ∧ ds = [] ∧ ev t (.tmp 0) = .slice p ms.length cap ∧ ev t (.tmp 12) = .slice q vs.length cap2 ∧ ev t (.tmp 13) = .int .i64 (vs.length : Int) ∧ ev t (.tmp 14) = .int .i64 (i : Int) ∧ Grown w w1 ∧ (fss.take i).all (okF ms.length) = true) (vs.length) ?_ ?_
  · refine ⟨0, by omega, by omega, rfl, ?_, ?_, ?_, ?_, .refl f, rfl⟩ <;> simp -dsimp -implicitDefEqProofs (maxSteps := 2000000) (disch := first | assumption | omega | (simp only [AW.next_push, AW.next_put]; omega) | ((repeat refine Fresh.push ?_ _); assumption) | (simp only [same_int, same_bool, same_ptr, same_slice, same_sliceP, same_nil, same_agg2, same_string]; done) | (simp [oneCell, AW.next_push]; done) | fail) only [go_sem, Nat.reduceEqDiff, reduceIte, Nat.reduceAdd, Int.toNat_natCast, Nat.add_zero, Owes_true] <;> rfl
  rintro k t ds w1 ⟨i, hii, rfl, rfl, e0, e12, e13, e14, hg, hall⟩
  obtain ⟨hk, hf⟩ := id hg
  by_cases hlt : (i : Int) < (vs.length : Int)
  case neg =>
    simp -dsimp -implicitDefEqProofs (maxSteps := 2000000) (disch := first | assumption | omega | (simp only [AW.next_push, AW.next_put]; omega) | ((repeat refine Fresh.push ?_ _); assumption) | (simp only [same_int, same_bool, same_ptr, same_slice, same_sliceP, same_nil, same_agg2, same_string]; done) | (simp [oneCell, AW.next_push]; done) | fail) only [go_sem, Nat.reduceEqDiff, reduceIte, Nat.reduceAdd, Int.toNat_natCast, Nat.add_zero, Owes_true, Tryz.results63, e12, e13, e14, hlt]
    refine ⟨?_, hg⟩
    have : fss.take i = fss := List.take_of_length_le (by omega)
    rw [this] at hall
    have : fss.length ≤ 10 := by omega
    simp [okFs, hall, this]
  have hlt' : i < vs.length := by omega
  have hri : i < fss.length := by omega
  obtain ⟨b, o, rfl, hb, hcell⟩ := hat2 i hlt'
  have hc0 := hcell w1 hk 0 _ rfl
  rw [Nat.add_zero] at hc0
  obtain ⟨p3, cap3, hv3, hcap3, hmax3, hat3⟩ := (hrow i vs[i] fss[i] (by simp [hlt']) (by simp [hri])).open
  rw [hv3] at hc0
  have htake : fss.take (i + 1) = fss.take i ++ [fss[i]] := by rw [List.take_succ_eq_append_getElem hri]
  by_cases hn : (fss[i].length : Int) = (ms.length : Int)
  case neg =>
    simp -dsimp -implicitDefEqProofs (maxSteps := 2000000) (disch := first | assumption | omega | (simp only [AW.next_push, AW.next_put]; omega) | ((repeat refine Fresh.push ?_ _); assumption) | (simp only [same_int, same_bool, same_ptr, same_slice, same_sliceP, same_nil, same_agg2, same_string]; done) | (simp [oneCell, AW.next_push]; done) | fail) only [go_sem, Nat.reduceEqDiff, reduceIte, Nat.reduceAdd, Int.toNat_natCast, Nat.add_zero, Owes_true, Tryz.results63, e0, e12, e13, e14, hlt, indexV_eq, hc0, hn]
    refine ⟨?_, hg.push _⟩
    rw [okFs_not hri]
    have : ¬ fss[i].length = ms.length := by omega
    simp [okF, this]
  simp -dsimp -implicitDefEqProofs (maxSteps := 2000000) (disch := first | assumption | omega | (simp only [AW.next_push, AW.next_put]; omega) | ((repeat refine Fresh.push ?_ _); assumption) | (simp only [same_int, same_bool, same_ptr, same_slice, same_sliceP, same_nil, same_agg2, same_string]; done) | (simp [oneCell, AW.next_push]; done) | fail) only [go_sem, Nat.reduceEqDiff, reduceIte, Nat.reduceAdd, Int.toNat_natCast, Nat.add_zero, Owes_true, Tryz.results63, e0, e12, e13, e14, hlt, indexV_eq, hc0, hn]
  refine loopR (fun k t ds w2 => ∃ j : Nat, j ≤ fss[i].length ∧ k = fss[i].length - j ∧ ds = [] ∧ ev t (.tmp 0) = .slice p ms.length cap ∧ ev t (.tmp 12) = .slice (some ⟨b, o, none⟩) vs.length cap2 ∧ ev t (.tmp 13) = .int .i64 (vs.length : Int) ∧ ev t (.tmp 14) = .int .i64 (i : Int) ∧ ev t (.tmp 25) = .slice p3 fss[i].length cap3 ∧ ev t (.tmp 26) = .int .i64 (fss[i].length : Int) ∧ ev t (.tmp 27) = .int .i64 (j : Int) ∧ Grown w w2 ∧ (fss[i].take j).all okSp = true) (fss[i].length) ?_ ?_
  · refine ⟨0, by omega, by omega, rfl, ?_, ?_, ?_, ?_, ?_, ?_, ?_, hg.push _, rfl⟩ <;> simp -dsimp -implicitDefEqProofs (maxSteps := 2000000) (disch := first | assumption | omega | (simp only [AW.next_push, AW.next_put]; omega) | ((repeat refine Fresh.push ?_ _); assumption) | (simp only [same_int, same_bool, same_ptr, same_slice, same_sliceP, same_nil, same_agg2, same_string]; done) | (simp [oneCell, AW.next_push]; done) | fail) only [go_sem, Nat.reduceEqDiff, reduceIte, Nat.reduceAdd, Int.toNat_natCast, Nat.add_zero, Owes_true, e0, e12, e13, e14, hn] <;> rfl
  rintro k t ds w2 ⟨j, hij, rfl, rfl, e0, e12, e13, e14, e25, e26, e27, hg2, hall2⟩
  obtain ⟨hk2, hf2⟩ := id hg2
  by_cases hjt : (j : Int) < (fss[i].length : Int)
  case neg =>
    simp -dsimp -implicitDefEqProofs (maxSteps := 2000000) (disch := first | assumption | omega | (simp only [AW.next_push, AW.next_put]; omega) | ((repeat refine Fresh.push ?_ _); assumption) | (simp only [same_int, same_bool, same_ptr, same_slice, same_sliceP, same_nil, same_agg2, same_string]; done) | (simp [oneCell, AW.next_push]; done) | fail) only [go_sem, Nat.reduceEqDiff, reduceIte, Nat.reduceAdd, Int.toNat_natCast, Nat.add_zero, Owes_true, Tryz.results63, e0, e12, e13, e14, e25, e26, e27, hjt]
    refine ⟨_, by omega, i + 1, by omega, rfl, rfl, by (simp -dsimp -implicitDefEqProofs (maxSteps := 2000000) (disch := first | assumption | omega | (simp only [AW.next_push, AW.next_put]; omega) | ((repeat refine Fresh.push ?_ _); assumption) | (simp only [same_int, same_bool, same_ptr, same_slice, same_sliceP, same_nil, same_agg2, same_string]; done) | (simp [oneCell, AW.next_push]; done) | fail) only [go_sem, Nat.reduceEqDiff, reduceIte, Nat.reduceAdd, Int.toNat_natCast, Nat.add_zero, Owes_true, e0]; try rfl), by (simp -dsimp -implicitDefEqProofs (maxSteps := 2000000) (disch := first | assumption | omega | (simp only [AW.next_push, AW.next_put]; omega) | ((repeat refine Fresh.push ?_ _); assumption) | (simp only [same_int, same_bool, same_ptr, same_slice, same_sliceP, same_nil, same_agg2, same_string]; done) | (simp [oneCell, AW.next_push]; done) | fail) only [go_sem, Nat.reduceEqDiff, reduceIte, Nat.reduceAdd, Int.toNat_natCast, Nat.add_zero, Owes_true, e12]; try rfl), by (simp -dsimp -implicitDefEqProofs (maxSteps := 2000000) (disch := first | assumption | omega | (simp only [AW.next_push, AW.next_put]; omega) | ((repeat refine Fresh.push ?_ _); assumption) | (simp only [same_int, same_bool, same_ptr, same_slice, same_sliceP, same_nil, same_agg2, same_string]; done) | (simp [oneCell, AW.next_push]; done) | fail) only [go_sem, Nat.reduceEqDiff, reduceIte, Nat.reduceAdd, Int.toNat_natCast, Nat.add_zero, Owes_true, e13]; try rfl), by (simp -dsimp -implicitDefEqProofs (maxSteps := 2000000) (disch := first | assumption | omega | (simp only [AW.next_push, AW.next_put]; omega) | ((repeat refine Fresh.push ?_ _); assumption) | (simp only [same_int, same_bool, same_ptr, same_slice, same_sliceP, same_nil, same_agg2, same_string]; done) | (simp [oneCell, AW.next_push]; done) | fail) only [go_sem, Nat.reduceEqDiff, reduceIte, Nat.reduceAdd, Int.toNat_natCast, Nat.add_zero, Owes_true, e14]; try rfl), hg2, ?_⟩
    have : fss[i].take j = fss[i] := List.take_of_length_le (by omega)
    rw [this] at hall2
    have hn' : fss[i].length = ms.length := by omega
    rw [htake, List.all_append, hall]
    simp only [okF, List.all_cons, List.all_nil, hn', hall2, decide_true, Bool.and_self]
  have hjt' : j < fss[i].length := by omega
  obtain ⟨b3, o3, rfl, hb3, hcell3⟩ := hat3 j hjt'
  have hd0 := hcell3 w2 hk2 0 _ rfl
  have hd1 := hcell3 w2 hk2 1 _ rfl
  rw [Nat.add_zero] at hd0
  have htake2 : fss[i].take (j + 1) = fss[i].take j ++ [fss[i][j]] := by rw [List.take_succ_eq_append_getElem hjt']
  have bad : okSp fss[i][j] = false → okFs ms.length fss = false := fun h => okFs_not hri (okF_not hjt' h)
  by_cases h2 : fss[i][j].1 < 0
  · simp -dsimp -implicitDefEqProofs (maxSteps := 2000000) (disch := first | assumption | omega | (simp only [AW.next_push, AW.next_put]; omega) | ((repeat refine Fresh.push ?_ _); assumption) | (simp only [same_int, same_bool, same_ptr, same_slice, same_sliceP, same_nil, same_agg2, same_string]; done) | (simp [oneCell, AW.next_push]; done) | fail) only [go_sem, Nat.reduceEqDiff, reduceIte, Nat.reduceAdd, Int.toNat_natCast, Nat.add_zero, Owes_true, Tryz.results63, e0, e12, e13, e14, e25, e26, e27, hjt, indexV_eq, hd0, hd1, h2]
    refine ⟨?_, hg2.push _⟩
    rw [bad]
    have : ¬ 0 ≤ fss[i][j].1 := by omega
    simp [okSp, this]
  simp -dsimp -implicitDefEqProofs (maxSteps := 2000000) (disch := first | assumption | omega | (simp only [AW.next_push, AW.next_put]; omega) | ((repeat refine Fresh.push ?_ _); assumption) | (simp only [same_int, same_bool, same_ptr, same_slice, same_sliceP, same_nil, same_agg2, same_string]; done) | (simp [oneCell, AW.next_push]; done) | fail) only [go_sem, Nat.reduceEqDiff, reduceIte, Nat.reduceAdd, Int.toNat_natCast, Nat.add_zero, Owes_true, Tryz.results63, e0, e12, e13, e14, e25, e26, e27, hjt, indexV_eq, hd0, hd1, h2]
  apply callV_of (e := rfl)
  · exact isEmpty_ok _ _ _ (hf2.push _)
  rintro _ w3 ⟨rfl, hg3⟩
  have g3 := (hg2.push _).trans hg3
  have hO := (Own.new hf2 58 [.int .i64 fss[i][j].1, .int .i64 fss[i][j].2]).keep hg3.1
  have hy1 := hO.cell (o := 1) rfl rfl
  by_cases h3 : fss[i][j].2 < fss[i][j].1
  · simp -dsimp -implicitDefEqProofs (maxSteps := 2000000) (disch := first | assumption | omega | (simp only [AW.next_push, AW.next_put]; omega) | ((repeat refine Fresh.push ?_ _); assumption) | (simp only [same_int, same_bool, same_ptr, same_slice, same_sliceP, same_nil, same_agg2, same_string]; done) | (simp [oneCell, AW.next_push]; done) | fail) only [go_sem, Nat.reduceEqDiff, reduceIte, Nat.reduceAdd, Int.toNat_natCast, Nat.add_zero, Owes_true, Tryz.results63, h3]
    refine ⟨?_, g3⟩
    rw [bad]
    have : ¬ fss[i][j].1 ≤ fss[i][j].2 := by omega
    simp [okSp, this]
  by_cases h4 : 100000 < fss[i][j].2
  · simp -dsimp -implicitDefEqProofs (maxSteps := 2000000) (disch := first | assumption | omega | (simp only [AW.next_push, AW.next_put]; omega) | ((repeat refine Fresh.push ?_ _); assumption) | (simp only [same_int, same_bool, same_ptr, same_slice, same_sliceP, same_nil, same_agg2, same_string]; done) | (simp [oneCell, AW.next_push]; done) | fail) only [go_sem, Nat.reduceEqDiff, reduceIte, Nat.reduceAdd, Int.toNat_natCast, Nat.add_zero, Owes_true, Tryz.results63, h3, Nat.zero_add, hy1, h4]
    refine ⟨?_, g3⟩
    rw [bad]
    have : ¬ fss[i][j].2 ≤ 100000 := by omega
    simp [okSp, this]
  simp -dsimp -implicitDefEqProofs (maxSteps := 2000000) (disch := first | assumption | omega | (simp only [AW.next_push, AW.next_put]; omega) | ((repeat refine Fresh.push ?_ _); assumption) | (simp only [same_int, same_bool, same_ptr, same_slice, same_sliceP, same_nil, same_agg2, same_string]; done) | (simp [oneCell, AW.next_push]; done) | fail) only [go_sem, Nat.reduceEqDiff, reduceIte, Nat.reduceAdd, Int.toNat_natCast, Nat.add_zero, Owes_true, Tryz.results63, e0, e12, e13, e14, e25, e26, e27, h3, Nat.zero_add, hy1, h4]
  refine ⟨_, by omega, j + 1, by omega, rfl, rfl, by (simp -dsimp -implicitDefEqProofs (maxSteps := 2000000) (disch := first | assumption | omega | (simp only [AW.next_push, AW.next_put]; omega) | ((repeat refine Fresh.push ?_ _); assumption) | (simp only [same_int, same_bool, same_ptr, same_slice, same_sliceP, same_nil, same_agg2, same_string]; done) | (simp [oneCell, AW.next_push]; done) | fail) only [go_sem, Nat.reduceEqDiff, reduceIte, Nat.reduceAdd, Int.toNat_natCast, Nat.add_zero, Owes_true, e0]; try rfl), by (simp -dsimp -implicitDefEqProofs (maxSteps := 2000000) (disch := first | assumption | omega | (simp only [AW.next_push, AW.next_put]; omega) | ((repeat refine Fresh.push ?_ _); assumption) | (simp only [same_int, same_bool, same_ptr, same_slice, same_sliceP, same_nil, same_agg2, same_string]; done) | (simp [oneCell, AW.next_push]; done) | fail) only [go_sem, Nat.reduceEqDiff, reduceIte, Nat.reduceAdd, Int.toNat_natCast, Nat.add_zero, Owes_true, e12]; try rfl), by (simp -dsimp -implicitDefEqProofs (maxSteps := 2000000) (disch := first | assumption | omega | (simp only [AW.next_push, AW.next_put]; omega) | ((repeat refine Fresh.push ?_ _); assumption) | (simp only [same_int, same_bool, same_ptr, same_slice, same_sliceP, same_nil, same_agg2, same_string]; done) | (simp [oneCell, AW.next_push]; done) | fail) only [go_sem, Nat.reduceEqDiff, reduceIte, Nat.reduceAdd, Int.toNat_natCast, Nat.add_zero, Owes_true, e13]; try rfl), by (simp -dsimp -implicitDefEqProofs (maxSteps := 2000000) (disch := first | assumption | omega | (simp only [AW.next_push, AW.next_put]; omega) | ((repeat refine Fresh.push ?_ _); assumption) | (simp only [same_int, same_bool, same_ptr, same_slice, same_sliceP, same_nil, same_agg2, same_string]; done) | (simp [oneCell, AW.next_push]; done) | fail) only [go_sem, Nat.reduceEqDiff, reduceIte, Nat.reduceAdd, Int.toNat_natCast, Nat.add_zero, Owes_true, e14]; try rfl), by (simp -dsimp -implicitDefEqProofs (maxSteps := 2000000) (disch := first | assumption | omega | (simp only [AW.next_push, AW.next_put]; omega) | ((repeat refine Fresh.push ?_ _); assumption) | (simp only [same_int, same_bool, same_ptr, same_slice, same_sliceP, same_nil, same_agg2, same_string]; done) | (simp [oneCell, AW.next_push]; done) | fail) only [go_sem, Nat.reduceEqDiff, reduceIte, Nat.reduceAdd, Int.toNat_natCast, Nat.add_zero, Owes_true, e25]; try rfl), by (simp -dsimp -implicitDefEqProofs (maxSteps := 2000000) (disch := first | assumption | omega | (simp only [AW.next_push, AW.next_put]; omega) | ((repeat refine Fresh.push ?_ _); assumption) | (simp only [same_int, same_bool, same_ptr, same_slice, same_sliceP, same_nil, same_agg2, same_string]; done) | (simp [oneCell, AW.next_push]; done) | fail) only [go_sem, Nat.reduceEqDiff, reduceIte, Nat.reduceAdd, Int.toNat_natCast, Nat.add_zero, Owes_true, e26]; try rfl), by (simp -dsimp -implicitDefEqProofs (maxSteps := 2000000) (disch := first | assumption | omega | (simp only [AW.next_push, AW.next_put]; omega) | ((repeat refine Fresh.push ?_ _); assumption) | (simp only [same_int, same_bool, same_ptr, same_slice, same_sliceP, same_nil, same_agg2, same_string]; done) | (simp [oneCell, AW.next_push]; done) | fail) only [go_sem, Nat.reduceEqDiff, reduceIte, Nat.reduceAdd, Int.toNat_natCast, Nat.add_zero, Owes_true, e27]; try rfl), g3, ?_⟩
  rw [htake2, List.all_append, hall2]
  simp [okSp]; omega
end Go.Proofs

/- Fakes: the errors of both versions; whether a measure finds one. -/
namespace Go.Proofs
open Go Go.RowKit Go.Sim
set_option maxRecDepth 100000
theorem if_code (c : Bool) (n : Int) : (if c = true then (0 : Int) else n) = bif c then 0 else n := by cases c <;> rfl
def askE (ms : List (Int × Int)) (rss : List (List Int)) (fss : List (List (Int × Int))) : Int := if okMs ms = true then (if rss.all (okRs ms.length) = true then (if okFs ms.length fss = true then 0 else 14) else 13) else 12
theorem Fks.oneCell {w : AW} {u : Value} {fss : List (List (Int × Int))} (h : Fks w u fss) : oneCell u = true := by
  obtain ⟨_, _, ⟨_, _, _, rfl, _⟩, _⟩ := h; rfl
theorem ArrOf.oneCell {α : Type} {w : AW} {z : Nat} {enc : α → List Value} {v : Value} {xs : List α} (h : ArrOf w z enc v xs) : oneCell v = true := by
  obtain ⟨_, _, _, rfl, _⟩ := h; rfl
set_option maxHeartbeats 1000000 in
theorem checkF_ok (ms : List (Int × Int)) (rss : List (List Int)) (fss : List (List (Int × Int))) (v u x : Value) (w : AW) (f : Fresh w) (hs : ArrOf w 2 mcells v ms) (hF : Fks w x fss) (hr : Rows w u rss) :
    CallT Tryz.prog Tryz.T (.fn (.func 31) #[]) #[v, x, u] w (Ret (.int .i64 (askE ms rss fss)) (Grown w)) := by
  obtain ⟨vs, hvl, hvs, hrow⟩ := id hr
  obtain ⟨q, cap2, rfl, hcap2, hmax2, hat2⟩ := hvs.open
  refine callT_code rfl Tryz.func31 rfl Tryz.s31_eq rfl ?_
  unfold Tryz.s31
  simp -dsimp -implicitDefEqProofs (maxSteps := 2000000) (disch := first | assumption | omega | (simp only [AW.next_push, AW.next_put]; omega) | ((repeat refine Fresh.push ?_ _); assumption) | (simp only [same_int, same_bool, same_ptr, same_slice, same_sliceP, same_nil, same_agg2, same_string]; done) | (simp [oneCell, AW.next_push]; done) | fail) only [go_sem, Nat.reduceEqDiff, reduceIte, Nat.reduceAdd, Int.toNat_natCast, Nat.add_zero, Owes_true, Tryz.results31]
  apply callV_of (e := rfl)
  · exact checkMeasures_ok ms v w f hs
  rintro _ w1 ⟨rfl, hg1⟩
  by_cases hM : okMs ms = true
  case neg =>
    have e : (if okMs ms = true then (0 : Int) else 12) = 12 := by rw [if_neg hM]
    have d : ¬ (12 : Int) = 0 := by omega
    simp -dsimp -implicitDefEqProofs (maxSteps := 2000000) (disch := first | assumption | omega | (simp only [AW.next_push, AW.next_put]; omega) | ((repeat refine Fresh.push ?_ _); assumption) | (simp only [same_int, same_bool, same_ptr, same_slice, same_sliceP, same_nil, same_agg2, same_string]; done) | (simp [oneCell, AW.next_push]; done) | fail) only [go_sem, Nat.reduceEqDiff, reduceIte, Nat.reduceAdd, Int.toNat_natCast, Nat.add_zero, Owes_true, Tryz.results31, e, d]
    exact ⟨by simp [askE, hM], hg1⟩
  have e : (if okMs ms = true then (0 : Int) else 12) = 0 := by rw [if_pos hM]
  simp -dsimp -implicitDefEqProofs (maxSteps := 2000000) (disch := first | assumption | omega | (simp only [AW.next_push, AW.next_put]; omega) | ((repeat refine Fresh.push ?_ _); assumption) | (simp only [same_int, same_bool, same_ptr, same_slice, same_sliceP, same_nil, same_agg2, same_string]; done) | (simp [oneCell, AW.next_push]; done) | fail) only [go_sem, Nat.reduceEqDiff, reduceIte, Nat.reduceAdd, Int.toNat_natCast, Nat.add_zero, Owes_true, Tryz.results31, e]
  refine loopR (fun k t ds w2 => ∃ i : Nat, i ≤ vs.length ∧ k = vs.length - i ∧ ds = [] ∧ ev t (.tmp 0) = v ∧ ev t (.tmp 1) = x ∧ ev t (.tmp 15) = .slice q vs.length cap2 ∧ ev t (.tmp 16) = .int .i64 (vs.length : Int) ∧ ev t (.tmp 17) = .int .i64 (i : Int) ∧ Grown w w2 ∧ (rss.take i).all (okRs ms.length) = true) (vs.length) ?_ ?_
  · refine ⟨0, by omega, by omega, rfl, ?_, ?_, ?_, ?_, ?_, hg1, rfl⟩ <;> simp -dsimp -implicitDefEqProofs (maxSteps := 2000000) (disch := first | assumption | omega | (simp only [AW.next_push, AW.next_put]; omega) | ((repeat refine Fresh.push ?_ _); assumption) | (simp only [same_int, same_bool, same_ptr, same_slice, same_sliceP, same_nil, same_agg2, same_string]; done) | (simp [oneCell, AW.next_push]; done) | fail) only [go_sem, Nat.reduceEqDiff, reduceIte, Nat.reduceAdd, Int.toNat_natCast, Nat.add_zero, Owes_true] <;> rfl
  rintro k t ds w2 ⟨i, hii, rfl, rfl, e0, e1, e15, e16, e17, hg, hall⟩
  obtain ⟨hk, hf⟩ := id hg
  by_cases hlt : (i : Int) < (vs.length : Int)
  · have hlt' : i < vs.length := by omega
    obtain ⟨b, o, rfl, hb, hcell⟩ := hat2 i hlt'
    have hc0 := hcell w2 hk 0 _ rfl
    rw [Nat.add_zero] at hc0
    have hri : i < rss.length := by omega
    have hone : oneCell vs[i] = true := (hrow i vs[i] rss[i] (by simp [hlt']) (by simp [hri])).oneCell
    have htake : rss.take (i + 1) = rss.take i ++ [rss[i]] := by rw [List.take_succ_eq_append_getElem hri]
    simp -dsimp -implicitDefEqProofs (maxSteps := 2000000) (disch := first | assumption | omega | (simp only [AW.next_push, AW.next_put]; omega) | ((repeat refine Fresh.push ?_ _); assumption) | (simp only [same_int, same_bool, same_ptr, same_slice, same_sliceP, same_nil, same_agg2, same_string]; done) | (simp [oneCell, AW.next_push]; done) | fail) only [go_sem, Nat.reduceEqDiff, reduceIte, Nat.reduceAdd, Int.toNat_natCast, Nat.add_zero, Owes_true, Tryz.results31, e0, e1, e15, e16, e17, hlt, indexV_eq, hc0]
    apply callV_of (e := rfl)
    · exact areReadings_ok ms rss[i] v vs[i] w2 hf (hs.grown hg) ((hrow i _ _ (by simp [hlt']) (by simp [hri])).grown hg)
    rintro _ w3 ⟨rfl, hg3⟩
    cases hA : okRs ms.length rss[i] with
    | true =>
      simp -dsimp -implicitDefEqProofs (maxSteps := 2000000) (disch := first | assumption | omega | (simp only [AW.next_push, AW.next_put]; omega) | ((repeat refine Fresh.push ?_ _); assumption) | (simp only [same_int, same_bool, same_ptr, same_slice, same_sliceP, same_nil, same_agg2, same_string]; done) | (simp [oneCell, AW.next_push]; done) | fail) only [go_sem, Nat.reduceEqDiff, reduceIte, Nat.reduceAdd, Int.toNat_natCast, Nat.add_zero, Owes_true, Tryz.results31, e0, e1, e15, e16, e17]
      refine ⟨_, by omega, i + 1, by omega, rfl, rfl, by (simp -dsimp -implicitDefEqProofs (maxSteps := 2000000) (disch := first | assumption | omega | (simp only [AW.next_push, AW.next_put]; omega) | ((repeat refine Fresh.push ?_ _); assumption) | (simp only [same_int, same_bool, same_ptr, same_slice, same_sliceP, same_nil, same_agg2, same_string]; done) | (simp [oneCell, AW.next_push]; done) | fail) only [go_sem, Nat.reduceEqDiff, reduceIte, Nat.reduceAdd, Int.toNat_natCast, Nat.add_zero, Owes_true, e0]; try rfl), by (simp -dsimp -implicitDefEqProofs (maxSteps := 2000000) (disch := first | assumption | omega | (simp only [AW.next_push, AW.next_put]; omega) | ((repeat refine Fresh.push ?_ _); assumption) | (simp only [same_int, same_bool, same_ptr, same_slice, same_sliceP, same_nil, same_agg2, same_string]; done) | (simp [oneCell, AW.next_push]; done) | fail) only [go_sem, Nat.reduceEqDiff, reduceIte, Nat.reduceAdd, Int.toNat_natCast, Nat.add_zero, Owes_true, e1]; try rfl), by (simp -dsimp -implicitDefEqProofs (maxSteps := 2000000) (disch := first | assumption | omega | (simp only [AW.next_push, AW.next_put]; omega) | ((repeat refine Fresh.push ?_ _); assumption) | (simp only [same_int, same_bool, same_ptr, same_slice, same_sliceP, same_nil, same_agg2, same_string]; done) | (simp [oneCell, AW.next_push]; done) | fail) only [go_sem, Nat.reduceEqDiff, reduceIte, Nat.reduceAdd, Int.toNat_natCast, Nat.add_zero, Owes_true, e15]; try rfl), by (simp -dsimp -implicitDefEqProofs (maxSteps := 2000000) (disch := first | assumption | omega | (simp only [AW.next_push, AW.next_put]; omega) | ((repeat refine Fresh.push ?_ _); assumption) | (simp only [same_int, same_bool, same_ptr, same_slice, same_sliceP, same_nil, same_agg2, same_string]; done) | (simp [oneCell, AW.next_push]; done) | fail) only [go_sem, Nat.reduceEqDiff, reduceIte, Nat.reduceAdd, Int.toNat_natCast, Nat.add_zero, Owes_true, e16]; try rfl), by (simp -dsimp -implicitDefEqProofs (maxSteps := 2000000) (disch := first | assumption | omega | (simp only [AW.next_push, AW.next_put]; omega) | ((repeat refine Fresh.push ?_ _); assumption) | (simp only [same_int, same_bool, same_ptr, same_slice, same_sliceP, same_nil, same_agg2, same_string]; done) | (simp [oneCell, AW.next_push]; done) | fail) only [go_sem, Nat.reduceEqDiff, reduceIte, Nat.reduceAdd, Int.toNat_natCast, Nat.add_zero, Owes_true, e17]; try rfl), hg.trans hg3, by rw [htake, List.all_append, hall]; simp [hA]⟩
    | false =>
      simp -dsimp -implicitDefEqProofs (maxSteps := 2000000) (disch := first | assumption | omega | (simp only [AW.next_push, AW.next_put]; omega) | ((repeat refine Fresh.push ?_ _); assumption) | (simp only [same_int, same_bool, same_ptr, same_slice, same_sliceP, same_nil, same_agg2, same_string]; done) | (simp [oneCell, AW.next_push]; done) | fail) only [go_sem, Nat.reduceEqDiff, reduceIte, Nat.reduceAdd, Int.toNat_natCast, Nat.add_zero, Owes_true, Tryz.results31]
      refine ⟨?_, hg.trans hg3⟩
      have : rss.all (okRs ms.length) = false := by
        rw [List.all_eq_false]; exact ⟨rss[i], List.getElem_mem hri, by rw [hA]; simp⟩
      simp [askE, hM, this]
  · simp -dsimp -implicitDefEqProofs (maxSteps := 2000000) (disch := first | assumption | omega | (simp only [AW.next_push, AW.next_put]; omega) | ((repeat refine Fresh.push ?_ _); assumption) | (simp only [same_int, same_bool, same_ptr, same_slice, same_sliceP, same_nil, same_agg2, same_string]; done) | (simp [oneCell, AW.next_push]; done) | fail) only [go_sem, Nat.reduceEqDiff, reduceIte, Nat.reduceAdd, Int.toNat_natCast, Nat.add_zero, Owes_true, Tryz.results31, e0, e1, e15, e16, e17, hlt]
    apply callV_of (e := rfl)
    · exact areFakes_ok ms fss v x w2 hf (hs.grown hg) (hF.grown hg)
    rintro _ w3 ⟨rfl, hg3⟩
    have : rss.take i = rss := List.take_of_length_le (by omega)
    rw [this] at hall
    cases hA : okFs ms.length fss with
    | true =>
      simp -dsimp -implicitDefEqProofs (maxSteps := 2000000) (disch := first | assumption | omega | (simp only [AW.next_push, AW.next_put]; omega) | ((repeat refine Fresh.push ?_ _); assumption) | (simp only [same_int, same_bool, same_ptr, same_slice, same_sliceP, same_nil, same_agg2, same_string]; done) | (simp [oneCell, AW.next_push]; done) | fail) only [go_sem, Nat.reduceEqDiff, reduceIte, Nat.reduceAdd, Int.toNat_natCast, Nat.add_zero, Owes_true, Tryz.results31]
      exact ⟨by simp [askE, hM, hall, hA], hg.trans hg3⟩
    | false =>
      simp -dsimp -implicitDefEqProofs (maxSteps := 2000000) (disch := first | assumption | omega | (simp only [AW.next_push, AW.next_put]; omega) | ((repeat refine Fresh.push ?_ _); assumption) | (simp only [same_int, same_bool, same_ptr, same_slice, same_sliceP, same_nil, same_agg2, same_string]; done) | (simp [oneCell, AW.next_push]; done) | fail) only [go_sem, Nat.reduceEqDiff, reduceIte, Nat.reduceAdd, Int.toNat_natCast, Nat.add_zero, Owes_true, Tryz.results31]
      exact ⟨by simp [askE, hM, hall, hA], hg.trans hg3⟩

set_option maxHeartbeats 1000000 in
theorem refFakes_ok (n : Nat) (fss : List (List (Int × Int))) (u : Value) (w : AW) (f : Fresh w) (hr : Fks w u fss) :
    CallT Tryz.prog Tryz.T (.fn (.func 71) #[]) #[u, .int .i64 (n : Int)] w (Ret (.bool (okFs n fss)) (Grown w)) := by
  obtain ⟨vs, hvl, hvs, hrow⟩ := id hr
  obtain ⟨q, cap2, rfl, hcap2, hmax2, hat2⟩ := hvs.open
  refine callT_code rfl Tryz.func71 rfl Tryz.s71_eq rfl ?_
  unfold Tryz.s71
  simp -dsimp -implicitDefEqProofs (maxSteps := 2000000) (disch := first | assumption | omega | (simp only [AW.next_push, AW.next_put]; omega) | ((repeat refine Fresh.push ?_ _); assumption) | (simp only [same_int, same_bool, same_ptr, same_slice, same_sliceP, same_nil, same_agg2, same_string]; done) | (simp [oneCell, AW.next_push]; done) | fail) only [go_sem, Nat.reduceEqDiff, reduceIte, Nat.reduceAdd, Int.toNat_natCast, Nat.add_zero, Owes_true, Tryz.results71]
  refine loopR (fun k t ds w1 => ∃ i : Nat, i ≤ vs.length ∧ k = vs.length - i ∧ ds = [] ∧ ev t (.tmp 0) = .slice q vs.length cap2 ∧ ev t (.tmp 1) = .int .i64 (n : Int) ∧ ev t (.tmp 5) = .int .i64 (i : Int) ∧ Grown w w1 ∧ (fss.take i).all (okF n) = true) (vs.length) ?_ ?_
  · refine ⟨0, by omega, by omega, rfl, ?_, ?_, ?_, .refl f, rfl⟩ <;> simp -dsimp -implicitDefEqProofs (maxSteps := 2000000) (disch := first | assumption | omega | (simp only [AW.next_push, AW.next_put]; omega) | ((repeat refine Fresh.push ?_ _); assumption) | (simp only [same_int, same_bool, same_ptr, same_slice, same_sliceP, same_nil, same_agg2, same_string]; done) | (simp [oneCell, AW.next_push]; done) | fail) only [go_sem, Nat.reduceEqDiff, reduceIte, Nat.reduceAdd, Int.toNat_natCast, Nat.add_zero, Owes_true] <;> rfl
  rintro k t ds w1 ⟨i, hii, rfl, rfl, e0, e1, e5, hg, hall⟩
  obtain ⟨hk, hf⟩ := id hg
  by_cases hlt : (i : Int) < (vs.length : Int)
  case neg =>
    simp -dsimp -implicitDefEqProofs (maxSteps := 2000000) (disch := first | assumption | omega | (simp only [AW.next_push, AW.next_put]; omega) | ((repeat refine Fresh.push ?_ _); assumption) | (simp only [same_int, same_bool, same_ptr, same_slice, same_sliceP, same_nil, same_agg2, same_string]; done) | (simp [oneCell, AW.next_push]; done) | fail) only [go_sem, Nat.reduceEqDiff, reduceIte, Nat.reduceAdd, Int.toNat_natCast, Nat.add_zero, Owes_true, Tryz.results71, e0, e1, e5, hlt]
    refine ⟨?_, hg⟩
    have : fss.take i = fss := List.take_of_length_le (by omega)
    rw [this] at hall
    simp only [okFs, hall, Bool.and_true]
    congr 1
    exact decide_eq_decide.2 (by omega)
  have hlt' : i < vs.length := by omega
  have hri : i < fss.length := by omega
  obtain ⟨b, o, rfl, hb, hcell⟩ := hat2 i hlt'
  obtain ⟨p3, cap3, hv3, hcap3, hmax3, hat3⟩ := (hrow i vs[i] fss[i] (by simp [hlt']) (by simp [hri])).open
  have htake : fss.take (i + 1) = fss.take i ++ [fss[i]] := by rw [List.take_succ_eq_append_getElem hri]
  simp -dsimp -implicitDefEqProofs (maxSteps := 2000000) (disch := first | assumption | omega | (simp only [AW.next_push, AW.next_put]; omega) | ((repeat refine Fresh.push ?_ _); assumption) | (simp only [same_int, same_bool, same_ptr, same_slice, same_sliceP, same_nil, same_agg2, same_string]; done) | (simp [oneCell, AW.next_push]; done) | fail) only [go_sem, Nat.reduceEqDiff, reduceIte, Nat.reduceAdd, Int.toNat_natCast, Nat.add_zero, Owes_true, Tryz.results71, e0, e1, e5, hlt]
  refine loopR (fun k t ds w2 => ∃ j : Nat, j ≤ fss[i].length ∧ k = fss[i].length - j ∧ ds = [] ∧ ev t (.tmp 0) = .slice (some ⟨b, o, none⟩) vs.length cap2 ∧ ev t (.tmp 1) = .int .i64 (n : Int) ∧ ev t (.tmp 5) = .int .i64 (i : Int) ∧ ev t (.tmp 6) = .int .i64 (j : Int) ∧ Grown w w2 ∧ (fss[i].take j).all okSp = true) (fss[i].length) ?_ ?_
  · refine ⟨0, by omega, by omega, rfl, ?_, ?_, ?_, ?_, hg, rfl⟩ <;> simp -dsimp -implicitDefEqProofs (maxSteps := 2000000) (disch := first | assumption | omega | (simp only [AW.next_push, AW.next_put]; omega) | ((repeat refine Fresh.push ?_ _); assumption) | (simp only [same_int, same_bool, same_ptr, same_slice, same_sliceP, same_nil, same_agg2, same_string]; done) | (simp [oneCell, AW.next_push]; done) | fail) only [go_sem, Nat.reduceEqDiff, reduceIte, Nat.reduceAdd, Int.toNat_natCast, Nat.add_zero, Owes_true, e0, e1, e5] <;> rfl
  rintro k t ds w2 ⟨j, hij, rfl, rfl, e0, e1, e5, e6, hg2, hall2⟩
  obtain ⟨hk2, hf2⟩ := id hg2
  have hc0 := hcell w2 hk2 0 _ rfl
  rw [Nat.add_zero, hv3] at hc0
  by_cases hjt : (j : Int) < (fss[i].length : Int)
  case neg =>
    have h2 : fss[i].take j = fss[i] := List.take_of_length_le (by omega)
    rw [h2] at hall2
    by_cases hn : (fss[i].length : Int) = (n : Int)
    case neg =>
      simp -dsimp -implicitDefEqProofs (maxSteps := 2000000) (disch := first | assumption | omega | (simp only [AW.next_push, AW.next_put]; omega) | ((repeat refine Fresh.push ?_ _); assumption) | (simp only [same_int, same_bool, same_ptr, same_slice, same_sliceP, same_nil, same_agg2, same_string]; done) | (simp [oneCell, AW.next_push]; done) | fail) only [go_sem, Nat.reduceEqDiff, reduceIte, Nat.reduceAdd, Int.toNat_natCast, Nat.add_zero, Owes_true, Tryz.results71, e0, e1, e5, e6, hlt, indexV_eq, hc0, hjt, hn]
      refine ⟨?_, hg2⟩
      rw [okFs_not hri]
      have : ¬ fss[i].length = n := by omega
      simp [okF, this]
    have hjn : ¬ (j : Int) < (n : Int) := by omega
    simp -dsimp -implicitDefEqProofs (maxSteps := 2000000) (disch := first | assumption | omega | (simp only [AW.next_push, AW.next_put]; omega) | ((repeat refine Fresh.push ?_ _); assumption) | (simp only [same_int, same_bool, same_ptr, same_slice, same_sliceP, same_nil, same_agg2, same_string]; done) | (simp [oneCell, AW.next_push]; done) | fail) only [go_sem, Nat.reduceEqDiff, reduceIte, Nat.reduceAdd, Int.toNat_natCast, Nat.add_zero, Owes_true, Tryz.results71, e0, e1, e5, e6, hlt, indexV_eq, hc0, hjt, hjn, hn]
    refine ⟨_, by omega, i + 1, by omega, rfl, rfl, by (simp -dsimp -implicitDefEqProofs (maxSteps := 2000000) (disch := first | assumption | omega | (simp only [AW.next_push, AW.next_put]; omega) | ((repeat refine Fresh.push ?_ _); assumption) | (simp only [same_int, same_bool, same_ptr, same_slice, same_sliceP, same_nil, same_agg2, same_string]; done) | (simp [oneCell, AW.next_push]; done) | fail) only [go_sem, Nat.reduceEqDiff, reduceIte, Nat.reduceAdd, Int.toNat_natCast, Nat.add_zero, Owes_true, e0]; try rfl), by (simp -dsimp -implicitDefEqProofs (maxSteps := 2000000) (disch := first | assumption | omega | (simp only [AW.next_push, AW.next_put]; omega) | ((repeat refine Fresh.push ?_ _); assumption) | (simp only [same_int, same_bool, same_ptr, same_slice, same_sliceP, same_nil, same_agg2, same_string]; done) | (simp [oneCell, AW.next_push]; done) | fail) only [go_sem, Nat.reduceEqDiff, reduceIte, Nat.reduceAdd, Int.toNat_natCast, Nat.add_zero, Owes_true, e1]; try rfl), by (simp -dsimp -implicitDefEqProofs (maxSteps := 2000000) (disch := first | assumption | omega | (simp only [AW.next_push, AW.next_put]; omega) | ((repeat refine Fresh.push ?_ _); assumption) | (simp only [same_int, same_bool, same_ptr, same_slice, same_sliceP, same_nil, same_agg2, same_string]; done) | (simp [oneCell, AW.next_push]; done) | fail) only [go_sem, Nat.reduceEqDiff, reduceIte, Nat.reduceAdd, Int.toNat_natCast, Nat.add_zero, Owes_true, e5]; try rfl), hg2, ?_⟩
    have hn' : fss[i].length = n := by omega
    rw [htake, List.all_append, hall]
    simp only [okF, List.all_cons, List.all_nil, hn', hall2, decide_true, Bool.and_self]
  have hjt' : j < fss[i].length := by omega
  obtain ⟨b3, o3, rfl, hb3, hcell3⟩ := hat3 j hjt'
  have hd0 := hcell3 w2 hk2 0 _ rfl
  have hd1 := hcell3 w2 hk2 1 _ rfl
  rw [Nat.add_zero] at hd0
  have htake2 : fss[i].take (j + 1) = fss[i].take j ++ [fss[i][j]] := by rw [List.take_succ_eq_append_getElem hjt']
  have bad : okSp fss[i][j] = false → okFs n fss = false := fun h => okFs_not hri (okF_not hjt' h)
  have hO := Own.new hf2 58 [.int .i64 fss[i][j].1, .int .i64 fss[i][j].2]
  have hy1 := hO.cell (o := 1) rfl rfl
  have hy0 := hO.cell (o := 0) rfl rfl
  by_cases h2 : fss[i][j].1 < 0
  · simp -dsimp -implicitDefEqProofs (maxSteps := 2000000) (disch := first | assumption | omega | (simp only [AW.next_push, AW.next_put]; omega) | ((repeat refine Fresh.push ?_ _); assumption) | (simp only [same_int, same_bool, same_ptr, same_slice, same_sliceP, same_nil, same_agg2, same_string]; done) | (simp [oneCell, AW.next_push]; done) | fail) only [go_sem, Nat.reduceEqDiff, reduceIte, Nat.reduceAdd, Int.toNat_natCast, Nat.add_zero, Owes_true, Tryz.results71, e0, e1, e5, e6, hlt, hjt, indexV_eq, hc0, hd0, hd1, Nat.zero_add, hy0, hy1, h2]
    refine ⟨?_, hg2.push _⟩
    rw [bad]
    have : ¬ 0 ≤ fss[i][j].1 := by omega
    simp [okSp, this]
  by_cases h3 : fss[i][j].2 < fss[i][j].1
  · simp -dsimp -implicitDefEqProofs (maxSteps := 2000000) (disch := first | assumption | omega | (simp only [AW.next_push, AW.next_put]; omega) | ((repeat refine Fresh.push ?_ _); assumption) | (simp only [same_int, same_bool, same_ptr, same_slice, same_sliceP, same_nil, same_agg2, same_string]; done) | (simp [oneCell, AW.next_push]; done) | fail) only [go_sem, Nat.reduceEqDiff, reduceIte, Nat.reduceAdd, Int.toNat_natCast, Nat.add_zero, Owes_true, Tryz.results71, e0, e1, e5, e6, hlt, hjt, indexV_eq, hc0, hd0, hd1, Nat.zero_add, hy0, hy1, h2, h3]
    refine ⟨?_, hg2.push _⟩
    rw [bad]
    have : ¬ fss[i][j].1 ≤ fss[i][j].2 := by omega
    simp [okSp, this]
  by_cases h4 : 100000 < fss[i][j].2
  · simp -dsimp -implicitDefEqProofs (maxSteps := 2000000) (disch := first | assumption | omega | (simp only [AW.next_push, AW.next_put]; omega) | ((repeat refine Fresh.push ?_ _); assumption) | (simp only [same_int, same_bool, same_ptr, same_slice, same_sliceP, same_nil, same_agg2, same_string]; done) | (simp [oneCell, AW.next_push]; done) | fail) only [go_sem, Nat.reduceEqDiff, reduceIte, Nat.reduceAdd, Int.toNat_natCast, Nat.add_zero, Owes_true, Tryz.results71, e0, e1, e5, e6, hlt, hjt, indexV_eq, hc0, hd0, hd1, Nat.zero_add, hy0, hy1, h2, h3, h4]
    refine ⟨?_, hg2.push _⟩
    rw [bad]
    have : ¬ fss[i][j].2 ≤ 100000 := by omega
    simp [okSp, this]
  simp -dsimp -implicitDefEqProofs (maxSteps := 2000000) (disch := first | assumption | omega | (simp only [AW.next_push, AW.next_put]; omega) | ((repeat refine Fresh.push ?_ _); assumption) | (simp only [same_int, same_bool, same_ptr, same_slice, same_sliceP, same_nil, same_agg2, same_string]; done) | (simp [oneCell, AW.next_push]; done) | fail) only [go_sem, Nat.reduceEqDiff, reduceIte, Nat.reduceAdd, Int.toNat_natCast, Nat.add_zero, Owes_true, Tryz.results71, e0, e1, e5, e6, hlt, hjt, indexV_eq, hc0, hd0, hd1, Nat.zero_add, hy0, hy1, h2, h3, h4]
  refine ⟨_, by omega, j + 1, by omega, rfl, rfl, by (simp -dsimp -implicitDefEqProofs (maxSteps := 2000000) (disch := first | assumption | omega | (simp only [AW.next_push, AW.next_put]; omega) | ((repeat refine Fresh.push ?_ _); assumption) | (simp only [same_int, same_bool, same_ptr, same_slice, same_sliceP, same_nil, same_agg2, same_string]; done) | (simp [oneCell, AW.next_push]; done) | fail) only [go_sem, Nat.reduceEqDiff, reduceIte, Nat.reduceAdd, Int.toNat_natCast, Nat.add_zero, Owes_true, e0]; try rfl), by (simp -dsimp -implicitDefEqProofs (maxSteps := 2000000) (disch := first | assumption | omega | (simp only [AW.next_push, AW.next_put]; omega) | ((repeat refine Fresh.push ?_ _); assumption) | (simp only [same_int, same_bool, same_ptr, same_slice, same_sliceP, same_nil, same_agg2, same_string]; done) | (simp [oneCell, AW.next_push]; done) | fail) only [go_sem, Nat.reduceEqDiff, reduceIte, Nat.reduceAdd, Int.toNat_natCast, Nat.add_zero, Owes_true, e1]; try rfl), by (simp -dsimp -implicitDefEqProofs (maxSteps := 2000000) (disch := first | assumption | omega | (simp only [AW.next_push, AW.next_put]; omega) | ((repeat refine Fresh.push ?_ _); assumption) | (simp only [same_int, same_bool, same_ptr, same_slice, same_sliceP, same_nil, same_agg2, same_string]; done) | (simp [oneCell, AW.next_push]; done) | fail) only [go_sem, Nat.reduceEqDiff, reduceIte, Nat.reduceAdd, Int.toNat_natCast, Nat.add_zero, Owes_true, e5]; try rfl), by (simp -dsimp -implicitDefEqProofs (maxSteps := 2000000) (disch := first | assumption | omega | (simp only [AW.next_push, AW.next_put]; omega) | ((repeat refine Fresh.push ?_ _); assumption) | (simp only [same_int, same_bool, same_ptr, same_slice, same_sliceP, same_nil, same_agg2, same_string]; done) | (simp [oneCell, AW.next_push]; done) | fail) only [go_sem, Nat.reduceEqDiff, reduceIte, Nat.reduceAdd, Int.toNat_natCast, Nat.add_zero, Owes_true, e6]; try rfl), hg2.push _, ?_⟩
  rw [htake2, List.all_append, hall2]
  simp [okSp]; omega

theorem asked_ok (ms : List (Int × Int)) (rs : List Int) (fss : List (List (Int × Int))) (v u x : Value) (w : AW) (f : Fresh w) (hs : ArrOf w 2 mcells v ms) (hr : ArrOf w 1 icells u rs) (hF : Fks w x fss) :
    CallT Tryz.prog Tryz.T (.fn (.func 47) #[]) #[v, u, x] w (Ret (.int .i64 (askE ms [rs] fss)) (Grown w)) := by
  obtain ⟨p, cap, rfl, hcap, hmax, hat⟩ := hs.open
  refine callT_code rfl Tryz.func47 rfl Tryz.s47_eq rfl ?_
  unfold Tryz.s47
  simp -dsimp -implicitDefEqProofs (maxSteps := 2000000) (disch := first | assumption | omega | (simp only [AW.next_push, AW.next_put]; omega) | ((repeat refine Fresh.push ?_ _); assumption) | (simp only [same_int, same_bool, same_ptr, same_slice, same_sliceP, same_nil, same_agg2, same_string]; done) | (simp [oneCell, AW.next_push]; done) | fail) only [go_sem, Nat.reduceEqDiff, reduceIte, Nat.reduceAdd, Int.toNat_natCast, Nat.add_zero, Owes_true, Tryz.results47]
  apply callV_of (e := rfl)
  · exact refCheckMeasures_ok ms _ w f hs
  rintro _ w1 ⟨rfl, hg1⟩
  by_cases hM : okMs ms = true
  case neg =>
    have e : (if okMs ms = true then (0 : Int) else 12) = 12 := by rw [if_neg hM]
    have d : ¬ (12 : Int) = 0 := by omega
    simp -dsimp -implicitDefEqProofs (maxSteps := 2000000) (disch := first | assumption | omega | (simp only [AW.next_push, AW.next_put]; omega) | ((repeat refine Fresh.push ?_ _); assumption) | (simp only [same_int, same_bool, same_ptr, same_slice, same_sliceP, same_nil, same_agg2, same_string]; done) | (simp [oneCell, AW.next_push]; done) | fail) only [go_sem, Nat.reduceEqDiff, reduceIte, Nat.reduceAdd, Int.toNat_natCast, Nat.add_zero, Owes_true, Tryz.results47, e, d]
    exact ⟨by simp [askE, hM], hg1⟩
  have e : (if okMs ms = true then (0 : Int) else 12) = 0 := by rw [if_pos hM]
  simp -dsimp -implicitDefEqProofs (maxSteps := 2000000) (disch := first | assumption | omega | (simp only [AW.next_push, AW.next_put]; omega) | ((repeat refine Fresh.push ?_ _); assumption) | (simp only [same_int, same_bool, same_ptr, same_slice, same_sliceP, same_nil, same_agg2, same_string]; done) | (simp [oneCell, AW.next_push]; done) | fail) only [go_sem, Nat.reduceEqDiff, reduceIte, Nat.reduceAdd, Int.toNat_natCast, Nat.add_zero, Owes_true, Tryz.results47, e]
  apply callV_of (e := rfl)
  · exact readings_ok ms.length rs _ w1 hg1.2 (hr.grown hg1)
  rintro _ w2 ⟨rfl, hg2⟩
  have g2 := hg1.trans hg2
  cases hA : okRs ms.length rs with
  | false =>
    simp -dsimp -implicitDefEqProofs (maxSteps := 2000000) (disch := first | assumption | omega | (simp only [AW.next_push, AW.next_put]; omega) | ((repeat refine Fresh.push ?_ _); assumption) | (simp only [same_int, same_bool, same_ptr, same_slice, same_sliceP, same_nil, same_agg2, same_string]; done) | (simp [oneCell, AW.next_push]; done) | fail) only [go_sem, Nat.reduceEqDiff, reduceIte, Nat.reduceAdd, Int.toNat_natCast, Nat.add_zero, Owes_true, Tryz.results47]
    exact ⟨by simp [askE, hM, hA], g2⟩
  | true =>
  simp -dsimp -implicitDefEqProofs (maxSteps := 2000000) (disch := first | assumption | omega | (simp only [AW.next_push, AW.next_put]; omega) | ((repeat refine Fresh.push ?_ _); assumption) | (simp only [same_int, same_bool, same_ptr, same_slice, same_sliceP, same_nil, same_agg2, same_string]; done) | (simp [oneCell, AW.next_push]; done) | fail) only [go_sem, Nat.reduceEqDiff, reduceIte, Nat.reduceAdd, Int.toNat_natCast, Nat.add_zero, Owes_true, Tryz.results47]
  apply callV_of (e := rfl)
  · exact refFakes_ok ms.length fss _ w2 g2.2 (hF.grown g2)
  rintro _ w3 ⟨rfl, hg3⟩
  cases hB : okFs ms.length fss with
  | false =>
    simp -dsimp -implicitDefEqProofs (maxSteps := 2000000) (disch := first | assumption | omega | (simp only [AW.next_push, AW.next_put]; omega) | ((repeat refine Fresh.push ?_ _); assumption) | (simp only [same_int, same_bool, same_ptr, same_slice, same_sliceP, same_nil, same_agg2, same_string]; done) | (simp [oneCell, AW.next_push]; done) | fail) only [go_sem, Nat.reduceEqDiff, reduceIte, Nat.reduceAdd, Int.toNat_natCast, Nat.add_zero, Owes_true, Tryz.results47]
    exact ⟨by simp [askE, hM, hA, hB], g2.trans hg3⟩
  | true =>
    simp -dsimp -implicitDefEqProofs (maxSteps := 2000000) (disch := first | assumption | omega | (simp only [AW.next_push, AW.next_put]; omega) | ((repeat refine Fresh.push ?_ _); assumption) | (simp only [same_int, same_bool, same_ptr, same_slice, same_sliceP, same_nil, same_agg2, same_string]; done) | (simp [oneCell, AW.next_push]; done) | fail) only [go_sem, Nat.reduceEqDiff, reduceIte, Nat.reduceAdd, Int.toNat_natCast, Nat.add_zero, Owes_true, Tryz.results47]
    exact ⟨by simp [askE, hM, hA, hB], g2.trans hg3⟩

/-- Whether a measure finds what has a size within a span. -/
def find1 (m : Int × Int) (r : Int) (s : Int × Int) : Bool := decide (0 ≤ r) && (decide (r + 3 * m.1 < s.1) || decide (s.2 < r - 3 * m.1))
theorem finds_ok (m s : Int × Int) (r : Int) (hm : 0 ≤ m.1 ∧ m.1 ≤ 1000) (hr : -1 ≤ r ∧ r ≤ 100000) (hsp : okSp s = true) (w : AW) (f : Fresh w) :
    CallT Tryz.prog Tryz.T (.fn (.func 70) #[]) #[.agg #[.int .i64 m.1, .int .i64 m.2], .int .i64 r, .agg #[.int .i64 s.1, .int .i64 s.2]] w (Ret (.bool (find1 m r s)) (Grown w)) := by
  simp only [okSp, Bool.and_eq_true, decide_eq_true_eq] at hsp
  refine callT_code rfl Tryz.func70 rfl Tryz.s70_eq rfl ?_
  unfold Tryz.s70
  have g2 := ((Grown.refl f).push (.cells [.int .i64 m.1, .int .i64 m.2] 53 w.next 0 0)).push (.cells [.int .i64 s.1, .int .i64 s.2] 58 (w.push (.cells [.int .i64 m.1, .int .i64 m.2] 53 w.next 0 0)).next 0 0)
  have hA := (Own.new f 53 [.int .i64 m.1, .int .i64 m.2]).push (.cells [.int .i64 s.1, .int .i64 s.2] 58 (w.push (.cells [.int .i64 m.1, .int .i64 m.2] 53 w.next 0 0)).next 0 0)
  have hB := Own.new (f.push (.cells [.int .i64 m.1, .int .i64 m.2] 53 w.next 0 0)) 58 [.int .i64 s.1, .int .i64 s.2]
  simp only [AW.next_push] at g2 hA hB
  have a0 := hA.cell (o := 0) rfl rfl
  have b0 := hB.cell (o := 0) rfl rfl
  have b1 := hB.cell (o := 1) rfl rfl
  by_cases h1 : r = -1
  · simp -dsimp -implicitDefEqProofs (maxSteps := 2000000) (disch := first | assumption | omega | (simp only [AW.next_push, AW.next_put]; omega) | ((repeat refine Fresh.push ?_ _); assumption) | (simp only [same_int, same_bool, same_ptr, same_slice, same_sliceP, same_nil, same_agg2, same_string]; done) | (simp [oneCell, AW.next_push]; done) | fail) only [go_sem, Nat.reduceEqDiff, reduceIte, Nat.reduceAdd, Int.toNat_natCast, Nat.add_zero, Owes_true, Tryz.results70, h1]
    refine ⟨?_, g2⟩
    subst h1; rfl
  simp -dsimp -implicitDefEqProofs (maxSteps := 2000000) (disch := first | assumption | omega | (simp only [AW.next_push, AW.next_put]; omega) | ((repeat refine Fresh.push ?_ _); assumption) | (simp only [same_int, same_bool, same_ptr, same_slice, same_sliceP, same_nil, same_agg2, same_string]; done) | (simp [oneCell, AW.next_push]; done) | fail) only [go_sem, Nat.reduceEqDiff, reduceIte, Nat.reduceAdd, Int.toNat_natCast, Nat.add_zero, Owes_true, Tryz.results70, h1, Nat.zero_add, a0, b0, b1]
  apply callV_of (e := rfl)
  · exact around_ok _ _ (by omega) (by omega) _ g2.2
  rintro _ w1 ⟨rfl, hg1⟩
  have hle1 := hg1.1.wle g2.2
  simp -dsimp -implicitDefEqProofs (maxSteps := 2000000) (disch := first | assumption | omega | (simp only [AW.next_push, AW.next_put]; omega) | ((repeat refine Fresh.push ?_ _); assumption) | (simp only [same_int, same_bool, same_ptr, same_slice, same_sliceP, same_nil, same_agg2, same_string]; done) | (simp [oneCell, AW.next_push]; done) | fail) only [go_sem, Nat.reduceEqDiff, reduceIte, Nat.reduceAdd, Int.toNat_natCast, Nat.add_zero, Owes_true, Tryz.results70]
  apply callV_of (e := rfl)
  · exact meet_ok _ _ _ _ w1 hg1.2
  rintro _ w2 ⟨rfl, hg2⟩
  have hle2 := hg2.1.wle hg1.2
  simp -dsimp -implicitDefEqProofs (maxSteps := 2000000) (disch := first | assumption | omega | (simp only [AW.next_push, AW.next_put]; omega) | ((repeat refine Fresh.push ?_ _); assumption) | (simp only [same_int, same_bool, same_ptr, same_slice, same_sliceP, same_nil, same_agg2, same_string]; done) | (simp [oneCell, AW.next_push]; done) | fail) only [go_sem, Nat.reduceEqDiff, reduceIte, Nat.reduceAdd, Int.toNat_natCast, Nat.add_zero, Owes_true, Tryz.results70]
  apply callV_of (e := rfl)
  · exact isEmpty_ok _ _ w2 hg2.2
  rintro _ w3 ⟨rfl, hg3⟩
  have hle3 := hg3.1.wle hg2.2
  simp -dsimp -implicitDefEqProofs (maxSteps := 2000000) (disch := first | assumption | omega | (simp only [AW.next_push, AW.next_put]; omega) | ((repeat refine Fresh.push ?_ _); assumption) | (simp only [same_int, same_bool, same_ptr, same_slice, same_sliceP, same_nil, same_agg2, same_string]; done) | (simp [oneCell, AW.next_push]; done) | fail) only [go_sem, Nat.reduceEqDiff, reduceIte, Nat.reduceAdd, Int.toNat_natCast, Nat.add_zero, Owes_true, Tryz.results70]
  refine ⟨?_, ((g2.trans hg1).trans hg2).trans hg3⟩
  congr 1
  rw [find1, Bool.eq_iff_iff]
  simp only [decide_eq_true_eq, Bool.and_eq_true, Bool.or_eq_true]
  omega
theorem refFinds_ok (m s : Int × Int) (r : Int) (hm : 0 ≤ m.1 ∧ m.1 ≤ 1000) (hr : -1 ≤ r ∧ r ≤ 100000) (w : AW) (f : Fresh w) :
    CallT Tryz.prog Tryz.T (.fn (.func 48) #[]) #[.agg #[.int .i64 m.1, .int .i64 m.2], .int .i64 r, .agg #[.int .i64 s.1, .int .i64 s.2]] w (Ret (.bool (find1 m r s)) (Grown w)) := by
  refine callT_code rfl Tryz.func48 rfl Tryz.s48_eq rfl ?_
  unfold Tryz.s48
  have g2 := ((Grown.refl f).push (.cells [.int .i64 m.1, .int .i64 m.2] 53 w.next 0 0)).push (.cells [.int .i64 s.1, .int .i64 s.2] 58 (w.push (.cells [.int .i64 m.1, .int .i64 m.2] 53 w.next 0 0)).next 0 0)
  have hA := (Own.new f 53 [.int .i64 m.1, .int .i64 m.2]).push (.cells [.int .i64 s.1, .int .i64 s.2] 58 (w.push (.cells [.int .i64 m.1, .int .i64 m.2] 53 w.next 0 0)).next 0 0)
  have hB := Own.new (f.push (.cells [.int .i64 m.1, .int .i64 m.2] 53 w.next 0 0)) 58 [.int .i64 s.1, .int .i64 s.2]
  simp only [AW.next_push] at g2 hA hB
  have a0 := hA.cell (o := 0) rfl rfl
  have b0 := hB.cell (o := 0) rfl rfl
  have b1 := hB.cell (o := 1) rfl rfl
  by_cases h1 : 0 ≤ r
  case neg =>
    simp -dsimp -implicitDefEqProofs (maxSteps := 2000000) (disch := first | assumption | omega | (simp only [AW.next_push, AW.next_put]; omega) | ((repeat refine Fresh.push ?_ _); assumption) | (simp only [same_int, same_bool, same_ptr, same_slice, same_sliceP, same_nil, same_agg2, same_string]; done) | (simp [oneCell, AW.next_push]; done) | fail) only [go_sem, Nat.reduceEqDiff, reduceIte, Nat.reduceAdd, Int.toNat_natCast, Nat.add_zero, Owes_true, Tryz.results48, h1]
    exact ⟨by simp [find1, h1], g2⟩
  by_cases h2 : r + 3 * m.1 < s.1
  · simp -dsimp -implicitDefEqProofs (maxSteps := 2000000) (disch := first | assumption | omega | (simp only [AW.next_push, AW.next_put]; omega) | ((repeat refine Fresh.push ?_ _); assumption) | (simp only [same_int, same_bool, same_ptr, same_slice, same_sliceP, same_nil, same_agg2, same_string]; done) | (simp [oneCell, AW.next_push]; done) | fail) only [go_sem, Nat.reduceEqDiff, reduceIte, Nat.reduceAdd, Int.toNat_natCast, Nat.add_zero, Owes_true, Tryz.results48, h1, Nat.zero_add, a0, b0, b1, h2]
    exact ⟨by simp [find1, h1, h2], g2⟩
  simp -dsimp -implicitDefEqProofs (maxSteps := 2000000) (disch := first | assumption | omega | (simp only [AW.next_push, AW.next_put]; omega) | ((repeat refine Fresh.push ?_ _); assumption) | (simp only [same_int, same_bool, same_ptr, same_slice, same_sliceP, same_nil, same_agg2, same_string]; done) | (simp [oneCell, AW.next_push]; done) | fail) only [go_sem, Nat.reduceEqDiff, reduceIte, Nat.reduceAdd, Int.toNat_natCast, Nat.add_zero, Owes_true, Tryz.results48, h1, Nat.zero_add, a0, b0, b1, h2]
  exact ⟨by simp [find1, h1, h2], g2⟩
end Go.Proofs

/- Finds, in both versions; lists of numbers compared. -/
namespace Go.Proofs
open Go Go.RowKit Go.Sim
set_option maxRecDepth 100000
theorem icells_len (x : Int) : (icells x).length = 1 := rfl
theorem icells_one (x : Int) : ∀ v ∈ icells x, oneCell v = true := by intro v hv; simp [icells] at hv; subst hv; rfl
/-- A slice in blocks that are new. -/
def NewS (B : Nat) (v : Value) : Prop := ∀ b o n c, v = .slice (some ⟨b, o, none⟩) n c → B ≤ b
theorem AOwn.newS {B : Nat} {w : AW} {e : TypeId} {size n : Nat} {v : Value} {cells : List Value} (h : AOwn B w e size v n cells) : NewS B v := by
  intro b o n c q
  rcases h with ⟨rfl, _⟩ | ⟨b', r, rfl, h, _⟩
  · cases q
  · injection q with q; injection q with q; injection q with q; omega
/-- A list of numbers is returned, in new memory. -/
def IntsPost (L : List Int) (w : AW) (v : Value) (w' : AW) : Prop := ArrOf w' 1 icells v L ∧ Grown w w' ∧ NewS w.next v
def foundTo (ms : List (Int × Int)) (rs : List Int) (fs : List (Int × Int)) (n : Nat) : List Int := ((List.range n).filter fun i => find1 (ms.getD i (0, 0)) (rs.getD i 0) (fs.getD i (0, 0))).map fun (i : Nat) => (i : Int)
theorem foundTo_succ (ms : List (Int × Int)) (rs : List Int) (fs : List (Int × Int)) (n : Nat) : foundTo ms rs fs (n + 1) = foundTo ms rs fs n ++ (if find1 (ms.getD n (0, 0)) (rs.getD n 0) (fs.getD n (0, 0)) = true then [(n : Int)] else []) := by
  simp only [foundTo, List.range_succ, List.filter_append, List.map_append]
  congr 1
  cases h : find1 (ms.getD n (0, 0)) (rs.getD n 0) (fs.getD n (0, 0)) <;> simp only [List.filter_cons, List.filter_nil, h] <;> rfl
theorem foundTo_len (ms : List (Int × Int)) (rs : List Int) (fs : List (Int × Int)) (n : Nat) : (foundTo ms rs fs n).length ≤ n := by
  simp only [foundTo, List.length_map]
  exact Nat.le_trans (List.length_filter_le _ _) (by simp)
theorem getD_at {α : Type} {l : List α} {i : Nat} {d : α} (h : i < l.length) : l.getD i d = l[i] := by
  simp only [List.getD_eq_getElem?_getD, List.getElem?_eq_getElem h, Option.getD_some]
structure Good (ms : List (Int × Int)) (rs : List Int) : Prop where
  len : ms.length ≤ 8
  len1 : 1 ≤ ms.length
  tol : ∀ m ∈ ms, 0 ≤ m.1 ∧ m.1 ≤ 1000
  lab : ∀ m ∈ ms, 1 ≤ m.2 ∧ m.2 ≤ 1000
  rlen : rs.length = ms.length
  rd : ∀ r ∈ rs, -1 ≤ r ∧ r ≤ 100000
theorem good_of {ms : List (Int × Int)} {rs : List Int} (hM : okMs ms = true) (hR : okRs ms.length rs = true) : Good ms rs := by
  simp only [okMs, Bool.and_eq_true, decide_eq_true_eq, List.all_eq_true] at hM
  simp only [okRs, Bool.and_eq_true, decide_eq_true_eq, List.all_eq_true] at hR
  have key : ∀ m ∈ ms, (0 ≤ m.1 ∧ m.1 ≤ 1000) ∧ 1 ≤ m.2 ∧ m.2 ≤ 1000 := fun m hm => by
    have := hM.2 m hm
    simp only [okM, Bool.and_eq_true] at this
    exact ⟨(inR_iff _ _ _).1 this.1, (inR_iff _ _ _).1 this.2⟩
  exact ⟨hM.1.2, hM.1.1, fun m hm => (key m hm).1, fun m hm => (key m hm).2, hR.1, fun r hr => (inR_iff _ _ _).1 (hR.2 r hr)⟩
theorem askE_zero {ms : List (Int × Int)} {rs : List Int} {fss : List (List (Int × Int))} (h : askE ms [rs] fss = 0) : Good ms rs ∧ fss.length ≤ 10 ∧ ∀ fs ∈ fss, fs.length = ms.length ∧ ∀ s ∈ fs, okSp s = true := by
  by_cases hM : okMs ms = true
  case neg => simp [askE, hM] at h
  by_cases hR : okRs ms.length rs = true
  case neg => simp [askE, hM, hR] at h
  by_cases hF : okFs ms.length fss = true
  case neg => simp [askE, hM, hR, hF] at h
  refine ⟨good_of hM hR, ?_⟩
  simp only [okFs, Bool.and_eq_true, decide_eq_true_eq, List.all_eq_true] at hF
  refine ⟨hF.1, fun fs hfs => ?_⟩
  have := hF.2 fs hfs
  simp only [okF, Bool.and_eq_true, decide_eq_true_eq, List.all_eq_true] at this
  exact this
theorem rows1 {w : AW} {xs : List Int} {t : Value} (f : Fresh w) (ht : ArrOf w 1 icells t xs) : Rows (w.push (.cells [t] 24 w.next 0 0)) (.slice (some ⟨w.next, 0, none⟩) 1 1) [xs] := by
  have hg : Grown w (w.push (.cells [t] 24 w.next 0 0)) := (Grown.refl f).push _
  have hO := Own.new f 24 [t]
  refine ⟨[t], rfl, ?_, ?_⟩
  · refine ⟨_, 1, 1, rfl, rfl, Nat.le_refl _, by omega, fun _ => ⟨w.next, 0, rfl, hO.lt, fun i j row x hi hx => ?_⟩⟩
    match i, j with
    | 0, 0 => simp [vcells] at hi; subst hi; simp at hx; subst hx; exact hO.cell rfl ht.oneCell
    | 0, j + 1 => simp [vcells] at hi; subst hi; simp at hx
    | i + 1, j => simp at hi
  · intro i v rs hv hr
    match i with
    | 0 => simp at hv hr; subst hv hr; exact ht.grown hg
    | (i + 1) => simp at hv
theorem fks1 {w : AW} {xs : List (Int × Int)} {t : Value} (f : Fresh w) (ht : ArrOf w 2 mcells t xs) : Fks (w.push (.cells [t] 40 w.next 0 0)) (.slice (some ⟨w.next, 0, none⟩) 1 1) [xs] := by
  have hg : Grown w (w.push (.cells [t] 40 w.next 0 0)) := (Grown.refl f).push _
  have hO := Own.new f 40 [t]
  refine ⟨[t], rfl, ?_, ?_⟩
  · refine ⟨_, 1, 1, rfl, rfl, Nat.le_refl _, by omega, fun _ => ⟨w.next, 0, rfl, hO.lt, fun i j row x hi hx => ?_⟩⟩
    match i, j with
    | 0, 0 => simp [vcells] at hi; subst hi; simp at hx; subst hx; exact hO.cell rfl ht.oneCell
    | 0, j + 1 => simp [vcells] at hi; subst hi; simp at hx
    | i + 1, j => simp at hi
  · intro i v rs hv hr
    match i with
    | 0 => simp at hv hr; subst hv hr; exact ht.grown hg
    | (i + 1) => simp at hv
set_option maxHeartbeats 1000000 in
theorem finders_ok (ms : List (Int × Int)) (rs : List Int) (fs : List (Int × Int)) (v u x : Value) (w : AW) (f : Fresh w) (hs : ArrOf w 2 mcells v ms) (hr : ArrOf w 1 icells u rs) (hF : ArrOf w 2 mcells x fs)
    (hG : Good ms rs) (hfl : fs.length = ms.length) (hsp : ∀ s ∈ fs, okSp s = true) :
    CallT Tryz.prog Tryz.T (.fn (.func 46) #[]) #[v, u, .agg #[x]] w (IntsPost (foundTo ms rs fs ms.length) w) := by
  have hx1 := hF.oneCell
  obtain ⟨p, cap, rfl, hcap, hmax, hat⟩ := hs.open
  obtain ⟨q, cap2, rfl, hcap2, hmax2, hat2⟩ := hr.open
  obtain ⟨r, cap3, rfl, hcap3, hmax3, hat3⟩ := hF.open
  refine callT_code rfl Tryz.func46 rfl Tryz.s46_eq rfl ?_
  unfold Tryz.s46
  simp -dsimp -implicitDefEqProofs (maxSteps := 2000000) (disch := first | assumption | omega | (simp only [AW.next_push, AW.next_put]; omega) | ((repeat refine Fresh.push ?_ _); assumption) | (simp only [same_int, same_bool, same_ptr, same_slice, same_sliceP, same_nil, same_agg2, same_string]; done) | (simp [oneCell, AW.next_push]; done) | fail) only [go_sem, Nat.reduceEqDiff, reduceIte, Nat.reduceAdd, Int.toNat_natCast, Nat.add_zero, Owes_true, Tryz.results46]
  refine loopR (fun k t ds w1 => ∃ i : Nat, i ≤ ms.length ∧ k = ms.length - i ∧ ds = [] ∧ ev t (.tmp 1) = .slice q rs.length cap2 ∧ ev t (.tmp 5) = .pointer (some ⟨w.next, 0, none⟩) ∧ ev t (.tmp 10) = .slice p ms.length cap ∧ ev t (.tmp 11) = .int .i64 (ms.length : Int) ∧ ev t (.tmp 12) = .int .i64 (i : Int) ∧ Own w1 w.next 40 [.slice r fs.length cap3] ∧ (∃ s, ev t (.tmp 7) = s ∧ AOwn (w.next + 1) w1 3 1 s (foundTo ms rs fs i).length ((foundTo ms rs fs i).flatMap icells)) ∧ Grown w w1) (ms.length) ?_ ?_
  · refine ⟨0, by omega, by omega, rfl, ?_, ?_, ?_, ?_, ?_, Own.new f _ _, ⟨.slice none 0 0, by simp -dsimp -implicitDefEqProofs (maxSteps := 2000000) (disch := first | assumption | omega | (simp only [AW.next_push, AW.next_put]; omega) | ((repeat refine Fresh.push ?_ _); assumption) | (simp only [same_int, same_bool, same_ptr, same_slice, same_sliceP, same_nil, same_agg2, same_string]; done) | (simp [oneCell, AW.next_push]; done) | fail) only [go_sem, Nat.reduceEqDiff, reduceIte, Nat.reduceAdd, Int.toNat_natCast, Nat.add_zero, Owes_true], .inl ⟨rfl, rfl, rfl⟩⟩, (Grown.refl f).push _⟩ <;> simp -dsimp -implicitDefEqProofs (maxSteps := 2000000) (disch := first | assumption | omega | (simp only [AW.next_push, AW.next_put]; omega) | ((repeat refine Fresh.push ?_ _); assumption) | (simp only [same_int, same_bool, same_ptr, same_slice, same_sliceP, same_nil, same_agg2, same_string]; done) | (simp [oneCell, AW.next_push]; done) | fail) only [go_sem, Nat.reduceEqDiff, reduceIte, Nat.reduceAdd, Int.toNat_natCast, Nat.add_zero, Owes_true] <;> rfl
  rintro k t ds w1 ⟨i, hii, rfl, rfl, e1, e5, e10, e11, e12, hO, hA, hg⟩
  obtain ⟨s, e7, hA⟩ := hA
  obtain ⟨hk, hf⟩ := id hg
  by_cases hlt : (i : Int) < (ms.length : Int)
  case neg =>
    obtain rfl : i = ms.length := by omega
    simp -dsimp -implicitDefEqProofs (maxSteps := 2000000) (disch := first | assumption | omega | (simp only [AW.next_push, AW.next_put]; omega) | ((repeat refine Fresh.push ?_ _); assumption) | (simp only [same_int, same_bool, same_ptr, same_slice, same_sliceP, same_nil, same_agg2, same_string]; done) | (simp [oneCell, AW.next_push]; done) | fail) only [go_sem, Nat.reduceEqDiff, reduceIte, Nat.reduceAdd, Int.toNat_natCast, Nat.add_zero, Owes_true, Tryz.results46, e1, e5, e7, e10, e11, e12, hlt]
    exact ⟨hA.arr icells_len (by have := foundTo_len ms rs fs ms.length; have := hG.len; omega), hg, fun b o n c q => Nat.le_of_succ_le (AOwn.newS hA b o n c q)⟩
  have hlt' : i < ms.length := by omega
  have hltr : i < rs.length := by have := hG.rlen; omega
  have hltf : i < fs.length := by omega
  have hltr' : (i : Int) < (rs.length : Int) := by omega
  have hltf' : (i : Int) < (fs.length : Int) := by omega
  obtain ⟨b1, o1, rfl, hb1, hcell⟩ := hat i hlt'
  obtain ⟨b2, o2, rfl, hb2, hcell2⟩ := hat2 i hltr
  obtain ⟨b3, o3, rfl, hb3, hcell3⟩ := hat3 i hltf
  have hc0 := hcell w1 hk 0 _ rfl
  have hc1 := hcell w1 hk 1 _ rfl
  have hgp := hg.push (.cells [.int .i64 ms[i].1, .int .i64 ms[i].2] 53 w1.next 0 0)
  have hkp := hgp.1
  have hx0 := hcell2 _ hkp 0 _ rfl
  have hy0 := hcell3 _ hkp 0 _ rfl
  have hy1 := hcell3 _ hkp 1 _ rfl
  rw [Nat.add_zero] at hc0 hx0 hy0
  have hOp := hO.push (.cells [.int .i64 ms[i].1, .int .i64 ms[i].2] 53 w1.next 0 0)
  have hz0 := hOp.cell (o := 0) rfl rfl
  have hT := Own.new hf 53 [.int .i64 ms[i].1, .int .i64 ms[i].2]
  have ht0 := hT.cell (o := 0) rfl rfl
  have ht1 := hT.cell (o := 1) rfl rfl
  have hfind : find1 (ms.getD i (0, 0)) (rs.getD i 0) (fs.getD i (0, 0)) = find1 ms[i] rs[i] fs[i] := by rw [getD_at hlt', getD_at hltr, getD_at hltf]
  simp -dsimp -implicitDefEqProofs (maxSteps := 2000000) (disch := first | assumption | omega | (simp only [AW.next_push, AW.next_put]; omega) | ((repeat refine Fresh.push ?_ _); assumption) | (simp only [same_int, same_bool, same_ptr, same_slice, same_sliceP, same_nil, same_agg2, same_string]; done) | (simp [oneCell, AW.next_push]; done) | fail) only [go_sem, Nat.reduceEqDiff, reduceIte, Nat.reduceAdd, Int.toNat_natCast, Nat.add_zero, Owes_true, Tryz.results46, e1, e5, e10, e11, e12, hlt, hltr', hltf', indexV_eq, Nat.zero_add, hc0, hc1, hx0, hy0, hy1, hz0, ht0, ht1]
  apply callV_of (e := rfl)
  · exact finds_ok ms[i] fs[i] rs[i] (hG.tol _ (List.getElem_mem hlt')) (hG.rd _ (List.getElem_mem hltr)) (hsp _ (List.getElem_mem hltf)) _ hgp.2
  rintro _ w2 ⟨rfl, hg2⟩
  have hle := hg2.1.wle hgp.2
  have hO2 := hOp.keep hg2.1
  have hA2 := (hA.keep ((Keep.refl w1.next w1).push (Nat.le_refl _) (.cells [.int .i64 ms[i].1, .int .i64 ms[i].2] 53 w1.next 0 0)) (Nat.le_refl _)).keep hg2.1 (Nat.le_refl _)
  have g2 := hgp.trans hg2
  cases hB : find1 ms[i] rs[i] fs[i] with
  | false =>
    simp -dsimp -implicitDefEqProofs (maxSteps := 2000000) (disch := first | assumption | omega | (simp only [AW.next_push, AW.next_put]; omega) | ((repeat refine Fresh.push ?_ _); assumption) | (simp only [same_int, same_bool, same_ptr, same_slice, same_sliceP, same_nil, same_agg2, same_string]; done) | (simp [oneCell, AW.next_push]; done) | fail) only [go_sem, Nat.reduceEqDiff, reduceIte, Nat.reduceAdd, Int.toNat_natCast, Nat.add_zero, Owes_true, Tryz.results46, e1, e5, e7, e10, e11, e12]
    have hnext : foundTo ms rs fs (i + 1) = foundTo ms rs fs i := by rw [foundTo_succ, hfind, hB]; simp
    refine ⟨_, by omega, i + 1, by omega, rfl, rfl, by (simp -dsimp -implicitDefEqProofs (maxSteps := 2000000) (disch := first | assumption | omega | (simp only [AW.next_push, AW.next_put]; omega) | ((repeat refine Fresh.push ?_ _); assumption) | (simp only [same_int, same_bool, same_ptr, same_slice, same_sliceP, same_nil, same_agg2, same_string]; done) | (simp [oneCell, AW.next_push]; done) | fail) only [go_sem, Nat.reduceEqDiff, reduceIte, Nat.reduceAdd, Int.toNat_natCast, Nat.add_zero, Owes_true, e1]; try rfl), by (simp -dsimp -implicitDefEqProofs (maxSteps := 2000000) (disch := first | assumption | omega | (simp only [AW.next_push, AW.next_put]; omega) | ((repeat refine Fresh.push ?_ _); assumption) | (simp only [same_int, same_bool, same_ptr, same_slice, same_sliceP, same_nil, same_agg2, same_string]; done) | (simp [oneCell, AW.next_push]; done) | fail) only [go_sem, Nat.reduceEqDiff, reduceIte, Nat.reduceAdd, Int.toNat_natCast, Nat.add_zero, Owes_true, e5]; try rfl), by (simp -dsimp -implicitDefEqProofs (maxSteps := 2000000) (disch := first | assumption | omega | (simp only [AW.next_push, AW.next_put]; omega) | ((repeat refine Fresh.push ?_ _); assumption) | (simp only [same_int, same_bool, same_ptr, same_slice, same_sliceP, same_nil, same_agg2, same_string]; done) | (simp [oneCell, AW.next_push]; done) | fail) only [go_sem, Nat.reduceEqDiff, reduceIte, Nat.reduceAdd, Int.toNat_natCast, Nat.add_zero, Owes_true, e10]; try rfl), by (simp -dsimp -implicitDefEqProofs (maxSteps := 2000000) (disch := first | assumption | omega | (simp only [AW.next_push, AW.next_put]; omega) | ((repeat refine Fresh.push ?_ _); assumption) | (simp only [same_int, same_bool, same_ptr, same_slice, same_sliceP, same_nil, same_agg2, same_string]; done) | (simp [oneCell, AW.next_push]; done) | fail) only [go_sem, Nat.reduceEqDiff, reduceIte, Nat.reduceAdd, Int.toNat_natCast, Nat.add_zero, Owes_true, e11]; try rfl), by (simp -dsimp -implicitDefEqProofs (maxSteps := 2000000) (disch := first | assumption | omega | (simp only [AW.next_push, AW.next_put]; omega) | ((repeat refine Fresh.push ?_ _); assumption) | (simp only [same_int, same_bool, same_ptr, same_slice, same_sliceP, same_nil, same_agg2, same_string]; done) | (simp [oneCell, AW.next_push]; done) | fail) only [go_sem, Nat.reduceEqDiff, reduceIte, Nat.reduceAdd, Int.toNat_natCast, Nat.add_zero, Owes_true, e12]; try rfl), hO2, ⟨s, by simp -dsimp -implicitDefEqProofs (maxSteps := 2000000) (disch := first | assumption | omega | (simp only [AW.next_push, AW.next_put]; omega) | ((repeat refine Fresh.push ?_ _); assumption) | (simp only [same_int, same_bool, same_ptr, same_slice, same_sliceP, same_nil, same_agg2, same_string]; done) | (simp [oneCell, AW.next_push]; done) | fail) only [go_sem, Nat.reduceEqDiff, reduceIte, Nat.reduceAdd, Int.toNat_natCast, Nat.add_zero, Owes_true, e7], by rw [hnext]; exact hA2⟩, g2⟩
  | true =>
    have hlen := foundTo_len ms rs fs i
    have h8 := hG.len
    have hn2 := g2.1.next
    have hlt2 := hO2.lt
    obtain ⟨s', w3, happ, hA3, hk3, hf3, hn3⟩ := append_one (e' := 3) Tryz.ty24 Tryz.ty3 rfl (by omega) (by omega) hA2 g2.2 (by omega) (icells_len (i : Int)) (icells_one _) (by omega)
    simp only [icells] at happ
    have hnext : foundTo ms rs fs (i + 1) = foundTo ms rs fs i ++ [(i : Int)] := by rw [foundTo_succ, hfind, hB]; simp
    simp -dsimp -implicitDefEqProofs (maxSteps := 2000000) (disch := first | assumption | omega | (simp only [AW.next_push, AW.next_put]; omega) | ((repeat refine Fresh.push ?_ _); assumption) | (simp only [same_int, same_bool, same_ptr, same_slice, same_sliceP, same_nil, same_agg2, same_string]; done) | (simp [oneCell, AW.next_push]; done) | fail) only [go_sem, Nat.reduceEqDiff, reduceIte, Nat.reduceAdd, Int.toNat_natCast, Nat.add_zero, Owes_true, Tryz.results46, e1, e5, e7, e10, e11, e12, happ]
    refine ⟨_, by omega, i + 1, by omega, rfl, rfl, by (simp -dsimp -implicitDefEqProofs (maxSteps := 2000000) (disch := first | assumption | omega | (simp only [AW.next_push, AW.next_put]; omega) | ((repeat refine Fresh.push ?_ _); assumption) | (simp only [same_int, same_bool, same_ptr, same_slice, same_sliceP, same_nil, same_agg2, same_string]; done) | (simp [oneCell, AW.next_push]; done) | fail) only [go_sem, Nat.reduceEqDiff, reduceIte, Nat.reduceAdd, Int.toNat_natCast, Nat.add_zero, Owes_true, e1]; try rfl), by (simp -dsimp -implicitDefEqProofs (maxSteps := 2000000) (disch := first | assumption | omega | (simp only [AW.next_push, AW.next_put]; omega) | ((repeat refine Fresh.push ?_ _); assumption) | (simp only [same_int, same_bool, same_ptr, same_slice, same_sliceP, same_nil, same_agg2, same_string]; done) | (simp [oneCell, AW.next_push]; done) | fail) only [go_sem, Nat.reduceEqDiff, reduceIte, Nat.reduceAdd, Int.toNat_natCast, Nat.add_zero, Owes_true, e5]; try rfl), by (simp -dsimp -implicitDefEqProofs (maxSteps := 2000000) (disch := first | assumption | omega | (simp only [AW.next_push, AW.next_put]; omega) | ((repeat refine Fresh.push ?_ _); assumption) | (simp only [same_int, same_bool, same_ptr, same_slice, same_sliceP, same_nil, same_agg2, same_string]; done) | (simp [oneCell, AW.next_push]; done) | fail) only [go_sem, Nat.reduceEqDiff, reduceIte, Nat.reduceAdd, Int.toNat_natCast, Nat.add_zero, Owes_true, e10]; try rfl), by (simp -dsimp -implicitDefEqProofs (maxSteps := 2000000) (disch := first | assumption | omega | (simp only [AW.next_push, AW.next_put]; omega) | ((repeat refine Fresh.push ?_ _); assumption) | (simp only [same_int, same_bool, same_ptr, same_slice, same_sliceP, same_nil, same_agg2, same_string]; done) | (simp [oneCell, AW.next_push]; done) | fail) only [go_sem, Nat.reduceEqDiff, reduceIte, Nat.reduceAdd, Int.toNat_natCast, Nat.add_zero, Owes_true, e11]; try rfl), by (simp -dsimp -implicitDefEqProofs (maxSteps := 2000000) (disch := first | assumption | omega | (simp only [AW.next_push, AW.next_put]; omega) | ((repeat refine Fresh.push ?_ _); assumption) | (simp only [same_int, same_bool, same_ptr, same_slice, same_sliceP, same_nil, same_agg2, same_string]; done) | (simp [oneCell, AW.next_push]; done) | fail) only [go_sem, Nat.reduceEqDiff, reduceIte, Nat.reduceAdd, Int.toNat_natCast, Nat.add_zero, Owes_true, e12]; try rfl), hO2.keepC hk3 (by omega), ⟨s', by simp -dsimp -implicitDefEqProofs (maxSteps := 2000000) (disch := first | assumption | omega | (simp only [AW.next_push, AW.next_put]; omega) | ((repeat refine Fresh.push ?_ _); assumption) | (simp only [same_int, same_bool, same_ptr, same_slice, same_sliceP, same_nil, same_agg2, same_string]; done) | (simp [oneCell, AW.next_push]; done) | fail) only [go_sem, Nat.reduceEqDiff, reduceIte, Nat.reduceAdd, Int.toNat_natCast, Nat.add_zero, Owes_true], by rw [hnext, List.length_append, List.flatMap_append]; simpa using hA3⟩, ⟨g2.1.trans (hk3.mono (Nat.le_succ _)), hf3⟩⟩

/-- What both Finds come to. -/
def findsE (ms : List (Int × Int)) (rs : List Int) (fs : List (Int × Int)) : List Int := if askE ms [rs] [fs] = 0 then foundTo ms rs fs ms.length else []
def FindsPost (ms : List (Int × Int)) (rs : List Int) (fs : List (Int × Int)) (w : AW) (v : Value) (w' : AW) : Prop :=
  ∃ s, v = .tuple #[s, .int .i64 (askE ms [rs] [fs])] ∧ ArrOf w' 1 icells s (findsE ms rs fs) ∧ Grown w w'
theorem FindsPost.err {ms : List (Int × Int)} {rs : List Int} {fs : List (Int × Int)} {w w' : AW} (h0 : askE ms [rs] [fs] ≠ 0) (g : Grown w w') : FindsPost ms rs fs w (.tuple #[.slice none 0 0, .int .i64 (askE ms [rs] [fs])]) w' := by
  refine ⟨_, rfl, ?_, g⟩
  rw [findsE, if_neg h0]
  exact ArrOf.nil _ _ _
set_option maxHeartbeats 1000000 in
theorem Finds_ok (ms : List (Int × Int)) (rs : List Int) (fs : List (Int × Int)) (v u x : Value) (w : AW) (f : Fresh w) (hs : ArrOf w 2 mcells v ms) (hr : ArrOf w 1 icells u rs) (hF : ArrOf w 2 mcells x fs) :
    CallT Tryz.prog Tryz.T (.fn (.func 17) #[]) #[v, u, .agg #[x]] w (FindsPost ms rs fs w) := by
  have hx1 := hF.oneCell
  obtain ⟨q, cap2, rfl, hcap2, hmax2, hat2⟩ := hr.open
  obtain ⟨r, cap3, rfl, hcap3, hmax3, hat3⟩ := hF.open
  have g1 := (Grown.refl f).push (.cells [.slice r fs.length cap3] 40 w.next 0 0)
  have hO := Own.new f 40 [.slice r fs.length cap3]
  have hz0 := hO.cell (o := 0) rfl hx1
  have hfk := fks1 g1.2 (hF.grown g1)
  have g2 := g1.push (.cells [.slice r fs.length cap3] 40 (w.next + 1) 0 0)
  simp only [AW.next_push] at hfk
  have hrw := rows1 g2.2 (hr.grown g2)
  have g3 := g2.push (.cells [.slice q rs.length cap2] 24 (w.next + 1 + 1) 0 0)
  simp only [AW.next_push] at hrw
  have hO3 := (hO.push (.cells [.slice r fs.length cap3] 40 (w.next + 1) 0 0)).push (.cells [.slice q rs.length cap2] 24 (w.next + 1 + 1) 0 0)
  refine callT_code rfl Tryz.func17 rfl Tryz.s17_eq rfl ?_
  unfold Tryz.s17
  simp -dsimp -implicitDefEqProofs (maxSteps := 2000000) (disch := first | assumption | omega | (simp only [AW.next_push, AW.next_put]; omega) | ((repeat refine Fresh.push ?_ _); assumption) | (simp only [same_int, same_bool, same_ptr, same_slice, same_sliceP, same_nil, same_agg2, same_string]; done) | (simp [oneCell, AW.next_push]; done) | fail) only [go_sem, Nat.reduceEqDiff, reduceIte, Nat.reduceAdd, Int.toNat_natCast, Nat.add_zero, Owes_true, Tryz.results17, Nat.zero_add, hz0]
  apply callV_of (e := rfl)
  · exact checkF_ok ms [rs] [fs] v _ _ _ g3.2 (hs.grown g3) (hfk.grown ⟨(Keep.refl _ _).push (by simp only [AW.next_push]; omega) _, g3.2⟩) hrw
  rintro _ w1 ⟨rfl, hg1⟩
  have g4 := g3.trans hg1
  by_cases hE : askE ms [rs] [fs] = 0
  case neg =>
    simp -dsimp -implicitDefEqProofs (maxSteps := 2000000) (disch := first | assumption | omega | (simp only [AW.next_push, AW.next_put]; omega) | ((repeat refine Fresh.push ?_ _); assumption) | (simp only [same_int, same_bool, same_ptr, same_slice, same_sliceP, same_nil, same_agg2, same_string]; done) | (simp [oneCell, AW.next_push]; done) | fail) only [go_sem, Nat.reduceEqDiff, reduceIte, Nat.reduceAdd, Int.toNat_natCast, Nat.add_zero, Owes_true, Tryz.results17, hE]
    exact FindsPost.err hE g4
  obtain ⟨hG, _, hfs⟩ := askE_zero hE
  have hff := hfs fs (by simp)
  have hz4 := (hO3.keep hg1.1).cell (o := 0) rfl hx1
  simp -dsimp -implicitDefEqProofs (maxSteps := 2000000) (disch := first | assumption | omega | (simp only [AW.next_push, AW.next_put]; omega) | ((repeat refine Fresh.push ?_ _); assumption) | (simp only [same_int, same_bool, same_ptr, same_slice, same_sliceP, same_nil, same_agg2, same_string]; done) | (simp [oneCell, AW.next_push]; done) | fail) only [go_sem, Nat.reduceEqDiff, reduceIte, Nat.reduceAdd, Int.toNat_natCast, Nat.add_zero, Owes_true, Tryz.results17, hE, Nat.zero_add, hz4]
  apply callV_of (e := rfl)
  · exact finders_ok ms rs fs v _ _ w1 g4.2 (hs.grown g4) (hr.grown g4) (hF.grown g4) hG hff.1 hff.2
  rintro s w2 ⟨hL, hg2, _⟩
  simp -dsimp -implicitDefEqProofs (maxSteps := 2000000) (disch := first | assumption | omega | (simp only [AW.next_push, AW.next_put]; omega) | ((repeat refine Fresh.push ?_ _); assumption) | (simp only [same_int, same_bool, same_ptr, same_slice, same_sliceP, same_nil, same_agg2, same_string]; done) | (simp [oneCell, AW.next_push]; done) | fail) only [go_sem, Nat.reduceEqDiff, reduceIte, Nat.reduceAdd, Int.toNat_natCast, Nat.add_zero, Owes_true, Tryz.results17]
  exact ⟨_, by rw [hE], by rw [findsE, if_pos hE]; exact hL, g4.trans hg2⟩
end Go.Proofs

/- Finds, as the papers have it; lists of numbers compared; what a set finds. -/
namespace Go.Proofs
open Go Go.RowKit Go.Sim
set_option maxRecDepth 100000
set_option maxHeartbeats 1000000 in
theorem refFindsF_ok (ms : List (Int × Int)) (rs : List Int) (fs : List (Int × Int)) (v u x : Value) (w : AW) (f : Fresh w) (hs : ArrOf w 2 mcells v ms) (hr : ArrOf w 1 icells u rs) (hF : ArrOf w 2 mcells x fs) :
    CallT Tryz.prog Tryz.T (.fn (.func 18) #[]) #[v, u, .agg #[x]] w (FindsPost ms rs fs w) := by
  have hx1 := hF.oneCell
  obtain ⟨p, cap, rfl, hcap, hmax, hat⟩ := hs.open
  obtain ⟨q, cap2, rfl, hcap2, hmax2, hat2⟩ := hr.open
  obtain ⟨r, cap3, rfl, hcap3, hmax3, hat3⟩ := hF.open
  have g1 := (Grown.refl f).push (.cells [.slice r fs.length cap3] 40 w.next 0 0)
  have hO := Own.new f 40 [.slice r fs.length cap3]
  have hz0 := hO.cell (o := 0) rfl hx1
  have hfk := fks1 g1.2 (hF.grown g1)
  have g2 := g1.push (.cells [.slice r fs.length cap3] 40 (w.next + 1) 0 0)
  simp only [AW.next_push] at hfk
  have hO2 := hO.push (.cells [.slice r fs.length cap3] 40 (w.next + 1) 0 0)
  refine callT_code rfl Tryz.func18 rfl Tryz.s18_eq rfl ?_
  unfold Tryz.s18
  simp -dsimp -implicitDefEqProofs (maxSteps := 2000000) (disch := first | assumption | omega | (simp only [AW.next_push, AW.next_put]; omega) | ((repeat refine Fresh.push ?_ _); assumption) | (simp only [same_int, same_bool, same_ptr, same_slice, same_sliceP, same_nil, same_agg2, same_string]; done) | (simp [oneCell, AW.next_push]; done) | fail) only [go_sem, Nat.reduceEqDiff, reduceIte, Nat.reduceAdd, Int.toNat_natCast, Nat.add_zero, Owes_true, Tryz.results18, Nat.zero_add, hz0]
  apply callV_of (e := rfl)
  · exact asked_ok ms rs [fs] _ _ _ _ g2.2 (hs.grown g2) (hr.grown g2) hfk
  rintro _ w1 ⟨rfl, hg1⟩
  have g4 := g2.trans hg1
  by_cases hE : askE ms [rs] [fs] = 0
  case neg =>
    simp -dsimp -implicitDefEqProofs (maxSteps := 2000000) (disch := first | assumption | omega | (simp only [AW.next_push, AW.next_put]; omega) | ((repeat refine Fresh.push ?_ _); assumption) | (simp only [same_int, same_bool, same_ptr, same_slice, same_sliceP, same_nil, same_agg2, same_string]; done) | (simp [oneCell, AW.next_push]; done) | fail) only [go_sem, Nat.reduceEqDiff, reduceIte, Nat.reduceAdd, Int.toNat_natCast, Nat.add_zero, Owes_true, Tryz.results18, hE]
    exact FindsPost.err hE g4
  obtain ⟨hG, _, hfs⟩ := askE_zero hE
  obtain ⟨hfl, hsp⟩ := hfs fs (by simp)
  have hO4 := hO2.keep hg1.1
  simp -dsimp -implicitDefEqProofs (maxSteps := 2000000) (disch := first | assumption | omega | (simp only [AW.next_push, AW.next_put]; omega) | ((repeat refine Fresh.push ?_ _); assumption) | (simp only [same_int, same_bool, same_ptr, same_slice, same_sliceP, same_nil, same_agg2, same_string]; done) | (simp [oneCell, AW.next_push]; done) | fail) only [go_sem, Nat.reduceEqDiff, reduceIte, Nat.reduceAdd, Int.toNat_natCast, Nat.add_zero, Owes_true, Tryz.results18, hE]
  refine loopR (fun k t ds w2 => ∃ i : Nat, i ≤ ms.length ∧ k = ms.length - i ∧ ds = [] ∧ ev t (.tmp 0) = .slice p ms.length cap ∧ ev t (.tmp 1) = .slice q rs.length cap2 ∧ ev t (.tmp 5) = .pointer (some ⟨w.next, 0, none⟩) ∧ ev t (.tmp 10) = .int .i64 (i : Int) ∧ Own w2 w.next 40 [.slice r fs.length cap3] ∧ (∃ s, ev t (.tmp 9) = s ∧ AOwn (w.next + 1) w2 3 1 s (foundTo ms rs fs i).length ((foundTo ms rs fs i).flatMap icells)) ∧ Grown w w2) (ms.length) ?_ ?_
  · refine ⟨0, by omega, by omega, rfl, ?_, ?_, ?_, ?_, hO4, ⟨.slice none 0 0, by simp -dsimp -implicitDefEqProofs (maxSteps := 2000000) (disch := first | assumption | omega | (simp only [AW.next_push, AW.next_put]; omega) | ((repeat refine Fresh.push ?_ _); assumption) | (simp only [same_int, same_bool, same_ptr, same_slice, same_sliceP, same_nil, same_agg2, same_string]; done) | (simp [oneCell, AW.next_push]; done) | fail) only [go_sem, Nat.reduceEqDiff, reduceIte, Nat.reduceAdd, Int.toNat_natCast, Nat.add_zero, Owes_true], .inl ⟨rfl, rfl, rfl⟩⟩, g4⟩ <;> simp -dsimp -implicitDefEqProofs (maxSteps := 2000000) (disch := first | assumption | omega | (simp only [AW.next_push, AW.next_put]; omega) | ((repeat refine Fresh.push ?_ _); assumption) | (simp only [same_int, same_bool, same_ptr, same_slice, same_sliceP, same_nil, same_agg2, same_string]; done) | (simp [oneCell, AW.next_push]; done) | fail) only [go_sem, Nat.reduceEqDiff, reduceIte, Nat.reduceAdd, Int.toNat_natCast, Nat.add_zero, Owes_true] <;> rfl
  rintro k t ds w2 ⟨i, hii, rfl, rfl, e0, e1, e5, e10, hO5, hA, hg⟩
  obtain ⟨s, e9, hA⟩ := hA
  obtain ⟨hk, hf⟩ := id hg
  by_cases hlt : (i : Int) < (ms.length : Int)
  case neg =>
    obtain rfl : i = ms.length := by omega
    simp -dsimp -implicitDefEqProofs (maxSteps := 2000000) (disch := first | assumption | omega | (simp only [AW.next_push, AW.next_put]; omega) | ((repeat refine Fresh.push ?_ _); assumption) | (simp only [same_int, same_bool, same_ptr, same_slice, same_sliceP, same_nil, same_agg2, same_string]; done) | (simp [oneCell, AW.next_push]; done) | fail) only [go_sem, Nat.reduceEqDiff, reduceIte, Nat.reduceAdd, Int.toNat_natCast, Nat.add_zero, Owes_true, Tryz.results18, e0, e1, e5, e9, e10, hlt]
    exact ⟨_, by rw [hE], by rw [findsE, if_pos hE]; exact hA.arr icells_len (by have := foundTo_len ms rs fs ms.length; have := hG.len; omega), hg⟩
  have hlt' : i < ms.length := by omega
  have hltr : i < rs.length := by have := hG.rlen; omega
  have hltf : i < fs.length := by omega
  have hltr' : (i : Int) < (rs.length : Int) := by omega
  have hltf' : (i : Int) < (fs.length : Int) := by omega
  obtain ⟨b1, o1, rfl, hb1, hcell⟩ := hat i hlt'
  obtain ⟨b2, o2, rfl, hb2, hcell2⟩ := hat2 i hltr
  obtain ⟨b3, o3, rfl, hb3, hcell3⟩ := hat3 i hltf
  have hc0 := hcell w2 hk 0 _ rfl
  have hc1 := hcell w2 hk 1 _ rfl
  have hx0 := hcell2 _ hk 0 _ rfl
  have hy0 := hcell3 _ hk 0 _ rfl
  have hy1 := hcell3 _ hk 1 _ rfl
  rw [Nat.add_zero] at hc0 hx0 hy0
  have hz5 := hO5.cell (o := 0) rfl rfl
  have hfind : find1 (ms.getD i (0, 0)) (rs.getD i 0) (fs.getD i (0, 0)) = find1 ms[i] rs[i] fs[i] := by rw [getD_at hlt', getD_at hltr, getD_at hltf]
  simp -dsimp -implicitDefEqProofs (maxSteps := 2000000) (disch := first | assumption | omega | (simp only [AW.next_push, AW.next_put]; omega) | ((repeat refine Fresh.push ?_ _); assumption) | (simp only [same_int, same_bool, same_ptr, same_slice, same_sliceP, same_nil, same_agg2, same_string]; done) | (simp [oneCell, AW.next_push]; done) | fail) only [go_sem, Nat.reduceEqDiff, reduceIte, Nat.reduceAdd, Int.toNat_natCast, Nat.add_zero, Owes_true, Tryz.results18, e0, e1, e5, e9, e10, hlt, hltr', hltf', indexV_eq, Nat.zero_add, hc0, hc1, hx0, hy0, hy1, hz5]
  apply callV_of (e := rfl)
  · exact refFinds_ok ms[i] fs[i] rs[i] (hG.tol _ (List.getElem_mem hlt')) (hG.rd _ (List.getElem_mem hltr)) _ hf
  rintro _ w3 ⟨rfl, hg3⟩
  have hle := hg3.1.wle hf
  have hO3 := hO5.keep hg3.1
  have hA3 := hA.keep hg3.1 (Nat.le_refl _)
  have g3 := hg.trans hg3
  cases hB : find1 ms[i] rs[i] fs[i] with
  | false =>
    simp -dsimp -implicitDefEqProofs (maxSteps := 2000000) (disch := first | assumption | omega | (simp only [AW.next_push, AW.next_put]; omega) | ((repeat refine Fresh.push ?_ _); assumption) | (simp only [same_int, same_bool, same_ptr, same_slice, same_sliceP, same_nil, same_agg2, same_string]; done) | (simp [oneCell, AW.next_push]; done) | fail) only [go_sem, Nat.reduceEqDiff, reduceIte, Nat.reduceAdd, Int.toNat_natCast, Nat.add_zero, Owes_true, Tryz.results18, e0, e1, e5, e9, e10]
    have hnext : foundTo ms rs fs (i + 1) = foundTo ms rs fs i := by rw [foundTo_succ, hfind, hB]; simp
    refine ⟨_, by omega, i + 1, by omega, rfl, rfl, by (simp -dsimp -implicitDefEqProofs (maxSteps := 2000000) (disch := first | assumption | omega | (simp only [AW.next_push, AW.next_put]; omega) | ((repeat refine Fresh.push ?_ _); assumption) | (simp only [same_int, same_bool, same_ptr, same_slice, same_sliceP, same_nil, same_agg2, same_string]; done) | (simp [oneCell, AW.next_push]; done) | fail) only [go_sem, Nat.reduceEqDiff, reduceIte, Nat.reduceAdd, Int.toNat_natCast, Nat.add_zero, Owes_true, e0]; try rfl), by (simp -dsimp -implicitDefEqProofs (maxSteps := 2000000) (disch := first | assumption | omega | (simp only [AW.next_push, AW.next_put]; omega) | ((repeat refine Fresh.push ?_ _); assumption) | (simp only [same_int, same_bool, same_ptr, same_slice, same_sliceP, same_nil, same_agg2, same_string]; done) | (simp [oneCell, AW.next_push]; done) | fail) only [go_sem, Nat.reduceEqDiff, reduceIte, Nat.reduceAdd, Int.toNat_natCast, Nat.add_zero, Owes_true, e1]; try rfl), by (simp -dsimp -implicitDefEqProofs (maxSteps := 2000000) (disch := first | assumption | omega | (simp only [AW.next_push, AW.next_put]; omega) | ((repeat refine Fresh.push ?_ _); assumption) | (simp only [same_int, same_bool, same_ptr, same_slice, same_sliceP, same_nil, same_agg2, same_string]; done) | (simp [oneCell, AW.next_push]; done) | fail) only [go_sem, Nat.reduceEqDiff, reduceIte, Nat.reduceAdd, Int.toNat_natCast, Nat.add_zero, Owes_true, e5]; try rfl), by (simp -dsimp -implicitDefEqProofs (maxSteps := 2000000) (disch := first | assumption | omega | (simp only [AW.next_push, AW.next_put]; omega) | ((repeat refine Fresh.push ?_ _); assumption) | (simp only [same_int, same_bool, same_ptr, same_slice, same_sliceP, same_nil, same_agg2, same_string]; done) | (simp [oneCell, AW.next_push]; done) | fail) only [go_sem, Nat.reduceEqDiff, reduceIte, Nat.reduceAdd, Int.toNat_natCast, Nat.add_zero, Owes_true, e10]; try rfl), hO3, ⟨s, by simp -dsimp -implicitDefEqProofs (maxSteps := 2000000) (disch := first | assumption | omega | (simp only [AW.next_push, AW.next_put]; omega) | ((repeat refine Fresh.push ?_ _); assumption) | (simp only [same_int, same_bool, same_ptr, same_slice, same_sliceP, same_nil, same_agg2, same_string]; done) | (simp [oneCell, AW.next_push]; done) | fail) only [go_sem, Nat.reduceEqDiff, reduceIte, Nat.reduceAdd, Int.toNat_natCast, Nat.add_zero, Owes_true, e9], by rw [hnext]; exact hA3⟩, g3⟩
  | true =>
    have hlen := foundTo_len ms rs fs i
    have h8 := hG.len
    have hn2 := g3.1.next
    have hlt2 := hO3.lt
    obtain ⟨s', w4, happ, hA4, hk4, hf4, hn4⟩ := append_one (e' := 3) Tryz.ty24 Tryz.ty3 rfl (by omega) (by omega) hA3 g3.2 (by omega) (icells_len (i : Int)) (icells_one _) (by omega)
    simp only [icells] at happ
    have hnext : foundTo ms rs fs (i + 1) = foundTo ms rs fs i ++ [(i : Int)] := by rw [foundTo_succ, hfind, hB]; simp
    simp -dsimp -implicitDefEqProofs (maxSteps := 2000000) (disch := first | assumption | omega | (simp only [AW.next_push, AW.next_put]; omega) | ((repeat refine Fresh.push ?_ _); assumption) | (simp only [same_int, same_bool, same_ptr, same_slice, same_sliceP, same_nil, same_agg2, same_string]; done) | (simp [oneCell, AW.next_push]; done) | fail) only [go_sem, Nat.reduceEqDiff, reduceIte, Nat.reduceAdd, Int.toNat_natCast, Nat.add_zero, Owes_true, Tryz.results18, e0, e1, e5, e9, e10, happ]
    refine ⟨_, by omega, i + 1, by omega, rfl, rfl, by (simp -dsimp -implicitDefEqProofs (maxSteps := 2000000) (disch := first | assumption | omega | (simp only [AW.next_push, AW.next_put]; omega) | ((repeat refine Fresh.push ?_ _); assumption) | (simp only [same_int, same_bool, same_ptr, same_slice, same_sliceP, same_nil, same_agg2, same_string]; done) | (simp [oneCell, AW.next_push]; done) | fail) only [go_sem, Nat.reduceEqDiff, reduceIte, Nat.reduceAdd, Int.toNat_natCast, Nat.add_zero, Owes_true, e0]; try rfl), by (simp -dsimp -implicitDefEqProofs (maxSteps := 2000000) (disch := first | assumption | omega | (simp only [AW.next_push, AW.next_put]; omega) | ((repeat refine Fresh.push ?_ _); assumption) | (simp only [same_int, same_bool, same_ptr, same_slice, same_sliceP, same_nil, same_agg2, same_string]; done) | (simp [oneCell, AW.next_push]; done) | fail) only [go_sem, Nat.reduceEqDiff, reduceIte, Nat.reduceAdd, Int.toNat_natCast, Nat.add_zero, Owes_true, e1]; try rfl), by (simp -dsimp -implicitDefEqProofs (maxSteps := 2000000) (disch := first | assumption | omega | (simp only [AW.next_push, AW.next_put]; omega) | ((repeat refine Fresh.push ?_ _); assumption) | (simp only [same_int, same_bool, same_ptr, same_slice, same_sliceP, same_nil, same_agg2, same_string]; done) | (simp [oneCell, AW.next_push]; done) | fail) only [go_sem, Nat.reduceEqDiff, reduceIte, Nat.reduceAdd, Int.toNat_natCast, Nat.add_zero, Owes_true, e5]; try rfl), by (simp -dsimp -implicitDefEqProofs (maxSteps := 2000000) (disch := first | assumption | omega | (simp only [AW.next_push, AW.next_put]; omega) | ((repeat refine Fresh.push ?_ _); assumption) | (simp only [same_int, same_bool, same_ptr, same_slice, same_sliceP, same_nil, same_agg2, same_string]; done) | (simp [oneCell, AW.next_push]; done) | fail) only [go_sem, Nat.reduceEqDiff, reduceIte, Nat.reduceAdd, Int.toNat_natCast, Nat.add_zero, Owes_true, e10]; try rfl), hO3.keepC hk4 (by omega), ⟨s', by simp -dsimp -implicitDefEqProofs (maxSteps := 2000000) (disch := first | assumption | omega | (simp only [AW.next_push, AW.next_put]; omega) | ((repeat refine Fresh.push ?_ _); assumption) | (simp only [same_int, same_bool, same_ptr, same_slice, same_sliceP, same_nil, same_agg2, same_string]; done) | (simp [oneCell, AW.next_push]; done) | fail) only [go_sem, Nat.reduceEqDiff, reduceIte, Nat.reduceAdd, Int.toNat_natCast, Nat.add_zero, Owes_true], by rw [hnext, List.length_append, List.flatMap_append]; simpa using hA4⟩, ⟨g3.1.trans (hk4.mono (Nat.le_succ _)), hf4⟩⟩

theorem same_ok (xs ys : List Int) (v u : Value) (w : AW) (f : Fresh w) (hx : ArrOf w 1 icells v xs) (hy : ArrOf w 1 icells u ys) :
    CallT Tryz.prog Tryz.T (.fn (.func 19) #[]) #[v, u] w (Ret (.bool (decide (xs = ys))) (Grown w)) := by
  obtain ⟨p, cap, rfl, hcap, hmax, hat⟩ := hx.open
  obtain ⟨q, cap2, rfl, hcap2, hmax2, hat2⟩ := hy.open
  refine callT_code rfl Tryz.func19 rfl Tryz.s19_eq rfl ?_
  unfold Tryz.s19
  simp -dsimp -implicitDefEqProofs (maxSteps := 2000000) (disch := first | assumption | omega | (simp only [AW.next_push, AW.next_put]; omega) | ((repeat refine Fresh.push ?_ _); assumption) | (simp only [same_int, same_bool, same_ptr, same_slice, same_sliceP, same_nil, same_agg2, same_string]; done) | (simp [oneCell, AW.next_push]; done) | fail) only [go_sem, Nat.reduceEqDiff, reduceIte, Nat.reduceAdd, Int.toNat_natCast, Nat.add_zero, Owes_true, Tryz.results19]
  refine loopR (fun k t ds w1 => ∃ i : Nat, i ≤ xs.length ∧ k = xs.length - i ∧ ds = [] ∧ ev t (.tmp 0) = .slice p xs.length cap ∧ ev t (.tmp 1) = .slice q ys.length cap2 ∧ ev t (.tmp 5) = .bool (decide ((xs.length : Int) = (ys.length : Int)) && decide (xs.take i = ys.take i)) ∧ ev t (.tmp 6) = .int .i64 (i : Int) ∧ w = w1) (xs.length) ?_ ?_
  · refine ⟨0, by omega, by omega, rfl, ?_, ?_, ?_, ?_, rfl⟩ <;> simp -dsimp -implicitDefEqProofs (maxSteps := 2000000) (disch := first | assumption | omega | (simp only [AW.next_push, AW.next_put]; omega) | ((repeat refine Fresh.push ?_ _); assumption) | (simp only [same_int, same_bool, same_ptr, same_slice, same_sliceP, same_nil, same_agg2, same_string]; done) | (simp [oneCell, AW.next_push]; done) | fail) only [go_sem, Nat.reduceEqDiff, reduceIte, Nat.reduceAdd, Int.toNat_natCast, Nat.add_zero, Owes_true, List.take_zero, decide_true] <;> rfl
  rintro k t ds w1 ⟨i, hii, rfl, rfl, e0, e1, e5, e6, hw⟩
  subst hw
  by_cases hl : (xs.length : Int) = (ys.length : Int)
  case neg =>
    have hne : ¬ xs = ys := fun e => hl (by rw [e])
    simp -dsimp -implicitDefEqProofs (maxSteps := 2000000) (disch := first | assumption | omega | (simp only [AW.next_push, AW.next_put]; omega) | ((repeat refine Fresh.push ?_ _); assumption) | (simp only [same_int, same_bool, same_ptr, same_slice, same_sliceP, same_nil, same_agg2, same_string]; done) | (simp [oneCell, AW.next_push]; done) | fail) only [go_sem, Nat.reduceEqDiff, reduceIte, Nat.reduceAdd, Int.toNat_natCast, Nat.add_zero, Owes_true, Tryz.results19, e0, e1, e5, e6, hl, hne]
    exact ⟨rfl, .refl f⟩
  have hl' : xs.length = ys.length := by omega
  by_cases ht : xs.take i = ys.take i
  case neg =>
    have hne : ¬ xs = ys := fun e => ht (by rw [e])
    simp -dsimp -implicitDefEqProofs (maxSteps := 2000000) (disch := first | assumption | omega | (simp only [AW.next_push, AW.next_put]; omega) | ((repeat refine Fresh.push ?_ _); assumption) | (simp only [same_int, same_bool, same_ptr, same_slice, same_sliceP, same_nil, same_agg2, same_string]; done) | (simp [oneCell, AW.next_push]; done) | fail) only [go_sem, Nat.reduceEqDiff, reduceIte, Nat.reduceAdd, Int.toNat_natCast, Nat.add_zero, Owes_true, Tryz.results19, e0, e1, e5, e6, hl, ht, hne]
    exact ⟨rfl, .refl f⟩
  by_cases hlt : (i : Int) < (xs.length : Int)
  case neg =>
    have heq : xs = ys := by
      rw [List.take_of_length_le (by omega), List.take_of_length_le (by omega)] at ht; exact ht
    subst heq
    simp -dsimp -implicitDefEqProofs (maxSteps := 2000000) (disch := first | assumption | omega | (simp only [AW.next_push, AW.next_put]; omega) | ((repeat refine Fresh.push ?_ _); assumption) | (simp only [same_int, same_bool, same_ptr, same_slice, same_sliceP, same_nil, same_agg2, same_string]; done) | (simp [oneCell, AW.next_push]; done) | fail) only [go_sem, Nat.reduceEqDiff, reduceIte, Nat.reduceAdd, Int.toNat_natCast, Nat.add_zero, Owes_true, Tryz.results19, e0, e1, e5, e6, hlt]
    exact ⟨rfl, .refl f⟩
  have hlt1 : i < xs.length := by omega
  have hlt2 : i < ys.length := by omega
  have hlt2' : (i : Int) < (ys.length : Int) := by omega
  obtain ⟨b1, o1, rfl, hb1, hcell⟩ := hat i hlt1
  obtain ⟨b2, o2, rfl, hb2, hcell2⟩ := hat2 i hlt2
  have hc0 := hcell w (.refl _ _) 0 _ rfl
  have hd0 := hcell2 w (.refl _ _) 0 _ rfl
  rw [Nat.add_zero] at hc0 hd0
  have hnext : decide (xs.take (i + 1) = ys.take (i + 1)) = decide (xs[i] = ys[i]) := by
    rw [List.take_succ_eq_append_getElem hlt1, List.take_succ_eq_append_getElem hlt2, ht]
    exact decide_eq_decide.2 ⟨fun h => (List.cons.inj (List.append_cancel_left h)).1, fun h => by rw [h]⟩
  have hlt3 : ¬ (i : Int) < (ys.length : Int) → False := fun h => h hlt2'
  have hdl : decide ((xs.length : Int) = (ys.length : Int)) = true := decide_eq_true hl
  have hdt : decide (xs.take i = ys.take i) = true := decide_eq_true ht
  simp -dsimp -implicitDefEqProofs (maxSteps := 2000000) (disch := first | assumption | omega | (simp only [AW.next_push, AW.next_put]; omega) | ((repeat refine Fresh.push ?_ _); assumption) | (simp only [same_int, same_bool, same_ptr, same_slice, same_sliceP, same_nil, same_agg2, same_string]; done) | (simp [oneCell, AW.next_push]; done) | fail) only [go_sem, Nat.reduceEqDiff, reduceIte, Nat.reduceAdd, Int.toNat_natCast, Nat.add_zero, Owes_true, Tryz.results19, e0, e1, e5, e6, hdl, hdt, hlt, hlt2', indexV_eq, hc0, hd0]
  refine ⟨_, by omega, i + 1, by omega, rfl, rfl, by simp -dsimp -implicitDefEqProofs (maxSteps := 2000000) (disch := first | assumption | omega | (simp only [AW.next_push, AW.next_put]; omega) | ((repeat refine Fresh.push ?_ _); assumption) | (simp only [same_int, same_bool, same_ptr, same_slice, same_sliceP, same_nil, same_agg2, same_string]; done) | (simp [oneCell, AW.next_push]; done) | fail) only [go_sem, Nat.reduceEqDiff, reduceIte, Nat.reduceAdd, Int.toNat_natCast, Nat.add_zero, Owes_true, e0], by simp -dsimp -implicitDefEqProofs (maxSteps := 2000000) (disch := first | assumption | omega | (simp only [AW.next_push, AW.next_put]; omega) | ((repeat refine Fresh.push ?_ _); assumption) | (simp only [same_int, same_bool, same_ptr, same_slice, same_sliceP, same_nil, same_agg2, same_string]; done) | (simp [oneCell, AW.next_push]; done) | fail) only [go_sem, Nat.reduceEqDiff, reduceIte, Nat.reduceAdd, Int.toNat_natCast, Nat.add_zero, Owes_true, e1], ?_, by (simp -dsimp -implicitDefEqProofs (maxSteps := 2000000) (disch := first | assumption | omega | (simp only [AW.next_push, AW.next_put]; omega) | ((repeat refine Fresh.push ?_ _); assumption) | (simp only [same_int, same_bool, same_ptr, same_slice, same_sliceP, same_nil, same_agg2, same_string]; done) | (simp [oneCell, AW.next_push]; done) | fail) only [go_sem, Nat.reduceEqDiff, reduceIte, Nat.reduceAdd, Int.toNat_natCast, Nat.add_zero, Owes_true, e6]; try rfl), rfl⟩
  simp -dsimp -implicitDefEqProofs (maxSteps := 2000000) (disch := first | assumption | omega | (simp only [AW.next_push, AW.next_put]; omega) | ((repeat refine Fresh.push ?_ _); assumption) | (simp only [same_int, same_bool, same_ptr, same_slice, same_sliceP, same_nil, same_agg2, same_string]; done) | (simp [oneCell, AW.next_push]; done) | fail) only [go_sem, Nat.reduceEqDiff, reduceIte, Nat.reduceAdd, Int.toNat_natCast, Nat.add_zero, Owes_true, hnext, hdl]
end Go.Proofs

/- What a set of measures finds. -/
namespace Go.Proofs
open Go Go.RowKit Go.Sim
set_option maxRecDepth 100000
/-- What a function that is handed over tells of numbers. -/
def PredT (fn : Fn) (cap : Array Value) (Q : Int → Bool) (xs : List Int) (w : AW) : Prop := ∀ x ∈ xs, ∀ w', Grown w w' → CallT Tryz.prog Tryz.T (.fn fn cap) #[.int .i64 x] w' (Ret (.bool (Q x)) (Grown w'))
theorem indexFunc_ok (xs : List Int) (u : Value) (fn : Fn) (cp : Array Value) (Q : Int → Bool) (w : AW) (f : Fresh w) (hx : ArrOf w 1 icells u xs) (hc : PredT fn cp Q xs w) :
    CallT Tryz.prog Tryz.T (.fn (.func 91) #[]) #[u, .func fn #[] cp] w (fun v w' => ∃ n : Int, v = .int .i64 n ∧ decide (0 ≤ n) = xs.any Q ∧ Grown w w') := by
  obtain ⟨p, cap, rfl, hcap, hmax, hat⟩ := hx.open
  refine callT_code rfl Tryz.func91 rfl Tryz.s91_eq rfl ?_
  unfold Tryz.s91
  simp -dsimp -implicitDefEqProofs (maxSteps := 2000000) (disch := first | assumption | omega | (simp only [AW.next_push, AW.next_put]; omega) | ((repeat refine Fresh.push ?_ _); assumption) | (simp only [same_int, same_bool, same_ptr, same_slice, same_sliceP, same_nil, same_agg2, same_string]; done) | (simp [oneCell, AW.next_push]; done) | fail) only [go_sem, Nat.reduceEqDiff, reduceIte, Nat.reduceAdd, Int.toNat_natCast, Nat.add_zero, Owes_true, Tryz.results91]
  refine loopR (fun k t ds w1 => ∃ i : Nat, i ≤ xs.length ∧ k = xs.length - i ∧ ds = [] ∧ ev t (.tmp 0) = .slice p xs.length cap ∧ ev t (.tmp 1) = .func fn #[] cp ∧ ev t (.tmp 7) = .int .i64 (xs.length : Int) ∧ ev t (.tmp 8) = .int .i64 (i : Int) ∧ Grown w w1 ∧ (xs.take i).any Q = false) (xs.length) ?_ ?_
  · refine ⟨0, by omega, by omega, rfl, ?_, ?_, ?_, ?_, .refl f, rfl⟩ <;> simp -dsimp -implicitDefEqProofs (maxSteps := 2000000) (disch := first | assumption | omega | (simp only [AW.next_push, AW.next_put]; omega) | ((repeat refine Fresh.push ?_ _); assumption) | (simp only [same_int, same_bool, same_ptr, same_slice, same_sliceP, same_nil, same_agg2, same_string]; done) | (simp [oneCell, AW.next_push]; done) | fail) only [go_sem, Nat.reduceEqDiff, reduceIte, Nat.reduceAdd, Int.toNat_natCast, Nat.add_zero, Owes_true] <;> rfl
  rintro k t ds w1 ⟨i, hii, rfl, rfl, e0, e1, e7, e8, hg, hall⟩
  obtain ⟨hk, hf⟩ := id hg
  by_cases hlt : (i : Int) < (xs.length : Int)
  case neg =>
    have h2 : xs.take i = xs := List.take_of_length_le (by omega)
    rw [h2] at hall
    simp -dsimp -implicitDefEqProofs (maxSteps := 2000000) (disch := first | assumption | omega | (simp only [AW.next_push, AW.next_put]; omega) | ((repeat refine Fresh.push ?_ _); assumption) | (simp only [same_int, same_bool, same_ptr, same_slice, same_sliceP, same_nil, same_agg2, same_string]; done) | (simp [oneCell, AW.next_push]; done) | fail) only [go_sem, Nat.reduceEqDiff, reduceIte, Nat.reduceAdd, Int.toNat_natCast, Nat.add_zero, Owes_true, Tryz.results91, e0, e1, e7, e8, hlt]
    exact ⟨-1, rfl, by rw [hall]; rfl, hg⟩
  have hlt' : i < xs.length := by omega
  obtain ⟨b1, o1, rfl, hb1, hcell⟩ := hat i hlt'
  have hc0 := hcell w1 hk 0 _ rfl
  rw [Nat.add_zero] at hc0
  simp -dsimp -implicitDefEqProofs (maxSteps := 2000000) (disch := first | assumption | omega | (simp only [AW.next_push, AW.next_put]; omega) | ((repeat refine Fresh.push ?_ _); assumption) | (simp only [same_int, same_bool, same_ptr, same_slice, same_sliceP, same_nil, same_agg2, same_string]; done) | (simp [oneCell, AW.next_push]; done) | fail) only [go_sem, Nat.reduceEqDiff, reduceIte, Nat.reduceAdd, Int.toNat_natCast, Nat.add_zero, Owes_true, Tryz.results91, e0, e1, e7, e8, hlt, indexV_eq, hc0]
  apply callV_of (e := rfl)
  · exact hc xs[i] (List.getElem_mem hlt') w1 hg
  rintro _ w2 ⟨rfl, hg2⟩
  cases hQ : Q xs[i] with
  | true =>
    simp -dsimp -implicitDefEqProofs (maxSteps := 2000000) (disch := first | assumption | omega | (simp only [AW.next_push, AW.next_put]; omega) | ((repeat refine Fresh.push ?_ _); assumption) | (simp only [same_int, same_bool, same_ptr, same_slice, same_sliceP, same_nil, same_agg2, same_string]; done) | (simp [oneCell, AW.next_push]; done) | fail) only [go_sem, Nat.reduceEqDiff, reduceIte, Nat.reduceAdd, Int.toNat_natCast, Nat.add_zero, Owes_true, Tryz.results91]
    exact ⟨(i : Int), rfl, by rw [List.any_eq_true.mpr ⟨xs[i], List.getElem_mem hlt', hQ⟩]; exact decide_eq_true (Int.natCast_nonneg i), hg.trans hg2⟩
  | false =>
    simp -dsimp -implicitDefEqProofs (maxSteps := 2000000) (disch := first | assumption | omega | (simp only [AW.next_push, AW.next_put]; omega) | ((repeat refine Fresh.push ?_ _); assumption) | (simp only [same_int, same_bool, same_ptr, same_slice, same_sliceP, same_nil, same_agg2, same_string]; done) | (simp [oneCell, AW.next_push]; done) | fail) only [go_sem, Nat.reduceEqDiff, reduceIte, Nat.reduceAdd, Int.toNat_natCast, Nat.add_zero, Owes_true, Tryz.results91, e0, e1, e7, e8]
    refine ⟨_, by omega, i + 1, by omega, rfl, rfl, by (simp -dsimp -implicitDefEqProofs (maxSteps := 2000000) (disch := first | assumption | omega | (simp only [AW.next_push, AW.next_put]; omega) | ((repeat refine Fresh.push ?_ _); assumption) | (simp only [same_int, same_bool, same_ptr, same_slice, same_sliceP, same_nil, same_agg2, same_string]; done) | (simp [oneCell, AW.next_push]; done) | fail) only [go_sem, Nat.reduceEqDiff, reduceIte, Nat.reduceAdd, Int.toNat_natCast, Nat.add_zero, Owes_true, e0]; try rfl), by (simp -dsimp -implicitDefEqProofs (maxSteps := 2000000) (disch := first | assumption | omega | (simp only [AW.next_push, AW.next_put]; omega) | ((repeat refine Fresh.push ?_ _); assumption) | (simp only [same_int, same_bool, same_ptr, same_slice, same_sliceP, same_nil, same_agg2, same_string]; done) | (simp [oneCell, AW.next_push]; done) | fail) only [go_sem, Nat.reduceEqDiff, reduceIte, Nat.reduceAdd, Int.toNat_natCast, Nat.add_zero, Owes_true, e1]; try rfl), by (simp -dsimp -implicitDefEqProofs (maxSteps := 2000000) (disch := first | assumption | omega | (simp only [AW.next_push, AW.next_put]; omega) | ((repeat refine Fresh.push ?_ _); assumption) | (simp only [same_int, same_bool, same_ptr, same_slice, same_sliceP, same_nil, same_agg2, same_string]; done) | (simp [oneCell, AW.next_push]; done) | fail) only [go_sem, Nat.reduceEqDiff, reduceIte, Nat.reduceAdd, Int.toNat_natCast, Nat.add_zero, Owes_true, e7]; try rfl), by (simp -dsimp -implicitDefEqProofs (maxSteps := 2000000) (disch := first | assumption | omega | (simp only [AW.next_push, AW.next_put]; omega) | ((repeat refine Fresh.push ?_ _); assumption) | (simp only [same_int, same_bool, same_ptr, same_slice, same_sliceP, same_nil, same_agg2, same_string]; done) | (simp [oneCell, AW.next_push]; done) | fail) only [go_sem, Nat.reduceEqDiff, reduceIte, Nat.reduceAdd, Int.toNat_natCast, Nat.add_zero, Owes_true, e8]; try rfl), hg.trans hg2, by rw [List.take_succ_eq_append_getElem hlt', List.any_append, hall]; simp [hQ]⟩
theorem containsFunc_ok (xs : List Int) (u : Value) (fn : Fn) (cp : Array Value) (Q : Int → Bool) (w : AW) (f : Fresh w) (hx : ArrOf w 1 icells u xs) (hc : PredT fn cp Q xs w) :
    CallT Tryz.prog Tryz.T (.fn (.func 73) #[]) #[u, .func fn #[] cp] w (Ret (.bool (xs.any Q)) (Grown w)) := by
  refine callT_code rfl Tryz.func73 rfl Tryz.s73_eq rfl ?_
  unfold Tryz.s73
  simp -dsimp -implicitDefEqProofs (maxSteps := 2000000) (disch := first | assumption | omega | (simp only [AW.next_push, AW.next_put]; omega) | ((repeat refine Fresh.push ?_ _); assumption) | (simp only [same_int, same_bool, same_ptr, same_slice, same_sliceP, same_nil, same_agg2, same_string]; done) | (simp [oneCell, AW.next_push]; done) | fail) only [go_sem, Nat.reduceEqDiff, reduceIte, Nat.reduceAdd, Int.toNat_natCast, Nat.add_zero, Owes_true, Tryz.results73]
  apply callV_of (e := rfl)
  · exact indexFunc_ok xs u fn cp Q w f hx hc
  rintro _ w1 ⟨n, rfl, hn, hg⟩
  simp -dsimp -implicitDefEqProofs (maxSteps := 2000000) (disch := first | assumption | omega | (simp only [AW.next_push, AW.next_put]; omega) | ((repeat refine Fresh.push ?_ _); assumption) | (simp only [same_int, same_bool, same_ptr, same_slice, same_sliceP, same_nil, same_agg2, same_string]; done) | (simp [oneCell, AW.next_push]; done) | fail) only [go_sem, Nat.reduceEqDiff, reduceIte, Nat.reduceAdd, Int.toNat_natCast, Nat.add_zero, Owes_true, Tryz.results73]
  exact ⟨by rw [hn], hg⟩

def findAt (ms : List (Int × Int)) (rs : List Int) (fs : List (Int × Int)) (i : Int) : Bool := find1 (ms.getD i.toNat (0, 0)) (rs.getD i.toNat 0) (fs.getD i.toNat (0, 0))
def showsB (ms : List (Int × Int)) (rs : List Int) (fss : List (List (Int × Int))) (set : List Int) : Bool := fss.all fun fs => set.any (findAt ms rs fs)
theorem shows1_ok (ms : List (Int × Int)) (rs : List Int) (fs : List (Int × Int)) (v u x : Value) (k b4 b5 b6 : Nat) (w : AW) (f : Fresh w) (h4 : w.cell? ⟨b4, 0, none⟩ = some v) (h5 : w.cell? ⟨b5, 0, none⟩ = some u) (h6 : w.cell? ⟨b6, 0, none⟩ = some x)
    (hs : ArrOf w 2 mcells v ms) (hr : ArrOf w 1 icells u rs) (hF : ArrOf w 2 mcells x fs) (hG : Good ms rs) (hfl : fs.length = ms.length) (hsp : ∀ s ∈ fs, okSp s = true) (hi : k < ms.length) :
    CallT Tryz.prog Tryz.T (.fn (.func 72) #[.pointer (some ⟨b4, 0, none⟩), .pointer (some ⟨b5, 0, none⟩), .pointer (some ⟨b6, 0, none⟩)]) #[.int .i64 (k : Int)] w (Ret (.bool (findAt ms rs fs (k : Int))) (Grown w)) := by
  obtain ⟨p, cap, rfl, hcap, hmax, hat⟩ := hs.open
  obtain ⟨q, cap2, rfl, hcap2, hmax2, hat2⟩ := hr.open
  obtain ⟨r, cap3, rfl, hcap3, hmax3, hat3⟩ := hF.open
  have hltr : k < rs.length := by have := hG.rlen; omega
  have hltf : k < fs.length := by omega
  obtain ⟨b1, o1, rfl, hb1, hcell⟩ := hat k hi
  obtain ⟨b2, o2, rfl, hb2, hcell2⟩ := hat2 k hltr
  obtain ⟨b3, o3, rfl, hb3, hcell3⟩ := hat3 k hltf
  have hc0 := hcell w (.refl _ _) 0 _ rfl
  have hc1 := hcell w (.refl _ _) 1 _ rfl
  have hx0 := hcell2 _ (.refl _ _) 0 _ rfl
  have hy0 := hcell3 _ (.refl _ _) 0 _ rfl
  have hy1 := hcell3 _ (.refl _ _) 1 _ rfl
  rw [Nat.add_zero] at hc0 hx0 hy0
  have hfind : findAt ms rs fs (k : Int) = find1 ms[k] rs[k] fs[k] := by rw [findAt, Int.toNat_natCast, getD_at hi, getD_at hltr, getD_at hltf]
  refine callT_code rfl Tryz.func72 rfl Tryz.s72_eq rfl ?_
  unfold Tryz.s72
  simp -dsimp -implicitDefEqProofs (maxSteps := 2000000) (disch := first | assumption | omega | (simp only [AW.next_push, AW.next_put]; omega) | ((repeat refine Fresh.push ?_ _); assumption) | (simp only [same_int, same_bool, same_ptr, same_slice, same_sliceP, same_nil, same_agg2, same_string]; done) | (simp [oneCell, AW.next_push]; done) | fail) only [go_sem, Nat.reduceEqDiff, reduceIte, Nat.reduceAdd, Int.toNat_natCast, Nat.add_zero, Owes_true, Tryz.results72, indexV_eq, h4, h5, h6, hc0, hc1, hx0, hy0, hy1]
  apply callV_of (e := rfl)
  · exact finds_ok ms[k] fs[k] rs[k] (hG.tol _ (List.getElem_mem hi)) (hG.rd _ (List.getElem_mem hltr)) (hsp _ (List.getElem_mem hltf)) _ f
  rintro _ w2 ⟨rfl, hg2⟩
  have hle := hg2.1.wle f
  simp -dsimp -implicitDefEqProofs (maxSteps := 2000000) (disch := first | assumption | omega | (simp only [AW.next_push, AW.next_put]; omega) | ((repeat refine Fresh.push ?_ _); assumption) | (simp only [same_int, same_bool, same_ptr, same_slice, same_sliceP, same_nil, same_agg2, same_string]; done) | (simp [oneCell, AW.next_push]; done) | fail) only [go_sem, Nat.reduceEqDiff, reduceIte, Nat.reduceAdd, Int.toNat_natCast, Nat.add_zero, Owes_true, Tryz.results72]
  exact ⟨by rw [hfind], hg2⟩

set_option maxHeartbeats 1000000 in
theorem shows_ok (ms : List (Int × Int)) (rs : List Int) (fss : List (List (Int × Int))) (set : List Int) (v u x y : Value) (w : AW) (f : Fresh w) (hs : ArrOf w 2 mcells v ms) (hr : ArrOf w 1 icells u rs) (hF : Fks w x fss) (hS : ArrOf w 1 icells y set)
    (hG : Good ms rs) (hok : ∀ fs ∈ fss, fs.length = ms.length ∧ ∀ s ∈ fs, okSp s = true) (hset : ∀ i ∈ set, 0 ≤ i ∧ i < ms.length) :
    CallT Tryz.prog Tryz.T (.fn (.func 49) #[]) #[v, u, x, y] w (Ret (.bool (showsB ms rs fss set)) (Grown w)) := by
  obtain ⟨vs, hvl, hvs, hrow⟩ := id hF
  obtain ⟨p, cap, rfl, hcap, hmax, hat⟩ := hs.open
  obtain ⟨q, cap2, rfl, hcap2, hmax2, hat2⟩ := hr.open
  obtain ⟨r, cap3, rfl, hcap3, hmax3, hat3⟩ := hvs.open
  have hO1 := (Own.new f 22 [.slice p ms.length cap]).push (.cells [.slice q rs.length cap2] 24 (w.next + 1) 0 0)
  have hO2 := Own.new (f.push (.cells [.slice p ms.length cap] 22 w.next 0 0)) 24 [.slice q rs.length cap2]
  have g0 := ((Grown.refl f).push (.cells [.slice p ms.length cap] 22 w.next 0 0)).push (.cells [.slice q rs.length cap2] 24 (w.next + 1) 0 0)
  simp only [AW.next_push] at hO2
  refine callT_code rfl Tryz.func49 rfl Tryz.s49_eq rfl ?_
  unfold Tryz.s49
  simp -dsimp -implicitDefEqProofs (maxSteps := 2000000) (disch := first | assumption | omega | (simp only [AW.next_push, AW.next_put]; omega) | ((repeat refine Fresh.push ?_ _); assumption) | (simp only [same_int, same_bool, same_ptr, same_slice, same_sliceP, same_nil, same_agg2, same_string]; done) | (simp [oneCell, AW.next_push]; done) | fail) only [go_sem, Nat.reduceEqDiff, reduceIte, Nat.reduceAdd, Int.toNat_natCast, Nat.add_zero, Owes_true, Tryz.results49]
  refine loopR (fun k t ds w1 => ∃ i : Nat, i ≤ vs.length ∧ k = vs.length - i ∧ ds = [] ∧ ev t (.tmp 3) = y ∧ ev t (.tmp 4) = .pointer (some ⟨w.next, 0, none⟩) ∧ ev t (.tmp 5) = .pointer (some ⟨w.next + 1, 0, none⟩) ∧ ev t (.tmp 12) = .slice r vs.length cap3 ∧ ev t (.tmp 13) = .int .i64 (vs.length : Int) ∧ ev t (.tmp 14) = .int .i64 (i : Int) ∧ Own w1 w.next 22 [.slice p ms.length cap] ∧ Own w1 (w.next + 1) 24 [.slice q rs.length cap2] ∧ Grown w w1 ∧ ((fss.take i).all fun fs => set.any (findAt ms rs fs)) = true) (vs.length) ?_ ?_
  · refine ⟨0, by omega, by omega, rfl, ?_, ?_, ?_, ?_, ?_, ?_, hO1, hO2, g0, rfl⟩ <;> simp -dsimp -implicitDefEqProofs (maxSteps := 2000000) (disch := first | assumption | omega | (simp only [AW.next_push, AW.next_put]; omega) | ((repeat refine Fresh.push ?_ _); assumption) | (simp only [same_int, same_bool, same_ptr, same_slice, same_sliceP, same_nil, same_agg2, same_string]; done) | (simp [oneCell, AW.next_push]; done) | fail) only [go_sem, Nat.reduceEqDiff, reduceIte, Nat.reduceAdd, Int.toNat_natCast, Nat.add_zero, Owes_true] <;> rfl
  rintro k t ds w1 ⟨i, hii, rfl, rfl, e3, e4, e5, e12, e13, e14, hA, hB, hg, hall⟩
  obtain ⟨hk, hf⟩ := id hg
  by_cases hlt : (i : Int) < (vs.length : Int)
  case neg =>
    have h2 : fss.take i = fss := List.take_of_length_le (by omega)
    rw [h2] at hall
    simp -dsimp -implicitDefEqProofs (maxSteps := 2000000) (disch := first | assumption | omega | (simp only [AW.next_push, AW.next_put]; omega) | ((repeat refine Fresh.push ?_ _); assumption) | (simp only [same_int, same_bool, same_ptr, same_slice, same_sliceP, same_nil, same_agg2, same_string]; done) | (simp [oneCell, AW.next_push]; done) | fail) only [go_sem, Nat.reduceEqDiff, reduceIte, Nat.reduceAdd, Int.toNat_natCast, Nat.add_zero, Owes_true, Tryz.results49, e3, e4, e5, e12, e13, e14, hlt]
    exact ⟨by rw [showsB, hall], hg⟩
  have hlt' : i < vs.length := by omega
  have hri : i < fss.length := by omega
  obtain ⟨b1, o1, rfl, hb1, hcell⟩ := hat3 i hlt'
  have hrowi := hrow i vs[i] fss[i] (by simp [hlt']) (by simp [hri])
  obtain ⟨p3, cap4, hv3, hcap4, hmax4, hat4⟩ := hrowi.open
  have hc0 := hcell w1 hk 0 _ rfl
  rw [Nat.add_zero, hv3] at hc0
  rw [hv3] at hrowi
  have htake : fss.take (i + 1) = fss.take i ++ [fss[i]] := by rw [List.take_succ_eq_append_getElem hri]
  have hC := Own.new hf 40 [.slice p3 fss[i].length cap4]
  have gp := hg.push (.cells [.slice p3 fss[i].length cap4] 40 w1.next 0 0)
  have hAp := hA.push (.cells [.slice p3 fss[i].length cap4] 40 w1.next 0 0)
  have hBp := hB.push (.cells [.slice p3 fss[i].length cap4] 40 w1.next 0 0)
  obtain ⟨hfl, hsp⟩ := hok fss[i] (List.getElem_mem hri)
  have hpred : PredT (.func 72) #[.pointer (some ⟨w.next, 0, none⟩), .pointer (some ⟨w.next + 1, 0, none⟩), .pointer (some ⟨w1.next, 0, none⟩)] (findAt ms rs fss[i]) set (w1.push (.cells [.slice p3 fss[i].length cap4] 40 w1.next 0 0)) := by
    intro z hz w' hg'
    obtain ⟨hz0, hz1⟩ := hset z hz
    obtain ⟨k, rfl⟩ := Int.eq_ofNat_of_zero_le hz0
    have G := gp.trans hg'
    exact shows1_ok ms rs fss[i] _ _ _ k _ _ _ w' hg'.2 ((hAp.keep hg'.1).cell (o := 0) rfl rfl) ((hBp.keep hg'.1).cell (o := 0) rfl rfl) ((hC.keep hg'.1).cell (o := 0) rfl rfl) (hs.grown G) (hr.grown G) (hrowi.grown G) hG hfl hsp (by omega)
  simp -dsimp -implicitDefEqProofs (maxSteps := 2000000) (disch := first | assumption | omega | (simp only [AW.next_push, AW.next_put]; omega) | ((repeat refine Fresh.push ?_ _); assumption) | (simp only [same_int, same_bool, same_ptr, same_slice, same_sliceP, same_nil, same_agg2, same_string]; done) | (simp [oneCell, AW.next_push]; done) | fail) only [go_sem, Nat.reduceEqDiff, reduceIte, Nat.reduceAdd, Int.toNat_natCast, Nat.add_zero, Owes_true, Tryz.results49, e3, e4, e5, e12, e13, e14, hlt, indexV_eq, hc0]
  apply callV_of (e := rfl)
  · exact containsFunc_ok set y (.func 72) _ (findAt ms rs fss[i]) _ gp.2 (hS.grown gp) hpred
  rintro _ w2 ⟨rfl, hg2⟩
  cases hQ : set.any (findAt ms rs fss[i]) with
  | false =>
    simp -dsimp -implicitDefEqProofs (maxSteps := 2000000) (disch := first | assumption | omega | (simp only [AW.next_push, AW.next_put]; omega) | ((repeat refine Fresh.push ?_ _); assumption) | (simp only [same_int, same_bool, same_ptr, same_slice, same_sliceP, same_nil, same_agg2, same_string]; done) | (simp [oneCell, AW.next_push]; done) | fail) only [go_sem, Nat.reduceEqDiff, reduceIte, Nat.reduceAdd, Int.toNat_natCast, Nat.add_zero, Owes_true, Tryz.results49]
    refine ⟨?_, gp.trans hg2⟩
    rw [showsB, List.all_eq_false.mpr ⟨fss[i], List.getElem_mem hri, by rw [hQ]; simp⟩]
  | true =>
    simp -dsimp -implicitDefEqProofs (maxSteps := 2000000) (disch := first | assumption | omega | (simp only [AW.next_push, AW.next_put]; omega) | ((repeat refine Fresh.push ?_ _); assumption) | (simp only [same_int, same_bool, same_ptr, same_slice, same_sliceP, same_nil, same_agg2, same_string]; done) | (simp [oneCell, AW.next_push]; done) | fail) only [go_sem, Nat.reduceEqDiff, reduceIte, Nat.reduceAdd, Int.toNat_natCast, Nat.add_zero, Owes_true, Tryz.results49, e3, e4, e5, e12, e13, e14]
    refine ⟨_, by omega, i + 1, by omega, rfl, rfl, by (simp -dsimp -implicitDefEqProofs (maxSteps := 2000000) (disch := first | assumption | omega | (simp only [AW.next_push, AW.next_put]; omega) | ((repeat refine Fresh.push ?_ _); assumption) | (simp only [same_int, same_bool, same_ptr, same_slice, same_sliceP, same_nil, same_agg2, same_string]; done) | (simp [oneCell, AW.next_push]; done) | fail) only [go_sem, Nat.reduceEqDiff, reduceIte, Nat.reduceAdd, Int.toNat_natCast, Nat.add_zero, Owes_true, e3]; try rfl), by (simp -dsimp -implicitDefEqProofs (maxSteps := 2000000) (disch := first | assumption | omega | (simp only [AW.next_push, AW.next_put]; omega) | ((repeat refine Fresh.push ?_ _); assumption) | (simp only [same_int, same_bool, same_ptr, same_slice, same_sliceP, same_nil, same_agg2, same_string]; done) | (simp [oneCell, AW.next_push]; done) | fail) only [go_sem, Nat.reduceEqDiff, reduceIte, Nat.reduceAdd, Int.toNat_natCast, Nat.add_zero, Owes_true, e4]; try rfl), by (simp -dsimp -implicitDefEqProofs (maxSteps := 2000000) (disch := first | assumption | omega | (simp only [AW.next_push, AW.next_put]; omega) | ((repeat refine Fresh.push ?_ _); assumption) | (simp only [same_int, same_bool, same_ptr, same_slice, same_sliceP, same_nil, same_agg2, same_string]; done) | (simp [oneCell, AW.next_push]; done) | fail) only [go_sem, Nat.reduceEqDiff, reduceIte, Nat.reduceAdd, Int.toNat_natCast, Nat.add_zero, Owes_true, e5]; try rfl), by (simp -dsimp -implicitDefEqProofs (maxSteps := 2000000) (disch := first | assumption | omega | (simp only [AW.next_push, AW.next_put]; omega) | ((repeat refine Fresh.push ?_ _); assumption) | (simp only [same_int, same_bool, same_ptr, same_slice, same_sliceP, same_nil, same_agg2, same_string]; done) | (simp [oneCell, AW.next_push]; done) | fail) only [go_sem, Nat.reduceEqDiff, reduceIte, Nat.reduceAdd, Int.toNat_natCast, Nat.add_zero, Owes_true, e12]; try rfl), by (simp -dsimp -implicitDefEqProofs (maxSteps := 2000000) (disch := first | assumption | omega | (simp only [AW.next_push, AW.next_put]; omega) | ((repeat refine Fresh.push ?_ _); assumption) | (simp only [same_int, same_bool, same_ptr, same_slice, same_sliceP, same_nil, same_agg2, same_string]; done) | (simp [oneCell, AW.next_push]; done) | fail) only [go_sem, Nat.reduceEqDiff, reduceIte, Nat.reduceAdd, Int.toNat_natCast, Nat.add_zero, Owes_true, e13]; try rfl), by (simp -dsimp -implicitDefEqProofs (maxSteps := 2000000) (disch := first | assumption | omega | (simp only [AW.next_push, AW.next_put]; omega) | ((repeat refine Fresh.push ?_ _); assumption) | (simp only [same_int, same_bool, same_ptr, same_slice, same_sliceP, same_nil, same_agg2, same_string]; done) | (simp [oneCell, AW.next_push]; done) | fail) only [go_sem, Nat.reduceEqDiff, reduceIte, Nat.reduceAdd, Int.toNat_natCast, Nat.add_zero, Owes_true, e14]; try rfl), hAp.keep hg2.1, hBp.keep hg2.1, gp.trans hg2, by rw [htake, List.all_append, hall]; simp [hQ]⟩
end Go.Proofs

/- Shows, in both versions. -/
namespace Go.Proofs
open Go Go.RowKit Go.Sim
set_option maxRecDepth 100000
def prevS (set : List Int) (j : Nat) : Int := if j = 0 then -1 else set.getD (j - 1) 0
def okAt (n : Nat) (set : List Int) (j : Nat) : Bool := inR (prevS set j + 1) (set.getD j 0) ((n : Int) - 1)
def okTo (n : Nat) (set : List Int) (k : Nat) : Bool := (List.range k).all (okAt n set)
theorem okTo_succ (n : Nat) (set : List Int) (k : Nat) : okTo n set (k + 1) = (okTo n set k && okAt n set k) := by simp [okTo, List.range_succ]
theorem okTo_at {n : Nat} {set : List Int} : ∀ {k j : Nat}, okTo n set k = true → j < k → 0 ≤ set.getD j 0 ∧ set.getD j 0 ≤ (n : Int) - 1
  | 0, j, _, h => by omega
  | k + 1, j, h, hj => by
    rw [okTo_succ, Bool.and_eq_true] at h
    by_cases e : j = k
    · subst e
      have h2 := (inR_iff _ _ _).1 h.2
      refine ⟨?_, h2.2⟩
      by_cases h0 : j = 0
      · subst h0; simp only [prevS, if_true] at h2; omega
      · have := (okTo_at (j := j - 1) h.1 (by omega)).1
        simp only [prevS, h0, if_false] at h2
        omega
    · exact okTo_at h.1 (by omega)
theorem okTo_all {n : Nat} {set : List Int} (h : okTo n set set.length = true) : ∀ i ∈ set, 0 ≤ i ∧ i < n := by
  intro i hi
  obtain ⟨j, hj, rfl⟩ := List.mem_iff_getElem.1 hi
  have := okTo_at h hj
  rw [getD_at hj] at this
  omega
theorem okTo_not {n : Nat} {set : List Int} {j k : Nat} (h : j < k) (hb : okAt n set j = false) : okTo n set k = false := by
  rw [okTo, List.all_eq_false]; exact ⟨j, by simpa using h, by rw [hb]; simp⟩
def showsE (ms : List (Int × Int)) (rs : List Int) (fss : List (List (Int × Int))) (set : List Int) : Int := if askE ms [rs] fss = 0 then (if okTo ms.length set set.length = true then 0 else 7) else askE ms [rs] fss
def showsR (ms : List (Int × Int)) (rs : List Int) (fss : List (List (Int × Int))) (set : List Int) : Bool := decide (showsE ms rs fss set = 0) && showsB ms rs fss set
def ShowsPost (ms : List (Int × Int)) (rs : List Int) (fss : List (List (Int × Int))) (set : List Int) (w : AW) : Value → AW → Prop := Ret (.tuple #[.bool (showsR ms rs fss set), .int .i64 (showsE ms rs fss set)]) (Grown w)
theorem ShowsPost.err {ms : List (Int × Int)} {rs : List Int} {fss : List (List (Int × Int))} {set : List Int} {w w' : AW} {e : Int} (h : showsE ms rs fss set = e) (h0 : e ≠ 0) (g : Grown w w') : ShowsPost ms rs fss set w (.tuple #[.bool false, .int .i64 e]) w' := by
  refine ⟨?_, g⟩
  rw [showsR, h, decide_eq_false h0]; rfl

set_option maxHeartbeats 1000000 in
theorem Shows_ok (ms : List (Int × Int)) (rs : List Int) (fss : List (List (Int × Int))) (set : List Int) (v u x y : Value) (w : AW) (f : Fresh w) (hs : ArrOf w 2 mcells v ms) (hr : ArrOf w 1 icells u rs) (hF : Fks w x fss) (hS : ArrOf w 1 icells y set) :
    CallT Tryz.prog Tryz.T (.fn (.func 20) #[]) #[v, u, x, y] w (ShowsPost ms rs fss set w) := by
  obtain ⟨p, cap, rfl, hcap, hmax, hat⟩ := hs.open
  obtain ⟨q, cap2, rfl, hcap2, hmax2, hat2⟩ := hr.open
  obtain ⟨r, cap3, rfl, hcap3, hmax3, hat3⟩ := hS.open
  have g1 := (Grown.refl f).push (.cells [.slice q rs.length cap2] 24 w.next 0 0)
  refine callT_code rfl Tryz.func20 rfl Tryz.s20_eq rfl ?_
  unfold Tryz.s20
  simp -dsimp -implicitDefEqProofs (maxSteps := 2000000) (disch := first | assumption | omega | (simp only [AW.next_push, AW.next_put]; omega) | ((repeat refine Fresh.push ?_ _); assumption) | (simp only [same_int, same_bool, same_ptr, same_slice, same_sliceP, same_nil, same_agg2, same_string]; done) | (simp [oneCell, AW.next_push]; done) | fail) only [go_sem, Nat.reduceEqDiff, reduceIte, Nat.reduceAdd, Int.toNat_natCast, Nat.add_zero, Owes_true, Tryz.results20]
  apply callV_of (e := rfl)
  · exact checkF_ok ms [rs] fss _ _ _ _ g1.2 (hs.grown g1) (hF.grown g1) (rows1 f hr)
  rintro _ w1 ⟨rfl, hg1⟩
  have g2 := g1.trans hg1
  by_cases hE : askE ms [rs] fss = 0
  case neg =>
    simp -dsimp -implicitDefEqProofs (maxSteps := 2000000) (disch := first | assumption | omega | (simp only [AW.next_push, AW.next_put]; omega) | ((repeat refine Fresh.push ?_ _); assumption) | (simp only [same_int, same_bool, same_ptr, same_slice, same_sliceP, same_nil, same_agg2, same_string]; done) | (simp [oneCell, AW.next_push]; done) | fail) only [go_sem, Nat.reduceEqDiff, reduceIte, Nat.reduceAdd, Int.toNat_natCast, Nat.add_zero, Owes_true, Tryz.results20, hE]
    exact ShowsPost.err (by rw [showsE, if_neg hE]) hE g2
  obtain ⟨hG, _, hfs⟩ := askE_zero hE
  simp -dsimp -implicitDefEqProofs (maxSteps := 2000000) (disch := first | assumption | omega | (simp only [AW.next_push, AW.next_put]; omega) | ((repeat refine Fresh.push ?_ _); assumption) | (simp only [same_int, same_bool, same_ptr, same_slice, same_sliceP, same_nil, same_agg2, same_string]; done) | (simp [oneCell, AW.next_push]; done) | fail) only [go_sem, Nat.reduceEqDiff, reduceIte, Nat.reduceAdd, Int.toNat_natCast, Nat.add_zero, Owes_true, Tryz.results20, hE]
  refine loopR (fun k t ds w2 => ∃ i : Nat, i ≤ set.length ∧ k = set.length - i ∧ ds = [] ∧ ev t (.tmp 0) = .slice p ms.length cap ∧ ev t (.tmp 1) = .slice q rs.length cap2 ∧ ev t (.tmp 2) = x ∧ ev t (.tmp 3) = .slice r set.length cap3 ∧ ev t (.tmp 11) = .int .i64 (prevS set i) ∧ ev t (.tmp 22) = .slice r set.length cap3 ∧ ev t (.tmp 23) = .int .i64 (set.length : Int) ∧ ev t (.tmp 24) = .int .i64 (i : Int) ∧ w1 = w2 ∧ okTo ms.length set i = true) (set.length) ?_ ?_
  · refine ⟨0, by omega, by omega, rfl, ?_, ?_, ?_, ?_, ?_, ?_, ?_, ?_, rfl, rfl⟩ <;> simp -dsimp -implicitDefEqProofs (maxSteps := 2000000) (disch := first | assumption | omega | (simp only [AW.next_push, AW.next_put]; omega) | ((repeat refine Fresh.push ?_ _); assumption) | (simp only [same_int, same_bool, same_ptr, same_slice, same_sliceP, same_nil, same_agg2, same_string]; done) | (simp [oneCell, AW.next_push]; done) | fail) only [go_sem, Nat.reduceEqDiff, reduceIte, Nat.reduceAdd, Int.toNat_natCast, Nat.add_zero, Owes_true] <;> rfl
  rintro k t ds w2 ⟨i, hii, rfl, rfl, e0, e1, e2, e3, e11, e22, e23, e24, hw, hok⟩
  subst hw
  obtain ⟨hk, hf⟩ := id g2
  by_cases hlt : (i : Int) < (set.length : Int)
  case neg =>
    obtain rfl : i = set.length := by omega
    simp -dsimp -implicitDefEqProofs (maxSteps := 2000000) (disch := first | assumption | omega | (simp only [AW.next_push, AW.next_put]; omega) | ((repeat refine Fresh.push ?_ _); assumption) | (simp only [same_int, same_bool, same_ptr, same_slice, same_sliceP, same_nil, same_agg2, same_string]; done) | (simp [oneCell, AW.next_push]; done) | fail) only [go_sem, Nat.reduceEqDiff, reduceIte, Nat.reduceAdd, Int.toNat_natCast, Nat.add_zero, Owes_true, Tryz.results20, e0, e1, e2, e3, e11, e22, e23, e24, hlt]
    apply callV_of (e := rfl)
    · exact shows_ok ms rs fss set _ _ x _ w1 hf (hs.grown g2) (hr.grown g2) (hF.grown g2) (hS.grown g2) hG hfs (okTo_all hok)
    rintro _ w3 ⟨rfl, hg3⟩
    simp -dsimp -implicitDefEqProofs (maxSteps := 2000000) (disch := first | assumption | omega | (simp only [AW.next_push, AW.next_put]; omega) | ((repeat refine Fresh.push ?_ _); assumption) | (simp only [same_int, same_bool, same_ptr, same_slice, same_sliceP, same_nil, same_agg2, same_string]; done) | (simp [oneCell, AW.next_push]; done) | fail) only [go_sem, Nat.reduceEqDiff, reduceIte, Nat.reduceAdd, Int.toNat_natCast, Nat.add_zero, Owes_true, Tryz.results20]
    have h0 : showsE ms rs fss set = 0 := by rw [showsE, if_pos hE, if_pos hok]
    exact ⟨by rw [showsR, h0]; simp, g2.trans hg3⟩
  have hlt' : i < set.length := by omega
  obtain ⟨b1, o1, rfl, hb1, hcell⟩ := hat3 i hlt'
  have hc0 := hcell w1 hk 0 _ rfl
  rw [Nat.add_zero] at hc0
  have hset := getD_at (d := 0) hlt'
  have hprev : -1 ≤ prevS set i ∧ prevS set i ≤ 8 := by
    have := hG.len
    by_cases h0 : i = 0
    · subst h0; simp [prevS]
    · have := okTo_at (j := i - 1) hok (by omega)
      simp only [prevS, h0, if_false]; omega
  have hms := hG.len
  have hAt : okAt ms.length set i = inR (prevS set i + 1) set[i] ((ms.length : Int) - 1) := by rw [okAt, hset]
  simp -dsimp -implicitDefEqProofs (maxSteps := 2000000) (disch := first | assumption | omega | (simp only [AW.next_push, AW.next_put]; omega) | ((repeat refine Fresh.push ?_ _); assumption) | (simp only [same_int, same_bool, same_ptr, same_slice, same_sliceP, same_nil, same_agg2, same_string]; done) | (simp [oneCell, AW.next_push]; done) | fail) only [go_sem, Nat.reduceEqDiff, reduceIte, Nat.reduceAdd, Int.toNat_natCast, Nat.add_zero, Owes_true, Tryz.results20, e0, e1, e2, e3, e11, e22, e23, e24, hlt, indexV_eq, hc0]
  apply callV_of (e := rfl)
  · exact within_ok _ _ _ w1
  rintro _ _ ⟨rfl, rfl⟩
  cases hB : inR (prevS set i + 1) set[i] ((ms.length : Int) - 1) with
  | false =>
    simp -dsimp -implicitDefEqProofs (maxSteps := 2000000) (disch := first | assumption | omega | (simp only [AW.next_push, AW.next_put]; omega) | ((repeat refine Fresh.push ?_ _); assumption) | (simp only [same_int, same_bool, same_ptr, same_slice, same_sliceP, same_nil, same_agg2, same_string]; done) | (simp [oneCell, AW.next_push]; done) | fail) only [go_sem, Nat.reduceEqDiff, reduceIte, Nat.reduceAdd, Int.toNat_natCast, Nat.add_zero, Owes_true, Tryz.results20]
    refine ShowsPost.err ?_ (by omega) g2
    rw [showsE, if_pos hE, if_neg]
    rw [okTo_not hlt' (by rw [hAt, hB])]; simp
  | true =>
    simp -dsimp -implicitDefEqProofs (maxSteps := 2000000) (disch := first | assumption | omega | (simp only [AW.next_push, AW.next_put]; omega) | ((repeat refine Fresh.push ?_ _); assumption) | (simp only [same_int, same_bool, same_ptr, same_slice, same_sliceP, same_nil, same_agg2, same_string]; done) | (simp [oneCell, AW.next_push]; done) | fail) only [go_sem, Nat.reduceEqDiff, reduceIte, Nat.reduceAdd, Int.toNat_natCast, Nat.add_zero, Owes_true, Tryz.results20, e0, e1, e2, e3, e11, e22, e23, e24]
    refine ⟨_, by omega, i + 1, by omega, rfl, rfl, by simp -dsimp -implicitDefEqProofs (maxSteps := 2000000) (disch := first | assumption | omega | (simp only [AW.next_push, AW.next_put]; omega) | ((repeat refine Fresh.push ?_ _); assumption) | (simp only [same_int, same_bool, same_ptr, same_slice, same_sliceP, same_nil, same_agg2, same_string]; done) | (simp [oneCell, AW.next_push]; done) | fail) only [go_sem, Nat.reduceEqDiff, reduceIte, Nat.reduceAdd, Int.toNat_natCast, Nat.add_zero, Owes_true, e0], by simp -dsimp -implicitDefEqProofs (maxSteps := 2000000) (disch := first | assumption | omega | (simp only [AW.next_push, AW.next_put]; omega) | ((repeat refine Fresh.push ?_ _); assumption) | (simp only [same_int, same_bool, same_ptr, same_slice, same_sliceP, same_nil, same_agg2, same_string]; done) | (simp [oneCell, AW.next_push]; done) | fail) only [go_sem, Nat.reduceEqDiff, reduceIte, Nat.reduceAdd, Int.toNat_natCast, Nat.add_zero, Owes_true, e1], by simp -dsimp -implicitDefEqProofs (maxSteps := 2000000) (disch := first | assumption | omega | (simp only [AW.next_push, AW.next_put]; omega) | ((repeat refine Fresh.push ?_ _); assumption) | (simp only [same_int, same_bool, same_ptr, same_slice, same_sliceP, same_nil, same_agg2, same_string]; done) | (simp [oneCell, AW.next_push]; done) | fail) only [go_sem, Nat.reduceEqDiff, reduceIte, Nat.reduceAdd, Int.toNat_natCast, Nat.add_zero, Owes_true, e2], by simp -dsimp -implicitDefEqProofs (maxSteps := 2000000) (disch := first | assumption | omega | (simp only [AW.next_push, AW.next_put]; omega) | ((repeat refine Fresh.push ?_ _); assumption) | (simp only [same_int, same_bool, same_ptr, same_slice, same_sliceP, same_nil, same_agg2, same_string]; done) | (simp [oneCell, AW.next_push]; done) | fail) only [go_sem, Nat.reduceEqDiff, reduceIte, Nat.reduceAdd, Int.toNat_natCast, Nat.add_zero, Owes_true, e3], ?_, by simp -dsimp -implicitDefEqProofs (maxSteps := 2000000) (disch := first | assumption | omega | (simp only [AW.next_push, AW.next_put]; omega) | ((repeat refine Fresh.push ?_ _); assumption) | (simp only [same_int, same_bool, same_ptr, same_slice, same_sliceP, same_nil, same_agg2, same_string]; done) | (simp [oneCell, AW.next_push]; done) | fail) only [go_sem, Nat.reduceEqDiff, reduceIte, Nat.reduceAdd, Int.toNat_natCast, Nat.add_zero, Owes_true, e22], by simp -dsimp -implicitDefEqProofs (maxSteps := 2000000) (disch := first | assumption | omega | (simp only [AW.next_push, AW.next_put]; omega) | ((repeat refine Fresh.push ?_ _); assumption) | (simp only [same_int, same_bool, same_ptr, same_slice, same_sliceP, same_nil, same_agg2, same_string]; done) | (simp [oneCell, AW.next_push]; done) | fail) only [go_sem, Nat.reduceEqDiff, reduceIte, Nat.reduceAdd, Int.toNat_natCast, Nat.add_zero, Owes_true, e23], by (simp -dsimp -implicitDefEqProofs (maxSteps := 2000000) (disch := first | assumption | omega | (simp only [AW.next_push, AW.next_put]; omega) | ((repeat refine Fresh.push ?_ _); assumption) | (simp only [same_int, same_bool, same_ptr, same_slice, same_sliceP, same_nil, same_agg2, same_string]; done) | (simp [oneCell, AW.next_push]; done) | fail) only [go_sem, Nat.reduceEqDiff, reduceIte, Nat.reduceAdd, Int.toNat_natCast, Nat.add_zero, Owes_true]; try rfl), rfl, by rw [okTo_succ, hok, hAt, hB]; rfl⟩
    have hp : prevS set (i + 1) = set[i] := by simp only [prevS]; rw [if_neg (by omega), Nat.add_sub_cancel, hset]
    simp -dsimp -implicitDefEqProofs (maxSteps := 2000000) (disch := first | assumption | omega | (simp only [AW.next_push, AW.next_put]; omega) | ((repeat refine Fresh.push ?_ _); assumption) | (simp only [same_int, same_bool, same_ptr, same_slice, same_sliceP, same_nil, same_agg2, same_string]; done) | (simp [oneCell, AW.next_push]; done) | fail) only [go_sem, Nat.reduceEqDiff, reduceIte, Nat.reduceAdd, Int.toNat_natCast, Nat.add_zero, Owes_true, hp]

set_option maxHeartbeats 2000000 in
theorem refshows_ok (ms : List (Int × Int)) (rs : List Int) (fss : List (List (Int × Int))) (set : List Int) (v u x y : Value) (w : AW) (f : Fresh w) (hs : ArrOf w 2 mcells v ms) (hr : ArrOf w 1 icells u rs) (hF : Fks w x fss) (hS : ArrOf w 1 icells y set)
    (hG : Good ms rs) (hok : ∀ fs ∈ fss, fs.length = ms.length ∧ ∀ s ∈ fs, okSp s = true) (hset : ∀ i ∈ set, 0 ≤ i ∧ i < ms.length) :
    CallT Tryz.prog Tryz.T (.fn (.func 50) #[]) #[v, u, x, y] w (Ret (.bool (showsB ms rs fss set)) (Grown w)) := by
  obtain ⟨vs, hvl, hvs, hrow⟩ := id hF
  obtain ⟨p, cap, rfl, hcap, hmax, hat⟩ := hs.open
  obtain ⟨q, cap2, rfl, hcap2, hmax2, hat2⟩ := hr.open
  obtain ⟨r, cap3, rfl, hcap3, hmax3, hat3⟩ := hvs.open
  obtain ⟨s, cap4, rfl, hcap4, hmax4, hat4⟩ := hS.open
  refine callT_code rfl Tryz.func50 rfl Tryz.s50_eq rfl ?_
  unfold Tryz.s50
  simp -dsimp -implicitDefEqProofs (maxSteps := 2000000) (disch := first | assumption | omega | (simp only [AW.next_push, AW.next_put]; omega) | ((repeat refine Fresh.push ?_ _); assumption) | (simp only [same_int, same_bool, same_ptr, same_slice, same_sliceP, same_nil, same_agg2, same_string]; done) | (simp [oneCell, AW.next_push]; done) | fail) only [go_sem, Nat.reduceEqDiff, reduceIte, Nat.reduceAdd, Int.toNat_natCast, Nat.add_zero, Owes_true, Tryz.results50]
  refine loopR (fun k t ds w1 => ∃ i : Nat, i ≤ vs.length ∧ k = vs.length - i ∧ ds = [] ∧ ev t (.tmp 0) = .slice p ms.length cap ∧ ev t (.tmp 1) = .slice q rs.length cap2 ∧ ev t (.tmp 2) = .slice r vs.length cap3 ∧ ev t (.tmp 3) = .slice s set.length cap4 ∧ ev t (.tmp 9) = .int .i64 (i : Int) ∧ Grown w w1 ∧ ((fss.take i).all fun fs => set.any (findAt ms rs fs)) = true) (vs.length) ?_ ?_
  · refine ⟨0, by omega, by omega, rfl, ?_, ?_, ?_, ?_, ?_, .refl f, rfl⟩ <;> simp -dsimp -implicitDefEqProofs (maxSteps := 2000000) (disch := first | assumption | omega | (simp only [AW.next_push, AW.next_put]; omega) | ((repeat refine Fresh.push ?_ _); assumption) | (simp only [same_int, same_bool, same_ptr, same_slice, same_sliceP, same_nil, same_agg2, same_string]; done) | (simp [oneCell, AW.next_push]; done) | fail) only [go_sem, Nat.reduceEqDiff, reduceIte, Nat.reduceAdd, Int.toNat_natCast, Nat.add_zero, Owes_true] <;> rfl
  rintro k t ds w1 ⟨i, hii, rfl, rfl, e0, e1, e2, e3, e9, hg, hall⟩
  obtain ⟨hk, hf⟩ := id hg
  by_cases hlt : (i : Int) < (vs.length : Int)
  case neg =>
    have h2 : fss.take i = fss := List.take_of_length_le (by omega)
    rw [h2] at hall
    simp -dsimp -implicitDefEqProofs (maxSteps := 2000000) (disch := first | assumption | omega | (simp only [AW.next_push, AW.next_put]; omega) | ((repeat refine Fresh.push ?_ _); assumption) | (simp only [same_int, same_bool, same_ptr, same_slice, same_sliceP, same_nil, same_agg2, same_string]; done) | (simp [oneCell, AW.next_push]; done) | fail) only [go_sem, Nat.reduceEqDiff, reduceIte, Nat.reduceAdd, Int.toNat_natCast, Nat.add_zero, Owes_true, Tryz.results50, e0, e1, e2, e3, e9, hlt]
    exact ⟨by rw [showsB, hall], hg⟩
  have hlt' : i < vs.length := by omega
  have hri : i < fss.length := by omega
  obtain ⟨b1, o1, rfl, hb1, hcell⟩ := hat3 i hlt'
  obtain ⟨p3, cap5, hv3, hcap5, hmax5, hat5⟩ := (hrow i vs[i] fss[i] (by simp [hlt']) (by simp [hri])).open
  have htake : fss.take (i + 1) = fss.take i ++ [fss[i]] := by rw [List.take_succ_eq_append_getElem hri]
  obtain ⟨hfl, hsp⟩ := hok fss[i] (List.getElem_mem hri)
  simp -dsimp -implicitDefEqProofs (maxSteps := 2000000) (disch := first | assumption | omega | (simp only [AW.next_push, AW.next_put]; omega) | ((repeat refine Fresh.push ?_ _); assumption) | (simp only [same_int, same_bool, same_ptr, same_slice, same_sliceP, same_nil, same_agg2, same_string]; done) | (simp [oneCell, AW.next_push]; done) | fail) only [go_sem, Nat.reduceEqDiff, reduceIte, Nat.reduceAdd, Int.toNat_natCast, Nat.add_zero, Owes_true, Tryz.results50, e0, e1, e2, e3, e9, hlt]
  refine loopR (fun k t ds w2 => ∃ j : Nat, j ≤ set.length ∧ k = set.length - j ∧ ds = [] ∧ ev t (.tmp 0) = .slice p ms.length cap ∧ ev t (.tmp 1) = .slice q rs.length cap2 ∧ ev t (.tmp 2) = .slice (some ⟨b1, o1, none⟩) vs.length cap3 ∧ ev t (.tmp 3) = .slice s set.length cap4 ∧ ev t (.tmp 9) = .int .i64 (i : Int) ∧ ev t (.tmp 10) = .bool ((set.take j).any (findAt ms rs fss[i])) ∧ ev t (.tmp 11) = .int .i64 (j : Int) ∧ Grown w w2) (set.length) ?_ ?_
  · refine ⟨0, by omega, by omega, rfl, ?_, ?_, ?_, ?_, ?_, ?_, ?_, hg⟩ <;> simp -dsimp -implicitDefEqProofs (maxSteps := 2000000) (disch := first | assumption | omega | (simp only [AW.next_push, AW.next_put]; omega) | ((repeat refine Fresh.push ?_ _); assumption) | (simp only [same_int, same_bool, same_ptr, same_slice, same_sliceP, same_nil, same_agg2, same_string]; done) | (simp [oneCell, AW.next_push]; done) | fail) only [go_sem, Nat.reduceEqDiff, reduceIte, Nat.reduceAdd, Int.toNat_natCast, Nat.add_zero, Owes_true, e0, e1, e2, e3, e9] <;> rfl
  rintro k t ds w2 ⟨j, hij, rfl, rfl, e0, e1, e2, e3, e9, e10, e11, hg2⟩
  obtain ⟨hk2, hf2⟩ := id hg2
  by_cases hjt : (j : Int) < (set.length : Int)
  case neg =>
    have h2 : set.take j = set := List.take_of_length_le (by omega)
    rw [h2] at e10
    cases hQ : set.any (findAt ms rs fss[i]) with
    | false =>
      rw [hQ] at e10
      simp -dsimp -implicitDefEqProofs (maxSteps := 2000000) (disch := first | assumption | omega | (simp only [AW.next_push, AW.next_put]; omega) | ((repeat refine Fresh.push ?_ _); assumption) | (simp only [same_int, same_bool, same_ptr, same_slice, same_sliceP, same_nil, same_agg2, same_string]; done) | (simp [oneCell, AW.next_push]; done) | fail) only [go_sem, Nat.reduceEqDiff, reduceIte, Nat.reduceAdd, Int.toNat_natCast, Nat.add_zero, Owes_true, Tryz.results50, e0, e1, e2, e3, e9, e10, e11, hjt]
      refine ⟨?_, hg2⟩
      rw [showsB, List.all_eq_false.mpr ⟨fss[i], List.getElem_mem hri, by rw [hQ]; simp⟩]
    | true =>
      rw [hQ] at e10
      simp -dsimp -implicitDefEqProofs (maxSteps := 2000000) (disch := first | assumption | omega | (simp only [AW.next_push, AW.next_put]; omega) | ((repeat refine Fresh.push ?_ _); assumption) | (simp only [same_int, same_bool, same_ptr, same_slice, same_sliceP, same_nil, same_agg2, same_string]; done) | (simp [oneCell, AW.next_push]; done) | fail) only [go_sem, Nat.reduceEqDiff, reduceIte, Nat.reduceAdd, Int.toNat_natCast, Nat.add_zero, Owes_true, Tryz.results50, e0, e1, e2, e3, e9, e10, e11, hjt]
      refine ⟨_, by omega, i + 1, by omega, rfl, rfl, by (simp -dsimp -implicitDefEqProofs (maxSteps := 2000000) (disch := first | assumption | omega | (simp only [AW.next_push, AW.next_put]; omega) | ((repeat refine Fresh.push ?_ _); assumption) | (simp only [same_int, same_bool, same_ptr, same_slice, same_sliceP, same_nil, same_agg2, same_string]; done) | (simp [oneCell, AW.next_push]; done) | fail) only [go_sem, Nat.reduceEqDiff, reduceIte, Nat.reduceAdd, Int.toNat_natCast, Nat.add_zero, Owes_true, e0]; try rfl), by (simp -dsimp -implicitDefEqProofs (maxSteps := 2000000) (disch := first | assumption | omega | (simp only [AW.next_push, AW.next_put]; omega) | ((repeat refine Fresh.push ?_ _); assumption) | (simp only [same_int, same_bool, same_ptr, same_slice, same_sliceP, same_nil, same_agg2, same_string]; done) | (simp [oneCell, AW.next_push]; done) | fail) only [go_sem, Nat.reduceEqDiff, reduceIte, Nat.reduceAdd, Int.toNat_natCast, Nat.add_zero, Owes_true, e1]; try rfl), by (simp -dsimp -implicitDefEqProofs (maxSteps := 2000000) (disch := first | assumption | omega | (simp only [AW.next_push, AW.next_put]; omega) | ((repeat refine Fresh.push ?_ _); assumption) | (simp only [same_int, same_bool, same_ptr, same_slice, same_sliceP, same_nil, same_agg2, same_string]; done) | (simp [oneCell, AW.next_push]; done) | fail) only [go_sem, Nat.reduceEqDiff, reduceIte, Nat.reduceAdd, Int.toNat_natCast, Nat.add_zero, Owes_true, e2]; try rfl), by (simp -dsimp -implicitDefEqProofs (maxSteps := 2000000) (disch := first | assumption | omega | (simp only [AW.next_push, AW.next_put]; omega) | ((repeat refine Fresh.push ?_ _); assumption) | (simp only [same_int, same_bool, same_ptr, same_slice, same_sliceP, same_nil, same_agg2, same_string]; done) | (simp [oneCell, AW.next_push]; done) | fail) only [go_sem, Nat.reduceEqDiff, reduceIte, Nat.reduceAdd, Int.toNat_natCast, Nat.add_zero, Owes_true, e3]; try rfl), by (simp -dsimp -implicitDefEqProofs (maxSteps := 2000000) (disch := first | assumption | omega | (simp only [AW.next_push, AW.next_put]; omega) | ((repeat refine Fresh.push ?_ _); assumption) | (simp only [same_int, same_bool, same_ptr, same_slice, same_sliceP, same_nil, same_agg2, same_string]; done) | (simp [oneCell, AW.next_push]; done) | fail) only [go_sem, Nat.reduceEqDiff, reduceIte, Nat.reduceAdd, Int.toNat_natCast, Nat.add_zero, Owes_true, e9]; try rfl), hg2, by rw [htake, List.all_append, hall]; simp [hQ]⟩
  have hjt' : j < set.length := by omega
  have htake2 : set.take (j + 1) = set.take j ++ [set[j]] := by rw [List.take_succ_eq_append_getElem hjt']
  cases hQ : (set.take j).any (findAt ms rs fss[i]) with
  | true =>
    rw [hQ] at e10
    simp -dsimp -implicitDefEqProofs (maxSteps := 2000000) (disch := first | assumption | omega | (simp only [AW.next_push, AW.next_put]; omega) | ((repeat refine Fresh.push ?_ _); assumption) | (simp only [same_int, same_bool, same_ptr, same_slice, same_sliceP, same_nil, same_agg2, same_string]; done) | (simp [oneCell, AW.next_push]; done) | fail) only [go_sem, Nat.reduceEqDiff, reduceIte, Nat.reduceAdd, Int.toNat_natCast, Nat.add_zero, Owes_true, Tryz.results50, e0, e1, e2, e3, e9, e10, e11, hjt]
    refine ⟨_, by omega, j + 1, by omega, rfl, rfl, by simp -dsimp -implicitDefEqProofs (maxSteps := 2000000) (disch := first | assumption | omega | (simp only [AW.next_push, AW.next_put]; omega) | ((repeat refine Fresh.push ?_ _); assumption) | (simp only [same_int, same_bool, same_ptr, same_slice, same_sliceP, same_nil, same_agg2, same_string]; done) | (simp [oneCell, AW.next_push]; done) | fail) only [go_sem, Nat.reduceEqDiff, reduceIte, Nat.reduceAdd, Int.toNat_natCast, Nat.add_zero, Owes_true, e0], by simp -dsimp -implicitDefEqProofs (maxSteps := 2000000) (disch := first | assumption | omega | (simp only [AW.next_push, AW.next_put]; omega) | ((repeat refine Fresh.push ?_ _); assumption) | (simp only [same_int, same_bool, same_ptr, same_slice, same_sliceP, same_nil, same_agg2, same_string]; done) | (simp [oneCell, AW.next_push]; done) | fail) only [go_sem, Nat.reduceEqDiff, reduceIte, Nat.reduceAdd, Int.toNat_natCast, Nat.add_zero, Owes_true, e1], by simp -dsimp -implicitDefEqProofs (maxSteps := 2000000) (disch := first | assumption | omega | (simp only [AW.next_push, AW.next_put]; omega) | ((repeat refine Fresh.push ?_ _); assumption) | (simp only [same_int, same_bool, same_ptr, same_slice, same_sliceP, same_nil, same_agg2, same_string]; done) | (simp [oneCell, AW.next_push]; done) | fail) only [go_sem, Nat.reduceEqDiff, reduceIte, Nat.reduceAdd, Int.toNat_natCast, Nat.add_zero, Owes_true, e2], by simp -dsimp -implicitDefEqProofs (maxSteps := 2000000) (disch := first | assumption | omega | (simp only [AW.next_push, AW.next_put]; omega) | ((repeat refine Fresh.push ?_ _); assumption) | (simp only [same_int, same_bool, same_ptr, same_slice, same_sliceP, same_nil, same_agg2, same_string]; done) | (simp [oneCell, AW.next_push]; done) | fail) only [go_sem, Nat.reduceEqDiff, reduceIte, Nat.reduceAdd, Int.toNat_natCast, Nat.add_zero, Owes_true, e3], by simp -dsimp -implicitDefEqProofs (maxSteps := 2000000) (disch := first | assumption | omega | (simp only [AW.next_push, AW.next_put]; omega) | ((repeat refine Fresh.push ?_ _); assumption) | (simp only [same_int, same_bool, same_ptr, same_slice, same_sliceP, same_nil, same_agg2, same_string]; done) | (simp [oneCell, AW.next_push]; done) | fail) only [go_sem, Nat.reduceEqDiff, reduceIte, Nat.reduceAdd, Int.toNat_natCast, Nat.add_zero, Owes_true, e9], ?_, by (simp -dsimp -implicitDefEqProofs (maxSteps := 2000000) (disch := first | assumption | omega | (simp only [AW.next_push, AW.next_put]; omega) | ((repeat refine Fresh.push ?_ _); assumption) | (simp only [same_int, same_bool, same_ptr, same_slice, same_sliceP, same_nil, same_agg2, same_string]; done) | (simp [oneCell, AW.next_push]; done) | fail) only [go_sem, Nat.reduceEqDiff, reduceIte, Nat.reduceAdd, Int.toNat_natCast, Nat.add_zero, Owes_true]; try rfl), hg2⟩
    rw [htake2, List.any_append, hQ]; simp -dsimp -implicitDefEqProofs (maxSteps := 2000000) (disch := first | assumption | omega | (simp only [AW.next_push, AW.next_put]; omega) | ((repeat refine Fresh.push ?_ _); assumption) | (simp only [same_int, same_bool, same_ptr, same_slice, same_sliceP, same_nil, same_agg2, same_string]; done) | (simp [oneCell, AW.next_push]; done) | fail) only [go_sem, Nat.reduceEqDiff, reduceIte, Nat.reduceAdd, Int.toNat_natCast, Nat.add_zero, Owes_true, Bool.true_or]
  | false =>
    rw [hQ] at e10
    obtain ⟨h0, h1⟩ := hset set[j] (List.getElem_mem hjt')
    obtain ⟨b4, o4, rfl, hb4, hcell4⟩ := hat4 j hjt'
    have hz0 := hcell4 w2 hk2 0 _ rfl
    rw [Nat.add_zero] at hz0
    generalize hsj : set[j] = sj at *
    obtain ⟨k, rfl⟩ := Int.eq_ofNat_of_zero_le h0
    have hkm : k < ms.length := by omega
    have hkr : k < rs.length := by have := hG.rlen; omega
    have hkf : k < fss[i].length := by omega
    have hkm' : (k : Int) < (ms.length : Int) := by omega
    have hkr' : (k : Int) < (rs.length : Int) := by omega
    have hkf' : (k : Int) < (fss[i].length : Int) := by omega
    obtain ⟨b5, o5, rfl, hb5, hcell5⟩ := hat k hkm
    obtain ⟨b6, o6, rfl, hb6, hcell6⟩ := hat2 k hkr
    obtain ⟨b7, o7, rfl, hb7, hcell7⟩ := hat5 k hkf
    have hc0 := hcell5 w2 hk2 0 _ rfl
    have hc1 := hcell5 w2 hk2 1 _ rfl
    have hx0 := hcell6 w2 hk2 0 _ rfl
    have hy0 := hcell7 w2 hk2 0 _ rfl
    have hy1 := hcell7 w2 hk2 1 _ rfl
    have hd0 := hcell w2 hk2 0 _ rfl
    rw [Nat.add_zero] at hc0 hx0 hy0 hd0
    rw [hv3] at hd0
    have hz0' : w2.cell? ⟨b4, o4 + j * 1, none⟩ = some (.int .i64 (k : Int)) := by rw [hz0]
    have hfind : findAt ms rs fss[i] (k : Int) = find1 ms[k] rs[k] fss[i][k] := by rw [findAt, Int.toNat_natCast, getD_at hkm, getD_at hkr, getD_at hkf]
    simp -dsimp -implicitDefEqProofs (maxSteps := 2000000) (disch := first | assumption | omega | (simp only [AW.next_push, AW.next_put]; omega) | ((repeat refine Fresh.push ?_ _); assumption) | (simp only [same_int, same_bool, same_ptr, same_slice, same_sliceP, same_nil, same_agg2, same_string]; done) | (simp [oneCell, AW.next_push]; done) | fail) only [go_sem, Nat.reduceEqDiff, reduceIte, Nat.reduceAdd, Int.toNat_natCast, Nat.add_zero, Owes_true, Tryz.results50, e0, e1, e2, e3, e9, e10, e11, hlt, hjt, hkm', hkr', hkf', indexV_eq, hz0', hc0, hc1, hx0, hy0, hy1, hd0]
    apply callV_of (e := rfl)
    · exact refFinds_ok ms[k] fss[i][k] rs[k] (hG.tol _ (List.getElem_mem hkm)) (hG.rd _ (List.getElem_mem hkr)) _ hf2
    rintro _ w3 ⟨rfl, hg3⟩
    have hle := hg3.1.wle hf2
    simp -dsimp -implicitDefEqProofs (maxSteps := 2000000) (disch := first | assumption | omega | (simp only [AW.next_push, AW.next_put]; omega) | ((repeat refine Fresh.push ?_ _); assumption) | (simp only [same_int, same_bool, same_ptr, same_slice, same_sliceP, same_nil, same_agg2, same_string]; done) | (simp [oneCell, AW.next_push]; done) | fail) only [go_sem, Nat.reduceEqDiff, reduceIte, Nat.reduceAdd, Int.toNat_natCast, Nat.add_zero, Owes_true, Tryz.results50, e0, e1, e2, e3, e9, e10, e11]
    refine ⟨_, by omega, j + 1, by omega, rfl, rfl, by simp -dsimp -implicitDefEqProofs (maxSteps := 2000000) (disch := first | assumption | omega | (simp only [AW.next_push, AW.next_put]; omega) | ((repeat refine Fresh.push ?_ _); assumption) | (simp only [same_int, same_bool, same_ptr, same_slice, same_sliceP, same_nil, same_agg2, same_string]; done) | (simp [oneCell, AW.next_push]; done) | fail) only [go_sem, Nat.reduceEqDiff, reduceIte, Nat.reduceAdd, Int.toNat_natCast, Nat.add_zero, Owes_true, e0], by simp -dsimp -implicitDefEqProofs (maxSteps := 2000000) (disch := first | assumption | omega | (simp only [AW.next_push, AW.next_put]; omega) | ((repeat refine Fresh.push ?_ _); assumption) | (simp only [same_int, same_bool, same_ptr, same_slice, same_sliceP, same_nil, same_agg2, same_string]; done) | (simp [oneCell, AW.next_push]; done) | fail) only [go_sem, Nat.reduceEqDiff, reduceIte, Nat.reduceAdd, Int.toNat_natCast, Nat.add_zero, Owes_true, e1], by simp -dsimp -implicitDefEqProofs (maxSteps := 2000000) (disch := first | assumption | omega | (simp only [AW.next_push, AW.next_put]; omega) | ((repeat refine Fresh.push ?_ _); assumption) | (simp only [same_int, same_bool, same_ptr, same_slice, same_sliceP, same_nil, same_agg2, same_string]; done) | (simp [oneCell, AW.next_push]; done) | fail) only [go_sem, Nat.reduceEqDiff, reduceIte, Nat.reduceAdd, Int.toNat_natCast, Nat.add_zero, Owes_true, e2], by simp -dsimp -implicitDefEqProofs (maxSteps := 2000000) (disch := first | assumption | omega | (simp only [AW.next_push, AW.next_put]; omega) | ((repeat refine Fresh.push ?_ _); assumption) | (simp only [same_int, same_bool, same_ptr, same_slice, same_sliceP, same_nil, same_agg2, same_string]; done) | (simp [oneCell, AW.next_push]; done) | fail) only [go_sem, Nat.reduceEqDiff, reduceIte, Nat.reduceAdd, Int.toNat_natCast, Nat.add_zero, Owes_true, e3], by simp -dsimp -implicitDefEqProofs (maxSteps := 2000000) (disch := first | assumption | omega | (simp only [AW.next_push, AW.next_put]; omega) | ((repeat refine Fresh.push ?_ _); assumption) | (simp only [same_int, same_bool, same_ptr, same_slice, same_sliceP, same_nil, same_agg2, same_string]; done) | (simp [oneCell, AW.next_push]; done) | fail) only [go_sem, Nat.reduceEqDiff, reduceIte, Nat.reduceAdd, Int.toNat_natCast, Nat.add_zero, Owes_true, e9], ?_, by (simp -dsimp -implicitDefEqProofs (maxSteps := 2000000) (disch := first | assumption | omega | (simp only [AW.next_push, AW.next_put]; omega) | ((repeat refine Fresh.push ?_ _); assumption) | (simp only [same_int, same_bool, same_ptr, same_slice, same_sliceP, same_nil, same_agg2, same_string]; done) | (simp [oneCell, AW.next_push]; done) | fail) only [go_sem, Nat.reduceEqDiff, reduceIte, Nat.reduceAdd, Int.toNat_natCast, Nat.add_zero, Owes_true]; try rfl), hg2.trans hg3⟩
    rw [htake2, List.any_append, hQ, Bool.false_or]
    have : [(k : Int)].any (findAt ms rs fss[i]) = find1 ms[k] rs[k] fss[i][k] := by simp [hfind]
    simp -dsimp -implicitDefEqProofs (maxSteps := 2000000) (disch := first | assumption | omega | (simp only [AW.next_push, AW.next_put]; omega) | ((repeat refine Fresh.push ?_ _); assumption) | (simp only [same_int, same_bool, same_ptr, same_slice, same_sliceP, same_nil, same_agg2, same_string]; done) | (simp [oneCell, AW.next_push]; done) | fail) only [go_sem, Nat.reduceEqDiff, reduceIte, Nat.reduceAdd, Int.toNat_natCast, Nat.add_zero, Owes_true, this]
end Go.Proofs

/- Shows, as the papers have it; what is given; the law on the machine. -/
namespace Go.Proofs
open Go Go.RowKit Go.Sim
set_option maxRecDepth 100000
set_option maxHeartbeats 1000000 in
theorem refShows_ok (ms : List (Int × Int)) (rs : List Int) (fss : List (List (Int × Int))) (set : List Int) (v u x y : Value) (w : AW) (f : Fresh w) (hs : ArrOf w 2 mcells v ms) (hr : ArrOf w 1 icells u rs) (hF : Fks w x fss) (hS : ArrOf w 1 icells y set) :
    CallT Tryz.prog Tryz.T (.fn (.func 21) #[]) #[v, u, x, y] w (ShowsPost ms rs fss set w) := by
  obtain ⟨p, cap, rfl, hcap, hmax, hat⟩ := hs.open
  obtain ⟨r, cap3, rfl, hcap3, hmax3, hat3⟩ := hS.open
  refine callT_code rfl Tryz.func21 rfl Tryz.s21_eq rfl ?_
  unfold Tryz.s21
  simp -dsimp -implicitDefEqProofs (maxSteps := 2000000) (disch := first | assumption | omega | (simp only [AW.next_push, AW.next_put]; omega) | ((repeat refine Fresh.push ?_ _); assumption) | (simp only [same_int, same_bool, same_ptr, same_slice, same_sliceP, same_nil, same_agg2, same_string]; done) | (simp [oneCell, AW.next_push]; done) | fail) only [go_sem, Nat.reduceEqDiff, reduceIte, Nat.reduceAdd, Int.toNat_natCast, Nat.add_zero, Owes_true, Tryz.results21]
  apply callV_of (e := rfl)
  · exact asked_ok ms rs fss _ u x w f hs hr hF
  rintro _ w1 ⟨rfl, g2⟩
  by_cases hE : askE ms [rs] fss = 0
  case neg =>
    simp -dsimp -implicitDefEqProofs (maxSteps := 2000000) (disch := first | assumption | omega | (simp only [AW.next_push, AW.next_put]; omega) | ((repeat refine Fresh.push ?_ _); assumption) | (simp only [same_int, same_bool, same_ptr, same_slice, same_sliceP, same_nil, same_agg2, same_string]; done) | (simp [oneCell, AW.next_push]; done) | fail) only [go_sem, Nat.reduceEqDiff, reduceIte, Nat.reduceAdd, Int.toNat_natCast, Nat.add_zero, Owes_true, Tryz.results21, hE]
    exact ShowsPost.err (by rw [showsE, if_neg hE]) hE g2
  obtain ⟨hG, _, hfs⟩ := askE_zero hE
  simp -dsimp -implicitDefEqProofs (maxSteps := 2000000) (disch := first | assumption | omega | (simp only [AW.next_push, AW.next_put]; omega) | ((repeat refine Fresh.push ?_ _); assumption) | (simp only [same_int, same_bool, same_ptr, same_slice, same_sliceP, same_nil, same_agg2, same_string]; done) | (simp [oneCell, AW.next_push]; done) | fail) only [go_sem, Nat.reduceEqDiff, reduceIte, Nat.reduceAdd, Int.toNat_natCast, Nat.add_zero, Owes_true, Tryz.results21, hE]
  refine loopR (fun k t ds w2 => ∃ i : Nat, i ≤ set.length ∧ k = set.length - i ∧ ds = [] ∧ ev t (.tmp 0) = .slice p ms.length cap ∧ ev t (.tmp 1) = u ∧ ev t (.tmp 2) = x ∧ ev t (.tmp 3) = .slice r set.length cap3 ∧ ev t (.tmp 11) = .int .i64 (i : Int) ∧ w1 = w2 ∧ okTo ms.length set i = true) (set.length) ?_ ?_
  · refine ⟨0, by omega, by omega, rfl, ?_, ?_, ?_, ?_, ?_, rfl, rfl⟩ <;> simp -dsimp -implicitDefEqProofs (maxSteps := 2000000) (disch := first | assumption | omega | (simp only [AW.next_push, AW.next_put]; omega) | ((repeat refine Fresh.push ?_ _); assumption) | (simp only [same_int, same_bool, same_ptr, same_slice, same_sliceP, same_nil, same_agg2, same_string]; done) | (simp [oneCell, AW.next_push]; done) | fail) only [go_sem, Nat.reduceEqDiff, reduceIte, Nat.reduceAdd, Int.toNat_natCast, Nat.add_zero, Owes_true] <;> rfl
  rintro k t ds w2 ⟨i, hii, rfl, rfl, e0, e1, e2, e3, e11, hw, hok⟩
  subst hw
  obtain ⟨hk, hf⟩ := id g2
  by_cases hlt : (i : Int) < (set.length : Int)
  case neg =>
    obtain rfl : i = set.length := by omega
    simp -dsimp -implicitDefEqProofs (maxSteps := 2000000) (disch := first | assumption | omega | (simp only [AW.next_push, AW.next_put]; omega) | ((repeat refine Fresh.push ?_ _); assumption) | (simp only [same_int, same_bool, same_ptr, same_slice, same_sliceP, same_nil, same_agg2, same_string]; done) | (simp [oneCell, AW.next_push]; done) | fail) only [go_sem, Nat.reduceEqDiff, reduceIte, Nat.reduceAdd, Int.toNat_natCast, Nat.add_zero, Owes_true, Tryz.results21, e0, e1, e2, e3, e11, hlt]
    apply callV_of (e := rfl)
    · exact refshows_ok ms rs fss set _ u x _ w1 hf (hs.grown g2) (hr.grown g2) (hF.grown g2) (hS.grown g2) hG hfs (okTo_all hok)
    rintro _ w3 ⟨rfl, hg3⟩
    simp -dsimp -implicitDefEqProofs (maxSteps := 2000000) (disch := first | assumption | omega | (simp only [AW.next_push, AW.next_put]; omega) | ((repeat refine Fresh.push ?_ _); assumption) | (simp only [same_int, same_bool, same_ptr, same_slice, same_sliceP, same_nil, same_agg2, same_string]; done) | (simp [oneCell, AW.next_push]; done) | fail) only [go_sem, Nat.reduceEqDiff, reduceIte, Nat.reduceAdd, Int.toNat_natCast, Nat.add_zero, Owes_true, Tryz.results21]
    have h0 : showsE ms rs fss set = 0 := by rw [showsE, if_pos hE, if_pos hok]
    exact ⟨by rw [showsR, h0]; simp, g2.trans hg3⟩
  have hlt' : i < set.length := by omega
  have hset := getD_at (d := 0) hlt'
  have hms := hG.len
  have hAt : okAt ms.length set i = inR (prevS set i + 1) set[i] ((ms.length : Int) - 1) := by rw [okAt, hset]
  have err : okAt ms.length set i = false → ShowsPost ms rs fss set w (.tuple #[.bool false, .int .i64 7]) w1 := fun h => by
    refine ShowsPost.err ?_ (by omega) g2
    rw [showsE, if_pos hE, if_neg]
    rw [okTo_not hlt' h]; simp
  have hcs : ∃ b o, r = some ⟨b, o, none⟩ ∧ w1.cell? ⟨b, o + i * 1, none⟩ = some (.int .i64 set[i]) ∧ (0 < i → w1.cell? ⟨b, o + (i - 1) * 1, none⟩ = some (.int .i64 (set.getD (i - 1) 0))) := by
    obtain ⟨b1, o1, hb, hb1, hcell⟩ := hat3 i hlt'
    have hc0 := hcell w1 hk 0 _ rfl
    rw [Nat.add_zero] at hc0
    refine ⟨b1, o1, hb, hc0, fun h0 => ?_⟩
    obtain ⟨b2, o2, hb', hb2, hcell2⟩ := hat3 (i - 1) (by omega)
    rw [hb] at hb'
    injection hb' with hb'; injection hb' with q1 q2; subst q1 q2
    have := hcell2 w1 hk 0 _ rfl
    rw [Nat.add_zero] at this
    rw [this, getD_at (by omega)]
  obtain ⟨b1, o1, rfl, hc0, hcp⟩ := hcs
  obtain ⟨b0, o0, rfl, _, _⟩ := hat 0 hG.len1
  simp -dsimp -implicitDefEqProofs (maxSteps := 2000000) (disch := first | assumption | omega | (simp only [AW.next_push, AW.next_put]; omega) | ((repeat refine Fresh.push ?_ _); assumption) | (simp only [same_int, same_bool, same_ptr, same_slice, same_sliceP, same_nil, same_agg2, same_string]; done) | (simp [oneCell, AW.next_push]; done) | fail) only [go_sem, Nat.reduceEqDiff, reduceIte, Nat.reduceAdd, Int.toNat_natCast, Nat.add_zero, Owes_true, Tryz.results21, e0, e1, e2, e3, e11, hlt, indexV_eq, hc0]
  apply callV_of (e := rfl)
  · exact From_ok _ _ _ w1
  rintro _ _ ⟨rfl, rfl⟩
  have hle : WLe w1 w1 := .refl _
  cases hB : inR 0 set[i] ((ms.length : Int) - 1) with
  | false =>
    simp -dsimp -implicitDefEqProofs (maxSteps := 2000000) (disch := first | assumption | omega | (simp only [AW.next_push, AW.next_put]; omega) | ((repeat refine Fresh.push ?_ _); assumption) | (simp only [same_int, same_bool, same_ptr, same_slice, same_sliceP, same_nil, same_agg2, same_string]; done) | (simp [oneCell, AW.next_push]; done) | fail) only [go_sem, Nat.reduceEqDiff, reduceIte, Nat.reduceAdd, Int.toNat_natCast, Nat.add_zero, Owes_true, Tryz.results21]
    apply err
    rw [hAt]
    rw [← Bool.not_eq_true, inR_iff] at hB ⊢
    have : -1 ≤ prevS set i := by
      by_cases h0 : i = 0
      · subst h0; simp [prevS]
      · have := okTo_at (j := i - 1) hok (by omega)
        simp only [prevS, h0, if_false]; omega
    omega
  | true =>
    have hB' := (inR_iff _ _ _).1 hB
    by_cases h0 : (0 : Int) < (i : Int)
    case neg =>
      have hp0 : prevS set i = -1 := by simp only [prevS]; rw [if_pos (by omega)]
      simp -dsimp -implicitDefEqProofs (maxSteps := 2000000) (disch := first | assumption | omega | (simp only [AW.next_push, AW.next_put]; omega) | ((repeat refine Fresh.push ?_ _); assumption) | (simp only [same_int, same_bool, same_ptr, same_slice, same_sliceP, same_nil, same_agg2, same_string]; done) | (simp [oneCell, AW.next_push]; done) | fail) only [go_sem, Nat.reduceEqDiff, reduceIte, Nat.reduceAdd, Int.toNat_natCast, Nat.add_zero, Owes_true, Tryz.results21, e0, e1, e2, e3, e11, h0]
      refine ⟨_, by omega, i + 1, by omega, rfl, rfl, by (simp -dsimp -implicitDefEqProofs (maxSteps := 2000000) (disch := first | assumption | omega | (simp only [AW.next_push, AW.next_put]; omega) | ((repeat refine Fresh.push ?_ _); assumption) | (simp only [same_int, same_bool, same_ptr, same_slice, same_sliceP, same_nil, same_agg2, same_string]; done) | (simp [oneCell, AW.next_push]; done) | fail) only [go_sem, Nat.reduceEqDiff, reduceIte, Nat.reduceAdd, Int.toNat_natCast, Nat.add_zero, Owes_true, e0]; try rfl), by (simp -dsimp -implicitDefEqProofs (maxSteps := 2000000) (disch := first | assumption | omega | (simp only [AW.next_push, AW.next_put]; omega) | ((repeat refine Fresh.push ?_ _); assumption) | (simp only [same_int, same_bool, same_ptr, same_slice, same_sliceP, same_nil, same_agg2, same_string]; done) | (simp [oneCell, AW.next_push]; done) | fail) only [go_sem, Nat.reduceEqDiff, reduceIte, Nat.reduceAdd, Int.toNat_natCast, Nat.add_zero, Owes_true, e1]; try rfl), by (simp -dsimp -implicitDefEqProofs (maxSteps := 2000000) (disch := first | assumption | omega | (simp only [AW.next_push, AW.next_put]; omega) | ((repeat refine Fresh.push ?_ _); assumption) | (simp only [same_int, same_bool, same_ptr, same_slice, same_sliceP, same_nil, same_agg2, same_string]; done) | (simp [oneCell, AW.next_push]; done) | fail) only [go_sem, Nat.reduceEqDiff, reduceIte, Nat.reduceAdd, Int.toNat_natCast, Nat.add_zero, Owes_true, e2]; try rfl), by (simp -dsimp -implicitDefEqProofs (maxSteps := 2000000) (disch := first | assumption | omega | (simp only [AW.next_push, AW.next_put]; omega) | ((repeat refine Fresh.push ?_ _); assumption) | (simp only [same_int, same_bool, same_ptr, same_slice, same_sliceP, same_nil, same_agg2, same_string]; done) | (simp [oneCell, AW.next_push]; done) | fail) only [go_sem, Nat.reduceEqDiff, reduceIte, Nat.reduceAdd, Int.toNat_natCast, Nat.add_zero, Owes_true, e3]; try rfl), by (simp -dsimp -implicitDefEqProofs (maxSteps := 2000000) (disch := first | assumption | omega | (simp only [AW.next_push, AW.next_put]; omega) | ((repeat refine Fresh.push ?_ _); assumption) | (simp only [same_int, same_bool, same_ptr, same_slice, same_sliceP, same_nil, same_agg2, same_string]; done) | (simp [oneCell, AW.next_push]; done) | fail) only [go_sem, Nat.reduceEqDiff, reduceIte, Nat.reduceAdd, Int.toNat_natCast, Nat.add_zero, Owes_true, e11]; try rfl), rfl, by rw [okTo_succ, hok, hAt, hp0, Bool.true_and]; exact hB⟩
    have hcp := hcp (by omega)
    have hi1 : ((i : Int) - 1) = ((i - 1 : Nat) : Int) := by omega
    have hlt1 : ((i - 1 : Nat) : Int) < (set.length : Int) := by omega
    have hprev : prevS set i = set.getD (i - 1) 0 := by simp only [prevS]; rw [if_neg (by omega)]
    have hset' : (0 : Int) ≤ ((i - 1 : Nat) : Int) := by omega
    by_cases h2 : set[i] ≤ set.getD (i - 1) 0
    · simp -dsimp -implicitDefEqProofs (maxSteps := 2000000) (disch := first | assumption | omega | (simp only [AW.next_push, AW.next_put]; omega) | ((repeat refine Fresh.push ?_ _); assumption) | (simp only [same_int, same_bool, same_ptr, same_slice, same_sliceP, same_nil, same_agg2, same_string]; done) | (simp [oneCell, AW.next_push]; done) | fail) only [go_sem, Nat.reduceEqDiff, reduceIte, Nat.reduceAdd, Int.toNat_natCast, Nat.add_zero, Owes_true, Tryz.results21, e0, e1, e2, e3, e11, h0, hi1, indexV_eq, hcp, hc0, h2]
      apply err
      rw [hAt, ← Bool.not_eq_true, inR_iff, hprev]; omega
    · simp -dsimp -implicitDefEqProofs (maxSteps := 2000000) (disch := first | assumption | omega | (simp only [AW.next_push, AW.next_put]; omega) | ((repeat refine Fresh.push ?_ _); assumption) | (simp only [same_int, same_bool, same_ptr, same_slice, same_sliceP, same_nil, same_agg2, same_string]; done) | (simp [oneCell, AW.next_push]; done) | fail) only [go_sem, Nat.reduceEqDiff, reduceIte, Nat.reduceAdd, Int.toNat_natCast, Nat.add_zero, Owes_true, Tryz.results21, e0, e1, e2, e3, e11, h0, hi1, indexV_eq, hcp, hc0, h2]
      refine ⟨_, by omega, i + 1, by omega, rfl, rfl, by (simp -dsimp -implicitDefEqProofs (maxSteps := 2000000) (disch := first | assumption | omega | (simp only [AW.next_push, AW.next_put]; omega) | ((repeat refine Fresh.push ?_ _); assumption) | (simp only [same_int, same_bool, same_ptr, same_slice, same_sliceP, same_nil, same_agg2, same_string]; done) | (simp [oneCell, AW.next_push]; done) | fail) only [go_sem, Nat.reduceEqDiff, reduceIte, Nat.reduceAdd, Int.toNat_natCast, Nat.add_zero, Owes_true, e0]; try rfl), by (simp -dsimp -implicitDefEqProofs (maxSteps := 2000000) (disch := first | assumption | omega | (simp only [AW.next_push, AW.next_put]; omega) | ((repeat refine Fresh.push ?_ _); assumption) | (simp only [same_int, same_bool, same_ptr, same_slice, same_sliceP, same_nil, same_agg2, same_string]; done) | (simp [oneCell, AW.next_push]; done) | fail) only [go_sem, Nat.reduceEqDiff, reduceIte, Nat.reduceAdd, Int.toNat_natCast, Nat.add_zero, Owes_true, e1]; try rfl), by (simp -dsimp -implicitDefEqProofs (maxSteps := 2000000) (disch := first | assumption | omega | (simp only [AW.next_push, AW.next_put]; omega) | ((repeat refine Fresh.push ?_ _); assumption) | (simp only [same_int, same_bool, same_ptr, same_slice, same_sliceP, same_nil, same_agg2, same_string]; done) | (simp [oneCell, AW.next_push]; done) | fail) only [go_sem, Nat.reduceEqDiff, reduceIte, Nat.reduceAdd, Int.toNat_natCast, Nat.add_zero, Owes_true, e2]; try rfl), by (simp -dsimp -implicitDefEqProofs (maxSteps := 2000000) (disch := first | assumption | omega | (simp only [AW.next_push, AW.next_put]; omega) | ((repeat refine Fresh.push ?_ _); assumption) | (simp only [same_int, same_bool, same_ptr, same_slice, same_sliceP, same_nil, same_agg2, same_string]; done) | (simp [oneCell, AW.next_push]; done) | fail) only [go_sem, Nat.reduceEqDiff, reduceIte, Nat.reduceAdd, Int.toNat_natCast, Nat.add_zero, Owes_true, e3]; try rfl), by (simp -dsimp -implicitDefEqProofs (maxSteps := 2000000) (disch := first | assumption | omega | (simp only [AW.next_push, AW.next_put]; omega) | ((repeat refine Fresh.push ?_ _); assumption) | (simp only [same_int, same_bool, same_ptr, same_slice, same_sliceP, same_nil, same_agg2, same_string]; done) | (simp [oneCell, AW.next_push]; done) | fail) only [go_sem, Nat.reduceEqDiff, reduceIte, Nat.reduceAdd, Int.toNat_natCast, Nat.add_zero, Owes_true, e11]; try rfl), rfl, by rw [okTo_succ, hok, hAt, hprev, Bool.true_and, inR_iff]; omega⟩

/- What is given. -/
theorem Tryz.und26 : Tryz.prog.underlying 26 = some (.slice 58) := by kernel_rfl
theorem Tryz.und36 : Tryz.prog.underlying 36 = some (.slice 40) := by kernel_rfl
theorem Tryz.und38 : Tryz.prog.underlying 38 = some (.struct #[{ name := "M", type := 22, offset := 0, embedded := false, tag := "", pkgPath := "", byteOffset := 0 }, { name := "Taken", type := 24, offset := 1, embedded := false, tag := "", pkgPath := "", byteOffset := 24 }, { name := "L", type := 36, offset := 2, embedded := false, tag := "", pkgPath := "", byteOffset := 48 }]) := by kernel_rfl
theorem Tryz.und40 : Tryz.prog.underlying 40 = some (.struct #[{ name := "Has", type := 26, offset := 0, embedded := false, tag := "", pkgPath := "", byteOffset := 0 }]) := by kernel_rfl
theorem Tryz.cells58 : Tryz.prog.cellsOf 58 = 2 := by kernel_rfl
theorem Tryz.cells40 : Tryz.prog.cellsOf 40 = 1 := by kernel_rfl
theorem given_span {w : AW} {n : Nat} {cs : List Value} (h : Hd Tryz.prog w n 58 cs) : ∃ x : Int × Int, cs = mcells x := by
  cases n with
  | zero => exact h.elim
  | succ n =>
    simp only [Hd, Tryz.und58] at h
    obtain ⟨parts, rfl, hl, hp⟩ := h
    match parts, hl with
    | [a, b], _ =>
      obtain ⟨x, rfl⟩ := given_int (hp 0 _ a rfl rfl)
      obtain ⟨y, rfl⟩ := given_int (hp 1 _ b rfl rfl)
      exact ⟨(x, y), rfl⟩
theorem given_spans {w : AW} {n : Nat} {cs : List Value} (h : Hd Tryz.prog w n 26 cs) : ∃ v, cs = [v] ∧ ∃ xs, ArrOf w 2 mcells v xs := by
  cases n with
  | zero => exact h.elim
  | succ n =>
    simp only [Hd, Tryz.und26, Tryz.cells58] at h
    obtain ⟨v, rows, rfl, ha, hr, hgv⟩ := h
    obtain ⟨xs, rfl⟩ := rows_of fun r hq => given_span (hr r hq)
    exact ⟨v, rfl, xs, ha⟩
theorem given_fake {w : AW} {n : Nat} {cs : List Value} (h : Hd Tryz.prog w n 40 cs) : ∃ v, cs = [v] ∧ ∃ xs, ArrOf w 2 mcells v xs := by
  cases n with
  | zero => exact h.elim
  | succ n =>
    simp only [Hd, Tryz.und40] at h
    obtain ⟨parts, rfl, hl, hp⟩ := h
    match parts, hl with
    | [a], _ =>
      obtain ⟨v, rfl, q⟩ := given_spans (hp 0 _ a rfl rfl)
      exact ⟨v, rfl, q⟩
theorem given_fakes {w : AW} {n : Nat} {cs : List Value} (h : Hd Tryz.prog w n 36 cs) : ∃ v, cs = [v] ∧ ∃ fss, Fks w v fss := by
  cases n with
  | zero => exact h.elim
  | succ n =>
    simp only [Hd, Tryz.und36, Tryz.cells40] at h
    obtain ⟨v, rows, e, ha, hr, hgv⟩ := h
    obtain ⟨vs, rfl⟩ := rows_of (enc := vcells) fun r hq => (let ⟨v, e, _⟩ := given_fake (hr r hq); ⟨v, e⟩)
    have key : ∀ vs : List Value, (∀ r ∈ vs.map vcells, Hd Tryz.prog w n 40 r) → ∃ fss : List (List (Int × Int)), vs.length = fss.length ∧ ∀ (i : Nat) v fs, vs[i]? = some v → fss[i]? = some fs → ArrOf w 2 mcells v fs := by
      intro vs
      induction vs with
      | nil => exact fun _ => ⟨[], rfl, fun i v rs h => by simp at h⟩
      | cons v vs ih =>
        intro h
        obtain ⟨v', e, xs, hx⟩ := given_fake (h (vcells v) (by simp))
        injection e with e; subst e
        obtain ⟨rss, h1, h2⟩ := ih fun r hq => h r (by simp at hq ⊢; exact .inr hq)
        refine ⟨xs :: rss, by simp [h1], fun i a b ha hb => ?_⟩
        cases i with
        | zero => simp at ha hb; subst ha hb; exact hx
        | succ i => exact h2 i a b (by simpa using ha) (by simpa using hb)
    obtain ⟨fss, h1, h2⟩ := key vs hr
    exact ⟨v, e, fss, vs, h1, ha, h2⟩
theorem given_measuresC {w : AW} {n : Nat} {cs : List Value} (h : Hd Tryz.prog w n 22 cs) : ∃ v, cs = [v] ∧ ∃ xs, ArrOf w 2 mcells v xs := by
  cases n with
  | zero => exact h.elim
  | succ n =>
    simp only [Hd, Tryz.und22, Tryz.cells53] at h
    obtain ⟨v, rows, e, ha, hr, hgv⟩ := h
    obtain ⟨xs, rfl⟩ := rows_of fun r hq => given_measure (hr r hq)
    exact ⟨v, e, xs, ha⟩
theorem given_skill {w : AW} {n : Nat} {v : Value} (h : HdV Tryz.prog w n 38 v) : ∃ a b c ms rs fss, v = .agg #[a, b, c] ∧ ArrOf w 2 mcells a ms ∧ ArrOf w 1 icells b rs ∧ Fks w c fss := by
  simp only [HdV, Tryz.und38] at h
  obtain ⟨cs, rfl, h⟩ := h
  cases n with
  | zero => exact h.elim
  | succ n =>
    simp only [Hd, Tryz.und38] at h
    obtain ⟨parts, e, hl, hp⟩ := h
    match parts, hl with
    | [p, q, r], _ =>
      obtain ⟨a, rfl, xs, hx⟩ := given_measuresC (hp 0 _ p rfl rfl)
      obtain ⟨b, rfl, ys, hy⟩ := given_ints (hp 1 _ q rfl rfl)
      obtain ⟨c, rfl, zs, hz⟩ := given_fakes (hp 2 _ r rfl rfl)
      refine ⟨a, b, c, xs, ys, zs, ?_, hx, hy, hz⟩
      rw [show cs = cs.toList.toArray from rfl, e]; rfl
theorem given_fakeV {w : AW} {n : Nat} {v : Value} (h : HdV Tryz.prog w n 40 v) : ∃ a xs, v = .agg #[a] ∧ ArrOf w 2 mcells a xs := by
  simp only [HdV, Tryz.und40] at h
  obtain ⟨cs, rfl, h⟩ := h
  obtain ⟨a, e, xs, hx⟩ := given_fake h
  exact ⟨a, xs, by rw [show cs = cs.toList.toArray from rfl, e], hx⟩
theorem given_intsV {w : AW} {n : Nat} {v : Value} (h : HdV Tryz.prog w n 24 v) : ∃ xs, ArrOf w 1 icells v xs := by
  simp only [HdV, Tryz.und24] at h
  obtain ⟨v', e, xs, hx⟩ := given_ints h
  injection e with e; subst e
  exact ⟨xs, hx⟩

set_option maxHeartbeats 1000000 in
theorem finds_law (w : AW) (xs : List Value) (f : Fresh w) (h : HdAll Tryz.prog w [38, 40, 24] xs) : CallT Tryz.prog Tryz.T (.fn (.func 4) #[]) xs.toArray w fun v _ => v = .bool true := by
  cases h with
  | cons n1 h1 h =>
  cases h with
  | cons n2 h2 h =>
  cases h with
  | cons n3 h3 h =>
  cases h
  obtain ⟨a, b, c, ms, rs, fss, rfl, hs, hr, hF⟩ := given_skill h1
  obtain ⟨x, fs, rfl, hf⟩ := given_fakeV h2
  obtain ⟨set, hS⟩ := given_intsV h3
  clear h1 h2 h3
  rename_i y
  show CallT Tryz.prog Tryz.T (.fn (.func 4) #[]) #[.agg #[a, b, c], .agg #[x], y] w _
  have hc1 := hF.oneCell
  have ha1 := hs.oneCell
  have hb1 := hr.oneCell
  have hx1 := hf.oneCell
  have hO := (Own.new f 38 [a, b, c]).push (.cells [x] 40 (w.next + 1) 0 0)
  have hP := Own.new (f.push (.cells [a, b, c] 38 w.next 0 0)) 40 [x]
  simp only [AW.next_push] at hP
  have g0 := ((Grown.refl f).push (.cells [a, b, c] 38 w.next 0 0)).push (.cells [x] 40 (w.next + 1) 0 0)
  have c0 := hO.cell (o := 0) rfl ha1
  have c1 := hO.cell (o := 1) rfl hb1
  have d0 := hP.cell (o := 0) rfl hx1
  refine callT_code rfl Tryz.func4 rfl Tryz.s4_eq rfl ?_
  unfold Tryz.s4
  simp -dsimp -implicitDefEqProofs (maxSteps := 2000000) (disch := first | assumption | omega | (simp only [AW.next_push, AW.next_put]; omega) | ((repeat refine Fresh.push ?_ _); assumption) | (simp only [same_int, same_bool, same_ptr, same_slice, same_sliceP, same_nil, same_agg2, same_string]; done) | (simp [oneCell, AW.next_push]; done) | fail) only [go_sem, Nat.reduceEqDiff, reduceIte, Nat.reduceAdd, Int.toNat_natCast, Nat.add_zero, Owes_true, Tryz.results4, Nat.zero_add, c0, c1, d0]
  apply callV_of (e := rfl)
  · exact Finds_ok ms rs fs a b x _ g0.2 (hs.grown g0) (hr.grown g0) (hf.grown g0)
  rintro _ w1 ⟨s1, rfl, hs1, hg1⟩
  have g1 := g0.trans hg1
  have hO1 := hO.keep hg1.1
  have hP1 := hP.keep hg1.1
  have c0 := hO1.cell (o := 0) rfl ha1
  have c1 := hO1.cell (o := 1) rfl hb1
  have d0 := hP1.cell (o := 0) rfl hx1
  simp -dsimp -implicitDefEqProofs (maxSteps := 2000000) (disch := first | assumption | omega | (simp only [AW.next_push, AW.next_put]; omega) | ((repeat refine Fresh.push ?_ _); assumption) | (simp only [same_int, same_bool, same_ptr, same_slice, same_sliceP, same_nil, same_agg2, same_string]; done) | (simp [oneCell, AW.next_push]; done) | fail) only [go_sem, Nat.reduceEqDiff, reduceIte, Nat.reduceAdd, Int.toNat_natCast, Nat.add_zero, Owes_true, Tryz.results4, Nat.zero_add, c0, c1, d0]
  apply callV_of (e := rfl)
  · exact refFindsF_ok ms rs fs a b x _ g1.2 (hs.grown g1) (hr.grown g1) (hf.grown g1)
  rintro _ w2 ⟨s2, rfl, hs2, hg2⟩
  have g2 := g1.trans hg2
  have hO2 := hO1.keep hg2.1
  simp -dsimp -implicitDefEqProofs (maxSteps := 2000000) (disch := first | assumption | omega | (simp only [AW.next_push, AW.next_put]; omega) | ((repeat refine Fresh.push ?_ _); assumption) | (simp only [same_int, same_bool, same_ptr, same_slice, same_sliceP, same_nil, same_agg2, same_string]; done) | (simp [oneCell, AW.next_push]; done) | fail) only [go_sem, Nat.reduceEqDiff, reduceIte, Nat.reduceAdd, Int.toNat_natCast, Nat.add_zero, Owes_true, Tryz.results4]
  apply callV_of (e := rfl)
  · exact same_ok (findsE ms rs fs) (findsE ms rs fs) s1 s2 w2 g2.2 (hs1.grown hg2) hs2
  rintro _ w3 ⟨rfl, hg3⟩
  have g3 := g2.trans hg3
  have hO3 := hO2.keep hg3.1
  have e : decide (findsE ms rs fs = findsE ms rs fs) = true := decide_eq_true rfl
  rw [e]
  have c0 := hO3.cell (o := 0) rfl ha1
  have c1 := hO3.cell (o := 1) rfl hb1
  have c2 := hO3.cell (o := 2) rfl hc1
  simp -dsimp -implicitDefEqProofs (maxSteps := 2000000) (disch := first | assumption | omega | (simp only [AW.next_push, AW.next_put]; omega) | ((repeat refine Fresh.push ?_ _); assumption) | (simp only [same_int, same_bool, same_ptr, same_slice, same_sliceP, same_nil, same_agg2, same_string]; done) | (simp [oneCell, AW.next_push]; done) | fail) only [go_sem, Nat.reduceEqDiff, reduceIte, Nat.reduceAdd, Int.toNat_natCast, Nat.add_zero, Owes_true, Tryz.results4, Nat.zero_add, c0, c1, c2]
  apply callV_of (e := rfl)
  · exact Shows_ok ms rs fss set a b c y w3 g3.2 (hs.grown g3) (hr.grown g3) (hF.grown g3) (hS.grown g3)
  rintro _ w4 ⟨rfl, hg4⟩
  have g4 := g3.trans hg4
  have hO4 := hO3.keep hg4.1
  have c0 := hO4.cell (o := 0) rfl ha1
  have c1 := hO4.cell (o := 1) rfl hb1
  have c2 := hO4.cell (o := 2) rfl hc1
  simp -dsimp -implicitDefEqProofs (maxSteps := 2000000) (disch := first | assumption | omega | (simp only [AW.next_push, AW.next_put]; omega) | ((repeat refine Fresh.push ?_ _); assumption) | (simp only [same_int, same_bool, same_ptr, same_slice, same_sliceP, same_nil, same_agg2, same_string]; done) | (simp [oneCell, AW.next_push]; done) | fail) only [go_sem, Nat.reduceEqDiff, reduceIte, Nat.reduceAdd, Int.toNat_natCast, Nat.add_zero, Owes_true, Tryz.results4, Nat.zero_add, c0, c1, c2]
  apply callV_of (e := rfl)
  · exact refShows_ok ms rs fss set a b c y w4 g4.2 (hs.grown g4) (hr.grown g4) (hF.grown g4) (hS.grown g4)
  rintro _ w5 ⟨rfl, hg5⟩
  simp -dsimp -implicitDefEqProofs (maxSteps := 2000000) (disch := first | assumption | omega | (simp only [AW.next_push, AW.next_put]; omega) | ((repeat refine Fresh.push ?_ _); assumption) | (simp only [same_int, same_bool, same_ptr, same_slice, same_sliceP, same_nil, same_agg2, same_string]; done) | (simp [oneCell, AW.next_push]; done) | fail) only [go_sem, Nat.reduceEqDiff, reduceIte, Nat.reduceAdd, Int.toNat_natCast, Nat.add_zero, Owes_true, Tryz.results4, Tryz.eqb4, beq_self_eq_true]
  apply callV_of (e := rfl)
  · exact callT_told (Q := fun v w' => v = .bool true ∧ w5 = w') (v := .bool true) (w' := w5) rfl ⟨rfl, rfl⟩
  rintro _ w8 ⟨rfl, rfl⟩
  simp -dsimp -implicitDefEqProofs (maxSteps := 2000000) (disch := first | assumption | omega | (simp only [AW.next_push, AW.next_put]; omega) | ((repeat refine Fresh.push ?_ _); assumption) | (simp only [same_int, same_bool, same_ptr, same_slice, same_sliceP, same_nil, same_agg2, same_string]; done) | (simp [oneCell, AW.next_push]; done) | fail) only [go_sem, Nat.reduceEqDiff, reduceIte, Nat.reduceAdd, Int.toNat_natCast, Nat.add_zero, Owes_true, Tryz.results4]
end Go.Proofs
