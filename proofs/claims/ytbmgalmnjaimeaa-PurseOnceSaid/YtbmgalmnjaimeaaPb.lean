/- Contracts of Share, dues, Spread. -/
import Derived.Test.YtbmgalmnjaimeaaPa
import Derived.Test.YtbmgalmnjaimeaaNc
set_option linter.unusedVariables false
set_option linter.unusedSimpArgs false
namespace Go.Proofs
open Go Go.RowKit Go.Sim
set_option maxRecDepth 100000
def shareE (ws : List Int) (s : Int) : Int := if wgtB ws = false then 70 else if inR 0 s 34359738368 = false then 7 else 0
theorem shareE_in {ws : List Int} {s : Int} (h : shareE ws s = 0) : WIn ws ∧ 0 ≤ s ∧ s ≤ 34359738368 := by
  unfold shareE at h
  cases hw : wgtB ws with
  | false => rw [if_pos hw] at h; exact absurd h (by decide)
  | true =>
  rw [if_neg (by rw [hw]; simp)] at h
  cases hr : inR 0 s 34359738368 with
  | false => rw [if_pos hr] at h; exact absurd h (by decide)
  | true => exact ⟨wgt_in hw, (inR_iff _ _ _).1 hr⟩
def dcells (d : DueN) : List Value := [.int .i64 d.r, .int .i64 d.a]
def dueB (d : DueN) : Bool := inR 0 d.r 9 && inR 0 d.a 67108864
def duesB (D : List DueN) : Bool := decide (D.length ≤ 24) && D.all dueB
theorem dues_in {D : List DueN} (h : duesB D = true) : DIn D ∧ D.length ≤ 24 := by
  simp only [duesB, Bool.and_eq_true, decide_eq_true_eq, List.all_eq_true, dueB, inR_iff] at h
  exact ⟨fun d hd => by have := h.2 d hd; omega, h.1⟩
theorem isDue_ok (d : DueN) (w : AW) (f : Fresh w) : CallT Try.prog Try.T1 (.fn (.func 90) #[]) #[.agg #[.int .i64 d.r, .int .i64 d.a]] w (Ret (.bool (dueB d)) (Grown w)) := by
  have g := (Grown.refl f).push (.cells [.int .i64 d.r, .int .i64 d.a] 76 w.next 0 0)
  have hO := Own.new f 76 [.int .i64 d.r, .int .i64 d.a]
  have c0 := hO.cell (o := 0) rfl rfl
  have c1 := hO.cell (o := 1) rfl rfl
  refine callT_code rfl Try.func90 rfl Try.s90_eq rfl ?_
  unfold Try.s90
  simp -dsimp -implicitDefEqProofs (maxSteps := 2000000) (disch := first | assumption | omega | (simp only [nx]; omega) | ((repeat refine Fresh.push ?_ _); assumption) | (simp only [smA]; done) | (simp [oneCell, AW.next_push]; done) | fail) only [go_sem, Nat.reduceEqDiff, reduceIte, Nat.reduceAdd, Int.toNat_natCast, Nat.add_zero, Owes_true, Try.results90, Nat.zero_add, c0]
  apply callV_of (e := rfl)
  · exact within_ok _ _ _ _
  rintro _ _ ⟨rfl, rfl⟩
  cases h1 : inR 0 d.r 9 with
  | false =>
    simp -dsimp -implicitDefEqProofs (maxSteps := 2000000) (disch := first | assumption | omega | (simp only [nx]; omega) | ((repeat refine Fresh.push ?_ _); assumption) | (simp only [smA]; done) | (simp [oneCell, AW.next_push]; done) | fail) only [go_sem, Nat.reduceEqDiff, reduceIte, Nat.reduceAdd, Int.toNat_natCast, Nat.add_zero, Owes_true, Try.results90]
    exact ⟨by rw [dueB, h1]; rfl, g⟩
  | true =>
  simp -dsimp -implicitDefEqProofs (maxSteps := 2000000) (disch := first | assumption | omega | (simp only [nx]; omega) | ((repeat refine Fresh.push ?_ _); assumption) | (simp only [smA]; done) | (simp [oneCell, AW.next_push]; done) | fail) only [go_sem, Nat.reduceEqDiff, reduceIte, Nat.reduceAdd, Int.toNat_natCast, Nat.add_zero, Owes_true, Try.results90, Nat.zero_add, c1]
  apply callV_of (e := rfl)
  · exact isAmount_ok _ _
  rintro _ _ ⟨rfl, rfl⟩
  simp -dsimp -implicitDefEqProofs (maxSteps := 2000000) (disch := first | assumption | omega | (simp only [nx]; omega) | ((repeat refine Fresh.push ?_ _); assumption) | (simp only [smA]; done) | (simp [oneCell, AW.next_push]; done) | fail) only [go_sem, Nat.reduceEqDiff, reduceIte, Nat.reduceAdd, Int.toNat_natCast, Nat.add_zero, Owes_true, Try.results90]
  exact ⟨by rw [dueB, h1]; rfl, g⟩
theorem has_ok (r : Int) (d : DueN) (w : AW) (f : Fresh w) : CallT Try.prog Try.T1 (.fn (.func 92) #[]) #[.int .i64 r, .agg #[.int .i64 d.r, .int .i64 d.a]] w (Ret (.bool (decide (d.r = r))) (Grown w)) := by
  have g := (Grown.refl f).push (.cells [.int .i64 d.r, .int .i64 d.a] 76 w.next 0 0)
  have hO := Own.new f 76 [.int .i64 d.r, .int .i64 d.a]
  have c0 := hO.cell (o := 0) rfl rfl
  refine callT_code rfl Try.func92 rfl Try.s92_eq rfl ?_
  unfold Try.s92
  simp -dsimp -implicitDefEqProofs (maxSteps := 2000000) (disch := first | assumption | omega | (simp only [nx]; omega) | ((repeat refine Fresh.push ?_ _); assumption) | (simp only [smA]; done) | (simp [oneCell, AW.next_push]; done) | fail) only [go_sem, Nat.reduceEqDiff, reduceIte, Nat.reduceAdd, Int.toNat_natCast, Nat.add_zero, Owes_true, Try.results92, Nat.zero_add, c0]
  exact ⟨rfl, g⟩
set_option maxHeartbeats 4000000 in
theorem placesD_ok (D : List DueN) (v : Value) (fn : Fn) (first cap : Array Value) (q : Nat → Bool) (w : AW) (f : Fresh w) (hs : ArrOf w 2 dcells v D) (hl : D.length ≤ 1000) (hf : ∀ w1, Grown w w1 → ∀ i (hi : i < D.length), CallT Try.prog Try.T1 (.fn fn cap) (first.toList ++ [Value.agg #[.int .i64 D[i].r, .int .i64 D[i].a]]).toArray w1 (Ret (.bool (q i)) (Grown w1))) :
    CallT Try.prog Try.T1 (.fn (.func 91) #[]) #[v, .func fn first cap] w (fun r w' => AOwn w.next w' 3 1 r ((pick q D.length).map nint).length (((pick q D.length).map nint).flatMap icells) ∧ Grown w w') := by
  obtain ⟨p, c, rfl, _, _, hat⟩ := hs.open
  refine callT_code rfl Try.func91 rfl Try.s91_eq rfl ?_
  unfold Try.s91
  simp -dsimp -implicitDefEqProofs (maxSteps := 2000000) (disch := first | assumption | omega | (simp only [nx]; omega) | ((repeat refine Fresh.push ?_ _); assumption) | (simp only [smA]; done) | (simp [oneCell, AW.next_push]; done) | fail) only [go_sem, Nat.reduceEqDiff, reduceIte, Nat.reduceAdd, Int.toNat_natCast, Nat.add_zero, Owes_true, Try.results91]
  refine loopR (fun k t ds w1 => ∃ i : Nat, i ≤ D.length ∧ k = D.length - i ∧ ds = [] ∧ ev t (.tmp 1) = .func fn first cap ∧ ev t (.tmp 8) = .slice p D.length c ∧ ev t (.tmp 9) = .int .i64 (D.length : Int) ∧ ev t (.tmp 10) = .int .i64 (i : Int) ∧ (∃ u, ev t (.tmp 5) = u ∧ AOwn w.next w1 3 1 u ((pick q i).map nint).length (((pick q i).map nint).flatMap icells)) ∧ Grown w w1) (D.length) ?_ ?_
  · refine ⟨0, by omega, by omega, rfl, ?_, ?_, ?_, ?_, ⟨_, (by simp -dsimp -implicitDefEqProofs (maxSteps := 2000000) (disch := first | assumption | omega | (simp only [nx]; omega) | ((repeat refine Fresh.push ?_ _); assumption) | (simp only [smA]; done) | (simp [oneCell, AW.next_push]; done) | fail) only [go_sem, Nat.reduceEqDiff, reduceIte, Nat.reduceAdd, Int.toNat_natCast, Nat.add_zero, Owes_true]; try rfl), .inl ⟨rfl, rfl, rfl⟩⟩, Grown.refl f⟩ <;> simp -dsimp -implicitDefEqProofs (maxSteps := 2000000) (disch := first | assumption | omega | (simp only [nx]; omega) | ((repeat refine Fresh.push ?_ _); assumption) | (simp only [smA]; done) | (simp [oneCell, AW.next_push]; done) | fail) only [go_sem, Nat.reduceEqDiff, reduceIte, Nat.reduceAdd, Int.toNat_natCast, Nat.add_zero, Owes_true] <;> rfl
  rintro k t ds w1 ⟨i, hii, rfl, rfl, e1, e8, e9, e10, hA, hg⟩
  obtain ⟨u, e5, hA⟩ := hA
  have hpl : ((pick q i).map nint).length ≤ i := by rw [List.length_map, pick]; exact Nat.le_trans (List.length_filter_le _ _) (by simp)
  by_cases hlt : (i : Int) < (D.length : Int)
  case neg =>
    obtain rfl : i = D.length := by omega
    simp -dsimp -implicitDefEqProofs (maxSteps := 2000000) (disch := first | assumption | omega | (simp only [nx]; omega) | ((repeat refine Fresh.push ?_ _); assumption) | (simp only [smA]; done) | (simp [oneCell, AW.next_push]; done) | fail) only [go_sem, Nat.reduceEqDiff, reduceIte, Nat.reduceAdd, Int.toNat_natCast, Nat.add_zero, Owes_true, Try.results91, e1, e5, e8, e9, e10, hlt]
    exact ⟨hA, hg⟩
  have hlt' : i < D.length := by omega
  obtain ⟨b1, o1, rfl, hb1, hcell⟩ := hat i hlt'
  have a0 := hcell _ hg.1 0 _ rfl
  have a1 := hcell _ hg.1 1 _ rfl
  rw [Nat.add_zero] at a0
  have hO := Own.new hg.2 76 [.int .i64 0, .int .i64 0]
  have gP := hg.push (.cells [.int .i64 0, .int .i64 0] 76 w1.next 0 0)
  have hst := storeV_own (o := 0) (l := [.int .i64 D[i].r, .int .i64 D[i].a]) (size := 2) hO rfl (by omega) (by simp) (by rfl)
  simp only [setsL, setL] at hst
  have hw1 := hg.1.next
  have gQ : Grown w _ := ⟨gP.1.put (b := w1.next) (by omega) (.cells [.int .i64 D[i].r, .int .i64 D[i].a] 76 w1.next 0 0), gP.2.put hO.lt (.cells [.int .i64 D[i].r, .int .i64 D[i].a] 76 w1.next 0 0)⟩
  have gQ1 : Grown w1 _ := ⟨((Grown.refl hg.2).push (.cells [.int .i64 0, .int .i64 0] 76 w1.next 0 0)).1.put (b := w1.next) (Nat.le_refl _) (.cells [.int .i64 D[i].r, .int .i64 D[i].a] 76 w1.next 0 0), gQ.2⟩
  have hQ := hO.put [.int .i64 D[i].r, .int .i64 D[i].a]
  have c0 := hQ.cell (o := 0) rfl rfl
  have c1 := hQ.cell (o := 1) rfl rfl
  simp -dsimp -implicitDefEqProofs (maxSteps := 2000000) (disch := first | assumption | omega | (simp only [nx]; omega) | ((repeat refine Fresh.push ?_ _); assumption) | (simp only [smA]; done) | (simp [oneCell, AW.next_push]; done) | fail) only [go_sem, Nat.reduceEqDiff, reduceIte, Nat.reduceAdd, Int.toNat_natCast, Nat.add_zero, Owes_true, Try.results91, e1, e5, e8, e9, e10, hlt, indexV_eq, a0, a1, hst, c0, c1]
  generalize ((w1.push (.cells [.int .i64 0, .int .i64 0] 76 w1.next 0 0)).put w1.next (.cells [.int .i64 D[i].r, .int .i64 D[i].a] 76 w1.next 0 0)) = w2 at *
  apply callV_of (e := rfl)
  · exact hf w2 gQ i hlt'
  rintro _ w3 ⟨rfl, hg3⟩
  have g3 := gQ.trans hg3
  have hA3 := hA.keep (gQ1.trans hg3).1 (Nat.le_refl _)
  have hps := pick_succ q i
  cases hq : q i with
  | false =>
    have hnx : (pick q (i + 1)).map nint = (pick q i).map nint := by rw [hps, hq]; simp
    simp -dsimp -implicitDefEqProofs (maxSteps := 2000000) (disch := first | assumption | omega | (simp only [nx]; omega) | ((repeat refine Fresh.push ?_ _); assumption) | (simp only [smA]; done) | (simp [oneCell, AW.next_push]; done) | fail) only [go_sem, Nat.reduceEqDiff, reduceIte, Nat.reduceAdd, Int.toNat_natCast, Nat.add_zero, Owes_true, Try.results91, e1, e5, e8, e9, e10]
    refine ⟨_, by omega, i + 1, by omega, rfl, rfl, by (simp -dsimp -implicitDefEqProofs (maxSteps := 2000000) (disch := first | assumption | omega | (simp only [nx]; omega) | ((repeat refine Fresh.push ?_ _); assumption) | (simp only [smA]; done) | (simp [oneCell, AW.next_push]; done) | fail) only [go_sem, Nat.reduceEqDiff, reduceIte, Nat.reduceAdd, Int.toNat_natCast, Nat.add_zero, Owes_true, e1]; try rfl), by (simp -dsimp -implicitDefEqProofs (maxSteps := 2000000) (disch := first | assumption | omega | (simp only [nx]; omega) | ((repeat refine Fresh.push ?_ _); assumption) | (simp only [smA]; done) | (simp [oneCell, AW.next_push]; done) | fail) only [go_sem, Nat.reduceEqDiff, reduceIte, Nat.reduceAdd, Int.toNat_natCast, Nat.add_zero, Owes_true, e8]; try rfl), by (simp -dsimp -implicitDefEqProofs (maxSteps := 2000000) (disch := first | assumption | omega | (simp only [nx]; omega) | ((repeat refine Fresh.push ?_ _); assumption) | (simp only [smA]; done) | (simp [oneCell, AW.next_push]; done) | fail) only [go_sem, Nat.reduceEqDiff, reduceIte, Nat.reduceAdd, Int.toNat_natCast, Nat.add_zero, Owes_true, e9]; try rfl), by (simp -dsimp -implicitDefEqProofs (maxSteps := 2000000) (disch := first | assumption | omega | (simp only [nx]; omega) | ((repeat refine Fresh.push ?_ _); assumption) | (simp only [smA]; done) | (simp [oneCell, AW.next_push]; done) | fail) only [go_sem, Nat.reduceEqDiff, reduceIte, Nat.reduceAdd, Int.toNat_natCast, Nat.add_zero, Owes_true, e10]; try rfl), ⟨u, (by simp -dsimp -implicitDefEqProofs (maxSteps := 2000000) (disch := first | assumption | omega | (simp only [nx]; omega) | ((repeat refine Fresh.push ?_ _); assumption) | (simp only [smA]; done) | (simp [oneCell, AW.next_push]; done) | fail) only [go_sem, Nat.reduceEqDiff, reduceIte, Nat.reduceAdd, Int.toNat_natCast, Nat.add_zero, Owes_true, e5]), (by rw [hnx]; exact hA3)⟩, g3⟩
  | true =>
    have hnx : (pick q (i + 1)).map nint = (pick q i).map nint ++ [(i : Int)] := by rw [hps, hq, List.map_append]; rfl
    have hn2 := g3.1.next
    obtain ⟨u', w4, happ, hA4, hk4, hf4, _, _⟩ := append_one (e' := 3) Try.ty22 Try.ty3 rfl (by omega) (by omega) hA3 g3.2 hn2 (icells_len (i : Int)) (icells_one _) (by omega)
    simp only [icells] at happ
    simp -dsimp -implicitDefEqProofs (maxSteps := 2000000) (disch := first | assumption | omega | (simp only [nx]; omega) | ((repeat refine Fresh.push ?_ _); assumption) | (simp only [smA]; done) | (simp [oneCell, AW.next_push]; done) | fail) only [go_sem, Nat.reduceEqDiff, reduceIte, Nat.reduceAdd, Int.toNat_natCast, Nat.add_zero, Owes_true, Try.results91, e1, e5, e8, e9, e10, happ]
    refine ⟨_, by omega, i + 1, by omega, rfl, rfl, by (simp -dsimp -implicitDefEqProofs (maxSteps := 2000000) (disch := first | assumption | omega | (simp only [nx]; omega) | ((repeat refine Fresh.push ?_ _); assumption) | (simp only [smA]; done) | (simp [oneCell, AW.next_push]; done) | fail) only [go_sem, Nat.reduceEqDiff, reduceIte, Nat.reduceAdd, Int.toNat_natCast, Nat.add_zero, Owes_true, e1]; try rfl), by (simp -dsimp -implicitDefEqProofs (maxSteps := 2000000) (disch := first | assumption | omega | (simp only [nx]; omega) | ((repeat refine Fresh.push ?_ _); assumption) | (simp only [smA]; done) | (simp [oneCell, AW.next_push]; done) | fail) only [go_sem, Nat.reduceEqDiff, reduceIte, Nat.reduceAdd, Int.toNat_natCast, Nat.add_zero, Owes_true, e8]; try rfl), by (simp -dsimp -implicitDefEqProofs (maxSteps := 2000000) (disch := first | assumption | omega | (simp only [nx]; omega) | ((repeat refine Fresh.push ?_ _); assumption) | (simp only [smA]; done) | (simp [oneCell, AW.next_push]; done) | fail) only [go_sem, Nat.reduceEqDiff, reduceIte, Nat.reduceAdd, Int.toNat_natCast, Nat.add_zero, Owes_true, e9]; try rfl), by (simp -dsimp -implicitDefEqProofs (maxSteps := 2000000) (disch := first | assumption | omega | (simp only [nx]; omega) | ((repeat refine Fresh.push ?_ _); assumption) | (simp only [smA]; done) | (simp [oneCell, AW.next_push]; done) | fail) only [go_sem, Nat.reduceEqDiff, reduceIte, Nat.reduceAdd, Int.toNat_natCast, Nat.add_zero, Owes_true, e10]; try rfl), ⟨u', (by simp -dsimp -implicitDefEqProofs (maxSteps := 2000000) (disch := first | assumption | omega | (simp only [nx]; omega) | ((repeat refine Fresh.push ?_ _); assumption) | (simp only [smA]; done) | (simp [oneCell, AW.next_push]; done) | fail) only [go_sem, Nat.reduceEqDiff, reduceIte, Nat.reduceAdd, Int.toNat_natCast, Nat.add_zero, Owes_true]), (by rw [hnx, List.length_append, List.flatMap_append]; exact hA4)⟩, ⟨g3.1.trans hk4, hf4⟩⟩
theorem allD_ok (D : List DueN) (v : Value) (w : AW) (f : Fresh w) (hs : ArrOf w 2 dcells v D) (hl : D.length ≤ 1000) : CallT Try.prog Try.T1 (.fn (.func 89) #[]) #[v, .func (.func 90) #[] #[]] w (Ret (.bool (D.all dueB)) (Grown w)) := by
  obtain ⟨p, c, rfl, _⟩ := id hs.open
  refine callT_code rfl Try.func89 rfl Try.s89_eq rfl ?_
  unfold Try.s89
  simp -dsimp -implicitDefEqProofs (maxSteps := 2000000) (disch := first | assumption | omega | (simp only [nx]; omega) | ((repeat refine Fresh.push ?_ _); assumption) | (simp only [smA]; done) | (simp [oneCell, AW.next_push]; done) | fail) only [go_sem, Nat.reduceEqDiff, reduceIte, Nat.reduceAdd, Int.toNat_natCast, Nat.add_zero, Owes_true, Try.results89]
  apply callV_of (e := rfl)
  · exact placesD_ok D _ (.func 90) #[] #[] (fun i => match D[i]? with | some d => dueB d | none => false) w f hs (by omega) (fun w1 hg i hi => by
    have := isDue_ok D[i] w1 hg.2
    simp only [hi, getElem?_pos]
    exact this)
  rintro r w1 ⟨hA, g1⟩
  have hpl : ((pick (fun i => match D[i]? with | some d => dueB d | none => false) D.length).map nint).length ≤ D.length := by rw [List.length_map, pick]; exact Nat.le_trans (List.length_filter_le _ _) (by simp)
  obtain ⟨p1, c1, rfl, _⟩ := (hA.arr icells_len (by omega)).open
  have key : decide ((((pick (fun i => match D[i]? with | some d => dueB d | none => false) D.length).map nint).length : Int) = (D.length : Int)) = D.all dueB := by
    rw [List.length_map, Bool.eq_iff_iff, decide_eq_true_eq, List.all_eq_true]
    constructor
    · intro h d hd
      obtain ⟨i, hi, rfl⟩ := List.getElem_of_mem hd
      have h2 : ((List.range D.length).filter fun i => match D[i]? with | some d => dueB d | none => false).length = (List.range D.length).length := by rw [List.length_range]; rw [pick] at h; omega
      have := (List.length_filter_eq_length_iff.mp h2) i (by simpa using hi)
      simpa [hi] using this
    · intro h
      have h2 : ((List.range D.length).filter fun i => match D[i]? with | some d => dueB d | none => false).length = (List.range D.length).length := by
        rw [List.length_filter_eq_length_iff]
        intro i hi
        have hi : i < D.length := by simpa using hi
        simpa [hi] using h D[i] (List.getElem_mem hi)
      rw [List.length_range] at h2; rw [pick]; omega
  simp -dsimp -implicitDefEqProofs (maxSteps := 2000000) (disch := first | assumption | omega | (simp only [nx]; omega) | ((repeat refine Fresh.push ?_ _); assumption) | (simp only [smA]; done) | (simp [oneCell, AW.next_push]; done) | fail) only [go_sem, Nat.reduceEqDiff, reduceIte, Nat.reduceAdd, Int.toNat_natCast, Nat.add_zero, Owes_true, Try.results89]
  exact ⟨by rw [← key], g1⟩
theorem areDues_ok (D : List DueN) (v : Value) (w : AW) (f : Fresh w) (hs : ArrOf w 2 dcells v D) : CallT Try.prog Try.T1 (.fn (.func 52) #[]) #[v] w (Ret (.bool (duesB D)) (Grown w)) := by
  obtain ⟨p, c, rfl, _⟩ := id hs.open
  refine callT_code rfl Try.func52 rfl Try.s52_eq rfl ?_
  unfold Try.s52
  simp -dsimp -implicitDefEqProofs (maxSteps := 2000000) (disch := first | assumption | omega | (simp only [nx]; omega) | ((repeat refine Fresh.push ?_ _); assumption) | (simp only [smA]; done) | (simp [oneCell, AW.next_push]; done) | fail) only [go_sem, Nat.reduceEqDiff, reduceIte, Nat.reduceAdd, Int.toNat_natCast, Nat.add_zero, Owes_true, Try.results52]
  by_cases hl : (D.length : Int) ≤ 24
  case neg =>
    simp -dsimp -implicitDefEqProofs (maxSteps := 2000000) (disch := first | assumption | omega | (simp only [nx]; omega) | ((repeat refine Fresh.push ?_ _); assumption) | (simp only [smA]; done) | (simp [oneCell, AW.next_push]; done) | fail) only [go_sem, Nat.reduceEqDiff, reduceIte, Nat.reduceAdd, Int.toNat_natCast, Nat.add_zero, Owes_true, Try.results52, hl]
    have hd : decide (D.length ≤ 24) = false := decide_eq_false (by omega)
    exact ⟨by unfold duesB; rw [hd]; rfl, .refl f⟩
  simp -dsimp -implicitDefEqProofs (maxSteps := 2000000) (disch := first | assumption | omega | (simp only [nx]; omega) | ((repeat refine Fresh.push ?_ _); assumption) | (simp only [smA]; done) | (simp [oneCell, AW.next_push]; done) | fail) only [go_sem, Nat.reduceEqDiff, reduceIte, Nat.reduceAdd, Int.toNat_natCast, Nat.add_zero, Owes_true, Try.results52, hl]
  apply callV_of (e := rfl)
  · exact allD_ok D _ w f hs (by omega)
  rintro _ w1 ⟨rfl, g1⟩
  simp -dsimp -implicitDefEqProofs (maxSteps := 2000000) (disch := first | assumption | omega | (simp only [nx]; omega) | ((repeat refine Fresh.push ?_ _); assumption) | (simp only [smA]; done) | (simp [oneCell, AW.next_push]; done) | fail) only [go_sem, Nat.reduceEqDiff, reduceIte, Nat.reduceAdd, Int.toNat_natCast, Nat.add_zero, Owes_true, Try.results52, hl]
  have hd : decide (D.length ≤ 24) = true := decide_eq_true (by omega)
  exact ⟨by unfold duesB; rw [hd]; rfl, g1⟩
end Go.Proofs

namespace Go.Proofs
open Go Go.RowKit Go.Sim
set_option maxRecDepth 100000
structure AIn (l : List Int) : Prop where
  len : l.length ≤ 24
  val : ∀ i, 0 ≤ W l i ∧ W l i ≤ 67108864
theorem AIn.wgt {l : List Int} (h : AIn l) (hs : 0 < l.sum) : WIn l := by
  have hl := h.len
  refine ⟨⟨?_, hl⟩, h.val, hs, (small_w hl h.val).2⟩
  rcases Nat.eq_zero_or_pos l.length with q | q
  · rw [List.length_eq_zero_iff.mp q] at hs; simp at hs
  · exact q
theorem settle_ok (l : List Int) (b B : Nat) (s : Int) (w : AW) (f : Fresh w) (hO : Own w b 3 (l.flatMap icells)) (hb : B ≤ b) (hB : B ≤ w.next) (hA : AIn l) (h0 : 0 ≤ s) (h1 : s ≤ 34359738368) :
    CallT Try.prog Try.T1 (.fn (.func 93) #[]) #[.slice (some ⟨b, 0, none⟩) l.length l.length, .int .i64 s] w (fun r w' => ∃ c, r = .slice (some ⟨c, 0, none⟩) l.length l.length ∧ B ≤ c ∧ Own w' c 3 ((settleL l s).flatMap icells) ∧ (settleL l s).length = l.length ∧ Grown w w') := by
  have hsm := small_w hA.len hA.val
  have hl := hA.len
  have hs := hO.iarr (by omega)
  refine callT_code rfl Try.func93 rfl Try.s93_eq rfl ?_
  unfold Try.s93
  simp -dsimp -implicitDefEqProofs (maxSteps := 2000000) (disch := first | assumption | omega | (simp only [nx]; omega) | ((repeat refine Fresh.push ?_ _); assumption) | (simp only [smA]; done) | (simp [oneCell, AW.next_push]; done) | fail) only [go_sem, Nat.reduceEqDiff, reduceIte, Nat.reduceAdd, Int.toNat_natCast, Nat.add_zero, Owes_true, Try.results93]
  apply callV_of (e := rfl)
  · exact total_ok l _ w hs hsm.1
  rintro _ _ ⟨rfl, rfl⟩
  by_cases hc : l.sum ≤ s
  · simp -dsimp -implicitDefEqProofs (maxSteps := 2000000) (disch := first | assumption | omega | (simp only [nx]; omega) | ((repeat refine Fresh.push ?_ _); assumption) | (simp only [smA]; done) | (simp [oneCell, AW.next_push]; done) | fail) only [go_sem, Nat.reduceEqDiff, reduceIte, Nat.reduceAdd, Int.toNat_natCast, Nat.add_zero, Owes_true, Try.results93, hc]
    exact ⟨b, rfl, hb, by rw [settleL, if_pos hc]; exact hO, by rw [settleL, if_pos hc], .refl f⟩
  · simp -dsimp -implicitDefEqProofs (maxSteps := 2000000) (disch := first | assumption | omega | (simp only [nx]; omega) | ((repeat refine Fresh.push ?_ _); assumption) | (simp only [smA]; done) | (simp [oneCell, AW.next_push]; done) | fail) only [go_sem, Nat.reduceEqDiff, reduceIte, Nat.reduceAdd, Int.toNat_natCast, Nat.add_zero, Owes_true, Try.results93, hc]
    apply callV_of (e := rfl)
    · exact share_ok l _ s w f hs (hA.wgt (by omega)) h0 h1
    rintro _ w1 ⟨c, rfl, hcw, hr, hrl, g1⟩
    simp -dsimp -implicitDefEqProofs (maxSteps := 2000000) (disch := first | assumption | omega | (simp only [nx]; omega) | ((repeat refine Fresh.push ?_ _); assumption) | (simp only [smA]; done) | (simp [oneCell, AW.next_push]; done) | fail) only [go_sem, Nat.reduceEqDiff, reduceIte, Nat.reduceAdd, Int.toNat_natCast, Nat.add_zero, Owes_true, Try.results93]
    exact ⟨c, rfl, by omega, by rw [settleL, if_neg hc]; exact hr, by rw [settleL, if_neg hc]; exact hrl, g1⟩
def amt (D : List DueN) (x : Int) : Int := match D[x.toNat]? with
  | some d => d.a
  | none => 0
theorem amt_at {D : List DueN} {i : Nat} (h : i < D.length) : amt D (nint i) = D[i].a := by
  simp [amt, nint, h]
theorem amount_ok (D : List DueN) (v : Value) (i : Nat) (b2 : Nat) (w : AW) (hs : ArrOf w 2 dcells v D) (hi : i < D.length) (hO : Own w b2 23 [v]) :
    CallT Try.prog Try.T1 (.fn (.func 94) #[.pointer (some ⟨b2, 0, none⟩)]) #[.int .i64 (nint i)] w (Ret (.int .i64 (amt D (nint i))) fun w' => w = w') := by
  obtain ⟨p, c, rfl, _, _, hat⟩ := hs.open
  obtain ⟨b1, o1, rfl, hb1, hcell⟩ := hat i hi
  have a1 := hcell w (.refl _ _) 1 _ rfl
  have c0 := hO.cell (o := 0) rfl rfl
  have hi' : (i : Int) < (D.length : Int) := by omega
  rw [amt_at hi]
  unfold nint
  refine callT_code rfl Try.func94 rfl Try.s94_eq rfl ?_
  unfold Try.s94
  simp -dsimp -implicitDefEqProofs (maxSteps := 2000000) (disch := first | assumption | omega | (simp only [nx]; omega) | ((repeat refine Fresh.push ?_ _); assumption) | (simp only [smA]; done) | (simp [oneCell, AW.next_push]; done) | fail) only [go_sem, Nat.reduceEqDiff, reduceIte, Nat.reduceAdd, Int.toNat_natCast, Nat.add_zero, Owes_true, Try.results94, c0, indexV_eq, hi', a1]
  exact ⟨rfl, rfl⟩
def rankQ (D : List DueN) (r : Int) (i : Nat) : Bool := match D[i]? with
  | some d => decide (d.r = r)
  | none => false
theorem rankQ_at {D : List DueN} {r : Int} {i : Nat} (h : i < D.length) : rankQ D r i = decide (D[i].r = r) := by simp [rankQ, h]
theorem amts_own {D : List DueN} {r : Int} : ((pick (rankQ D r) D.length).map nint).map (amt D) = (pick (rankQ D r) D.length).map (W (ownR D r)) := by
  rw [List.map_map]
  refine List.map_congr_left fun i hi => ?_
  obtain ⟨h1, h2⟩ := pick_lt hi
  rw [rankQ_at h1] at h2
  rw [Function.comp, amt_at h1, ownR_at h1, if_pos (of_decide_eq_true h2)]
noncomputable def midL (D : List DueN) (s : Int) (r k : Nat) : List Int := (List.range D.length).map fun i => if i ∈ (pick (rankQ D r) D.length).take k then W (payR D r (leftN D s r)) i else W (paidN D s r) i
theorem midL_len (D : List DueN) (s : Int) (r k : Nat) : (midL D s r k).length = D.length := by simp [midL]
theorem W_mid {D : List DueN} {s : Int} {r k i : Nat} (h : i < D.length) : W (midL D s r k) i = if i ∈ (pick (rankQ D r) D.length).take k then W (payR D r (leftN D s r)) i else W (paidN D s r) i := by
  rw [midL, W_map _ (by simpa using h), List.getElem_range]
theorem mid_zero (D : List DueN) (s : Int) (r : Nat) : midL D s r 0 = paidN D s r := by
  refine W_ext (by rw [midL_len, paidN_len]) fun i hi => ?_
  rw [midL_len] at hi
  rw [W_mid hi]; simp
theorem mid_step {D : List DueN} {s : Int} {r k : Nat} (hk : k < (pick (rankQ D r) D.length).length) : (midL D s r k).set (pick (rankQ D r) D.length)[k] (W (payR D r (leftN D s r)) (pick (rankQ D r) D.length)[k]) = midL D s r (k + 1) := by
  have hm := pick_lt (List.getElem_mem hk)
  refine W_ext (by rw [List.length_set, midL_len, midL_len]) fun i hi => ?_
  rw [List.length_set, midL_len] at hi
  have hmem : i ∈ (pick (rankQ D r) D.length).take (k + 1) ↔ i ∈ (pick (rankQ D r) D.length).take k ∨ i = (pick (rankQ D r) D.length)[k] := by
    rw [List.take_succ_eq_append_getElem hk, List.mem_append, List.mem_singleton]
  rw [W_set (by rw [midL_len]; exact hm.1), W_mid hi, W_mid hi]
  by_cases h : i = (pick (rankQ D r) D.length)[k]
  · rw [if_pos h, if_pos (hmem.2 (.inr h)), ← h]
  · rw [if_neg h]
    by_cases h2 : i ∈ (pick (rankQ D r) D.length).take k
    · rw [if_pos h2, if_pos (hmem.2 (.inl h2))]
    · rw [if_neg h2, if_neg (fun q => (hmem.1 q).elim h2 h)]
theorem mid_all {D : List DueN} (hD : DIn D) {s : Int} (h0 : 0 ≤ s) (r : Nat) : midL D s r (pick (rankQ D r) D.length).length = paidN D s (r + 1) := by
  refine W_ext (by rw [midL_len, paidN_len]) fun i hi => ?_
  rw [midL_len] at hi
  rw [W_mid hi, List.take_of_length_le (Nat.le_refl _), paidN_succ hD h0 r hi]
  by_cases h : D[i].r = (r : Int)
  · rw [if_pos (pick_mem hi (by rw [rankQ_at hi]; exact decide_eq_true h)), W_paidN hi, if_neg (by omega)]; omega
  · rw [if_neg (fun q => h (of_decide_eq_true (by have := (pick_lt q).2; rwa [rankQ_at hi] at this))), payR_off hD.nn (leftN_nn hD.nn h0 r) hi h]; omega
theorem paidN_zero {D : List DueN} (hD : DIn D) (s : Int) : paidN D s 0 = List.replicate D.length 0 := by
  refine W_ext (by rw [paidN_len, List.length_replicate]) fun i hi => ?_
  rw [paidN_len] at hi
  have := hD _ (List.getElem_mem hi)
  rw [W_paidN hi, if_neg (by omega), W_at (by simpa using hi), List.getElem_replicate]
theorem ownR_in {D : List DueN} (hD : DIn D) (hl : D.length ≤ 24) (r : Int) : AIn (ownR D r) := by
  refine ⟨by rw [ownR_len]; exact hl, fun i => ?_⟩
  rcases Nat.lt_or_ge i D.length with q | q
  · rw [ownR_at q]
    split
    · have := hD _ (List.getElem_mem q); omega
    · omega
  · rw [W_out (by rw [ownR_len]; exact q)]; omega
theorem pick_in {D : List DueN} (hD : DIn D) (hl : D.length ≤ 24) (r : Int) : AIn ((pick (rankQ D r) D.length).map (W (ownR D r))) := by
  refine ⟨by rw [List.length_map, pick]; exact Nat.le_trans (List.length_filter_le _ _) (by simpa using hl), fun i => ?_⟩
  rcases Nat.lt_or_ge i (pick (rankQ D r) D.length).length with q | q
  · rw [W_map _ q]; exact (ownR_in hD hl r).val _
  · rw [W_out (by simpa using q)]; omega
set_option maxHeartbeats 8000000 in
theorem spread_ok (D : List DueN) (v : Value) (s : Int) (w : AW) (f : Fresh w) (hs : ArrOf w 2 dcells v D) (hD : DIn D) (hl : D.length ≤ 24) (h0 : 0 ≤ s) (h1 : s ≤ 34359738368) :
    CallT Try.prog Try.T1 (.fn (.func 53) #[]) #[v, .int .i64 s] w (fun r w' => ∃ b, r = .tuple #[.slice (some ⟨b, 0, none⟩) D.length D.length, .int .i64 (leftN D s 10)] ∧ w.next ≤ b ∧ Own w' b 3 ((paidN D s 10).flatMap icells) ∧ Grown w w') := by
  obtain ⟨p, cap, rfl, _⟩ := id hs.open
  have hvs : oneCell (.slice p D.length cap) = true := rfl
  have gA := (Grown.refl f).push (.cells [.slice p D.length cap] 23 w.next 0 0)
  have hA := Own.new f 23 [.slice p D.length cap]
  have c0 := hA.cell (o := 0) rfl hvs
  have hmk : makeSliceV (prg Try.prog) (w.push (.cells [.slice p D.length cap] 23 w.next 0 0)) 22 (.int .i64 (D.length : Int)) (.int .i64 (D.length : Int)) = some (.slice (some ⟨w.next + 1, 0, none⟩) D.length D.length, (w.push (.cells [.slice p D.length cap] 23 w.next 0 0)).push (.cells ((paidN D s 0).flatMap icells) 3 (w.next + 1) 0 0)) := by
    rw [makeSliceV_eq Try.ty22 Try.ty3 (by omega) (by omega) (by omega) rfl, paidN_zero hD s, ← flat_rep]; rfl
  have gB := gA.push (.cells ((paidN D s 0).flatMap icells) 3 (w.next + 1) 0 0)
  have hA2 := hA.push (.cells ((paidN D s 0).flatMap icells) 3 (w.next + 1) 0 0)
  have hB := Own.new gA.2 3 ((paidN D s 0).flatMap icells)
  rw [AW.next_push] at hB
  refine callT_code rfl Try.func53 rfl Try.s53_eq rfl ?_
  unfold Try.s53
  simp -dsimp -implicitDefEqProofs (maxSteps := 2000000) (disch := first | assumption | omega | (simp only [nx]; omega) | ((repeat refine Fresh.push ?_ _); assumption) | (simp only [smA]; done) | (simp [oneCell, AW.next_push]; done) | fail) only [go_sem, Nat.reduceEqDiff, reduceIte, Nat.reduceAdd, Int.toNat_natCast, Nat.add_zero, Owes_true, Try.results53, c0, hmk]
  generalize (w.push (.cells [.slice p D.length cap] 23 w.next 0 0)).push (.cells ((paidN D s 0).flatMap icells) 3 (w.next + 1) 0 0) = w1 at *
  refine loopR (fun k t ds w2 => ∃ r : Nat, r ≤ 10 ∧ k = 10 - r ∧ ds = [] ∧ ev t (.tmp 2) = .pointer (some ⟨w.next, 0, none⟩) ∧ ev t (.tmp 4) = .slice (some ⟨w.next + 1, 0, none⟩) D.length D.length ∧ ev t (.tmp 5) = .int .i64 (leftN D s r) ∧ ev t (.tmp 15) = .int .i64 (r : Int) ∧ Own w2 w.next 23 [.slice p D.length cap] ∧ Own w2 (w.next + 1) 3 ((paidN D s r).flatMap icells) ∧ Grown w w2) (10) ?_ ?_
  · refine ⟨0, by omega, by omega, rfl, ?_, ?_, ?_, ?_, hA2, hB, gB⟩ <;> simp -dsimp -implicitDefEqProofs (maxSteps := 2000000) (disch := first | assumption | omega | (simp only [nx]; omega) | ((repeat refine Fresh.push ?_ _); assumption) | (simp only [smA]; done) | (simp [oneCell, AW.next_push]; done) | fail) only [go_sem, Nat.reduceEqDiff, reduceIte, Nat.reduceAdd, Int.toNat_natCast, Nat.add_zero, Owes_true] <;> rfl
  rintro k t ds w2 ⟨r, hir, rfl, rfl, e2, e4, e5, e15, hO, hP, hg⟩
  have c1 := hO.cell (o := 0) rfl hvs
  by_cases hlt : (r : Int) < 10
  case neg =>
    obtain rfl : r = 10 := by omega
    simp -dsimp -implicitDefEqProofs (maxSteps := 2000000) (disch := first | assumption | omega | (simp only [nx]; omega) | ((repeat refine Fresh.push ?_ _); assumption) | (simp only [smA]; done) | (simp [oneCell, AW.next_push]; done) | fail) only [go_sem, Nat.reduceEqDiff, reduceIte, Nat.reduceAdd, Int.toNat_natCast, Nat.add_zero, Owes_true, Try.results53, e2, e4, e5, e15, hlt]
    exact ⟨_, rfl, by omega, hP, hg⟩
  have hL0 := leftN_nn hD.nn h0 r
  have hL1 := leftN_le hD.nn h0 (n := 0) (m := r) (by omega)
  have hL2 : leftN D s 0 = s := rfl
  simp -dsimp -implicitDefEqProofs (maxSteps := 2000000) (disch := first | assumption | omega | (simp only [nx]; omega) | ((repeat refine Fresh.push ?_ _); assumption) | (simp only [smA]; done) | (simp [oneCell, AW.next_push]; done) | fail) only [go_sem, Nat.reduceEqDiff, reduceIte, Nat.reduceAdd, Int.toNat_natCast, Nat.add_zero, Owes_true, Try.results53, e2, e4, e5, e15, hlt, c1]
  apply callV_of (e := rfl)
  · exact placesD_ok D _ (.func 92) #[.int .i64 (r : Int)] #[] (rankQ D r) w2 hg.2 (hs.grown hg) (by omega) (fun w3 hg3 i hi => by
    rw [rankQ_at hi]
    exact has_ok (r : Int) D[i] w3 hg3.2)
  rintro of w3 ⟨hofA, hg3⟩
  have g3 := hg.trans hg3
  have hO3 := hO.keep hg3.1
  have hP3 := hP.keep hg3.1
  have hpl : (pick (rankQ D r) D.length).length ≤ 24 := by rw [pick]; exact Nat.le_trans (List.length_filter_le _ _) (by simpa using hl)
  have hof := hofA.arr icells_len (by rw [List.length_map]; omega)
  obtain ⟨q3, k3, rfl, _⟩ := id hof.open
  simp -dsimp -implicitDefEqProofs (maxSteps := 2000000) (disch := first | assumption | omega | (simp only [nx]; omega) | ((repeat refine Fresh.push ?_ _); assumption) | (simp only [smA]; done) | (simp [oneCell, AW.next_push]; done) | fail) only [go_sem, Nat.reduceEqDiff, reduceIte, Nat.reduceAdd, Int.toNat_natCast, Nat.add_zero, Owes_true, Try.results53, e2, e4, e5, e15]
  apply callV_of (e := rfl)
  · exact each_ok ((pick (rankQ D r) D.length).map nint) _ (.func 94) #[] #[.pointer (some ⟨w.next, 0, none⟩)] (amt D) w3 g3.2 hof (by rw [List.length_map]; omega) (fun w4 hg4 x hx => by
    obtain ⟨i, hi, rfl⟩ := List.mem_map.mp hx
    exact amount_ok D _ i w.next w4 (hs.grown (g3.trans hg4)) (pick_lt hi).1 (hO3.keep hg4.1))
  rintro _ w4 ⟨b4, rfl, hb4, hE4, hg4⟩
  have g4 := g3.trans hg4
  rw [amts_own] at hE4
  have hn2 := hP.lt
  have hn3 := hg3.1.next
  have hn4 := hg4.1.next
  have hset := settle_ok ((pick (rankQ D r) D.length).map (W (ownR D r))) b4 (w.next + 2) (leftN D s r) w4 g4.2 hE4 (by omega) (by omega) (pick_in hD hl r) hL0 (by omega)
  rw [settle_pay (p := rankQ D r) hD.nn hL0 (fun i hi => rankQ_at hi)] at hset
  simp only [List.length_map] at hset
  simp -dsimp -implicitDefEqProofs (maxSteps := 2000000) (disch := first | assumption | omega | (simp only [nx]; omega) | ((repeat refine Fresh.push ?_ _); assumption) | (simp only [smA]; done) | (simp [oneCell, AW.next_push]; done) | fail) only [go_sem, Nat.reduceEqDiff, reduceIte, Nat.reduceAdd, Int.toNat_natCast, Nat.add_zero, Owes_true, Try.results53, e2, e4, e5, e15, List.length_map]
  apply callV_of (e := rfl)
  · exact hset
  rintro _ w5 ⟨c5, rfl, hc5, hst, _, hg5⟩
  have g5 := g4.trans hg5
  have hO5 := hO3.keep (hg4.trans hg5).1
  have hP5 := hP3.keep (hg4.trans hg5).1
  have hof5 := hofA.keep (hg4.trans hg5).1 (Nat.le_refl _)
  rw [← mid_zero] at hP5
  have hpay := payR_pays hD.nn (r : Int) hL0
  have hn5 := hg5.1.next
  simp -dsimp -implicitDefEqProofs (maxSteps := 2000000) (disch := first | assumption | omega | (simp only [nx]; omega) | ((repeat refine Fresh.push ?_ _); assumption) | (simp only [smA]; done) | (simp [oneCell, AW.next_push]; done) | fail) only [go_sem, Nat.reduceEqDiff, reduceIte, Nat.reduceAdd, Int.toNat_natCast, Nat.add_zero, Owes_true, Try.results53, e2, e4, e5, e15, List.length_map]
  refine loopR (fun k t ds w6 => ∃ m : Nat, m ≤ (pick (rankQ D r) D.length).length ∧ k = (pick (rankQ D r) D.length).length - m ∧ ds = [] ∧ ev t (.tmp 2) = .pointer (some ⟨w.next, 0, none⟩) ∧ ev t (.tmp 4) = .slice (some ⟨w.next + 1, 0, none⟩) D.length D.length ∧ ev t (.tmp 5) = .int .i64 (leftN D s r) ∧ ev t (.tmp 8) = .slice (some ⟨c5, 0, none⟩) (pick (rankQ D r) D.length).length (pick (rankQ D r) D.length).length ∧ ev t (.tmp 15) = .int .i64 (r : Int) ∧ ev t (.tmp 27) = .slice q3 (pick (rankQ D r) D.length).length k3 ∧ ev t (.tmp 28) = .int .i64 ((pick (rankQ D r) D.length).length : Int) ∧ ev t (.tmp 29) = .int .i64 (m : Int) ∧ Own w6 (w.next + 1) 3 ((midL D s r m).flatMap icells) ∧ Mut (w.next + 1) w5 w6) ((pick (rankQ D r) D.length).length) ?_ ?_
  · refine ⟨0, by omega, by omega, rfl, ?_, ?_, ?_, ?_, ?_, ?_, ?_, ?_, hP5, Mut.refl g5.2⟩ <;> simp -dsimp -implicitDefEqProofs (maxSteps := 2000000) (disch := first | assumption | omega | (simp only [nx]; omega) | ((repeat refine Fresh.push ?_ _); assumption) | (simp only [smA]; done) | (simp [oneCell, AW.next_push]; done) | fail) only [go_sem, Nat.reduceEqDiff, reduceIte, Nat.reduceAdd, Int.toNat_natCast, Nat.add_zero, Owes_true, e2, e4, e5, e15, List.length_map] <;> rfl
  rintro k t ds w6 ⟨m, him, rfl, rfl, e2, e4, e5, e8, e15, e27, e28, e29, hP6, hm6⟩
  have hst6 := hm6.own hst (by omega)
  have hO6 := hm6.own hO5 (by omega)
  have g6 : Grown w w6 := ⟨g5.1.trans (hm6.keep (by omega) (by omega)), hm6.fresh⟩
  by_cases hlt2 : (m : Int) < ((pick (rankQ D r) D.length).length : Int)
  case neg =>
    obtain rfl : m = (pick (rankQ D r) D.length).length := by omega
    rw [mid_all hD h0] at hP6
    have harr := hst6.iarr (by rw [List.length_map]; omega)
    rw [List.length_map] at harr
    have hpn : NN ((pick (rankQ D r) D.length).map (W (payR D r (leftN D s r)))) := fun i => by
      rcases Nat.lt_or_ge i (pick (rankQ D r) D.length).length with q | q
      · rw [W_map _ q]; exact hpay.nn _
      · rw [W_out (by simpa using q)]; exact Int.le_refl _
    have hz' : ∀ i, (fun i => rankQ D r i || decide (D.length ≤ i)) i = false → W (payR D r (leftN D s r)) i = 0 := fun i q => by
      simp only [Bool.or_eq_false_iff, decide_eq_false_iff_not] at q
      have hi : i < D.length := by omega
      have q1 := q.1
      rw [rankQ_at hi] at q1
      exact payR_off hD.nn hL0 hi (of_decide_eq_false q1)
    have epick : pick (rankQ D r) D.length = pick (fun i => rankQ D r i || decide (D.length ≤ i)) D.length := by
      rw [pick, pick]
      refine List.filter_congr fun i hi => ?_
      rw [List.mem_range] at hi
      have : ¬ D.length ≤ i := by omega
      simp [this]
    have hpsum : ((pick (rankQ D r) D.length).map (W (payR D r (leftN D s r)))).sum = (payR D r (leftN D s r)).sum := by
      have := pick_sum (l := payR D r (leftN D s r)) hz'
      rw [hpay.len, ownR_len] at this
      rw [epick]; exact this
    have hps := hpay.sum
    simp -dsimp -implicitDefEqProofs (maxSteps := 2000000) (disch := first | assumption | omega | (simp only [nx]; omega) | ((repeat refine Fresh.push ?_ _); assumption) | (simp only [smA]; done) | (simp [oneCell, AW.next_push]; done) | fail) only [go_sem, Nat.reduceEqDiff, reduceIte, Nat.reduceAdd, Int.toNat_natCast, Nat.add_zero, Owes_true, Try.results53, e2, e4, e5, e8, e15, e27, e28, e29, hlt2]
    apply callV_of (e := rfl)
    · exact total_ok _ _ w6 harr (small_nn hpn (by rw [hpsum]; omega))
    rintro _ _ ⟨rfl, rfl⟩
    rw [hpsum]
    have hnx : leftN D s r - (payR D r (leftN D s r)).sum = leftN D s (r + 1) := rfl
    simp -dsimp -implicitDefEqProofs (maxSteps := 2000000) (disch := first | assumption | omega | (simp only [nx]; omega) | ((repeat refine Fresh.push ?_ _); assumption) | (simp only [smA]; done) | (simp [oneCell, AW.next_push]; done) | fail) only [go_sem, Nat.reduceEqDiff, reduceIte, Nat.reduceAdd, Int.toNat_natCast, Nat.add_zero, Owes_true, Try.results53, e2, e4, e5, e15]
    refine ⟨_, by omega, r + 1, by omega, rfl, rfl, by (simp -dsimp -implicitDefEqProofs (maxSteps := 2000000) (disch := first | assumption | omega | (simp only [nx]; omega) | ((repeat refine Fresh.push ?_ _); assumption) | (simp only [smA]; done) | (simp [oneCell, AW.next_push]; done) | fail) only [go_sem, Nat.reduceEqDiff, reduceIte, Nat.reduceAdd, Int.toNat_natCast, Nat.add_zero, Owes_true, e2, hnx]; try rfl), by (simp -dsimp -implicitDefEqProofs (maxSteps := 2000000) (disch := first | assumption | omega | (simp only [nx]; omega) | ((repeat refine Fresh.push ?_ _); assumption) | (simp only [smA]; done) | (simp [oneCell, AW.next_push]; done) | fail) only [go_sem, Nat.reduceEqDiff, reduceIte, Nat.reduceAdd, Int.toNat_natCast, Nat.add_zero, Owes_true, e4, hnx]; try rfl), by (simp -dsimp -implicitDefEqProofs (maxSteps := 2000000) (disch := first | assumption | omega | (simp only [nx]; omega) | ((repeat refine Fresh.push ?_ _); assumption) | (simp only [smA]; done) | (simp [oneCell, AW.next_push]; done) | fail) only [go_sem, Nat.reduceEqDiff, reduceIte, Nat.reduceAdd, Int.toNat_natCast, Nat.add_zero, Owes_true, e5, hnx]; try rfl), by (simp -dsimp -implicitDefEqProofs (maxSteps := 2000000) (disch := first | assumption | omega | (simp only [nx]; omega) | ((repeat refine Fresh.push ?_ _); assumption) | (simp only [smA]; done) | (simp [oneCell, AW.next_push]; done) | fail) only [go_sem, Nat.reduceEqDiff, reduceIte, Nat.reduceAdd, Int.toNat_natCast, Nat.add_zero, Owes_true, e15, hnx]; try rfl), hO6, hP6, g6⟩
  have hlt2' : m < (pick (rankQ D r) D.length).length := by omega
  have hof6 := hm6.aown (by omega) hof5
  obtain ⟨_, bo, eo, hco⟩ := own_at1 hof6 (by rw [List.length_map]; omega)
  simp only [List.length_map] at eo hco
  injection eo with eo1 eo2 eo3
  subst eo1
  have hco1 := hco m hlt2'
  rw [W_map _ hlt2'] at hco1
  have hpm := pick_lt (List.getElem_mem hlt2')
  have hst1 := hst6.icell (i := m) (by rw [List.length_map]; omega)
  rw [W_map _ hlt2', show (⟨c5, m, none⟩ : Addr) = ⟨c5, m * 1, none⟩ from by rw [Nat.mul_one]] at hst1
  have hnx := mid_step (D := D) (s := s) (r := r) hlt2'
  have hpi : ((pick (rankQ D r) D.length)[m] : Int) < (D.length : Int) := by omega
  generalize hPI : (pick (rankQ D r) D.length)[m] = pi at *
  have hsv := storeV_own1 (o := pi) (v := .int .i64 (W (payR D r (leftN D s r)) pi)) hP6 (by rw [icells_flat_len, midL_len]; exact hpm.1) rfl
  rw [setL_ic, hnx, show (Value.pointer (some ⟨w.next + 1, pi, none⟩)) = .pointer (some ⟨w.next + 1, pi * 1, none⟩) from by rw [Nat.mul_one]] at hsv
  unfold nint at hco1
  simp -dsimp -implicitDefEqProofs (maxSteps := 2000000) (disch := first | assumption | omega | (simp only [nx]; omega) | ((repeat refine Fresh.push ?_ _); assumption) | (simp only [smA]; done) | (simp [oneCell, AW.next_push]; done) | fail) only [go_sem, Nat.reduceEqDiff, reduceIte, Nat.reduceAdd, Int.toNat_natCast, Nat.add_zero, Owes_true, Try.results53, e2, e4, e5, e8, e15, e27, e28, e29, hlt2, hpi, indexV_eq, Nat.zero_add, hco1, hst1, hsv]
  refine ⟨_, by omega, m + 1, by omega, rfl, rfl, by (simp -dsimp -implicitDefEqProofs (maxSteps := 2000000) (disch := first | assumption | omega | (simp only [nx]; omega) | ((repeat refine Fresh.push ?_ _); assumption) | (simp only [smA]; done) | (simp [oneCell, AW.next_push]; done) | fail) only [go_sem, Nat.reduceEqDiff, reduceIte, Nat.reduceAdd, Int.toNat_natCast, Nat.add_zero, Owes_true, e2]; try rfl), by (simp -dsimp -implicitDefEqProofs (maxSteps := 2000000) (disch := first | assumption | omega | (simp only [nx]; omega) | ((repeat refine Fresh.push ?_ _); assumption) | (simp only [smA]; done) | (simp [oneCell, AW.next_push]; done) | fail) only [go_sem, Nat.reduceEqDiff, reduceIte, Nat.reduceAdd, Int.toNat_natCast, Nat.add_zero, Owes_true, e4]; try rfl), by (simp -dsimp -implicitDefEqProofs (maxSteps := 2000000) (disch := first | assumption | omega | (simp only [nx]; omega) | ((repeat refine Fresh.push ?_ _); assumption) | (simp only [smA]; done) | (simp [oneCell, AW.next_push]; done) | fail) only [go_sem, Nat.reduceEqDiff, reduceIte, Nat.reduceAdd, Int.toNat_natCast, Nat.add_zero, Owes_true, e5]; try rfl), by (simp -dsimp -implicitDefEqProofs (maxSteps := 2000000) (disch := first | assumption | omega | (simp only [nx]; omega) | ((repeat refine Fresh.push ?_ _); assumption) | (simp only [smA]; done) | (simp [oneCell, AW.next_push]; done) | fail) only [go_sem, Nat.reduceEqDiff, reduceIte, Nat.reduceAdd, Int.toNat_natCast, Nat.add_zero, Owes_true, e8]; try rfl), by (simp -dsimp -implicitDefEqProofs (maxSteps := 2000000) (disch := first | assumption | omega | (simp only [nx]; omega) | ((repeat refine Fresh.push ?_ _); assumption) | (simp only [smA]; done) | (simp [oneCell, AW.next_push]; done) | fail) only [go_sem, Nat.reduceEqDiff, reduceIte, Nat.reduceAdd, Int.toNat_natCast, Nat.add_zero, Owes_true, e15]; try rfl), by (simp -dsimp -implicitDefEqProofs (maxSteps := 2000000) (disch := first | assumption | omega | (simp only [nx]; omega) | ((repeat refine Fresh.push ?_ _); assumption) | (simp only [smA]; done) | (simp [oneCell, AW.next_push]; done) | fail) only [go_sem, Nat.reduceEqDiff, reduceIte, Nat.reduceAdd, Int.toNat_natCast, Nat.add_zero, Owes_true, e27]; try rfl), by (simp -dsimp -implicitDefEqProofs (maxSteps := 2000000) (disch := first | assumption | omega | (simp only [nx]; omega) | ((repeat refine Fresh.push ?_ _); assumption) | (simp only [smA]; done) | (simp [oneCell, AW.next_push]; done) | fail) only [go_sem, Nat.reduceEqDiff, reduceIte, Nat.reduceAdd, Int.toNat_natCast, Nat.add_zero, Owes_true, e28]; try rfl), by (simp -dsimp -implicitDefEqProofs (maxSteps := 2000000) (disch := first | assumption | omega | (simp only [nx]; omega) | ((repeat refine Fresh.push ?_ _); assumption) | (simp only [smA]; done) | (simp [oneCell, AW.next_push]; done) | fail) only [go_sem, Nat.reduceEqDiff, reduceIte, Nat.reduceAdd, Int.toNat_natCast, Nat.add_zero, Owes_true, e29]; try rfl), hP6.put _, hm6.put hP6 _⟩
end Go.Proofs

namespace Go.Proofs
open Go Go.RowKit Go.Sim
set_option maxRecDepth 100000
end Go.Proofs

namespace Go.Proofs
open Go Go.RowKit Go.Sim
set_option maxRecDepth 100000
theorem Try.und3 : Try.prog.underlying 3 = some (.int .i64) := by kernel_rfl
theorem Try.und22 : Try.prog.underlying 22 = some (.slice 3) := by kernel_rfl
theorem Try.und23 : Try.prog.underlying 23 = some (.slice 76) := by kernel_rfl
theorem Try.cells3 : Try.prog.cellsOf 3 = 1 := by kernel_rfl
theorem Try.cells76 : Try.prog.cellsOf 76 = 2 := by kernel_rfl
theorem given_int {w : AW} {n : Nat} {cs : List Value} (h : Hd Try.prog w n 3 cs) : ∃ x : Int, cs = icells x := by
  cases n with
  | zero => exact h.elim
  | succ n =>
    simp only [Hd, Try.und3] at h
    obtain ⟨i, rfl, _⟩ := h
    exact ⟨i, rfl⟩
theorem given_num {w : AW} {n : Nat} {v : Value} (h : HdV Try.prog w n 3 v) : ∃ x : Int, v = .int .i64 x := by
  simp only [HdV, Try.und3] at h
  obtain ⟨x, e⟩ := given_int h
  injection e with e
  exact ⟨x, e⟩
theorem given_ints {w : AW} {n : Nat} {cs : List Value} (h : Hd Try.prog w n 22 cs) : ∃ v, cs = [v] ∧ ∃ xs, ArrOf w 1 icells v xs := by
  cases n with
  | zero => exact h.elim
  | succ n =>
    simp only [Hd, Try.und22, Try.cells3] at h
    obtain ⟨v, rows, rfl, ha, hr, hgv⟩ := h
    obtain ⟨xs, rfl⟩ := rows_of fun r hq => given_int (hr r hq)
    exact ⟨v, rfl, xs, ha⟩
theorem Try.und76 : Try.prog.underlying 76 = some (.struct #[{ name := "Rank", type := 3, offset := 0, embedded := false, tag := "", pkgPath := "", byteOffset := 0 }, { name := "Amount", type := 3, offset := 1, embedded := false, tag := "", pkgPath := "", byteOffset := 8 }]) := by kernel_rfl
theorem given_due {w : AW} {n : Nat} {cs : List Value} (h : Hd Try.prog w n 76 cs) : ∃ d : DueN, cs = dcells d := by
  cases n with
  | zero => exact h.elim
  | succ n =>
    simp only [Hd, Try.und76] at h
    obtain ⟨parts, rfl, hl, hp⟩ := h
    match parts, hl with
    | [p0, p1], _ =>
      obtain ⟨x0, rfl⟩ := given_int (hp 0 _ p0 rfl rfl)
      obtain ⟨x1, rfl⟩ := given_int (hp 1 _ p1 rfl rfl)
      exact ⟨⟨x0, x1⟩, rfl⟩
theorem given_dues {w : AW} {n : Nat} {cs : List Value} (h : Hd Try.prog w n 23 cs) : ∃ v, cs = [v] ∧ ∃ xs, ArrOf w 2 dcells v xs := by
  cases n with
  | zero => exact h.elim
  | succ n =>
    simp only [Hd, Try.und23, Try.cells76] at h
    obtain ⟨v, rows, rfl, ha, hr, hgv⟩ := h
    obtain ⟨xs, rfl⟩ := rows_of fun r hq => given_due (hr r hq)
    exact ⟨v, rfl, xs, ha⟩
end Go.Proofs
