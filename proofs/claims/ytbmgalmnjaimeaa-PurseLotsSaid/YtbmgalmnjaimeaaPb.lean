/- Contracts of Share, dues, Spread. -/
import Derived.Test.YtbmgalmnjaimeaaPa
import Derived.Test.YtbmgalmnjaimeaaNc
set_option linter.unusedVariables false
set_option linter.unusedSimpArgs false
/- Share; dues. -/
namespace Go.Proofs
open Go Go.RowKit Go.Sim
set_option maxRecDepth 100000
def shareE (ws : List Int) (s : Int) : Int := if wgtB ws = false then 70 else if inR 0 s 34359738368 = false then 7 else 0
noncomputable def shareO (ws : List Int) (s : Int) : List Int := if shareE ws s = 0 then shareL ws s else []
theorem shareE_in {ws : List Int} {s : Int} (h : shareE ws s = 0) : WIn ws ∧ 0 ≤ s ∧ s ≤ 34359738368 := by
  unfold shareE at h
  cases hw : wgtB ws with
  | false => rw [if_pos hw] at h; exact absurd h (by decide)
  | true =>
  rw [if_neg (by rw [hw]; simp)] at h
  cases hr : inR 0 s 34359738368 with
  | false => rw [if_pos hr] at h; exact absurd h (by decide)
  | true => exact ⟨wgt_in hw, (inR_iff _ _ _).1 hr⟩
theorem Share_ok (ws : List Int) (v : Value) (s : Int) (w : AW) (f : Fresh w) (hs : ArrOf w 1 icells v ws) :
    CallT Try.prog Try.T1 (.fn (.func 14) #[]) #[v, .int .i64 s] w (fun r w' => ∃ u, r = .tuple #[u, .int .i64 (shareE ws s)] ∧ ArrOf w' 1 icells u (shareO ws s) ∧ Grown w w') := by
  obtain ⟨p, cap, rfl, _⟩ := id hs.open
  refine callT_code rfl Try.func14 rfl Try.s14_eq rfl ?_
  unfold Try.s14
  simp -dsimp -implicitDefEqProofs (maxSteps := 2000000) (disch := first | assumption | omega | (simp only [AW.next_push, AW.next_put]; omega) | ((repeat refine Fresh.push ?_ _); assumption) | (simp only [same_int, same_bool, same_ptr, same_slice, same_sliceP, same_nil, same_agg2, same_string]; done) | (simp [oneCell, AW.next_push]; done) | fail) only [go_sem, Nat.reduceEqDiff, reduceIte, Nat.reduceAdd, Int.toNat_natCast, Nat.add_zero, Owes_true, Try.results14]
  apply callV_of (e := rfl)
  · exact areWeights_ok ws _ w f hs
  rintro _ w1 ⟨rfl, g1⟩
  cases hw : wgtB ws with
  | false =>
    have hE : shareE ws s = 70 := by rw [shareE, if_pos hw]
    have hO : shareO ws s = [] := by rw [shareO, if_neg (by rw [hE]; decide)]
    simp -dsimp -implicitDefEqProofs (maxSteps := 2000000) (disch := first | assumption | omega | (simp only [AW.next_push, AW.next_put]; omega) | ((repeat refine Fresh.push ?_ _); assumption) | (simp only [same_int, same_bool, same_ptr, same_slice, same_sliceP, same_nil, same_agg2, same_string]; done) | (simp [oneCell, AW.next_push]; done) | fail) only [go_sem, Nat.reduceEqDiff, reduceIte, Nat.reduceAdd, Int.toNat_natCast, Nat.add_zero, Owes_true, Try.results14]
    exact ⟨_, by rw [hE], by rw [hO]; exact ArrOf.nil _ _ _, g1⟩
  | true =>
  simp -dsimp -implicitDefEqProofs (maxSteps := 2000000) (disch := first | assumption | omega | (simp only [AW.next_push, AW.next_put]; omega) | ((repeat refine Fresh.push ?_ _); assumption) | (simp only [same_int, same_bool, same_ptr, same_slice, same_sliceP, same_nil, same_agg2, same_string]; done) | (simp [oneCell, AW.next_push]; done) | fail) only [go_sem, Nat.reduceEqDiff, reduceIte, Nat.reduceAdd, Int.toNat_natCast, Nat.add_zero, Owes_true, Try.results14]
  apply callV_of (e := rfl)
  · exact isShared_ok _ _
  rintro _ _ ⟨rfl, rfl⟩
  cases hr : inR 0 s 34359738368 with
  | false =>
    have hE : shareE ws s = 7 := by rw [shareE, if_neg (by rw [hw]; simp), if_pos hr]
    have hO : shareO ws s = [] := by rw [shareO, if_neg (by rw [hE]; decide)]
    simp -dsimp -implicitDefEqProofs (maxSteps := 2000000) (disch := first | assumption | omega | (simp only [AW.next_push, AW.next_put]; omega) | ((repeat refine Fresh.push ?_ _); assumption) | (simp only [same_int, same_bool, same_ptr, same_slice, same_sliceP, same_nil, same_agg2, same_string]; done) | (simp [oneCell, AW.next_push]; done) | fail) only [go_sem, Nat.reduceEqDiff, reduceIte, Nat.reduceAdd, Int.toNat_natCast, Nat.add_zero, Owes_true, Try.results14]
    exact ⟨_, by rw [hE], by rw [hO]; exact ArrOf.nil _ _ _, g1⟩
  | true =>
  have hE : shareE ws s = 0 := by rw [shareE, if_neg (by rw [hw]; simp), if_neg (by rw [hr]; simp)]
  have hO : shareO ws s = shareL ws s := by rw [shareO, if_pos hE]
  obtain ⟨hW, h0, h1⟩ := shareE_in hE
  simp -dsimp -implicitDefEqProofs (maxSteps := 2000000) (disch := first | assumption | omega | (simp only [AW.next_push, AW.next_put]; omega) | ((repeat refine Fresh.push ?_ _); assumption) | (simp only [same_int, same_bool, same_ptr, same_slice, same_sliceP, same_nil, same_agg2, same_string]; done) | (simp [oneCell, AW.next_push]; done) | fail) only [go_sem, Nat.reduceEqDiff, reduceIte, Nat.reduceAdd, Int.toNat_natCast, Nat.add_zero, Owes_true, Try.results14]
  apply callV_of (e := rfl)
  · exact share_ok ws _ s w1 g1.2 (hs.grown g1) hW h0 h1
  rintro _ w2 ⟨b, rfl, _, hA, hl, hg2⟩
  have hA' := hA.iarr (by rw [hl]; have := hW.len; omega)
  rw [hl] at hA'
  simp -dsimp -implicitDefEqProofs (maxSteps := 2000000) (disch := first | assumption | omega | (simp only [AW.next_push, AW.next_put]; omega) | ((repeat refine Fresh.push ?_ _); assumption) | (simp only [same_int, same_bool, same_ptr, same_slice, same_sliceP, same_nil, same_agg2, same_string]; done) | (simp [oneCell, AW.next_push]; done) | fail) only [go_sem, Nat.reduceEqDiff, reduceIte, Nat.reduceAdd, Int.toNat_natCast, Nat.add_zero, Owes_true, Try.results14]
  exact ⟨_, by rw [hE], by rw [hO]; exact hA', g1.trans hg2⟩
theorem refShare_ok (ws : List Int) (v : Value) (s : Int) (w : AW) (f : Fresh w) (hs : ArrOf w 1 icells v ws) :
    CallT Try.prog Try.T1 (.fn (.func 15) #[]) #[v, .int .i64 s] w (fun r w' => ∃ u, r = .tuple #[u, .int .i64 (shareE ws s)] ∧ ArrOf w' 1 icells u (shareO ws s) ∧ Grown w w') := by
  obtain ⟨p, cap, rfl, _⟩ := id hs.open
  refine callT_code rfl Try.func15 rfl Try.s15_eq rfl ?_
  unfold Try.s15
  simp -dsimp -implicitDefEqProofs (maxSteps := 2000000) (disch := first | assumption | omega | (simp only [AW.next_push, AW.next_put]; omega) | ((repeat refine Fresh.push ?_ _); assumption) | (simp only [same_int, same_bool, same_ptr, same_slice, same_sliceP, same_nil, same_agg2, same_string]; done) | (simp [oneCell, AW.next_push]; done) | fail) only [go_sem, Nat.reduceEqDiff, reduceIte, Nat.reduceAdd, Int.toNat_natCast, Nat.add_zero, Owes_true, Try.results15]
  apply callV_of (e := rfl)
  · exact Weights_ok ws _ w f hs
  rintro _ _ ⟨rfl, rfl⟩
  cases hw : wgtB ws with
  | false =>
    have hE : shareE ws s = 70 := by rw [shareE, if_pos hw]
    have hO : shareO ws s = [] := by rw [shareO, if_neg (by rw [hE]; decide)]
    simp -dsimp -implicitDefEqProofs (maxSteps := 2000000) (disch := first | assumption | omega | (simp only [AW.next_push, AW.next_put]; omega) | ((repeat refine Fresh.push ?_ _); assumption) | (simp only [same_int, same_bool, same_ptr, same_slice, same_sliceP, same_nil, same_agg2, same_string]; done) | (simp [oneCell, AW.next_push]; done) | fail) only [go_sem, Nat.reduceEqDiff, reduceIte, Nat.reduceAdd, Int.toNat_natCast, Nat.add_zero, Owes_true, Try.results15]
    exact ⟨_, by rw [hE], by rw [hO]; exact ArrOf.nil _ _ _, .refl f⟩
  | true =>
  simp -dsimp -implicitDefEqProofs (maxSteps := 2000000) (disch := first | assumption | omega | (simp only [AW.next_push, AW.next_put]; omega) | ((repeat refine Fresh.push ?_ _); assumption) | (simp only [same_int, same_bool, same_ptr, same_slice, same_sliceP, same_nil, same_agg2, same_string]; done) | (simp [oneCell, AW.next_push]; done) | fail) only [go_sem, Nat.reduceEqDiff, reduceIte, Nat.reduceAdd, Int.toNat_natCast, Nat.add_zero, Owes_true, Try.results15]
  apply callV_of (e := rfl)
  · exact From_ok _ _ _ _
  rintro _ _ ⟨rfl, rfl⟩
  cases hr : inR 0 s 34359738368 with
  | false =>
    have hE : shareE ws s = 7 := by rw [shareE, if_neg (by rw [hw]; simp), if_pos hr]
    have hO : shareO ws s = [] := by rw [shareO, if_neg (by rw [hE]; decide)]
    simp -dsimp -implicitDefEqProofs (maxSteps := 2000000) (disch := first | assumption | omega | (simp only [AW.next_push, AW.next_put]; omega) | ((repeat refine Fresh.push ?_ _); assumption) | (simp only [same_int, same_bool, same_ptr, same_slice, same_sliceP, same_nil, same_agg2, same_string]; done) | (simp [oneCell, AW.next_push]; done) | fail) only [go_sem, Nat.reduceEqDiff, reduceIte, Nat.reduceAdd, Int.toNat_natCast, Nat.add_zero, Owes_true, Try.results15]
    exact ⟨_, by rw [hE], by rw [hO]; exact ArrOf.nil _ _ _, .refl f⟩
  | true =>
  have hE : shareE ws s = 0 := by rw [shareE, if_neg (by rw [hw]; simp), if_neg (by rw [hr]; simp)]
  have hO : shareO ws s = shareL ws s := by rw [shareO, if_pos hE]
  obtain ⟨hW, h0, h1⟩ := shareE_in hE
  simp -dsimp -implicitDefEqProofs (maxSteps := 2000000) (disch := first | assumption | omega | (simp only [AW.next_push, AW.next_put]; omega) | ((repeat refine Fresh.push ?_ _); assumption) | (simp only [same_int, same_bool, same_ptr, same_slice, same_sliceP, same_nil, same_agg2, same_string]; done) | (simp [oneCell, AW.next_push]; done) | fail) only [go_sem, Nat.reduceEqDiff, reduceIte, Nat.reduceAdd, Int.toNat_natCast, Nat.add_zero, Owes_true, Try.results15]
  apply callV_of (e := rfl)
  · exact refshare_ok ws _ s w f hs hW h0 h1
  rintro r w2 ⟨hA, hl, hg2⟩
  rw [← hl] at hA
  have hA' := hA.arr icells_len (by have := hW.len; omega)
  simp -dsimp -implicitDefEqProofs (maxSteps := 2000000) (disch := first | assumption | omega | (simp only [AW.next_push, AW.next_put]; omega) | ((repeat refine Fresh.push ?_ _); assumption) | (simp only [same_int, same_bool, same_ptr, same_slice, same_sliceP, same_nil, same_agg2, same_string]; done) | (simp [oneCell, AW.next_push]; done) | fail) only [go_sem, Nat.reduceEqDiff, reduceIte, Nat.reduceAdd, Int.toNat_natCast, Nat.add_zero, Owes_true, Try.results15]
  exact ⟨_, by rw [hE], by rw [hO]; exact hA', hg2⟩
/- Dues. -/
def dcells (d : DueN) : List Value := [.int .i64 d.r, .int .i64 d.a]
theorem dcells_len (d : DueN) : (dcells d).length = 2 := rfl
def dueB (d : DueN) : Bool := inR 0 d.r 9 && inR 0 d.a 67108864
def duesB (D : List DueN) : Bool := decide (D.length ≤ 24) && D.all dueB
theorem dues_in {D : List DueN} (h : duesB D = true) : DIn D ∧ D.length ≤ 24 := by
  simp only [duesB, Bool.and_eq_true, decide_eq_true_eq, List.all_eq_true, dueB, inR_iff] at h
  exact ⟨fun d hd => by have := h.2 d hd; omega, h.1⟩
theorem isDue_ok (d : DueN) (w : AW) (f : Fresh w) : CallT Try.prog Try.T1 (.fn (.func 90) #[]) #[.agg #[.int .i64 d.r, .int .i64 d.a]] w (Ret (.bool (dueB d)) (Grown w)) := by
  have g := (Grown.refl f).push (.cells [.int .i64 d.r, .int .i64 d.a] 76 w.next 0 0)
  have hO := Own.new f 76 [.int .i64 d.r, .int .i64 d.a]
  have c0 := hO.cell (o := 0) rfl rfl
  have c1 := hO.cell (o := 1) rfl rfl
  refine callT_code rfl Try.func90 rfl Try.s90_eq rfl ?_
  unfold Try.s90
  simp -dsimp -implicitDefEqProofs (maxSteps := 2000000) (disch := first | assumption | omega | (simp only [AW.next_push, AW.next_put]; omega) | ((repeat refine Fresh.push ?_ _); assumption) | (simp only [same_int, same_bool, same_ptr, same_slice, same_sliceP, same_nil, same_agg2, same_string]; done) | (simp [oneCell, AW.next_push]; done) | fail) only [go_sem, Nat.reduceEqDiff, reduceIte, Nat.reduceAdd, Int.toNat_natCast, Nat.add_zero, Owes_true, Try.results90, Nat.zero_add, c0]
  apply callV_of (e := rfl)
  · exact within_ok _ _ _ _
  rintro _ _ ⟨rfl, rfl⟩
  cases h1 : inR 0 d.r 9 with
  | false =>
    simp -dsimp -implicitDefEqProofs (maxSteps := 2000000) (disch := first | assumption | omega | (simp only [AW.next_push, AW.next_put]; omega) | ((repeat refine Fresh.push ?_ _); assumption) | (simp only [same_int, same_bool, same_ptr, same_slice, same_sliceP, same_nil, same_agg2, same_string]; done) | (simp [oneCell, AW.next_push]; done) | fail) only [go_sem, Nat.reduceEqDiff, reduceIte, Nat.reduceAdd, Int.toNat_natCast, Nat.add_zero, Owes_true, Try.results90]
    exact ⟨by rw [dueB, h1]; rfl, g⟩
  | true =>
  simp -dsimp -implicitDefEqProofs (maxSteps := 2000000) (disch := first | assumption | omega | (simp only [AW.next_push, AW.next_put]; omega) | ((repeat refine Fresh.push ?_ _); assumption) | (simp only [same_int, same_bool, same_ptr, same_slice, same_sliceP, same_nil, same_agg2, same_string]; done) | (simp [oneCell, AW.next_push]; done) | fail) only [go_sem, Nat.reduceEqDiff, reduceIte, Nat.reduceAdd, Int.toNat_natCast, Nat.add_zero, Owes_true, Try.results90, Nat.zero_add, c1]
  apply callV_of (e := rfl)
  · exact isAmount_ok _ _
  rintro _ _ ⟨rfl, rfl⟩
  simp -dsimp -implicitDefEqProofs (maxSteps := 2000000) (disch := first | assumption | omega | (simp only [AW.next_push, AW.next_put]; omega) | ((repeat refine Fresh.push ?_ _); assumption) | (simp only [same_int, same_bool, same_ptr, same_slice, same_sliceP, same_nil, same_agg2, same_string]; done) | (simp [oneCell, AW.next_push]; done) | fail) only [go_sem, Nat.reduceEqDiff, reduceIte, Nat.reduceAdd, Int.toNat_natCast, Nat.add_zero, Owes_true, Try.results90]
  exact ⟨by rw [dueB, h1]; rfl, g⟩
theorem has_ok (r : Int) (d : DueN) (w : AW) (f : Fresh w) : CallT Try.prog Try.T1 (.fn (.func 92) #[]) #[.int .i64 r, .agg #[.int .i64 d.r, .int .i64 d.a]] w (Ret (.bool (decide (d.r = r))) (Grown w)) := by
  have g := (Grown.refl f).push (.cells [.int .i64 d.r, .int .i64 d.a] 76 w.next 0 0)
  have hO := Own.new f 76 [.int .i64 d.r, .int .i64 d.a]
  have c0 := hO.cell (o := 0) rfl rfl
  refine callT_code rfl Try.func92 rfl Try.s92_eq rfl ?_
  unfold Try.s92
  simp -dsimp -implicitDefEqProofs (maxSteps := 2000000) (disch := first | assumption | omega | (simp only [AW.next_push, AW.next_put]; omega) | ((repeat refine Fresh.push ?_ _); assumption) | (simp only [same_int, same_bool, same_ptr, same_slice, same_sliceP, same_nil, same_agg2, same_string]; done) | (simp [oneCell, AW.next_push]; done) | fail) only [go_sem, Nat.reduceEqDiff, reduceIte, Nat.reduceAdd, Int.toNat_natCast, Nat.add_zero, Owes_true, Try.results92, Nat.zero_add, c0]
  exact ⟨rfl, g⟩
set_option maxHeartbeats 4000000 in
theorem placesD_ok (D : List DueN) (v : Value) (fn : Fn) (first cap : Array Value) (q : Nat → Bool) (w : AW) (f : Fresh w) (hs : ArrOf w 2 dcells v D) (hl : D.length ≤ 1000) (hf : ∀ w1, Grown w w1 → ∀ i (hi : i < D.length), CallT Try.prog Try.T1 (.fn fn cap) (first.toList ++ [Value.agg #[.int .i64 D[i].r, .int .i64 D[i].a]]).toArray w1 (Ret (.bool (q i)) (Grown w1))) :
    CallT Try.prog Try.T1 (.fn (.func 91) #[]) #[v, .func fn first cap] w (fun r w' => AOwn w.next w' 3 1 r ((pick q D.length).map nint).length (((pick q D.length).map nint).flatMap icells) ∧ Grown w w') := by
  obtain ⟨p, c, rfl, _, _, hat⟩ := hs.open
  refine callT_code rfl Try.func91 rfl Try.s91_eq rfl ?_
  unfold Try.s91
  simp -dsimp -implicitDefEqProofs (maxSteps := 2000000) (disch := first | assumption | omega | (simp only [AW.next_push, AW.next_put]; omega) | ((repeat refine Fresh.push ?_ _); assumption) | (simp only [same_int, same_bool, same_ptr, same_slice, same_sliceP, same_nil, same_agg2, same_string]; done) | (simp [oneCell, AW.next_push]; done) | fail) only [go_sem, Nat.reduceEqDiff, reduceIte, Nat.reduceAdd, Int.toNat_natCast, Nat.add_zero, Owes_true, Try.results91]
  refine loopR (fun k t ds w1 => ∃ i : Nat, i ≤ D.length ∧ k = D.length - i ∧ ds = [] ∧ ev t (.tmp 1) = .func fn first cap ∧ ev t (.tmp 8) = .slice p D.length c ∧ ev t (.tmp 9) = .int .i64 (D.length : Int) ∧ ev t (.tmp 10) = .int .i64 (i : Int) ∧ (∃ u, ev t (.tmp 5) = u ∧ AOwn w.next w1 3 1 u ((pick q i).map nint).length (((pick q i).map nint).flatMap icells)) ∧ Grown w w1) (D.length) ?_ ?_
  · refine ⟨0, by omega, by omega, rfl, ?_, ?_, ?_, ?_, ⟨_, (by simp -dsimp -implicitDefEqProofs (maxSteps := 2000000) (disch := first | assumption | omega | (simp only [AW.next_push, AW.next_put]; omega) | ((repeat refine Fresh.push ?_ _); assumption) | (simp only [same_int, same_bool, same_ptr, same_slice, same_sliceP, same_nil, same_agg2, same_string]; done) | (simp [oneCell, AW.next_push]; done) | fail) only [go_sem, Nat.reduceEqDiff, reduceIte, Nat.reduceAdd, Int.toNat_natCast, Nat.add_zero, Owes_true]; try rfl), .inl ⟨rfl, rfl, rfl⟩⟩, Grown.refl f⟩ <;> simp -dsimp -implicitDefEqProofs (maxSteps := 2000000) (disch := first | assumption | omega | (simp only [AW.next_push, AW.next_put]; omega) | ((repeat refine Fresh.push ?_ _); assumption) | (simp only [same_int, same_bool, same_ptr, same_slice, same_sliceP, same_nil, same_agg2, same_string]; done) | (simp [oneCell, AW.next_push]; done) | fail) only [go_sem, Nat.reduceEqDiff, reduceIte, Nat.reduceAdd, Int.toNat_natCast, Nat.add_zero, Owes_true] <;> rfl
  rintro k t ds w1 ⟨i, hii, rfl, rfl, e1, e8, e9, e10, hA, hg⟩
  obtain ⟨u, e5, hA⟩ := hA
  have hpl : ((pick q i).map nint).length ≤ i := by rw [List.length_map, pick]; exact Nat.le_trans (List.length_filter_le _ _) (by simp)
  by_cases hlt : (i : Int) < (D.length : Int)
  case neg =>
    obtain rfl : i = D.length := by omega
    simp -dsimp -implicitDefEqProofs (maxSteps := 2000000) (disch := first | assumption | omega | (simp only [AW.next_push, AW.next_put]; omega) | ((repeat refine Fresh.push ?_ _); assumption) | (simp only [same_int, same_bool, same_ptr, same_slice, same_sliceP, same_nil, same_agg2, same_string]; done) | (simp [oneCell, AW.next_push]; done) | fail) only [go_sem, Nat.reduceEqDiff, reduceIte, Nat.reduceAdd, Int.toNat_natCast, Nat.add_zero, Owes_true, Try.results91, e1, e5, e8, e9, e10, hlt]
    exact ⟨hA, hg⟩
  have hlt' : i < D.length := by omega
  obtain ⟨b1, o1, rfl, hb1, hcell⟩ := hat i hlt'
  have a0 := hcell _ hg.1 0 _ rfl
  have a1 := hcell _ hg.1 1 _ rfl
  rw [Nat.add_zero] at a0
  have hO := Own.new hg.2 76 [.int .i64 0, .int .i64 0]
  have gP := hg.push (.cells [.int .i64 0, .int .i64 0] 76 w1.next 0 0)
  have hst := storeV_own (o := 0) (l := [.int .i64 D[i].r, .int .i64 D[i].a]) (size := 2) hO rfl (by omega) (by simp) (by rfl)
  simp only [setsL, setL] at hst
  have hw1 := hg.1.next
  have gQ : Grown w _ := ⟨gP.1.put (b := w1.next) (by omega) (.cells [.int .i64 D[i].r, .int .i64 D[i].a] 76 w1.next 0 0), gP.2.put hO.lt (.cells [.int .i64 D[i].r, .int .i64 D[i].a] 76 w1.next 0 0)⟩
  have gQ1 : Grown w1 _ := ⟨((Grown.refl hg.2).push (.cells [.int .i64 0, .int .i64 0] 76 w1.next 0 0)).1.put (b := w1.next) (Nat.le_refl _) (.cells [.int .i64 D[i].r, .int .i64 D[i].a] 76 w1.next 0 0), gQ.2⟩
  have hQ := hO.put [.int .i64 D[i].r, .int .i64 D[i].a]
  have c0 := hQ.cell (o := 0) rfl rfl
  have c1 := hQ.cell (o := 1) rfl rfl
  simp -dsimp -implicitDefEqProofs (maxSteps := 2000000) (disch := first | assumption | omega | (simp only [AW.next_push, AW.next_put]; omega) | ((repeat refine Fresh.push ?_ _); assumption) | (simp only [same_int, same_bool, same_ptr, same_slice, same_sliceP, same_nil, same_agg2, same_string]; done) | (simp [oneCell, AW.next_push]; done) | fail) only [go_sem, Nat.reduceEqDiff, reduceIte, Nat.reduceAdd, Int.toNat_natCast, Nat.add_zero, Owes_true, Try.results91, e1, e5, e8, e9, e10, hlt, indexV_eq, a0, a1, hst, c0, c1]
  generalize ((w1.push (.cells [.int .i64 0, .int .i64 0] 76 w1.next 0 0)).put w1.next (.cells [.int .i64 D[i].r, .int .i64 D[i].a] 76 w1.next 0 0)) = w2 at *
  apply callV_of (e := rfl)
  · exact hf w2 gQ i hlt'
  rintro _ w3 ⟨rfl, hg3⟩
  have g3 := gQ.trans hg3
  have hA3 := hA.keep (gQ1.trans hg3).1 (Nat.le_refl _)
  have hps := pick_succ q i
  cases hq : q i with
  | false =>
    have hnx : (pick q (i + 1)).map nint = (pick q i).map nint := by rw [hps, hq]; simp
    simp -dsimp -implicitDefEqProofs (maxSteps := 2000000) (disch := first | assumption | omega | (simp only [AW.next_push, AW.next_put]; omega) | ((repeat refine Fresh.push ?_ _); assumption) | (simp only [same_int, same_bool, same_ptr, same_slice, same_sliceP, same_nil, same_agg2, same_string]; done) | (simp [oneCell, AW.next_push]; done) | fail) only [go_sem, Nat.reduceEqDiff, reduceIte, Nat.reduceAdd, Int.toNat_natCast, Nat.add_zero, Owes_true, Try.results91, e1, e5, e8, e9, e10]
    refine ⟨_, by omega, i + 1, by omega, rfl, rfl, by (simp -dsimp -implicitDefEqProofs (maxSteps := 2000000) (disch := first | assumption | omega | (simp only [AW.next_push, AW.next_put]; omega) | ((repeat refine Fresh.push ?_ _); assumption) | (simp only [same_int, same_bool, same_ptr, same_slice, same_sliceP, same_nil, same_agg2, same_string]; done) | (simp [oneCell, AW.next_push]; done) | fail) only [go_sem, Nat.reduceEqDiff, reduceIte, Nat.reduceAdd, Int.toNat_natCast, Nat.add_zero, Owes_true, e1]; try rfl), by (simp -dsimp -implicitDefEqProofs (maxSteps := 2000000) (disch := first | assumption | omega | (simp only [AW.next_push, AW.next_put]; omega) | ((repeat refine Fresh.push ?_ _); assumption) | (simp only [same_int, same_bool, same_ptr, same_slice, same_sliceP, same_nil, same_agg2, same_string]; done) | (simp [oneCell, AW.next_push]; done) | fail) only [go_sem, Nat.reduceEqDiff, reduceIte, Nat.reduceAdd, Int.toNat_natCast, Nat.add_zero, Owes_true, e8]; try rfl), by (simp -dsimp -implicitDefEqProofs (maxSteps := 2000000) (disch := first | assumption | omega | (simp only [AW.next_push, AW.next_put]; omega) | ((repeat refine Fresh.push ?_ _); assumption) | (simp only [same_int, same_bool, same_ptr, same_slice, same_sliceP, same_nil, same_agg2, same_string]; done) | (simp [oneCell, AW.next_push]; done) | fail) only [go_sem, Nat.reduceEqDiff, reduceIte, Nat.reduceAdd, Int.toNat_natCast, Nat.add_zero, Owes_true, e9]; try rfl), by (simp -dsimp -implicitDefEqProofs (maxSteps := 2000000) (disch := first | assumption | omega | (simp only [AW.next_push, AW.next_put]; omega) | ((repeat refine Fresh.push ?_ _); assumption) | (simp only [same_int, same_bool, same_ptr, same_slice, same_sliceP, same_nil, same_agg2, same_string]; done) | (simp [oneCell, AW.next_push]; done) | fail) only [go_sem, Nat.reduceEqDiff, reduceIte, Nat.reduceAdd, Int.toNat_natCast, Nat.add_zero, Owes_true, e10]; try rfl), ⟨u, (by simp -dsimp -implicitDefEqProofs (maxSteps := 2000000) (disch := first | assumption | omega | (simp only [AW.next_push, AW.next_put]; omega) | ((repeat refine Fresh.push ?_ _); assumption) | (simp only [same_int, same_bool, same_ptr, same_slice, same_sliceP, same_nil, same_agg2, same_string]; done) | (simp [oneCell, AW.next_push]; done) | fail) only [go_sem, Nat.reduceEqDiff, reduceIte, Nat.reduceAdd, Int.toNat_natCast, Nat.add_zero, Owes_true, e5]), (by rw [hnx]; exact hA3)⟩, g3⟩
  | true =>
    have hnx : (pick q (i + 1)).map nint = (pick q i).map nint ++ [(i : Int)] := by rw [hps, hq, List.map_append]; rfl
    have hn2 := g3.1.next
    obtain ⟨u', w4, happ, hA4, hk4, hf4, _, _⟩ := append_one (e' := 3) Try.ty22 Try.ty3 rfl (by omega) (by omega) hA3 g3.2 hn2 (icells_len (i : Int)) (icells_one _) (by omega)
    simp only [icells] at happ
    simp -dsimp -implicitDefEqProofs (maxSteps := 2000000) (disch := first | assumption | omega | (simp only [AW.next_push, AW.next_put]; omega) | ((repeat refine Fresh.push ?_ _); assumption) | (simp only [same_int, same_bool, same_ptr, same_slice, same_sliceP, same_nil, same_agg2, same_string]; done) | (simp [oneCell, AW.next_push]; done) | fail) only [go_sem, Nat.reduceEqDiff, reduceIte, Nat.reduceAdd, Int.toNat_natCast, Nat.add_zero, Owes_true, Try.results91, e1, e5, e8, e9, e10, happ]
    refine ⟨_, by omega, i + 1, by omega, rfl, rfl, by (simp -dsimp -implicitDefEqProofs (maxSteps := 2000000) (disch := first | assumption | omega | (simp only [AW.next_push, AW.next_put]; omega) | ((repeat refine Fresh.push ?_ _); assumption) | (simp only [same_int, same_bool, same_ptr, same_slice, same_sliceP, same_nil, same_agg2, same_string]; done) | (simp [oneCell, AW.next_push]; done) | fail) only [go_sem, Nat.reduceEqDiff, reduceIte, Nat.reduceAdd, Int.toNat_natCast, Nat.add_zero, Owes_true, e1]; try rfl), by (simp -dsimp -implicitDefEqProofs (maxSteps := 2000000) (disch := first | assumption | omega | (simp only [AW.next_push, AW.next_put]; omega) | ((repeat refine Fresh.push ?_ _); assumption) | (simp only [same_int, same_bool, same_ptr, same_slice, same_sliceP, same_nil, same_agg2, same_string]; done) | (simp [oneCell, AW.next_push]; done) | fail) only [go_sem, Nat.reduceEqDiff, reduceIte, Nat.reduceAdd, Int.toNat_natCast, Nat.add_zero, Owes_true, e8]; try rfl), by (simp -dsimp -implicitDefEqProofs (maxSteps := 2000000) (disch := first | assumption | omega | (simp only [AW.next_push, AW.next_put]; omega) | ((repeat refine Fresh.push ?_ _); assumption) | (simp only [same_int, same_bool, same_ptr, same_slice, same_sliceP, same_nil, same_agg2, same_string]; done) | (simp [oneCell, AW.next_push]; done) | fail) only [go_sem, Nat.reduceEqDiff, reduceIte, Nat.reduceAdd, Int.toNat_natCast, Nat.add_zero, Owes_true, e9]; try rfl), by (simp -dsimp -implicitDefEqProofs (maxSteps := 2000000) (disch := first | assumption | omega | (simp only [AW.next_push, AW.next_put]; omega) | ((repeat refine Fresh.push ?_ _); assumption) | (simp only [same_int, same_bool, same_ptr, same_slice, same_sliceP, same_nil, same_agg2, same_string]; done) | (simp [oneCell, AW.next_push]; done) | fail) only [go_sem, Nat.reduceEqDiff, reduceIte, Nat.reduceAdd, Int.toNat_natCast, Nat.add_zero, Owes_true, e10]; try rfl), ⟨u', (by simp -dsimp -implicitDefEqProofs (maxSteps := 2000000) (disch := first | assumption | omega | (simp only [AW.next_push, AW.next_put]; omega) | ((repeat refine Fresh.push ?_ _); assumption) | (simp only [same_int, same_bool, same_ptr, same_slice, same_sliceP, same_nil, same_agg2, same_string]; done) | (simp [oneCell, AW.next_push]; done) | fail) only [go_sem, Nat.reduceEqDiff, reduceIte, Nat.reduceAdd, Int.toNat_natCast, Nat.add_zero, Owes_true]), (by rw [hnx, List.length_append, List.flatMap_append]; exact hA4)⟩, ⟨g3.1.trans hk4, hf4⟩⟩
theorem allD_ok (D : List DueN) (v : Value) (w : AW) (f : Fresh w) (hs : ArrOf w 2 dcells v D) (hl : D.length ≤ 1000) : CallT Try.prog Try.T1 (.fn (.func 89) #[]) #[v, .func (.func 90) #[] #[]] w (Ret (.bool (D.all dueB)) (Grown w)) := by
  obtain ⟨p, c, rfl, _⟩ := id hs.open
  refine callT_code rfl Try.func89 rfl Try.s89_eq rfl ?_
  unfold Try.s89
  simp -dsimp -implicitDefEqProofs (maxSteps := 2000000) (disch := first | assumption | omega | (simp only [AW.next_push, AW.next_put]; omega) | ((repeat refine Fresh.push ?_ _); assumption) | (simp only [same_int, same_bool, same_ptr, same_slice, same_sliceP, same_nil, same_agg2, same_string]; done) | (simp [oneCell, AW.next_push]; done) | fail) only [go_sem, Nat.reduceEqDiff, reduceIte, Nat.reduceAdd, Int.toNat_natCast, Nat.add_zero, Owes_true, Try.results89]
  apply callV_of (e := rfl)
  · exact placesD_ok D _ (.func 90) #[] #[] (fun i => match D[i]? with | some d => dueB d | none => false) w f hs (by omega) (fun w1 hg i hi => by
    have := isDue_ok D[i] w1 hg.2
    simp only [hi, getElem?_pos]
    exact this)
  rintro r w1 ⟨hA, g1⟩
  have hpl : ((pick (fun i => match D[i]? with | some d => dueB d | none => false) D.length).map nint).length ≤ D.length := by rw [List.length_map, pick]; exact Nat.le_trans (List.length_filter_le _ _) (by simp)
  obtain ⟨p1, c1, rfl, _⟩ := (hA.arr icells_len (by omega)).open
  have key : decide ((((pick (fun i => match D[i]? with | some d => dueB d | none => false) D.length).map nint).length : Int) = (D.length : Int)) = D.all dueB := by
    rw [List.length_map, Bool.eq_iff_iff, decide_eq_true_eq, List.all_eq_true]
    constructor
    · intro h d hd
      obtain ⟨i, hi, rfl⟩ := List.getElem_of_mem hd
      have h2 : ((List.range D.length).filter fun i => match D[i]? with | some d => dueB d | none => false).length = (List.range D.length).length := by rw [List.length_range]; rw [pick] at h; omega
      have := (List.length_filter_eq_length_iff.mp h2) i (by simpa using hi)
      simpa [hi] using this
    · intro h
      have h2 : ((List.range D.length).filter fun i => match D[i]? with | some d => dueB d | none => false).length = (List.range D.length).length := by
        rw [List.length_filter_eq_length_iff]
        intro i hi
        have hi : i < D.length := by simpa using hi
        simpa [hi] using h D[i] (List.getElem_mem hi)
      rw [List.length_range] at h2; rw [pick]; omega
  simp -dsimp -implicitDefEqProofs (maxSteps := 2000000) (disch := first | assumption | omega | (simp only [AW.next_push, AW.next_put]; omega) | ((repeat refine Fresh.push ?_ _); assumption) | (simp only [same_int, same_bool, same_ptr, same_slice, same_sliceP, same_nil, same_agg2, same_string]; done) | (simp [oneCell, AW.next_push]; done) | fail) only [go_sem, Nat.reduceEqDiff, reduceIte, Nat.reduceAdd, Int.toNat_natCast, Nat.add_zero, Owes_true, Try.results89]
  exact ⟨by rw [← key], g1⟩
theorem areDues_ok (D : List DueN) (v : Value) (w : AW) (f : Fresh w) (hs : ArrOf w 2 dcells v D) : CallT Try.prog Try.T1 (.fn (.func 52) #[]) #[v] w (Ret (.bool (duesB D)) (Grown w)) := by
  obtain ⟨p, c, rfl, _⟩ := id hs.open
  refine callT_code rfl Try.func52 rfl Try.s52_eq rfl ?_
  unfold Try.s52
  simp -dsimp -implicitDefEqProofs (maxSteps := 2000000) (disch := first | assumption | omega | (simp only [AW.next_push, AW.next_put]; omega) | ((repeat refine Fresh.push ?_ _); assumption) | (simp only [same_int, same_bool, same_ptr, same_slice, same_sliceP, same_nil, same_agg2, same_string]; done) | (simp [oneCell, AW.next_push]; done) | fail) only [go_sem, Nat.reduceEqDiff, reduceIte, Nat.reduceAdd, Int.toNat_natCast, Nat.add_zero, Owes_true, Try.results52]
  by_cases hl : (D.length : Int) ≤ 24
  case neg =>
    simp -dsimp -implicitDefEqProofs (maxSteps := 2000000) (disch := first | assumption | omega | (simp only [AW.next_push, AW.next_put]; omega) | ((repeat refine Fresh.push ?_ _); assumption) | (simp only [same_int, same_bool, same_ptr, same_slice, same_sliceP, same_nil, same_agg2, same_string]; done) | (simp [oneCell, AW.next_push]; done) | fail) only [go_sem, Nat.reduceEqDiff, reduceIte, Nat.reduceAdd, Int.toNat_natCast, Nat.add_zero, Owes_true, Try.results52, hl]
    have hd : decide (D.length ≤ 24) = false := decide_eq_false (by omega)
    exact ⟨by unfold duesB; rw [hd]; rfl, .refl f⟩
  simp -dsimp -implicitDefEqProofs (maxSteps := 2000000) (disch := first | assumption | omega | (simp only [AW.next_push, AW.next_put]; omega) | ((repeat refine Fresh.push ?_ _); assumption) | (simp only [same_int, same_bool, same_ptr, same_slice, same_sliceP, same_nil, same_agg2, same_string]; done) | (simp [oneCell, AW.next_push]; done) | fail) only [go_sem, Nat.reduceEqDiff, reduceIte, Nat.reduceAdd, Int.toNat_natCast, Nat.add_zero, Owes_true, Try.results52, hl]
  apply callV_of (e := rfl)
  · exact allD_ok D _ w f hs (by omega)
  rintro _ w1 ⟨rfl, g1⟩
  simp -dsimp -implicitDefEqProofs (maxSteps := 2000000) (disch := first | assumption | omega | (simp only [AW.next_push, AW.next_put]; omega) | ((repeat refine Fresh.push ?_ _); assumption) | (simp only [same_int, same_bool, same_ptr, same_slice, same_sliceP, same_nil, same_agg2, same_string]; done) | (simp [oneCell, AW.next_push]; done) | fail) only [go_sem, Nat.reduceEqDiff, reduceIte, Nat.reduceAdd, Int.toNat_natCast, Nat.add_zero, Owes_true, Try.results52, hl]
  have hd : decide (D.length ≤ 24) = true := decide_eq_true (by omega)
  exact ⟨by unfold duesB; rw [hd]; rfl, g1⟩
set_option maxHeartbeats 1000000 in
theorem dues_ok (D : List DueN) (v : Value) (w : AW) (f : Fresh w) (hs : ArrOf w 2 dcells v D) : CallT Try.prog Try.T1 (.fn (.func 54) #[]) #[v] w (Ret (.bool (duesB D)) fun w' => w = w') := by
  obtain ⟨p, c, rfl, _, _, hat⟩ := id hs.open
  refine callT_code rfl Try.func54 rfl Try.s54_eq rfl ?_
  unfold Try.s54
  simp -dsimp -implicitDefEqProofs (maxSteps := 2000000) (disch := first | assumption | omega | (simp only [AW.next_push, AW.next_put]; omega) | ((repeat refine Fresh.push ?_ _); assumption) | (simp only [same_int, same_bool, same_ptr, same_slice, same_sliceP, same_nil, same_agg2, same_string]; done) | (simp [oneCell, AW.next_push]; done) | fail) only [go_sem, Nat.reduceEqDiff, reduceIte, Nat.reduceAdd, Int.toNat_natCast, Nat.add_zero, Owes_true, Try.results54]
  refine loopR (fun k t ds w1 => ∃ i : Nat, i ≤ D.length ∧ k = D.length - i ∧ ds = [] ∧ ev t (.tmp 0) = .slice p D.length c ∧ ev t (.tmp 3) = .int .i64 (i : Int) ∧ w = w1 ∧ ((D.take i).all dueB) = true) (D.length) ?_ ?_
  · refine ⟨0, by omega, by omega, rfl, ?_, ?_, rfl, rfl⟩ <;> simp -dsimp -implicitDefEqProofs (maxSteps := 2000000) (disch := first | assumption | omega | (simp only [AW.next_push, AW.next_put]; omega) | ((repeat refine Fresh.push ?_ _); assumption) | (simp only [same_int, same_bool, same_ptr, same_slice, same_sliceP, same_nil, same_agg2, same_string]; done) | (simp [oneCell, AW.next_push]; done) | fail) only [go_sem, Nat.reduceEqDiff, reduceIte, Nat.reduceAdd, Int.toNat_natCast, Nat.add_zero, Owes_true] <;> rfl
  rintro k t ds w1 ⟨i, hii, rfl, rfl, e0, e3, hw, hall⟩
  subst hw
  by_cases hlt : (i : Int) < (D.length : Int)
  case neg =>
    obtain rfl : i = D.length := by omega
    rw [List.take_of_length_le (Nat.le_refl _)] at hall
    simp -dsimp -implicitDefEqProofs (maxSteps := 2000000) (disch := first | assumption | omega | (simp only [AW.next_push, AW.next_put]; omega) | ((repeat refine Fresh.push ?_ _); assumption) | (simp only [same_int, same_bool, same_ptr, same_slice, same_sliceP, same_nil, same_agg2, same_string]; done) | (simp [oneCell, AW.next_push]; done) | fail) only [go_sem, Nat.reduceEqDiff, reduceIte, Nat.reduceAdd, Int.toNat_natCast, Nat.add_zero, Owes_true, Try.results54, e0, e3, hlt]
    have : decide ((D.length : Int) ≤ 24) = decide (D.length ≤ 24) := by rw [decide_eq_decide]; omega
    exact ⟨by rw [duesB, hall, Bool.and_true, this], rfl⟩
  have hlt' : i < D.length := by omega
  obtain ⟨b1, o1, rfl, hb1, hcell⟩ := hat i hlt'
  have a0 := hcell w (.refl _ _) 0 _ rfl
  have a1 := hcell w (.refl _ _) 1 _ rfl
  rw [Nat.add_zero] at a0
  have hnx : (D.take (i + 1)).all dueB = dueB D[i] := by rw [List.take_succ_eq_append_getElem hlt', List.all_append, hall]; simp
  have hbad : dueB D[i] = false → duesB D = false := fun h => by
    have : D.all dueB = false := by rw [List.all_eq_false]; exact ⟨D[i], List.getElem_mem hlt', by rw [h]; simp⟩
    rw [duesB, this, Bool.and_false]
  simp -dsimp -implicitDefEqProofs (maxSteps := 2000000) (disch := first | assumption | omega | (simp only [AW.next_push, AW.next_put]; omega) | ((repeat refine Fresh.push ?_ _); assumption) | (simp only [same_int, same_bool, same_ptr, same_slice, same_sliceP, same_nil, same_agg2, same_string]; done) | (simp [oneCell, AW.next_push]; done) | fail) only [go_sem, Nat.reduceEqDiff, reduceIte, Nat.reduceAdd, Int.toNat_natCast, Nat.add_zero, Owes_true, Try.results54, e0, e3, hlt, indexV_eq, a0]
  apply callV_of (e := rfl)
  · exact From_ok _ _ _ _
  rintro _ _ ⟨rfl, rfl⟩
  cases h1 : inR 0 D[i].r 9 with
  | false =>
    simp -dsimp -implicitDefEqProofs (maxSteps := 2000000) (disch := first | assumption | omega | (simp only [AW.next_push, AW.next_put]; omega) | ((repeat refine Fresh.push ?_ _); assumption) | (simp only [same_int, same_bool, same_ptr, same_slice, same_sliceP, same_nil, same_agg2, same_string]; done) | (simp [oneCell, AW.next_push]; done) | fail) only [go_sem, Nat.reduceEqDiff, reduceIte, Nat.reduceAdd, Int.toNat_natCast, Nat.add_zero, Owes_true, Try.results54, e0, e3]
    exact ⟨by rw [hbad (by rw [dueB, h1]; rfl)], rfl⟩
  | true =>
  simp -dsimp -implicitDefEqProofs (maxSteps := 2000000) (disch := first | assumption | omega | (simp only [AW.next_push, AW.next_put]; omega) | ((repeat refine Fresh.push ?_ _); assumption) | (simp only [same_int, same_bool, same_ptr, same_slice, same_sliceP, same_nil, same_agg2, same_string]; done) | (simp [oneCell, AW.next_push]; done) | fail) only [go_sem, Nat.reduceEqDiff, reduceIte, Nat.reduceAdd, Int.toNat_natCast, Nat.add_zero, Owes_true, Try.results54, e0, e3, indexV_eq, hlt, a1]
  apply callV_of (e := rfl)
  · exact From_ok _ _ _ _
  rintro _ _ ⟨rfl, rfl⟩
  cases h2 : inR 0 D[i].a 67108864 with
  | false =>
    simp -dsimp -implicitDefEqProofs (maxSteps := 2000000) (disch := first | assumption | omega | (simp only [AW.next_push, AW.next_put]; omega) | ((repeat refine Fresh.push ?_ _); assumption) | (simp only [same_int, same_bool, same_ptr, same_slice, same_sliceP, same_nil, same_agg2, same_string]; done) | (simp [oneCell, AW.next_push]; done) | fail) only [go_sem, Nat.reduceEqDiff, reduceIte, Nat.reduceAdd, Int.toNat_natCast, Nat.add_zero, Owes_true, Try.results54, e0, e3]
    exact ⟨by rw [hbad (by rw [dueB, h2, Bool.and_false])], rfl⟩
  | true =>
    simp -dsimp -implicitDefEqProofs (maxSteps := 2000000) (disch := first | assumption | omega | (simp only [AW.next_push, AW.next_put]; omega) | ((repeat refine Fresh.push ?_ _); assumption) | (simp only [same_int, same_bool, same_ptr, same_slice, same_sliceP, same_nil, same_agg2, same_string]; done) | (simp [oneCell, AW.next_push]; done) | fail) only [go_sem, Nat.reduceEqDiff, reduceIte, Nat.reduceAdd, Int.toNat_natCast, Nat.add_zero, Owes_true, Try.results54, e0, e3]
    refine ⟨_, by omega, i + 1, by omega, rfl, rfl, by (simp -dsimp -implicitDefEqProofs (maxSteps := 2000000) (disch := first | assumption | omega | (simp only [AW.next_push, AW.next_put]; omega) | ((repeat refine Fresh.push ?_ _); assumption) | (simp only [same_int, same_bool, same_ptr, same_slice, same_sliceP, same_nil, same_agg2, same_string]; done) | (simp [oneCell, AW.next_push]; done) | fail) only [go_sem, Nat.reduceEqDiff, reduceIte, Nat.reduceAdd, Int.toNat_natCast, Nat.add_zero, Owes_true, e0]; try rfl), by (simp -dsimp -implicitDefEqProofs (maxSteps := 2000000) (disch := first | assumption | omega | (simp only [AW.next_push, AW.next_put]; omega) | ((repeat refine Fresh.push ?_ _); assumption) | (simp only [same_int, same_bool, same_ptr, same_slice, same_sliceP, same_nil, same_agg2, same_string]; done) | (simp [oneCell, AW.next_push]; done) | fail) only [go_sem, Nat.reduceEqDiff, reduceIte, Nat.reduceAdd, Int.toNat_natCast, Nat.add_zero, Owes_true, e3]; try rfl), rfl, by rw [hnx, dueB, h1, h2]; rfl⟩
end Go.Proofs

/- Dues: a sum, spread over them; the program's. -/
namespace Go.Proofs
open Go Go.RowKit Go.Sim
set_option maxRecDepth 100000
/-- Amounts of a rank. -/
structure AIn (l : List Int) : Prop where
  len : l.length ≤ 24
  val : ∀ i, 0 ≤ W l i ∧ W l i ≤ 67108864
theorem AIn.wgt {l : List Int} (h : AIn l) (hs : 0 < l.sum) : WIn l := by
  have hl := h.len
  refine ⟨⟨?_, hl⟩, h.val, hs, (small_w hl h.val).2⟩
  rcases Nat.eq_zero_or_pos l.length with q | q
  · rw [List.length_eq_zero_iff.mp q] at hs; simp at hs
  · exact q
theorem settle_ok (l : List Int) (b B : Nat) (s : Int) (w : AW) (f : Fresh w) (hO : Own w b 3 (l.flatMap icells)) (hb : B ≤ b) (hB : B ≤ w.next) (hA : AIn l) (h0 : 0 ≤ s) (h1 : s ≤ 34359738368) :
    CallT Try.prog Try.T1 (.fn (.func 93) #[]) #[.slice (some ⟨b, 0, none⟩) l.length l.length, .int .i64 s] w (fun r w' => ∃ c, r = .slice (some ⟨c, 0, none⟩) l.length l.length ∧ B ≤ c ∧ Own w' c 3 ((settleL l s).flatMap icells) ∧ (settleL l s).length = l.length ∧ Grown w w') := by
  have hsm := small_w hA.len hA.val
  have hl := hA.len
  have hs := hO.iarr (by omega)
  refine callT_code rfl Try.func93 rfl Try.s93_eq rfl ?_
  unfold Try.s93
  simp -dsimp -implicitDefEqProofs (maxSteps := 2000000) (disch := first | assumption | omega | (simp only [AW.next_push, AW.next_put]; omega) | ((repeat refine Fresh.push ?_ _); assumption) | (simp only [same_int, same_bool, same_ptr, same_slice, same_sliceP, same_nil, same_agg2, same_string]; done) | (simp [oneCell, AW.next_push]; done) | fail) only [go_sem, Nat.reduceEqDiff, reduceIte, Nat.reduceAdd, Int.toNat_natCast, Nat.add_zero, Owes_true, Try.results93]
  apply callV_of (e := rfl)
  · exact total_ok l _ w hs hsm.1
  rintro _ _ ⟨rfl, rfl⟩
  by_cases hc : l.sum ≤ s
  · simp -dsimp -implicitDefEqProofs (maxSteps := 2000000) (disch := first | assumption | omega | (simp only [AW.next_push, AW.next_put]; omega) | ((repeat refine Fresh.push ?_ _); assumption) | (simp only [same_int, same_bool, same_ptr, same_slice, same_sliceP, same_nil, same_agg2, same_string]; done) | (simp [oneCell, AW.next_push]; done) | fail) only [go_sem, Nat.reduceEqDiff, reduceIte, Nat.reduceAdd, Int.toNat_natCast, Nat.add_zero, Owes_true, Try.results93, hc]
    exact ⟨b, rfl, hb, by rw [settleL, if_pos hc]; exact hO, by rw [settleL, if_pos hc], .refl f⟩
  · simp -dsimp -implicitDefEqProofs (maxSteps := 2000000) (disch := first | assumption | omega | (simp only [AW.next_push, AW.next_put]; omega) | ((repeat refine Fresh.push ?_ _); assumption) | (simp only [same_int, same_bool, same_ptr, same_slice, same_sliceP, same_nil, same_agg2, same_string]; done) | (simp [oneCell, AW.next_push]; done) | fail) only [go_sem, Nat.reduceEqDiff, reduceIte, Nat.reduceAdd, Int.toNat_natCast, Nat.add_zero, Owes_true, Try.results93, hc]
    apply callV_of (e := rfl)
    · exact share_ok l _ s w f hs (hA.wgt (by omega)) h0 h1
    rintro _ w1 ⟨c, rfl, hcw, hr, hrl, g1⟩
    simp -dsimp -implicitDefEqProofs (maxSteps := 2000000) (disch := first | assumption | omega | (simp only [AW.next_push, AW.next_put]; omega) | ((repeat refine Fresh.push ?_ _); assumption) | (simp only [same_int, same_bool, same_ptr, same_slice, same_sliceP, same_nil, same_agg2, same_string]; done) | (simp [oneCell, AW.next_push]; done) | fail) only [go_sem, Nat.reduceEqDiff, reduceIte, Nat.reduceAdd, Int.toNat_natCast, Nat.add_zero, Owes_true, Try.results93]
    exact ⟨c, rfl, by omega, by rw [settleL, if_neg hc]; exact hr, by rw [settleL, if_neg hc]; exact hrl, g1⟩
/-- The amount of a due. -/
def amt (D : List DueN) (x : Int) : Int := match D[x.toNat]? with
  | some d => d.a
  | none => 0
theorem amt_at {D : List DueN} {i : Nat} (h : i < D.length) : amt D (nint i) = D[i].a := by
  simp [amt, nint, h]
theorem amount_ok (D : List DueN) (v : Value) (i : Nat) (b2 : Nat) (w : AW) (hs : ArrOf w 2 dcells v D) (hi : i < D.length) (hO : Own w b2 23 [v]) :
    CallT Try.prog Try.T1 (.fn (.func 94) #[.pointer (some ⟨b2, 0, none⟩)]) #[.int .i64 (nint i)] w (Ret (.int .i64 (amt D (nint i))) fun w' => w = w') := by
  obtain ⟨p, c, rfl, _, _, hat⟩ := hs.open
  obtain ⟨b1, o1, rfl, hb1, hcell⟩ := hat i hi
  have a1 := hcell w (.refl _ _) 1 _ rfl
  have c0 := hO.cell (o := 0) rfl rfl
  have hi' : (i : Int) < (D.length : Int) := by omega
  rw [amt_at hi]
  unfold nint
  refine callT_code rfl Try.func94 rfl Try.s94_eq rfl ?_
  unfold Try.s94
  simp -dsimp -implicitDefEqProofs (maxSteps := 2000000) (disch := first | assumption | omega | (simp only [AW.next_push, AW.next_put]; omega) | ((repeat refine Fresh.push ?_ _); assumption) | (simp only [same_int, same_bool, same_ptr, same_slice, same_sliceP, same_nil, same_agg2, same_string]; done) | (simp [oneCell, AW.next_push]; done) | fail) only [go_sem, Nat.reduceEqDiff, reduceIte, Nat.reduceAdd, Int.toNat_natCast, Nat.add_zero, Owes_true, Try.results94, c0, indexV_eq, hi', a1]
  exact ⟨rfl, rfl⟩
def rankQ (D : List DueN) (r : Int) (i : Nat) : Bool := match D[i]? with
  | some d => decide (d.r = r)
  | none => false
theorem rankQ_at {D : List DueN} {r : Int} {i : Nat} (h : i < D.length) : rankQ D r i = decide (D[i].r = r) := by simp [rankQ, h]
theorem amts_own {D : List DueN} {r : Int} : ((pick (rankQ D r) D.length).map nint).map (amt D) = (pick (rankQ D r) D.length).map (W (ownR D r)) := by
  rw [List.map_map]
  refine List.map_congr_left fun i hi => ?_
  obtain ⟨h1, h2⟩ := pick_lt hi
  rw [rankQ_at h1] at h2
  rw [Function.comp, amt_at h1, ownR_at h1, if_pos (of_decide_eq_true h2)]
/-- What is paid, while the shares of a rank are written down. -/
noncomputable def midL (D : List DueN) (s : Int) (r k : Nat) : List Int := (List.range D.length).map fun i => if i ∈ (pick (rankQ D r) D.length).take k then W (payR D r (leftN D s r)) i else W (paidN D s r) i
theorem midL_len (D : List DueN) (s : Int) (r k : Nat) : (midL D s r k).length = D.length := by simp [midL]
theorem W_mid {D : List DueN} {s : Int} {r k i : Nat} (h : i < D.length) : W (midL D s r k) i = if i ∈ (pick (rankQ D r) D.length).take k then W (payR D r (leftN D s r)) i else W (paidN D s r) i := by
  rw [midL, W_map _ (by simpa using h), List.getElem_range]
theorem mid_zero (D : List DueN) (s : Int) (r : Nat) : midL D s r 0 = paidN D s r := by
  refine W_ext (by rw [midL_len, paidN_len]) fun i hi => ?_
  rw [midL_len] at hi
  rw [W_mid hi]; simp
theorem mid_step {D : List DueN} {s : Int} {r k : Nat} (hk : k < (pick (rankQ D r) D.length).length) : (midL D s r k).set (pick (rankQ D r) D.length)[k] (W (payR D r (leftN D s r)) (pick (rankQ D r) D.length)[k]) = midL D s r (k + 1) := by
  have hm := pick_lt (List.getElem_mem hk)
  refine W_ext (by rw [List.length_set, midL_len, midL_len]) fun i hi => ?_
  rw [List.length_set, midL_len] at hi
  have hmem : i ∈ (pick (rankQ D r) D.length).take (k + 1) ↔ i ∈ (pick (rankQ D r) D.length).take k ∨ i = (pick (rankQ D r) D.length)[k] := by
    rw [List.take_succ_eq_append_getElem hk, List.mem_append, List.mem_singleton]
  rw [W_set (by rw [midL_len]; exact hm.1), W_mid hi, W_mid hi]
  by_cases h : i = (pick (rankQ D r) D.length)[k]
  · rw [if_pos h, if_pos (hmem.2 (.inr h)), ← h]
  · rw [if_neg h]
    by_cases h2 : i ∈ (pick (rankQ D r) D.length).take k
    · rw [if_pos h2, if_pos (hmem.2 (.inl h2))]
    · rw [if_neg h2, if_neg (fun q => (hmem.1 q).elim h2 h)]
theorem mid_all {D : List DueN} (hD : DIn D) {s : Int} (h0 : 0 ≤ s) (r : Nat) : midL D s r (pick (rankQ D r) D.length).length = paidN D s (r + 1) := by
  refine W_ext (by rw [midL_len, paidN_len]) fun i hi => ?_
  rw [midL_len] at hi
  rw [W_mid hi, List.take_of_length_le (Nat.le_refl _), paidN_succ hD h0 r hi]
  by_cases h : D[i].r = (r : Int)
  · rw [if_pos (pick_mem hi (by rw [rankQ_at hi]; exact decide_eq_true h)), W_paidN hi, if_neg (by omega)]; omega
  · rw [if_neg (fun q => h (of_decide_eq_true (by have := (pick_lt q).2; rwa [rankQ_at hi] at this))), payR_off hD.nn (leftN_nn hD.nn h0 r) hi h]; omega
theorem paidN_zero {D : List DueN} (hD : DIn D) (s : Int) : paidN D s 0 = List.replicate D.length 0 := by
  refine W_ext (by rw [paidN_len, List.length_replicate]) fun i hi => ?_
  rw [paidN_len] at hi
  have := hD _ (List.getElem_mem hi)
  rw [W_paidN hi, if_neg (by omega), W_at (by simpa using hi), List.getElem_replicate]
theorem ownR_in {D : List DueN} (hD : DIn D) (hl : D.length ≤ 24) (r : Int) : AIn (ownR D r) := by
  refine ⟨by rw [ownR_len]; exact hl, fun i => ?_⟩
  rcases Nat.lt_or_ge i D.length with q | q
  · rw [ownR_at q]
    split
    · have := hD _ (List.getElem_mem q); omega
    · omega
  · rw [W_out (by rw [ownR_len]; exact q)]; omega
theorem pick_in {D : List DueN} (hD : DIn D) (hl : D.length ≤ 24) (r : Int) : AIn ((pick (rankQ D r) D.length).map (W (ownR D r))) := by
  refine ⟨by rw [List.length_map, pick]; exact Nat.le_trans (List.length_filter_le _ _) (by simpa using hl), fun i => ?_⟩
  rcases Nat.lt_or_ge i (pick (rankQ D r) D.length).length with q | q
  · rw [W_map _ q]; exact (ownR_in hD hl r).val _
  · rw [W_out (by simpa using q)]; omega
set_option maxHeartbeats 8000000 in
theorem spread_ok (D : List DueN) (v : Value) (s : Int) (w : AW) (f : Fresh w) (hs : ArrOf w 2 dcells v D) (hD : DIn D) (hl : D.length ≤ 24) (h0 : 0 ≤ s) (h1 : s ≤ 34359738368) :
    CallT Try.prog Try.T1 (.fn (.func 53) #[]) #[v, .int .i64 s] w (fun r w' => ∃ b, r = .tuple #[.slice (some ⟨b, 0, none⟩) D.length D.length, .int .i64 (leftN D s 10)] ∧ w.next ≤ b ∧ Own w' b 3 ((paidN D s 10).flatMap icells) ∧ Grown w w') := by
  obtain ⟨p, cap, rfl, _⟩ := id hs.open
  have hvs : oneCell (.slice p D.length cap) = true := rfl
  have gA := (Grown.refl f).push (.cells [.slice p D.length cap] 23 w.next 0 0)
  have hA := Own.new f 23 [.slice p D.length cap]
  have c0 := hA.cell (o := 0) rfl hvs
  have hmk : makeSliceV (prg Try.prog) (w.push (.cells [.slice p D.length cap] 23 w.next 0 0)) 22 (.int .i64 (D.length : Int)) (.int .i64 (D.length : Int)) = some (.slice (some ⟨w.next + 1, 0, none⟩) D.length D.length, (w.push (.cells [.slice p D.length cap] 23 w.next 0 0)).push (.cells ((paidN D s 0).flatMap icells) 3 (w.next + 1) 0 0)) := by
    rw [makeSliceV_eq Try.ty22 Try.ty3 (by omega) (by omega) (by omega) rfl, paidN_zero hD s, ← flat_rep]; rfl
  have gB := gA.push (.cells ((paidN D s 0).flatMap icells) 3 (w.next + 1) 0 0)
  have hA2 := hA.push (.cells ((paidN D s 0).flatMap icells) 3 (w.next + 1) 0 0)
  have hB := Own.new gA.2 3 ((paidN D s 0).flatMap icells)
  rw [AW.next_push] at hB
  refine callT_code rfl Try.func53 rfl Try.s53_eq rfl ?_
  unfold Try.s53
  simp -dsimp -implicitDefEqProofs (maxSteps := 2000000) (disch := first | assumption | omega | (simp only [AW.next_push, AW.next_put]; omega) | ((repeat refine Fresh.push ?_ _); assumption) | (simp only [same_int, same_bool, same_ptr, same_slice, same_sliceP, same_nil, same_agg2, same_string]; done) | (simp [oneCell, AW.next_push]; done) | fail) only [go_sem, Nat.reduceEqDiff, reduceIte, Nat.reduceAdd, Int.toNat_natCast, Nat.add_zero, Owes_true, Try.results53, c0, hmk]
  generalize (w.push (.cells [.slice p D.length cap] 23 w.next 0 0)).push (.cells ((paidN D s 0).flatMap icells) 3 (w.next + 1) 0 0) = w1 at *
  refine loopR (fun k t ds w2 => ∃ r : Nat, r ≤ 10 ∧ k = 10 - r ∧ ds = [] ∧ ev t (.tmp 2) = .pointer (some ⟨w.next, 0, none⟩) ∧ ev t (.tmp 4) = .slice (some ⟨w.next + 1, 0, none⟩) D.length D.length ∧ ev t (.tmp 5) = .int .i64 (leftN D s r) ∧ ev t (.tmp 15) = .int .i64 (r : Int) ∧ Own w2 w.next 23 [.slice p D.length cap] ∧ Own w2 (w.next + 1) 3 ((paidN D s r).flatMap icells) ∧ Grown w w2) (10) ?_ ?_
  · refine ⟨0, by omega, by omega, rfl, ?_, ?_, ?_, ?_, hA2, hB, gB⟩ <;> simp -dsimp -implicitDefEqProofs (maxSteps := 2000000) (disch := first | assumption | omega | (simp only [AW.next_push, AW.next_put]; omega) | ((repeat refine Fresh.push ?_ _); assumption) | (simp only [same_int, same_bool, same_ptr, same_slice, same_sliceP, same_nil, same_agg2, same_string]; done) | (simp [oneCell, AW.next_push]; done) | fail) only [go_sem, Nat.reduceEqDiff, reduceIte, Nat.reduceAdd, Int.toNat_natCast, Nat.add_zero, Owes_true] <;> rfl
  rintro k t ds w2 ⟨r, hir, rfl, rfl, e2, e4, e5, e15, hO, hP, hg⟩
  have c1 := hO.cell (o := 0) rfl hvs
  by_cases hlt : (r : Int) < 10
  case neg =>
    obtain rfl : r = 10 := by omega
    simp -dsimp -implicitDefEqProofs (maxSteps := 2000000) (disch := first | assumption | omega | (simp only [AW.next_push, AW.next_put]; omega) | ((repeat refine Fresh.push ?_ _); assumption) | (simp only [same_int, same_bool, same_ptr, same_slice, same_sliceP, same_nil, same_agg2, same_string]; done) | (simp [oneCell, AW.next_push]; done) | fail) only [go_sem, Nat.reduceEqDiff, reduceIte, Nat.reduceAdd, Int.toNat_natCast, Nat.add_zero, Owes_true, Try.results53, e2, e4, e5, e15, hlt]
    exact ⟨_, rfl, by omega, hP, hg⟩
  have hL0 := leftN_nn hD.nn h0 r
  have hL1 := leftN_le hD.nn h0 (n := 0) (m := r) (by omega)
  have hL2 : leftN D s 0 = s := rfl
  simp -dsimp -implicitDefEqProofs (maxSteps := 2000000) (disch := first | assumption | omega | (simp only [AW.next_push, AW.next_put]; omega) | ((repeat refine Fresh.push ?_ _); assumption) | (simp only [same_int, same_bool, same_ptr, same_slice, same_sliceP, same_nil, same_agg2, same_string]; done) | (simp [oneCell, AW.next_push]; done) | fail) only [go_sem, Nat.reduceEqDiff, reduceIte, Nat.reduceAdd, Int.toNat_natCast, Nat.add_zero, Owes_true, Try.results53, e2, e4, e5, e15, hlt, c1]
  apply callV_of (e := rfl)
  · exact placesD_ok D _ (.func 92) #[.int .i64 (r : Int)] #[] (rankQ D r) w2 hg.2 (hs.grown hg) (by omega) (fun w3 hg3 i hi => by
    rw [rankQ_at hi]
    exact has_ok (r : Int) D[i] w3 hg3.2)
  rintro of w3 ⟨hofA, hg3⟩
  have g3 := hg.trans hg3
  have hO3 := hO.keep hg3.1
  have hP3 := hP.keep hg3.1
  have hpl : (pick (rankQ D r) D.length).length ≤ 24 := by rw [pick]; exact Nat.le_trans (List.length_filter_le _ _) (by simpa using hl)
  have hof := hofA.arr icells_len (by rw [List.length_map]; omega)
  obtain ⟨q3, k3, rfl, _⟩ := id hof.open
  simp -dsimp -implicitDefEqProofs (maxSteps := 2000000) (disch := first | assumption | omega | (simp only [AW.next_push, AW.next_put]; omega) | ((repeat refine Fresh.push ?_ _); assumption) | (simp only [same_int, same_bool, same_ptr, same_slice, same_sliceP, same_nil, same_agg2, same_string]; done) | (simp [oneCell, AW.next_push]; done) | fail) only [go_sem, Nat.reduceEqDiff, reduceIte, Nat.reduceAdd, Int.toNat_natCast, Nat.add_zero, Owes_true, Try.results53, e2, e4, e5, e15]
  apply callV_of (e := rfl)
  · exact each_ok ((pick (rankQ D r) D.length).map nint) _ (.func 94) #[] #[.pointer (some ⟨w.next, 0, none⟩)] (amt D) w3 g3.2 hof (by rw [List.length_map]; omega) (fun w4 hg4 x hx => by
    obtain ⟨i, hi, rfl⟩ := List.mem_map.mp hx
    exact amount_ok D _ i w.next w4 (hs.grown (g3.trans hg4)) (pick_lt hi).1 (hO3.keep hg4.1))
  rintro _ w4 ⟨b4, rfl, hb4, hE4, hg4⟩
  have g4 := g3.trans hg4
  rw [amts_own] at hE4
  have hn2 := hP.lt
  have hn3 := hg3.1.next
  have hn4 := hg4.1.next
  have hset := settle_ok ((pick (rankQ D r) D.length).map (W (ownR D r))) b4 (w.next + 2) (leftN D s r) w4 g4.2 hE4 (by omega) (by omega) (pick_in hD hl r) hL0 (by omega)
  rw [settle_pay (p := rankQ D r) hD.nn hL0 (fun i hi => rankQ_at hi)] at hset
  simp only [List.length_map] at hset
  simp -dsimp -implicitDefEqProofs (maxSteps := 2000000) (disch := first | assumption | omega | (simp only [AW.next_push, AW.next_put]; omega) | ((repeat refine Fresh.push ?_ _); assumption) | (simp only [same_int, same_bool, same_ptr, same_slice, same_sliceP, same_nil, same_agg2, same_string]; done) | (simp [oneCell, AW.next_push]; done) | fail) only [go_sem, Nat.reduceEqDiff, reduceIte, Nat.reduceAdd, Int.toNat_natCast, Nat.add_zero, Owes_true, Try.results53, e2, e4, e5, e15, List.length_map]
  apply callV_of (e := rfl)
  · exact hset
  rintro _ w5 ⟨c5, rfl, hc5, hst, _, hg5⟩
  have g5 := g4.trans hg5
  have hO5 := hO3.keep (hg4.trans hg5).1
  have hP5 := hP3.keep (hg4.trans hg5).1
  have hof5 := hofA.keep (hg4.trans hg5).1 (Nat.le_refl _)
  rw [← mid_zero] at hP5
  have hpay := payR_pays hD.nn (r : Int) hL0
  have hn5 := hg5.1.next
  simp -dsimp -implicitDefEqProofs (maxSteps := 2000000) (disch := first | assumption | omega | (simp only [AW.next_push, AW.next_put]; omega) | ((repeat refine Fresh.push ?_ _); assumption) | (simp only [same_int, same_bool, same_ptr, same_slice, same_sliceP, same_nil, same_agg2, same_string]; done) | (simp [oneCell, AW.next_push]; done) | fail) only [go_sem, Nat.reduceEqDiff, reduceIte, Nat.reduceAdd, Int.toNat_natCast, Nat.add_zero, Owes_true, Try.results53, e2, e4, e5, e15, List.length_map]
  refine loopR (fun k t ds w6 => ∃ m : Nat, m ≤ (pick (rankQ D r) D.length).length ∧ k = (pick (rankQ D r) D.length).length - m ∧ ds = [] ∧ ev t (.tmp 2) = .pointer (some ⟨w.next, 0, none⟩) ∧ ev t (.tmp 4) = .slice (some ⟨w.next + 1, 0, none⟩) D.length D.length ∧ ev t (.tmp 5) = .int .i64 (leftN D s r) ∧ ev t (.tmp 8) = .slice (some ⟨c5, 0, none⟩) (pick (rankQ D r) D.length).length (pick (rankQ D r) D.length).length ∧ ev t (.tmp 15) = .int .i64 (r : Int) ∧ ev t (.tmp 27) = .slice q3 (pick (rankQ D r) D.length).length k3 ∧ ev t (.tmp 28) = .int .i64 ((pick (rankQ D r) D.length).length : Int) ∧ ev t (.tmp 29) = .int .i64 (m : Int) ∧ Own w6 (w.next + 1) 3 ((midL D s r m).flatMap icells) ∧ Mut (w.next + 1) w5 w6) ((pick (rankQ D r) D.length).length) ?_ ?_
  · refine ⟨0, by omega, by omega, rfl, ?_, ?_, ?_, ?_, ?_, ?_, ?_, ?_, hP5, Mut.refl g5.2⟩ <;> simp -dsimp -implicitDefEqProofs (maxSteps := 2000000) (disch := first | assumption | omega | (simp only [AW.next_push, AW.next_put]; omega) | ((repeat refine Fresh.push ?_ _); assumption) | (simp only [same_int, same_bool, same_ptr, same_slice, same_sliceP, same_nil, same_agg2, same_string]; done) | (simp [oneCell, AW.next_push]; done) | fail) only [go_sem, Nat.reduceEqDiff, reduceIte, Nat.reduceAdd, Int.toNat_natCast, Nat.add_zero, Owes_true, e2, e4, e5, e15, List.length_map] <;> rfl
  rintro k t ds w6 ⟨m, him, rfl, rfl, e2, e4, e5, e8, e15, e27, e28, e29, hP6, hm6⟩
  have hst6 := hm6.own hst (by omega)
  have hO6 := hm6.own hO5 (by omega)
  have g6 : Grown w w6 := ⟨g5.1.trans (hm6.keep (by omega) (by omega)), hm6.fresh⟩
  by_cases hlt2 : (m : Int) < ((pick (rankQ D r) D.length).length : Int)
  case neg =>
    obtain rfl : m = (pick (rankQ D r) D.length).length := by omega
    rw [mid_all hD h0] at hP6
    have harr := hst6.iarr (by rw [List.length_map]; omega)
    rw [List.length_map] at harr
    have hpn : NN ((pick (rankQ D r) D.length).map (W (payR D r (leftN D s r)))) := fun i => by
      rcases Nat.lt_or_ge i (pick (rankQ D r) D.length).length with q | q
      · rw [W_map _ q]; exact hpay.nn _
      · rw [W_out (by simpa using q)]; exact Int.le_refl _
    have hz' : ∀ i, (fun i => rankQ D r i || decide (D.length ≤ i)) i = false → W (payR D r (leftN D s r)) i = 0 := fun i q => by
      simp only [Bool.or_eq_false_iff, decide_eq_false_iff_not] at q
      have hi : i < D.length := by omega
      have q1 := q.1
      rw [rankQ_at hi] at q1
      exact payR_off hD.nn hL0 hi (of_decide_eq_false q1)
    have epick : pick (rankQ D r) D.length = pick (fun i => rankQ D r i || decide (D.length ≤ i)) D.length := by
      rw [pick, pick]
      refine List.filter_congr fun i hi => ?_
      rw [List.mem_range] at hi
      have : ¬ D.length ≤ i := by omega
      simp [this]
    have hpsum : ((pick (rankQ D r) D.length).map (W (payR D r (leftN D s r)))).sum = (payR D r (leftN D s r)).sum := by
      have := pick_sum (l := payR D r (leftN D s r)) hz'
      rw [hpay.len, ownR_len] at this
      rw [epick]; exact this
    have hps := hpay.sum
    simp -dsimp -implicitDefEqProofs (maxSteps := 2000000) (disch := first | assumption | omega | (simp only [AW.next_push, AW.next_put]; omega) | ((repeat refine Fresh.push ?_ _); assumption) | (simp only [same_int, same_bool, same_ptr, same_slice, same_sliceP, same_nil, same_agg2, same_string]; done) | (simp [oneCell, AW.next_push]; done) | fail) only [go_sem, Nat.reduceEqDiff, reduceIte, Nat.reduceAdd, Int.toNat_natCast, Nat.add_zero, Owes_true, Try.results53, e2, e4, e5, e8, e15, e27, e28, e29, hlt2]
    apply callV_of (e := rfl)
    · exact total_ok _ _ w6 harr (small_nn hpn (by rw [hpsum]; omega))
    rintro _ _ ⟨rfl, rfl⟩
    rw [hpsum]
    have hnx : leftN D s r - (payR D r (leftN D s r)).sum = leftN D s (r + 1) := rfl
    simp -dsimp -implicitDefEqProofs (maxSteps := 2000000) (disch := first | assumption | omega | (simp only [AW.next_push, AW.next_put]; omega) | ((repeat refine Fresh.push ?_ _); assumption) | (simp only [same_int, same_bool, same_ptr, same_slice, same_sliceP, same_nil, same_agg2, same_string]; done) | (simp [oneCell, AW.next_push]; done) | fail) only [go_sem, Nat.reduceEqDiff, reduceIte, Nat.reduceAdd, Int.toNat_natCast, Nat.add_zero, Owes_true, Try.results53, e2, e4, e5, e15]
    refine ⟨_, by omega, r + 1, by omega, rfl, rfl, by (simp -dsimp -implicitDefEqProofs (maxSteps := 2000000) (disch := first | assumption | omega | (simp only [AW.next_push, AW.next_put]; omega) | ((repeat refine Fresh.push ?_ _); assumption) | (simp only [same_int, same_bool, same_ptr, same_slice, same_sliceP, same_nil, same_agg2, same_string]; done) | (simp [oneCell, AW.next_push]; done) | fail) only [go_sem, Nat.reduceEqDiff, reduceIte, Nat.reduceAdd, Int.toNat_natCast, Nat.add_zero, Owes_true, e2, hnx]; try rfl), by (simp -dsimp -implicitDefEqProofs (maxSteps := 2000000) (disch := first | assumption | omega | (simp only [AW.next_push, AW.next_put]; omega) | ((repeat refine Fresh.push ?_ _); assumption) | (simp only [same_int, same_bool, same_ptr, same_slice, same_sliceP, same_nil, same_agg2, same_string]; done) | (simp [oneCell, AW.next_push]; done) | fail) only [go_sem, Nat.reduceEqDiff, reduceIte, Nat.reduceAdd, Int.toNat_natCast, Nat.add_zero, Owes_true, e4, hnx]; try rfl), by (simp -dsimp -implicitDefEqProofs (maxSteps := 2000000) (disch := first | assumption | omega | (simp only [AW.next_push, AW.next_put]; omega) | ((repeat refine Fresh.push ?_ _); assumption) | (simp only [same_int, same_bool, same_ptr, same_slice, same_sliceP, same_nil, same_agg2, same_string]; done) | (simp [oneCell, AW.next_push]; done) | fail) only [go_sem, Nat.reduceEqDiff, reduceIte, Nat.reduceAdd, Int.toNat_natCast, Nat.add_zero, Owes_true, e5, hnx]; try rfl), by (simp -dsimp -implicitDefEqProofs (maxSteps := 2000000) (disch := first | assumption | omega | (simp only [AW.next_push, AW.next_put]; omega) | ((repeat refine Fresh.push ?_ _); assumption) | (simp only [same_int, same_bool, same_ptr, same_slice, same_sliceP, same_nil, same_agg2, same_string]; done) | (simp [oneCell, AW.next_push]; done) | fail) only [go_sem, Nat.reduceEqDiff, reduceIte, Nat.reduceAdd, Int.toNat_natCast, Nat.add_zero, Owes_true, e15, hnx]; try rfl), hO6, hP6, g6⟩
  have hlt2' : m < (pick (rankQ D r) D.length).length := by omega
  have hof6 := hm6.aown (by omega) hof5
  obtain ⟨_, bo, eo, hco⟩ := own_at1 hof6 (by rw [List.length_map]; omega)
  simp only [List.length_map] at eo hco
  injection eo with eo1 eo2 eo3
  subst eo1
  have hco1 := hco m hlt2'
  rw [W_map _ hlt2'] at hco1
  have hpm := pick_lt (List.getElem_mem hlt2')
  have hst1 := hst6.icell (i := m) (by rw [List.length_map]; omega)
  rw [W_map _ hlt2', show (⟨c5, m, none⟩ : Addr) = ⟨c5, m * 1, none⟩ from by rw [Nat.mul_one]] at hst1
  have hnx := mid_step (D := D) (s := s) (r := r) hlt2'
  have hpi : ((pick (rankQ D r) D.length)[m] : Int) < (D.length : Int) := by omega
  generalize hPI : (pick (rankQ D r) D.length)[m] = pi at *
  have hsv := storeV_own1 (o := pi) (v := .int .i64 (W (payR D r (leftN D s r)) pi)) hP6 (by rw [icells_flat_len, midL_len]; exact hpm.1) rfl
  rw [setL_ic, hnx, show (Value.pointer (some ⟨w.next + 1, pi, none⟩)) = .pointer (some ⟨w.next + 1, pi * 1, none⟩) from by rw [Nat.mul_one]] at hsv
  unfold nint at hco1
  simp -dsimp -implicitDefEqProofs (maxSteps := 2000000) (disch := first | assumption | omega | (simp only [AW.next_push, AW.next_put]; omega) | ((repeat refine Fresh.push ?_ _); assumption) | (simp only [same_int, same_bool, same_ptr, same_slice, same_sliceP, same_nil, same_agg2, same_string]; done) | (simp [oneCell, AW.next_push]; done) | fail) only [go_sem, Nat.reduceEqDiff, reduceIte, Nat.reduceAdd, Int.toNat_natCast, Nat.add_zero, Owes_true, Try.results53, e2, e4, e5, e8, e15, e27, e28, e29, hlt2, hpi, indexV_eq, Nat.zero_add, hco1, hst1, hsv]
  refine ⟨_, by omega, m + 1, by omega, rfl, rfl, by (simp -dsimp -implicitDefEqProofs (maxSteps := 2000000) (disch := first | assumption | omega | (simp only [AW.next_push, AW.next_put]; omega) | ((repeat refine Fresh.push ?_ _); assumption) | (simp only [same_int, same_bool, same_ptr, same_slice, same_sliceP, same_nil, same_agg2, same_string]; done) | (simp [oneCell, AW.next_push]; done) | fail) only [go_sem, Nat.reduceEqDiff, reduceIte, Nat.reduceAdd, Int.toNat_natCast, Nat.add_zero, Owes_true, e2]; try rfl), by (simp -dsimp -implicitDefEqProofs (maxSteps := 2000000) (disch := first | assumption | omega | (simp only [AW.next_push, AW.next_put]; omega) | ((repeat refine Fresh.push ?_ _); assumption) | (simp only [same_int, same_bool, same_ptr, same_slice, same_sliceP, same_nil, same_agg2, same_string]; done) | (simp [oneCell, AW.next_push]; done) | fail) only [go_sem, Nat.reduceEqDiff, reduceIte, Nat.reduceAdd, Int.toNat_natCast, Nat.add_zero, Owes_true, e4]; try rfl), by (simp -dsimp -implicitDefEqProofs (maxSteps := 2000000) (disch := first | assumption | omega | (simp only [AW.next_push, AW.next_put]; omega) | ((repeat refine Fresh.push ?_ _); assumption) | (simp only [same_int, same_bool, same_ptr, same_slice, same_sliceP, same_nil, same_agg2, same_string]; done) | (simp [oneCell, AW.next_push]; done) | fail) only [go_sem, Nat.reduceEqDiff, reduceIte, Nat.reduceAdd, Int.toNat_natCast, Nat.add_zero, Owes_true, e5]; try rfl), by (simp -dsimp -implicitDefEqProofs (maxSteps := 2000000) (disch := first | assumption | omega | (simp only [AW.next_push, AW.next_put]; omega) | ((repeat refine Fresh.push ?_ _); assumption) | (simp only [same_int, same_bool, same_ptr, same_slice, same_sliceP, same_nil, same_agg2, same_string]; done) | (simp [oneCell, AW.next_push]; done) | fail) only [go_sem, Nat.reduceEqDiff, reduceIte, Nat.reduceAdd, Int.toNat_natCast, Nat.add_zero, Owes_true, e8]; try rfl), by (simp -dsimp -implicitDefEqProofs (maxSteps := 2000000) (disch := first | assumption | omega | (simp only [AW.next_push, AW.next_put]; omega) | ((repeat refine Fresh.push ?_ _); assumption) | (simp only [same_int, same_bool, same_ptr, same_slice, same_sliceP, same_nil, same_agg2, same_string]; done) | (simp [oneCell, AW.next_push]; done) | fail) only [go_sem, Nat.reduceEqDiff, reduceIte, Nat.reduceAdd, Int.toNat_natCast, Nat.add_zero, Owes_true, e15]; try rfl), by (simp -dsimp -implicitDefEqProofs (maxSteps := 2000000) (disch := first | assumption | omega | (simp only [AW.next_push, AW.next_put]; omega) | ((repeat refine Fresh.push ?_ _); assumption) | (simp only [same_int, same_bool, same_ptr, same_slice, same_sliceP, same_nil, same_agg2, same_string]; done) | (simp [oneCell, AW.next_push]; done) | fail) only [go_sem, Nat.reduceEqDiff, reduceIte, Nat.reduceAdd, Int.toNat_natCast, Nat.add_zero, Owes_true, e27]; try rfl), by (simp -dsimp -implicitDefEqProofs (maxSteps := 2000000) (disch := first | assumption | omega | (simp only [AW.next_push, AW.next_put]; omega) | ((repeat refine Fresh.push ?_ _); assumption) | (simp only [same_int, same_bool, same_ptr, same_slice, same_sliceP, same_nil, same_agg2, same_string]; done) | (simp [oneCell, AW.next_push]; done) | fail) only [go_sem, Nat.reduceEqDiff, reduceIte, Nat.reduceAdd, Int.toNat_natCast, Nat.add_zero, Owes_true, e28]; try rfl), by (simp -dsimp -implicitDefEqProofs (maxSteps := 2000000) (disch := first | assumption | omega | (simp only [AW.next_push, AW.next_put]; omega) | ((repeat refine Fresh.push ?_ _); assumption) | (simp only [same_int, same_bool, same_ptr, same_slice, same_sliceP, same_nil, same_agg2, same_string]; done) | (simp [oneCell, AW.next_push]; done) | fail) only [go_sem, Nat.reduceEqDiff, reduceIte, Nat.reduceAdd, Int.toNat_natCast, Nat.add_zero, Owes_true, e29]; try rfl), hP6.put _, hm6.put hP6 _⟩
end Go.Proofs

/- Dues: a sum, spread over them; the chapter's. -/
namespace Go.Proofs
open Go Go.RowKit Go.Sim
set_option maxRecDepth 100000
/-- What is the rank's own, of the first ones. -/
def ownTo (D : List DueN) (r : Int) (n : Nat) : List Int := (List.range D.length).map fun i => if i < n then W (ownR D r) i else 0
theorem ownTo_len (D : List DueN) (r : Int) (n : Nat) : (ownTo D r n).length = D.length := by simp [ownTo]
theorem W_ownTo {D : List DueN} {r : Int} {n i : Nat} (h : i < D.length) : W (ownTo D r n) i = if i < n then W (ownR D r) i else 0 := by
  rw [ownTo, W_map _ (by simpa using h), List.getElem_range]
theorem ownTo_zero (D : List DueN) (r : Int) : ownTo D r 0 = List.replicate D.length 0 := by
  refine W_ext (by rw [ownTo_len, List.length_replicate]) fun i hi => ?_
  rw [ownTo_len] at hi
  rw [W_ownTo hi, if_neg (by omega), W_at (by simpa using hi), List.getElem_replicate]
theorem ownTo_all (D : List DueN) (r : Int) : ownTo D r D.length = ownR D r := by
  refine W_ext (by rw [ownTo_len, ownR_len]) fun i hi => ?_
  rw [ownTo_len] at hi
  rw [W_ownTo hi, if_pos hi]
theorem ownTo_no {D : List DueN} {r : Int} {n : Nat} (h : n < D.length) (hr : D[n].r ≠ r) : ownTo D r (n + 1) = ownTo D r n := by
  refine W_ext (by rw [ownTo_len, ownTo_len]) fun i hi => ?_
  rw [ownTo_len] at hi
  rw [W_ownTo hi, W_ownTo hi]
  by_cases q : i = n
  · subst q
    rw [if_pos (by omega), if_neg (by omega), ownR_at hi, if_neg hr]
  · by_cases z : i < n
    · rw [if_pos (by omega), if_pos z]
    · rw [if_neg (by omega), if_neg z]
theorem ownTo_yes {D : List DueN} {r : Int} {n : Nat} (h : n < D.length) (hr : D[n].r = r) : (ownTo D r n).set n D[n].a = ownTo D r (n + 1) := by
  refine W_ext (by rw [List.length_set, ownTo_len, ownTo_len]) fun i hi => ?_
  rw [List.length_set, ownTo_len] at hi
  rw [W_set (by rw [ownTo_len]; exact h), W_ownTo hi, W_ownTo hi]
  by_cases q : i = n
  · subst q
    rw [if_pos rfl, if_pos (by omega), ownR_at hi, if_pos hr]
  · rw [if_neg q]
    by_cases z : i < n
    · rw [if_pos z, if_pos (by omega)]
    · rw [if_neg z, if_neg (by omega)]
/-- What is paid, while a rank's is added. -/
noncomputable def addTo (D : List DueN) (s : Int) (r n : Nat) : List Int := (List.range D.length).map fun i => if i < n then W (paidN D s (r + 1)) i else W (paidN D s r) i
theorem addTo_len (D : List DueN) (s : Int) (r n : Nat) : (addTo D s r n).length = D.length := by simp [addTo]
theorem W_addTo {D : List DueN} {s : Int} {r n i : Nat} (h : i < D.length) : W (addTo D s r n) i = if i < n then W (paidN D s (r + 1)) i else W (paidN D s r) i := by
  rw [addTo, W_map _ (by simpa using h), List.getElem_range]
theorem addTo_zero (D : List DueN) (s : Int) (r : Nat) : addTo D s r 0 = paidN D s r := by
  refine W_ext (by rw [addTo_len, paidN_len]) fun i hi => ?_
  rw [addTo_len] at hi
  rw [W_addTo hi, if_neg (by omega)]
theorem addTo_all (D : List DueN) (s : Int) (r : Nat) : addTo D s r D.length = paidN D s (r + 1) := by
  refine W_ext (by rw [addTo_len, paidN_len]) fun i hi => ?_
  rw [addTo_len] at hi
  rw [W_addTo hi, if_pos hi]
theorem addTo_step {D : List DueN} (hD : DIn D) {s : Int} (h0 : 0 ≤ s) {r n : Nat} (h : n < D.length) : (addTo D s r n).set n (W (addTo D s r n) n + W (payR D r (leftN D s r)) n) = addTo D s r (n + 1) := by
  refine W_ext (by rw [List.length_set, addTo_len, addTo_len]) fun i hi => ?_
  rw [List.length_set, addTo_len] at hi
  have e1 : W (addTo D s r n) n = W (paidN D s r) n := by rw [W_addTo h, if_neg (Nat.lt_irrefl n)]
  rw [W_set (by rw [addTo_len]; exact h), e1, W_addTo hi, W_addTo hi]
  by_cases q : i = n
  · subst q
    rw [if_pos rfl, if_pos (Nat.lt_succ_self i), paidN_succ hD h0 r hi]
  · rw [if_neg q]
    by_cases z : i < n
    · rw [if_pos z, if_pos (by omega)]
    · rw [if_neg z, if_neg (by omega)]
theorem cells_arr {w : AW} {c : Nat} {L : List Int} (h : ∀ i, i < L.length → w.cell? ⟨c, i * 1, none⟩ = some (.int .i64 (W L i))) (hc : c < w.next) (hl : L.length ≤ 140737488355328) : ArrOf w 1 icells (.slice (some ⟨c, 0, none⟩) L.length L.length) L := by
  refine ⟨_, _, _, rfl, by simp, Nat.le_refl _, by omega, fun _ => ⟨c, 0, rfl, hc, fun i j r x hi hx => ?_⟩⟩
  rw [List.getElem?_map] at hi
  obtain ⟨y, hy, rfl⟩ := Option.map_eq_some_iff.mp hi
  match j, hx with
  | 0, hx =>
    have hil : i < L.length := by
      rcases Nat.lt_or_ge i L.length with q | q
      · exact q
      · rw [List.getElem?_eq_none q] at hy; cases hy
    have := h i hil
    rw [W_at hil] at this
    rw [List.getElem?_eq_getElem hil] at hy
    injection hy with hy
    subst hy
    simp only [icells, List.getElem?_cons_zero, Option.some.injEq] at hx
    subst hx
    rw [Nat.zero_add, Nat.add_zero]; exact this
  | j + 1, hx => simp [icells] at hx
theorem cell_put {w : AW} {b c o : Nat} (k : Blk) (h : c ≠ b) : (w.put b k).cell? ⟨c, o, none⟩ = w.cell? ⟨c, o, none⟩ := by
  simp only [AW.cell?, AW.blk_put _ _ _ _ (Trie.in_ _) (Trie.in_ _), if_neg h]
def StepJ (I : Nat → Tmps → List DI → AW → Prop) (R : Tmps → List DI → AW → Post → Prop) (Q : Post) : Prop := ∀ k t ds w, I k t ds w → R t ds w (loopQ I k Q)
theorem loopJ {R : Tmps → List DI → AW → Post → Prop} {t : Tmps} {ds : List DI} {w : AW} {Q : Post} {x : Tok (R, t, ds, w, Q)} (I : Nat → Tmps → List DI → AW → Prop) (k : Nat) (h : I k t ds w) (step : StepJ I R Q) : LoopR R t ds w Q x := loopR I k h step
theorem joinMain {G : Prop} {I : Nat → Tmps → List DI → AW → Prop} {R : Tmps → List DI → AW → Post → Prop} {Q : Post} (mainJ : StepJ I R Q → G) (stepJ : StepJ I R Q) : G := mainJ stepJ
theorem W_pay_in {D : List DueN} (hD : DIn D) (hl : D.length ≤ 24) {r s : Int} (h0 : 0 ≤ s) (i : Nat) : 0 ≤ W (payR D r s) i ∧ W (payR D r s) i ≤ 67108864 := by
  have p := payR_pays hD.nn r h0
  have := (ownR_in hD hl r).val i
  have := p.le i
  exact ⟨p.nn i, by omega⟩
theorem W_paid_in {D : List DueN} (hD : DIn D) (hl : D.length ≤ 24) {s : Int} (h0 : 0 ≤ s) (r : Nat) {i : Nat} (hi : i < D.length) : 0 ≤ W (paidN D s r) i ∧ W (paidN D s r) i ≤ 67108864 := by
  rw [W_paidN hi]
  split
  · exact W_pay_in hD hl (leftN_nn hD.nn h0 _) i
  · omega
set_option maxHeartbeats 8000000 in
theorem refspread_ok (D : List DueN) (v : Value) (s : Int) (w : AW) (f : Fresh w) (hs : ArrOf w 2 dcells v D) (hD : DIn D) (hl : D.length ≤ 24) (h0 : 0 ≤ s) (h1 : s ≤ 34359738368) :
    CallT Try.prog Try.T1 (.fn (.func 55) #[]) #[v, .int .i64 s] w (fun r w' => ∃ u, r = .tuple #[u, .int .i64 (leftN D s 10)] ∧ ArrOf w' 1 icells u (paidN D s 10) ∧ Grown w w') := by
  obtain ⟨p, cap, rfl, _, _, hat⟩ := id hs.open
  have hmk : ∀ u : AW, makeSliceV (prg Try.prog) u 22 (.int .i64 (D.length : Int)) (.int .i64 (D.length : Int)) = some (.slice (some ⟨u.next, 0, none⟩) D.length D.length, u.push (.cells ((List.replicate D.length (0 : Int)).flatMap icells) 3 u.next 0 0)) := fun u => by
    rw [makeSliceV_eq Try.ty22 Try.ty3 (by omega) (by omega) (by omega) rfl, ← flat_rep]; rfl
  have hB := Own.new f 3 ((List.replicate D.length (0 : Int)).flatMap icells)
  have gB := (Grown.refl f).push (.cells ((List.replicate D.length (0 : Int)).flatMap icells) 3 w.next 0 0)
  have hmk1 := hmk w
  rw [← paidN_zero hD s] at hB gB hmk1
  refine callT_code rfl Try.func55 rfl Try.s55_eq rfl ?_
  unfold Try.s55
  simp -dsimp -implicitDefEqProofs (maxSteps := 2000000) (disch := first | assumption | omega | (simp only [AW.next_push, AW.next_put]; omega) | ((repeat refine Fresh.push ?_ _); assumption) | (simp only [same_int, same_bool, same_ptr, same_slice, same_sliceP, same_nil, same_agg2, same_string]; done) | (simp [oneCell, AW.next_push]; done) | fail) only [go_sem, Nat.reduceEqDiff, reduceIte, Nat.reduceAdd, Int.toNat_natCast, Nat.add_zero, Owes_true, Try.results55, hmk1]
  refine loopR (fun k t ds w2 => ∃ r : Nat, r ≤ 10 ∧ k = 10 - r ∧ ds = [] ∧ ev t (.tmp 0) = .slice p D.length cap ∧ ev t (.tmp 1) = .int .i64 (leftN D s r) ∧ ev t (.tmp 6) = .slice (some ⟨w.next, 0, none⟩) D.length D.length ∧ ev t (.tmp 7) = .int .i64 (r : Int) ∧ Own w2 w.next 3 ((paidN D s r).flatMap icells) ∧ Grown w w2) (10) ?_ ?_
  · refine ⟨0, by omega, by omega, rfl, ?_, ?_, ?_, ?_, hB, gB⟩ <;> simp -dsimp -implicitDefEqProofs (maxSteps := 2000000) (disch := first | assumption | omega | (simp only [AW.next_push, AW.next_put]; omega) | ((repeat refine Fresh.push ?_ _); assumption) | (simp only [same_int, same_bool, same_ptr, same_slice, same_sliceP, same_nil, same_agg2, same_string]; done) | (simp [oneCell, AW.next_push]; done) | fail) only [go_sem, Nat.reduceEqDiff, reduceIte, Nat.reduceAdd, Int.toNat_natCast, Nat.add_zero, Owes_true] <;> rfl
  rintro k t ds w2 ⟨r, hir, rfl, rfl, e0, e1, e6, e7, hP, hg⟩
  by_cases hlt : (r : Int) ≤ 9
  case neg =>
    obtain rfl : r = 10 := by omega
    simp -dsimp -implicitDefEqProofs (maxSteps := 2000000) (disch := first | assumption | omega | (simp only [AW.next_push, AW.next_put]; omega) | ((repeat refine Fresh.push ?_ _); assumption) | (simp only [same_int, same_bool, same_ptr, same_slice, same_sliceP, same_nil, same_agg2, same_string]; done) | (simp [oneCell, AW.next_push]; done) | fail) only [go_sem, Nat.reduceEqDiff, reduceIte, Nat.reduceAdd, Int.toNat_natCast, Nat.add_zero, Owes_true, Try.results55, e0, e1, e6, e7, hlt]
    have := hP.iarr (by rw [paidN_len]; omega)
    rw [paidN_len] at this
    exact ⟨_, rfl, this, hg⟩
  have hr10 : r < 10 := by omega
  have hL0 := leftN_nn hD.nn h0 r
  have hL1 := leftN_le hD.nn h0 (n := 0) (m := r) (by omega)
  have hL2 : leftN D s 0 = s := rfl
  have hmk2 := hmk w2
  have hQ := Own.new hg.2 3 ((List.replicate D.length (0 : Int)).flatMap icells)
  have gQ := hg.push (.cells ((List.replicate D.length (0 : Int)).flatMap icells) 3 w2.next 0 0)
  have hP2 := hP.push (.cells ((List.replicate D.length (0 : Int)).flatMap icells) 3 w2.next 0 0)
  rw [← ownTo_zero D r] at hQ gQ hP2 hmk2
  have hpl := hP.lt
  simp -dsimp -implicitDefEqProofs (maxSteps := 2000000) (disch := first | assumption | omega | (simp only [AW.next_push, AW.next_put]; omega) | ((repeat refine Fresh.push ?_ _); assumption) | (simp only [same_int, same_bool, same_ptr, same_slice, same_sliceP, same_nil, same_agg2, same_string]; done) | (simp [oneCell, AW.next_push]; done) | fail) only [go_sem, Nat.reduceEqDiff, reduceIte, Nat.reduceAdd, Int.toNat_natCast, Nat.add_zero, Owes_true, Try.results55, e0, e1, e6, e7, hlt, hmk2]
  refine loopR (fun k t ds w3 => ∃ i : Nat, i ≤ D.length ∧ k = D.length - i ∧ ds = [] ∧ ev t (.tmp 0) = .slice p D.length cap ∧ ev t (.tmp 1) = .int .i64 (leftN D s r) ∧ ev t (.tmp 6) = .slice (some ⟨w.next, 0, none⟩) D.length D.length ∧ ev t (.tmp 7) = .int .i64 (r : Int) ∧ ev t (.tmp 8) = .slice (some ⟨w2.next, 0, none⟩) D.length D.length ∧ ev t (.tmp 9) = .int .i64 (i : Int) ∧ Own w3 w2.next 3 ((ownTo D r i).flatMap icells) ∧ Own w3 w.next 3 ((paidN D s r).flatMap icells) ∧ Grown w w3) (D.length) ?_ ?_
  · refine ⟨0, by omega, by omega, rfl, ?_, ?_, ?_, ?_, ?_, ?_, hQ, hP2, gQ⟩ <;> simp -dsimp -implicitDefEqProofs (maxSteps := 2000000) (disch := first | assumption | omega | (simp only [AW.next_push, AW.next_put]; omega) | ((repeat refine Fresh.push ?_ _); assumption) | (simp only [same_int, same_bool, same_ptr, same_slice, same_sliceP, same_nil, same_agg2, same_string]; done) | (simp [oneCell, AW.next_push]; done) | fail) only [go_sem, Nat.reduceEqDiff, reduceIte, Nat.reduceAdd, Int.toNat_natCast, Nat.add_zero, Owes_true, e0, e1, e6, e7] <;> rfl
  rintro k t ds w3 ⟨i, hii, rfl, rfl, e0, e1, e6, e7, e8, e9, hQ3, hP3, g3⟩
  by_cases hlt2 : (i : Int) < (D.length : Int)
  case pos =>
    have hlt' : i < D.length := by omega
    obtain ⟨b1, o1, rfl, hb1, hcell⟩ := hat i hlt'
    have a0 := hcell _ g3.1 0 _ rfl
    have a1 := hcell _ g3.1 1 _ rfl
    rw [Nat.add_zero] at a0
    by_cases hr : D[i].r = (r : Int)
    case neg =>
      simp -dsimp -implicitDefEqProofs (maxSteps := 2000000) (disch := first | assumption | omega | (simp only [AW.next_push, AW.next_put]; omega) | ((repeat refine Fresh.push ?_ _); assumption) | (simp only [same_int, same_bool, same_ptr, same_slice, same_sliceP, same_nil, same_agg2, same_string]; done) | (simp [oneCell, AW.next_push]; done) | fail) only [go_sem, Nat.reduceEqDiff, reduceIte, Nat.reduceAdd, Int.toNat_natCast, Nat.add_zero, Owes_true, Try.results55, e0, e1, e6, e7, e8, e9, hlt2, indexV_eq, a0, hr]
      refine ⟨_, by omega, i + 1, by omega, rfl, rfl, by (simp -dsimp -implicitDefEqProofs (maxSteps := 2000000) (disch := first | assumption | omega | (simp only [AW.next_push, AW.next_put]; omega) | ((repeat refine Fresh.push ?_ _); assumption) | (simp only [same_int, same_bool, same_ptr, same_slice, same_sliceP, same_nil, same_agg2, same_string]; done) | (simp [oneCell, AW.next_push]; done) | fail) only [go_sem, Nat.reduceEqDiff, reduceIte, Nat.reduceAdd, Int.toNat_natCast, Nat.add_zero, Owes_true, e0]; try rfl), by (simp -dsimp -implicitDefEqProofs (maxSteps := 2000000) (disch := first | assumption | omega | (simp only [AW.next_push, AW.next_put]; omega) | ((repeat refine Fresh.push ?_ _); assumption) | (simp only [same_int, same_bool, same_ptr, same_slice, same_sliceP, same_nil, same_agg2, same_string]; done) | (simp [oneCell, AW.next_push]; done) | fail) only [go_sem, Nat.reduceEqDiff, reduceIte, Nat.reduceAdd, Int.toNat_natCast, Nat.add_zero, Owes_true, e1]; try rfl), by (simp -dsimp -implicitDefEqProofs (maxSteps := 2000000) (disch := first | assumption | omega | (simp only [AW.next_push, AW.next_put]; omega) | ((repeat refine Fresh.push ?_ _); assumption) | (simp only [same_int, same_bool, same_ptr, same_slice, same_sliceP, same_nil, same_agg2, same_string]; done) | (simp [oneCell, AW.next_push]; done) | fail) only [go_sem, Nat.reduceEqDiff, reduceIte, Nat.reduceAdd, Int.toNat_natCast, Nat.add_zero, Owes_true, e6]; try rfl), by (simp -dsimp -implicitDefEqProofs (maxSteps := 2000000) (disch := first | assumption | omega | (simp only [AW.next_push, AW.next_put]; omega) | ((repeat refine Fresh.push ?_ _); assumption) | (simp only [same_int, same_bool, same_ptr, same_slice, same_sliceP, same_nil, same_agg2, same_string]; done) | (simp [oneCell, AW.next_push]; done) | fail) only [go_sem, Nat.reduceEqDiff, reduceIte, Nat.reduceAdd, Int.toNat_natCast, Nat.add_zero, Owes_true, e7]; try rfl), by (simp -dsimp -implicitDefEqProofs (maxSteps := 2000000) (disch := first | assumption | omega | (simp only [AW.next_push, AW.next_put]; omega) | ((repeat refine Fresh.push ?_ _); assumption) | (simp only [same_int, same_bool, same_ptr, same_slice, same_sliceP, same_nil, same_agg2, same_string]; done) | (simp [oneCell, AW.next_push]; done) | fail) only [go_sem, Nat.reduceEqDiff, reduceIte, Nat.reduceAdd, Int.toNat_natCast, Nat.add_zero, Owes_true, e8]; try rfl), by (simp -dsimp -implicitDefEqProofs (maxSteps := 2000000) (disch := first | assumption | omega | (simp only [AW.next_push, AW.next_put]; omega) | ((repeat refine Fresh.push ?_ _); assumption) | (simp only [same_int, same_bool, same_ptr, same_slice, same_sliceP, same_nil, same_agg2, same_string]; done) | (simp [oneCell, AW.next_push]; done) | fail) only [go_sem, Nat.reduceEqDiff, reduceIte, Nat.reduceAdd, Int.toNat_natCast, Nat.add_zero, Owes_true, e9]; try rfl), (by rw [ownTo_no hlt' hr]; exact hQ3), hP3, g3⟩
    have hsv := storeV_own1 (o := i) (v := .int .i64 D[i].a) hQ3 (by rw [icells_flat_len, ownTo_len]; exact hlt') rfl
    rw [setL_ic, ownTo_yes hlt' hr, show (Value.pointer (some ⟨w2.next, i, none⟩)) = .pointer (some ⟨w2.next, i * 1, none⟩) from by rw [Nat.mul_one]] at hsv
    have mm := (Mut.refl g3.2).put hQ3 (.cells ((ownTo D r (i + 1)).flatMap icells) 3 w2.next 0 0)
    simp -dsimp -implicitDefEqProofs (maxSteps := 2000000) (disch := first | assumption | omega | (simp only [AW.next_push, AW.next_put]; omega) | ((repeat refine Fresh.push ?_ _); assumption) | (simp only [same_int, same_bool, same_ptr, same_slice, same_sliceP, same_nil, same_agg2, same_string]; done) | (simp [oneCell, AW.next_push]; done) | fail) only [go_sem, Nat.reduceEqDiff, reduceIte, Nat.reduceAdd, Int.toNat_natCast, Nat.add_zero, Owes_true, Try.results55, e0, e1, e6, e7, e8, e9, hlt2, indexV_eq, a0, a1, hr, Nat.zero_add, hsv]
    refine ⟨_, by omega, i + 1, by omega, rfl, rfl, by (simp -dsimp -implicitDefEqProofs (maxSteps := 2000000) (disch := first | assumption | omega | (simp only [AW.next_push, AW.next_put]; omega) | ((repeat refine Fresh.push ?_ _); assumption) | (simp only [same_int, same_bool, same_ptr, same_slice, same_sliceP, same_nil, same_agg2, same_string]; done) | (simp [oneCell, AW.next_push]; done) | fail) only [go_sem, Nat.reduceEqDiff, reduceIte, Nat.reduceAdd, Int.toNat_natCast, Nat.add_zero, Owes_true, e0]; try rfl), by (simp -dsimp -implicitDefEqProofs (maxSteps := 2000000) (disch := first | assumption | omega | (simp only [AW.next_push, AW.next_put]; omega) | ((repeat refine Fresh.push ?_ _); assumption) | (simp only [same_int, same_bool, same_ptr, same_slice, same_sliceP, same_nil, same_agg2, same_string]; done) | (simp [oneCell, AW.next_push]; done) | fail) only [go_sem, Nat.reduceEqDiff, reduceIte, Nat.reduceAdd, Int.toNat_natCast, Nat.add_zero, Owes_true, e1]; try rfl), by (simp -dsimp -implicitDefEqProofs (maxSteps := 2000000) (disch := first | assumption | omega | (simp only [AW.next_push, AW.next_put]; omega) | ((repeat refine Fresh.push ?_ _); assumption) | (simp only [same_int, same_bool, same_ptr, same_slice, same_sliceP, same_nil, same_agg2, same_string]; done) | (simp [oneCell, AW.next_push]; done) | fail) only [go_sem, Nat.reduceEqDiff, reduceIte, Nat.reduceAdd, Int.toNat_natCast, Nat.add_zero, Owes_true, e6]; try rfl), by (simp -dsimp -implicitDefEqProofs (maxSteps := 2000000) (disch := first | assumption | omega | (simp only [AW.next_push, AW.next_put]; omega) | ((repeat refine Fresh.push ?_ _); assumption) | (simp only [same_int, same_bool, same_ptr, same_slice, same_sliceP, same_nil, same_agg2, same_string]; done) | (simp [oneCell, AW.next_push]; done) | fail) only [go_sem, Nat.reduceEqDiff, reduceIte, Nat.reduceAdd, Int.toNat_natCast, Nat.add_zero, Owes_true, e7]; try rfl), by (simp -dsimp -implicitDefEqProofs (maxSteps := 2000000) (disch := first | assumption | omega | (simp only [AW.next_push, AW.next_put]; omega) | ((repeat refine Fresh.push ?_ _); assumption) | (simp only [same_int, same_bool, same_ptr, same_slice, same_sliceP, same_nil, same_agg2, same_string]; done) | (simp [oneCell, AW.next_push]; done) | fail) only [go_sem, Nat.reduceEqDiff, reduceIte, Nat.reduceAdd, Int.toNat_natCast, Nat.add_zero, Owes_true, e8]; try rfl), by (simp -dsimp -implicitDefEqProofs (maxSteps := 2000000) (disch := first | assumption | omega | (simp only [AW.next_push, AW.next_put]; omega) | ((repeat refine Fresh.push ?_ _); assumption) | (simp only [same_int, same_bool, same_ptr, same_slice, same_sliceP, same_nil, same_agg2, same_string]; done) | (simp [oneCell, AW.next_push]; done) | fail) only [go_sem, Nat.reduceEqDiff, reduceIte, Nat.reduceAdd, Int.toNat_natCast, Nat.add_zero, Owes_true, e9]; try rfl), hQ3.put _, mm.own hP3 (by omega), ⟨g3.1.put (by omega) _, g3.2.put hQ3.lt _⟩⟩
  obtain rfl : i = D.length := by omega
  rw [ownTo_all] at hQ3
  have hAin := ownR_in hD hl r
  have hsm := small_w hAin.len hAin.val
  have harr := hQ3.iarr (by rw [ownR_len]; omega)
  rw [ownR_len] at harr
  have hpay := payR_pays hD.nn (r : Int) hL0
  have hpsn := small_nn hpay.nn (by have := hpay.sum; omega)
  have hplen : (payR D r (leftN D s r)).length = D.length := by rw [hpay.len, ownR_len]
  simp -dsimp -implicitDefEqProofs (maxSteps := 2000000) (disch := first | assumption | omega | (simp only [AW.next_push, AW.next_put]; omega) | ((repeat refine Fresh.push ?_ _); assumption) | (simp only [same_int, same_bool, same_ptr, same_slice, same_sliceP, same_nil, same_agg2, same_string]; done) | (simp [oneCell, AW.next_push]; done) | fail) only [go_sem, Nat.reduceEqDiff, reduceIte, Nat.reduceAdd, Int.toNat_natCast, Nat.add_zero, Owes_true, Try.results55, e0, e1, e6, e7, e8, e9, hlt2]
  apply callV_of (e := rfl)
  · exact Sum_ok _ _ w3 harr hsm.1
  rintro _ _ ⟨rfl, rfl⟩
  have hpre : (payR D r (leftN D s r)) = if (ownR D r).sum ≤ leftN D s r then ownR D r else shareL (ownR D r) (leftN D s r) := rfl
  have hpin := fun i => W_pay_in hD hl (r := (r : Int)) hL0 i
  have hps := hpay.sum
  have hstep := fun n (hn : n < D.length) => addTo_step hD h0 (s := s) (r := r) hn
  have hnext : leftN D s r - (payR D r (leftN D s r)).sum = leftN D s (r + 1) := rfl
  generalize hpr : payR D r (leftN D s r) = pr at *
  rw [← addTo_zero] at hP3
  obtain ⟨IJ, hIJ⟩ : ∃ I : Nat → Tmps → List DI → AW → Prop, I = (fun k t ds w5 => ∃ n : Nat, n ≤ D.length ∧ k = D.length - n ∧ ds = [] ∧ ev t (.tmp 0) = .slice p D.length cap ∧ ev t (.tmp 1) = .int .i64 (leftN D s r) ∧ ev t (.tmp 6) = .slice (some ⟨w.next, 0, none⟩) D.length D.length ∧ ev t (.tmp 7) = .int .i64 (r : Int) ∧ ev t (.tmp 10) = .int .i64 (n : Int) ∧ (∃ c, ev t (.tmp 8) = .slice (some ⟨c, 0, none⟩) D.length D.length ∧ c ≠ w.next ∧ c < w5.next ∧ ∀ i, i < D.length → w5.cell? ⟨c, i * 1, none⟩ = some (.int .i64 (W pr i))) ∧ Own w5 w.next 3 ((addTo D s r n).flatMap icells) ∧ Grown w w5) := ⟨_, rfl⟩
  apply joinMain (I := IJ)
  case mainJ =>
    intro stepJ
    by_cases hc : (ownR D r).sum ≤ leftN D s r
    · have hno : ¬ leftN D s r < (ownR D r).sum := by omega
      rw [if_pos hc] at hpre
      simp -dsimp -implicitDefEqProofs (maxSteps := 2000000) (disch := first | assumption | omega | (simp only [AW.next_push, AW.next_put]; omega) | ((repeat refine Fresh.push ?_ _); assumption) | (simp only [same_int, same_bool, same_ptr, same_slice, same_sliceP, same_nil, same_agg2, same_string]; done) | (simp [oneCell, AW.next_push]; done) | fail) only [go_sem, Nat.reduceEqDiff, reduceIte, Nat.reduceAdd, Int.toNat_natCast, Nat.add_zero, Owes_true, Try.results55, e0, e1, e6, e7, e8, e9, hno]
      refine loopJ IJ (D.length) ?_ stepJ
      rw [hIJ]
      refine ⟨0, by omega, by omega, rfl, ?_, ?_, ?_, ?_, ?_, ⟨w2.next, (by simp -dsimp -implicitDefEqProofs (maxSteps := 2000000) (disch := first | assumption | omega | (simp only [AW.next_push, AW.next_put]; omega) | ((repeat refine Fresh.push ?_ _); assumption) | (simp only [same_int, same_bool, same_ptr, same_slice, same_sliceP, same_nil, same_agg2, same_string]; done) | (simp [oneCell, AW.next_push]; done) | fail) only [go_sem, Nat.reduceEqDiff, reduceIte, Nat.reduceAdd, Int.toNat_natCast, Nat.add_zero, Owes_true, e8]), by omega, hQ3.lt, fun i hi => by rw [hpre, Nat.mul_one]; exact hQ3.icell (by rw [ownR_len]; exact hi)⟩, hP3, g3⟩ <;> simp -dsimp -implicitDefEqProofs (maxSteps := 2000000) (disch := first | assumption | omega | (simp only [AW.next_push, AW.next_put]; omega) | ((repeat refine Fresh.push ?_ _); assumption) | (simp only [same_int, same_bool, same_ptr, same_slice, same_sliceP, same_nil, same_agg2, same_string]; done) | (simp [oneCell, AW.next_push]; done) | fail) only [go_sem, Nat.reduceEqDiff, reduceIte, Nat.reduceAdd, Int.toNat_natCast, Nat.add_zero, Owes_true, e0, e1, e6, e7] <;> rfl
    · have hyes : leftN D s r < (ownR D r).sum := by omega
      rw [if_neg hc] at hpre
      have hW := hAin.wgt (by omega)
      simp -dsimp -implicitDefEqProofs (maxSteps := 2000000) (disch := first | assumption | omega | (simp only [AW.next_push, AW.next_put]; omega) | ((repeat refine Fresh.push ?_ _); assumption) | (simp only [same_int, same_bool, same_ptr, same_slice, same_sliceP, same_nil, same_agg2, same_string]; done) | (simp [oneCell, AW.next_push]; done) | fail) only [go_sem, Nat.reduceEqDiff, reduceIte, Nat.reduceAdd, Int.toNat_natCast, Nat.add_zero, Owes_true, Try.results55, e0, e1, e6, e7, e8, e9, hyes]
      apply callV_of (e := rfl)
      · exact refshare_ok _ _ (leftN D s r) w3 g3.2 harr hW hL0 (by omega)
      rintro r4 w4 ⟨hA4, hl4, hg4⟩
      rw [← hpre] at hA4 hl4
      obtain ⟨_, c, rfl, hcc⟩ := own_at1 hA4 (by have := hW.len; omega)
      have hclt : w3.next ≤ c ∧ c < w4.next := by
        rcases hA4 with ⟨q, _⟩ | ⟨b, _, q, q1, q2, _⟩
        · cases q
        · injection q with q
          injection q with q
          injection q with q
          subst q; exact ⟨q1, q2⟩
      rw [hplen] at hcc
      have hP4 := hP3.keep hg4.1
      have hw3 := hP3.lt
      rw [hplen]
      simp -dsimp -implicitDefEqProofs (maxSteps := 2000000) (disch := first | assumption | omega | (simp only [AW.next_push, AW.next_put]; omega) | ((repeat refine Fresh.push ?_ _); assumption) | (simp only [same_int, same_bool, same_ptr, same_slice, same_sliceP, same_nil, same_agg2, same_string]; done) | (simp [oneCell, AW.next_push]; done) | fail) only [go_sem, Nat.reduceEqDiff, reduceIte, Nat.reduceAdd, Int.toNat_natCast, Nat.add_zero, Owes_true, Try.results55, e0, e1, e6, e7, e8, e9]
      refine loopJ IJ (D.length) ?_ stepJ
      rw [hIJ]
      refine ⟨0, by omega, by omega, rfl, ?_, ?_, ?_, ?_, ?_, ⟨c, (by simp -dsimp -implicitDefEqProofs (maxSteps := 2000000) (disch := first | assumption | omega | (simp only [AW.next_push, AW.next_put]; omega) | ((repeat refine Fresh.push ?_ _); assumption) | (simp only [same_int, same_bool, same_ptr, same_slice, same_sliceP, same_nil, same_agg2, same_string]; done) | (simp [oneCell, AW.next_push]; done) | fail) only [go_sem, Nat.reduceEqDiff, reduceIte, Nat.reduceAdd, Int.toNat_natCast, Nat.add_zero, Owes_true]; try rfl), by omega, hclt.2, hcc⟩, hP4, g3.trans hg4⟩ <;> simp -dsimp -implicitDefEqProofs (maxSteps := 2000000) (disch := first | assumption | omega | (simp only [AW.next_push, AW.next_put]; omega) | ((repeat refine Fresh.push ?_ _); assumption) | (simp only [same_int, same_bool, same_ptr, same_slice, same_sliceP, same_nil, same_agg2, same_string]; done) | (simp [oneCell, AW.next_push]; done) | fail) only [go_sem, Nat.reduceEqDiff, reduceIte, Nat.reduceAdd, Int.toNat_natCast, Nat.add_zero, Owes_true, e0, e1, e6, e7] <;> rfl
  case stepJ =>
  intro k t ds w5 hJ
  rw [hIJ] at hJ
  obtain ⟨n, hin, rfl, rfl, e0, e1, e6, e7, e10, hc, hP5, g5⟩ := hJ
  subst hIJ
  obtain ⟨c, e8, hcw, hcl, hcell⟩ := hc
  by_cases hlt3 : (n : Int) < (D.length : Int)
  case neg =>
    obtain rfl : n = D.length := by omega
    rw [addTo_all] at hP5
    have harr5 : ArrOf w5 1 icells (.slice (some ⟨c, 0, none⟩) D.length D.length) pr := by
      have := cells_arr (w := w5) (c := c) (L := pr) (fun i hi => hcell i (by omega)) hcl (by omega)
      rwa [hplen] at this
    simp -dsimp -implicitDefEqProofs (maxSteps := 2000000) (disch := first | assumption | omega | (simp only [AW.next_push, AW.next_put]; omega) | ((repeat refine Fresh.push ?_ _); assumption) | (simp only [same_int, same_bool, same_ptr, same_slice, same_sliceP, same_nil, same_agg2, same_string]; done) | (simp [oneCell, AW.next_push]; done) | fail) only [go_sem, Nat.reduceEqDiff, reduceIte, Nat.reduceAdd, Int.toNat_natCast, Nat.add_zero, Owes_true, Try.results55, e0, e1, e6, e7, e8, e10, hlt3]
    apply callV_of (e := rfl)
    · exact Sum_ok _ _ w5 harr5 hpsn
    rintro _ _ ⟨rfl, rfl⟩
    simp -dsimp -implicitDefEqProofs (maxSteps := 2000000) (disch := first | assumption | omega | (simp only [AW.next_push, AW.next_put]; omega) | ((repeat refine Fresh.push ?_ _); assumption) | (simp only [same_int, same_bool, same_ptr, same_slice, same_sliceP, same_nil, same_agg2, same_string]; done) | (simp [oneCell, AW.next_push]; done) | fail) only [go_sem, Nat.reduceEqDiff, reduceIte, Nat.reduceAdd, Int.toNat_natCast, Nat.add_zero, Owes_true, Try.results55, e0, e1, e6, e7]
    refine ⟨_, by omega, r + 1, by omega, rfl, rfl, by (simp -dsimp -implicitDefEqProofs (maxSteps := 2000000) (disch := first | assumption | omega | (simp only [AW.next_push, AW.next_put]; omega) | ((repeat refine Fresh.push ?_ _); assumption) | (simp only [same_int, same_bool, same_ptr, same_slice, same_sliceP, same_nil, same_agg2, same_string]; done) | (simp [oneCell, AW.next_push]; done) | fail) only [go_sem, Nat.reduceEqDiff, reduceIte, Nat.reduceAdd, Int.toNat_natCast, Nat.add_zero, Owes_true, e0, hnext]; try rfl), by (simp -dsimp -implicitDefEqProofs (maxSteps := 2000000) (disch := first | assumption | omega | (simp only [AW.next_push, AW.next_put]; omega) | ((repeat refine Fresh.push ?_ _); assumption) | (simp only [same_int, same_bool, same_ptr, same_slice, same_sliceP, same_nil, same_agg2, same_string]; done) | (simp [oneCell, AW.next_push]; done) | fail) only [go_sem, Nat.reduceEqDiff, reduceIte, Nat.reduceAdd, Int.toNat_natCast, Nat.add_zero, Owes_true, e1, hnext]; try rfl), by (simp -dsimp -implicitDefEqProofs (maxSteps := 2000000) (disch := first | assumption | omega | (simp only [AW.next_push, AW.next_put]; omega) | ((repeat refine Fresh.push ?_ _); assumption) | (simp only [same_int, same_bool, same_ptr, same_slice, same_sliceP, same_nil, same_agg2, same_string]; done) | (simp [oneCell, AW.next_push]; done) | fail) only [go_sem, Nat.reduceEqDiff, reduceIte, Nat.reduceAdd, Int.toNat_natCast, Nat.add_zero, Owes_true, e6, hnext]; try rfl), by (simp -dsimp -implicitDefEqProofs (maxSteps := 2000000) (disch := first | assumption | omega | (simp only [AW.next_push, AW.next_put]; omega) | ((repeat refine Fresh.push ?_ _); assumption) | (simp only [same_int, same_bool, same_ptr, same_slice, same_sliceP, same_nil, same_agg2, same_string]; done) | (simp [oneCell, AW.next_push]; done) | fail) only [go_sem, Nat.reduceEqDiff, reduceIte, Nat.reduceAdd, Int.toNat_natCast, Nat.add_zero, Owes_true, e7, hnext]; try rfl), hP5, g5⟩
  have hlt' : n < D.length := by omega
  have z1 := hP5.icell (i := n) (by rw [addTo_len]; exact hlt')
  rw [show (⟨w.next, n, none⟩ : Addr) = ⟨w.next, n * 1, none⟩ from by rw [Nat.mul_one]] at z1
  have z2 := hcell n hlt'
  have b1 := hpin n
  have b2 := W_paid_in hD hl h0 r hlt'
  have b3 : W (addTo D s r n) n = W (paidN D s r) n := by rw [W_addTo hlt', if_neg (Nat.lt_irrefl n)]
  have hsv := storeV_own1 (o := n) (v := .int .i64 (W (addTo D s r n) n + W pr n)) hP5 (by rw [icells_flat_len, addTo_len]; exact hlt') rfl
  rw [setL_ic, hstep n hlt', show (Value.pointer (some ⟨w.next, n, none⟩)) = .pointer (some ⟨w.next, n * 1, none⟩) from by rw [Nat.mul_one]] at hsv
  simp -dsimp -implicitDefEqProofs (maxSteps := 2000000) (disch := first | assumption | omega | (simp only [AW.next_push, AW.next_put]; omega) | ((repeat refine Fresh.push ?_ _); assumption) | (simp only [same_int, same_bool, same_ptr, same_slice, same_sliceP, same_nil, same_agg2, same_string]; done) | (simp [oneCell, AW.next_push]; done) | fail) only [go_sem, Nat.reduceEqDiff, reduceIte, Nat.reduceAdd, Int.toNat_natCast, Nat.add_zero, Owes_true, Try.results55, e0, e1, e6, e7, e8, e10, hlt3, indexV_eq, Nat.zero_add, z1, z2, hsv]
  refine ⟨_, by omega, n + 1, by omega, rfl, rfl, by (simp -dsimp -implicitDefEqProofs (maxSteps := 2000000) (disch := first | assumption | omega | (simp only [AW.next_push, AW.next_put]; omega) | ((repeat refine Fresh.push ?_ _); assumption) | (simp only [same_int, same_bool, same_ptr, same_slice, same_sliceP, same_nil, same_agg2, same_string]; done) | (simp [oneCell, AW.next_push]; done) | fail) only [go_sem, Nat.reduceEqDiff, reduceIte, Nat.reduceAdd, Int.toNat_natCast, Nat.add_zero, Owes_true, e0]; try rfl), by (simp -dsimp -implicitDefEqProofs (maxSteps := 2000000) (disch := first | assumption | omega | (simp only [AW.next_push, AW.next_put]; omega) | ((repeat refine Fresh.push ?_ _); assumption) | (simp only [same_int, same_bool, same_ptr, same_slice, same_sliceP, same_nil, same_agg2, same_string]; done) | (simp [oneCell, AW.next_push]; done) | fail) only [go_sem, Nat.reduceEqDiff, reduceIte, Nat.reduceAdd, Int.toNat_natCast, Nat.add_zero, Owes_true, e1]; try rfl), by (simp -dsimp -implicitDefEqProofs (maxSteps := 2000000) (disch := first | assumption | omega | (simp only [AW.next_push, AW.next_put]; omega) | ((repeat refine Fresh.push ?_ _); assumption) | (simp only [same_int, same_bool, same_ptr, same_slice, same_sliceP, same_nil, same_agg2, same_string]; done) | (simp [oneCell, AW.next_push]; done) | fail) only [go_sem, Nat.reduceEqDiff, reduceIte, Nat.reduceAdd, Int.toNat_natCast, Nat.add_zero, Owes_true, e6]; try rfl), by (simp -dsimp -implicitDefEqProofs (maxSteps := 2000000) (disch := first | assumption | omega | (simp only [AW.next_push, AW.next_put]; omega) | ((repeat refine Fresh.push ?_ _); assumption) | (simp only [same_int, same_bool, same_ptr, same_slice, same_sliceP, same_nil, same_agg2, same_string]; done) | (simp [oneCell, AW.next_push]; done) | fail) only [go_sem, Nat.reduceEqDiff, reduceIte, Nat.reduceAdd, Int.toNat_natCast, Nat.add_zero, Owes_true, e7]; try rfl), by (simp -dsimp -implicitDefEqProofs (maxSteps := 2000000) (disch := first | assumption | omega | (simp only [AW.next_push, AW.next_put]; omega) | ((repeat refine Fresh.push ?_ _); assumption) | (simp only [same_int, same_bool, same_ptr, same_slice, same_sliceP, same_nil, same_agg2, same_string]; done) | (simp [oneCell, AW.next_push]; done) | fail) only [go_sem, Nat.reduceEqDiff, reduceIte, Nat.reduceAdd, Int.toNat_natCast, Nat.add_zero, Owes_true, e10]; try rfl), ⟨c, (by simp -dsimp -implicitDefEqProofs (maxSteps := 2000000) (disch := first | assumption | omega | (simp only [AW.next_push, AW.next_put]; omega) | ((repeat refine Fresh.push ?_ _); assumption) | (simp only [same_int, same_bool, same_ptr, same_slice, same_sliceP, same_nil, same_agg2, same_string]; done) | (simp [oneCell, AW.next_push]; done) | fail) only [go_sem, Nat.reduceEqDiff, reduceIte, Nat.reduceAdd, Int.toNat_natCast, Nat.add_zero, Owes_true, e8]), hcw, by rw [AW.next_put]; exact hcl, fun i hi => by rw [cell_put _ hcw]; exact hcell i hi⟩, hP5.put _, ⟨g5.1.put (by omega) _, g5.2.put hP5.lt _⟩⟩
end Go.Proofs

/- Spread, the program's and the chapter's; two lists compared; what is given. -/
namespace Go.Proofs
open Go Go.RowKit Go.Sim
set_option maxRecDepth 100000
def spreadE (D : List DueN) (s : Int) : Int := if duesB D = false then 71 else if inR 0 s 34359738368 = false then 7 else 0
noncomputable def spreadO (D : List DueN) (s : Int) : List Int := if spreadE D s = 0 then paidN D s 10 else []
noncomputable def spreadL (D : List DueN) (s : Int) : Int := if spreadE D s = 0 then leftN D s 10 else 0
theorem spreadE_in {D : List DueN} {s : Int} (h : spreadE D s = 0) : DIn D ∧ D.length ≤ 24 ∧ 0 ≤ s ∧ s ≤ 34359738368 := by
  unfold spreadE at h
  cases hw : duesB D with
  | false => rw [if_pos hw] at h; exact absurd h (by decide)
  | true =>
  rw [if_neg (by rw [hw]; simp)] at h
  cases hr : inR 0 s 34359738368 with
  | false => rw [if_pos hr] at h; exact absurd h (by decide)
  | true =>
    have := (inR_iff _ _ _).1 hr
    exact ⟨(dues_in hw).1, (dues_in hw).2, this.1, this.2⟩
theorem Spread_ok (D : List DueN) (v : Value) (s : Int) (w : AW) (f : Fresh w) (hs : ArrOf w 2 dcells v D) :
    CallT Try.prog Try.T1 (.fn (.func 17) #[]) #[v, .int .i64 s] w (fun r w' => ∃ u, r = .tuple #[u, .int .i64 (spreadL D s), .int .i64 (spreadE D s)] ∧ ArrOf w' 1 icells u (spreadO D s) ∧ Grown w w') := by
  obtain ⟨p, cap, rfl, _⟩ := id hs.open
  refine callT_code rfl Try.func17 rfl Try.s17_eq rfl ?_
  unfold Try.s17
  simp -dsimp -implicitDefEqProofs (maxSteps := 2000000) (disch := first | assumption | omega | (simp only [AW.next_push, AW.next_put]; omega) | ((repeat refine Fresh.push ?_ _); assumption) | (simp only [same_int, same_bool, same_ptr, same_slice, same_sliceP, same_nil, same_agg2, same_string]; done) | (simp [oneCell, AW.next_push]; done) | fail) only [go_sem, Nat.reduceEqDiff, reduceIte, Nat.reduceAdd, Int.toNat_natCast, Nat.add_zero, Owes_true, Try.results17]
  apply callV_of (e := rfl)
  · exact areDues_ok D _ w f hs
  rintro _ w1 ⟨rfl, g1⟩
  cases hw : duesB D with
  | false =>
    have hE : spreadE D s = 71 := by rw [spreadE, if_pos hw]
    have hO : spreadO D s = [] := by rw [spreadO, if_neg (by rw [hE]; decide)]
    have hL : spreadL D s = 0 := by rw [spreadL, if_neg (by rw [hE]; decide)]
    simp -dsimp -implicitDefEqProofs (maxSteps := 2000000) (disch := first | assumption | omega | (simp only [AW.next_push, AW.next_put]; omega) | ((repeat refine Fresh.push ?_ _); assumption) | (simp only [same_int, same_bool, same_ptr, same_slice, same_sliceP, same_nil, same_agg2, same_string]; done) | (simp [oneCell, AW.next_push]; done) | fail) only [go_sem, Nat.reduceEqDiff, reduceIte, Nat.reduceAdd, Int.toNat_natCast, Nat.add_zero, Owes_true, Try.results17]
    exact ⟨_, by rw [hE, hL], by rw [hO]; exact ArrOf.nil _ _ _, g1⟩
  | true =>
  simp -dsimp -implicitDefEqProofs (maxSteps := 2000000) (disch := first | assumption | omega | (simp only [AW.next_push, AW.next_put]; omega) | ((repeat refine Fresh.push ?_ _); assumption) | (simp only [same_int, same_bool, same_ptr, same_slice, same_sliceP, same_nil, same_agg2, same_string]; done) | (simp [oneCell, AW.next_push]; done) | fail) only [go_sem, Nat.reduceEqDiff, reduceIte, Nat.reduceAdd, Int.toNat_natCast, Nat.add_zero, Owes_true, Try.results17]
  apply callV_of (e := rfl)
  · exact isShared_ok _ _
  rintro _ _ ⟨rfl, rfl⟩
  cases hr : inR 0 s 34359738368 with
  | false =>
    have hE : spreadE D s = 7 := by rw [spreadE, if_neg (by rw [hw]; simp), if_pos hr]
    have hO : spreadO D s = [] := by rw [spreadO, if_neg (by rw [hE]; decide)]
    have hL : spreadL D s = 0 := by rw [spreadL, if_neg (by rw [hE]; decide)]
    simp -dsimp -implicitDefEqProofs (maxSteps := 2000000) (disch := first | assumption | omega | (simp only [AW.next_push, AW.next_put]; omega) | ((repeat refine Fresh.push ?_ _); assumption) | (simp only [same_int, same_bool, same_ptr, same_slice, same_sliceP, same_nil, same_agg2, same_string]; done) | (simp [oneCell, AW.next_push]; done) | fail) only [go_sem, Nat.reduceEqDiff, reduceIte, Nat.reduceAdd, Int.toNat_natCast, Nat.add_zero, Owes_true, Try.results17]
    exact ⟨_, by rw [hE, hL], by rw [hO]; exact ArrOf.nil _ _ _, g1⟩
  | true =>
  have hE : spreadE D s = 0 := by rw [spreadE, if_neg (by rw [hw]; simp), if_neg (by rw [hr]; simp)]
  have hO : spreadO D s = paidN D s 10 := by rw [spreadO, if_pos hE]
  have hL : spreadL D s = leftN D s 10 := by rw [spreadL, if_pos hE]
  obtain ⟨hD, hl, h0, h1⟩ := spreadE_in hE
  simp -dsimp -implicitDefEqProofs (maxSteps := 2000000) (disch := first | assumption | omega | (simp only [AW.next_push, AW.next_put]; omega) | ((repeat refine Fresh.push ?_ _); assumption) | (simp only [same_int, same_bool, same_ptr, same_slice, same_sliceP, same_nil, same_agg2, same_string]; done) | (simp [oneCell, AW.next_push]; done) | fail) only [go_sem, Nat.reduceEqDiff, reduceIte, Nat.reduceAdd, Int.toNat_natCast, Nat.add_zero, Owes_true, Try.results17]
  apply callV_of (e := rfl)
  · exact spread_ok D _ s _ g1.2 (hs.grown g1) hD hl h0 h1
  rintro _ w2 ⟨b, rfl, _, hA', hg2⟩
  have hA := hA'.iarr (by rw [paidN_len]; omega)
  rw [paidN_len] at hA
  simp -dsimp -implicitDefEqProofs (maxSteps := 2000000) (disch := first | assumption | omega | (simp only [AW.next_push, AW.next_put]; omega) | ((repeat refine Fresh.push ?_ _); assumption) | (simp only [same_int, same_bool, same_ptr, same_slice, same_sliceP, same_nil, same_agg2, same_string]; done) | (simp [oneCell, AW.next_push]; done) | fail) only [go_sem, Nat.reduceEqDiff, reduceIte, Nat.reduceAdd, Int.toNat_natCast, Nat.add_zero, Owes_true, Try.results17]
  exact ⟨_, by rw [hE, hL], by rw [hO]; exact hA, g1.trans hg2⟩
theorem refSpread_ok (D : List DueN) (v : Value) (s : Int) (w : AW) (f : Fresh w) (hs : ArrOf w 2 dcells v D) :
    CallT Try.prog Try.T1 (.fn (.func 18) #[]) #[v, .int .i64 s] w (fun r w' => ∃ u, r = .tuple #[u, .int .i64 (spreadL D s), .int .i64 (spreadE D s)] ∧ ArrOf w' 1 icells u (spreadO D s) ∧ Grown w w') := by
  obtain ⟨p, cap, rfl, _⟩ := id hs.open
  refine callT_code rfl Try.func18 rfl Try.s18_eq rfl ?_
  unfold Try.s18
  simp -dsimp -implicitDefEqProofs (maxSteps := 2000000) (disch := first | assumption | omega | (simp only [AW.next_push, AW.next_put]; omega) | ((repeat refine Fresh.push ?_ _); assumption) | (simp only [same_int, same_bool, same_ptr, same_slice, same_sliceP, same_nil, same_agg2, same_string]; done) | (simp [oneCell, AW.next_push]; done) | fail) only [go_sem, Nat.reduceEqDiff, reduceIte, Nat.reduceAdd, Int.toNat_natCast, Nat.add_zero, Owes_true, Try.results18]
  apply callV_of (e := rfl)
  · exact dues_ok D _ w f hs
  rintro _ _ ⟨rfl, rfl⟩
  have g1 := Grown.refl f
  cases hw : duesB D with
  | false =>
    have hE : spreadE D s = 71 := by rw [spreadE, if_pos hw]
    have hO : spreadO D s = [] := by rw [spreadO, if_neg (by rw [hE]; decide)]
    have hL : spreadL D s = 0 := by rw [spreadL, if_neg (by rw [hE]; decide)]
    simp -dsimp -implicitDefEqProofs (maxSteps := 2000000) (disch := first | assumption | omega | (simp only [AW.next_push, AW.next_put]; omega) | ((repeat refine Fresh.push ?_ _); assumption) | (simp only [same_int, same_bool, same_ptr, same_slice, same_sliceP, same_nil, same_agg2, same_string]; done) | (simp [oneCell, AW.next_push]; done) | fail) only [go_sem, Nat.reduceEqDiff, reduceIte, Nat.reduceAdd, Int.toNat_natCast, Nat.add_zero, Owes_true, Try.results18]
    exact ⟨_, by rw [hE, hL], by rw [hO]; exact ArrOf.nil _ _ _, g1⟩
  | true =>
  simp -dsimp -implicitDefEqProofs (maxSteps := 2000000) (disch := first | assumption | omega | (simp only [AW.next_push, AW.next_put]; omega) | ((repeat refine Fresh.push ?_ _); assumption) | (simp only [same_int, same_bool, same_ptr, same_slice, same_sliceP, same_nil, same_agg2, same_string]; done) | (simp [oneCell, AW.next_push]; done) | fail) only [go_sem, Nat.reduceEqDiff, reduceIte, Nat.reduceAdd, Int.toNat_natCast, Nat.add_zero, Owes_true, Try.results18]
  apply callV_of (e := rfl)
  · exact From_ok _ _ _ _
  rintro _ _ ⟨rfl, rfl⟩
  cases hr : inR 0 s 34359738368 with
  | false =>
    have hE : spreadE D s = 7 := by rw [spreadE, if_neg (by rw [hw]; simp), if_pos hr]
    have hO : spreadO D s = [] := by rw [spreadO, if_neg (by rw [hE]; decide)]
    have hL : spreadL D s = 0 := by rw [spreadL, if_neg (by rw [hE]; decide)]
    simp -dsimp -implicitDefEqProofs (maxSteps := 2000000) (disch := first | assumption | omega | (simp only [AW.next_push, AW.next_put]; omega) | ((repeat refine Fresh.push ?_ _); assumption) | (simp only [same_int, same_bool, same_ptr, same_slice, same_sliceP, same_nil, same_agg2, same_string]; done) | (simp [oneCell, AW.next_push]; done) | fail) only [go_sem, Nat.reduceEqDiff, reduceIte, Nat.reduceAdd, Int.toNat_natCast, Nat.add_zero, Owes_true, Try.results18]
    exact ⟨_, by rw [hE, hL], by rw [hO]; exact ArrOf.nil _ _ _, g1⟩
  | true =>
  have hE : spreadE D s = 0 := by rw [spreadE, if_neg (by rw [hw]; simp), if_neg (by rw [hr]; simp)]
  have hO : spreadO D s = paidN D s 10 := by rw [spreadO, if_pos hE]
  have hL : spreadL D s = leftN D s 10 := by rw [spreadL, if_pos hE]
  obtain ⟨hD, hl, h0, h1⟩ := spreadE_in hE
  simp -dsimp -implicitDefEqProofs (maxSteps := 2000000) (disch := first | assumption | omega | (simp only [AW.next_push, AW.next_put]; omega) | ((repeat refine Fresh.push ?_ _); assumption) | (simp only [same_int, same_bool, same_ptr, same_slice, same_sliceP, same_nil, same_agg2, same_string]; done) | (simp [oneCell, AW.next_push]; done) | fail) only [go_sem, Nat.reduceEqDiff, reduceIte, Nat.reduceAdd, Int.toNat_natCast, Nat.add_zero, Owes_true, Try.results18]
  apply callV_of (e := rfl)
  · exact refspread_ok D _ s _ g1.2 (hs.grown g1) hD hl h0 h1
  rintro _ w2 ⟨u, rfl, hA, hg2⟩
  simp -dsimp -implicitDefEqProofs (maxSteps := 2000000) (disch := first | assumption | omega | (simp only [AW.next_push, AW.next_put]; omega) | ((repeat refine Fresh.push ?_ _); assumption) | (simp only [same_int, same_bool, same_ptr, same_slice, same_sliceP, same_nil, same_agg2, same_string]; done) | (simp [oneCell, AW.next_push]; done) | fail) only [go_sem, Nat.reduceEqDiff, reduceIte, Nat.reduceAdd, Int.toNat_natCast, Nat.add_zero, Owes_true, Try.results18]
  exact ⟨u, by rw [hE, hL], by rw [hO]; exact hA, g1.trans hg2⟩
theorem same_ok (xs ys : List Int) (v u : Value) (w : AW) (f : Fresh w) (hx : ArrOf w 1 icells v xs) (hy : ArrOf w 1 icells u ys) :
    CallT Try.prog Try.T1 (.fn (.func 16) #[]) #[v, u] w (Ret (.bool (decide (xs = ys))) (Grown w)) := by
  obtain ⟨p, cap, rfl, hcap, hmax, hat⟩ := hx.open
  obtain ⟨q, cap2, rfl, hcap2, hmax2, hat2⟩ := hy.open
  refine callT_code rfl Try.func16 rfl Try.s16_eq rfl ?_
  unfold Try.s16
  simp -dsimp -implicitDefEqProofs (maxSteps := 2000000) (disch := first | assumption | omega | (simp only [AW.next_push, AW.next_put]; omega) | ((repeat refine Fresh.push ?_ _); assumption) | (simp only [same_int, same_bool, same_ptr, same_slice, same_sliceP, same_nil, same_agg2, same_string]; done) | (simp [oneCell, AW.next_push]; done) | fail) only [go_sem, Nat.reduceEqDiff, reduceIte, Nat.reduceAdd, Int.toNat_natCast, Nat.add_zero, Owes_true, Try.results16]
  refine loopR (fun k t ds w1 => ∃ i : Nat, i ≤ xs.length ∧ k = xs.length - i ∧ ds = [] ∧ ev t (.tmp 0) = .slice p xs.length cap ∧ ev t (.tmp 1) = .slice q ys.length cap2 ∧ ev t (.tmp 5) = .bool (decide ((xs.length : Int) = (ys.length : Int)) && decide (xs.take i = ys.take i)) ∧ ev t (.tmp 6) = .int .i64 (i : Int) ∧ w = w1) (xs.length) ?_ ?_
  · refine ⟨0, by omega, by omega, rfl, ?_, ?_, ?_, ?_, rfl⟩ <;> simp -dsimp -implicitDefEqProofs (maxSteps := 2000000) (disch := first | assumption | omega | (simp only [AW.next_push, AW.next_put]; omega) | ((repeat refine Fresh.push ?_ _); assumption) | (simp only [same_int, same_bool, same_ptr, same_slice, same_sliceP, same_nil, same_agg2, same_string]; done) | (simp [oneCell, AW.next_push]; done) | fail) only [go_sem, Nat.reduceEqDiff, reduceIte, Nat.reduceAdd, Int.toNat_natCast, Nat.add_zero, Owes_true, List.take_zero, decide_true] <;> rfl
  rintro k t ds w1 ⟨i, hii, rfl, rfl, e0, e1, e5, e6, hw⟩
  subst hw
  by_cases hl : (xs.length : Int) = (ys.length : Int)
  case neg =>
    have hne : ¬ xs = ys := fun e => hl (by rw [e])
    simp -dsimp -implicitDefEqProofs (maxSteps := 2000000) (disch := first | assumption | omega | (simp only [AW.next_push, AW.next_put]; omega) | ((repeat refine Fresh.push ?_ _); assumption) | (simp only [same_int, same_bool, same_ptr, same_slice, same_sliceP, same_nil, same_agg2, same_string]; done) | (simp [oneCell, AW.next_push]; done) | fail) only [go_sem, Nat.reduceEqDiff, reduceIte, Nat.reduceAdd, Int.toNat_natCast, Nat.add_zero, Owes_true, Try.results16, e0, e1, e5, e6, hl, hne]
    exact ⟨rfl, .refl f⟩
  have hl' : xs.length = ys.length := by omega
  by_cases ht : xs.take i = ys.take i
  case neg =>
    have hne : ¬ xs = ys := fun e => ht (by rw [e])
    simp -dsimp -implicitDefEqProofs (maxSteps := 2000000) (disch := first | assumption | omega | (simp only [AW.next_push, AW.next_put]; omega) | ((repeat refine Fresh.push ?_ _); assumption) | (simp only [same_int, same_bool, same_ptr, same_slice, same_sliceP, same_nil, same_agg2, same_string]; done) | (simp [oneCell, AW.next_push]; done) | fail) only [go_sem, Nat.reduceEqDiff, reduceIte, Nat.reduceAdd, Int.toNat_natCast, Nat.add_zero, Owes_true, Try.results16, e0, e1, e5, e6, hl, ht, hne]
    exact ⟨rfl, .refl f⟩
  by_cases hlt : (i : Int) < (xs.length : Int)
  case neg =>
    have heq : xs = ys := by
      rw [List.take_of_length_le (by omega), List.take_of_length_le (by omega)] at ht; exact ht
    subst heq
    simp -dsimp -implicitDefEqProofs (maxSteps := 2000000) (disch := first | assumption | omega | (simp only [AW.next_push, AW.next_put]; omega) | ((repeat refine Fresh.push ?_ _); assumption) | (simp only [same_int, same_bool, same_ptr, same_slice, same_sliceP, same_nil, same_agg2, same_string]; done) | (simp [oneCell, AW.next_push]; done) | fail) only [go_sem, Nat.reduceEqDiff, reduceIte, Nat.reduceAdd, Int.toNat_natCast, Nat.add_zero, Owes_true, Try.results16, e0, e1, e5, e6, hlt]
    exact ⟨rfl, .refl f⟩
  have hlt1 : i < xs.length := by omega
  have hlt2 : i < ys.length := by omega
  have hlt2' : (i : Int) < (ys.length : Int) := by omega
  obtain ⟨b1, o1, rfl, hb1, hcell⟩ := hat i hlt1
  obtain ⟨b2, o2, rfl, hb2, hcell2⟩ := hat2 i hlt2
  have hc0 := hcell w (.refl _ _) 0 _ rfl
  have hd0 := hcell2 w (.refl _ _) 0 _ rfl
  rw [Nat.add_zero] at hc0 hd0
  have hnext : decide (xs.take (i + 1) = ys.take (i + 1)) = decide (xs[i] = ys[i]) := by
    rw [List.take_succ_eq_append_getElem hlt1, List.take_succ_eq_append_getElem hlt2, ht]
    exact decide_eq_decide.2 ⟨fun h => (List.cons.inj (List.append_cancel_left h)).1, fun h => by rw [h]⟩
  have hlt3 : ¬ (i : Int) < (ys.length : Int) → False := fun h => h hlt2'
  have hdl : decide ((xs.length : Int) = (ys.length : Int)) = true := decide_eq_true hl
  have hdt : decide (xs.take i = ys.take i) = true := decide_eq_true ht
  simp -dsimp -implicitDefEqProofs (maxSteps := 2000000) (disch := first | assumption | omega | (simp only [AW.next_push, AW.next_put]; omega) | ((repeat refine Fresh.push ?_ _); assumption) | (simp only [same_int, same_bool, same_ptr, same_slice, same_sliceP, same_nil, same_agg2, same_string]; done) | (simp [oneCell, AW.next_push]; done) | fail) only [go_sem, Nat.reduceEqDiff, reduceIte, Nat.reduceAdd, Int.toNat_natCast, Nat.add_zero, Owes_true, Try.results16, e0, e1, e5, e6, hdl, hdt, hlt, hlt2', indexV_eq, hc0, hd0]
  refine ⟨_, by omega, i + 1, by omega, rfl, rfl, by simp -dsimp -implicitDefEqProofs (maxSteps := 2000000) (disch := first | assumption | omega | (simp only [AW.next_push, AW.next_put]; omega) | ((repeat refine Fresh.push ?_ _); assumption) | (simp only [same_int, same_bool, same_ptr, same_slice, same_sliceP, same_nil, same_agg2, same_string]; done) | (simp [oneCell, AW.next_push]; done) | fail) only [go_sem, Nat.reduceEqDiff, reduceIte, Nat.reduceAdd, Int.toNat_natCast, Nat.add_zero, Owes_true, e0], by simp -dsimp -implicitDefEqProofs (maxSteps := 2000000) (disch := first | assumption | omega | (simp only [AW.next_push, AW.next_put]; omega) | ((repeat refine Fresh.push ?_ _); assumption) | (simp only [same_int, same_bool, same_ptr, same_slice, same_sliceP, same_nil, same_agg2, same_string]; done) | (simp [oneCell, AW.next_push]; done) | fail) only [go_sem, Nat.reduceEqDiff, reduceIte, Nat.reduceAdd, Int.toNat_natCast, Nat.add_zero, Owes_true, e1], ?_, by (simp -dsimp -implicitDefEqProofs (maxSteps := 2000000) (disch := first | assumption | omega | (simp only [AW.next_push, AW.next_put]; omega) | ((repeat refine Fresh.push ?_ _); assumption) | (simp only [same_int, same_bool, same_ptr, same_slice, same_sliceP, same_nil, same_agg2, same_string]; done) | (simp [oneCell, AW.next_push]; done) | fail) only [go_sem, Nat.reduceEqDiff, reduceIte, Nat.reduceAdd, Int.toNat_natCast, Nat.add_zero, Owes_true, e6]; try rfl), rfl⟩
  simp -dsimp -implicitDefEqProofs (maxSteps := 2000000) (disch := first | assumption | omega | (simp only [AW.next_push, AW.next_put]; omega) | ((repeat refine Fresh.push ?_ _); assumption) | (simp only [same_int, same_bool, same_ptr, same_slice, same_sliceP, same_nil, same_agg2, same_string]; done) | (simp [oneCell, AW.next_push]; done) | fail) only [go_sem, Nat.reduceEqDiff, reduceIte, Nat.reduceAdd, Int.toNat_natCast, Nat.add_zero, Owes_true, hnext, hdl]
theorem Try.und3 : Try.prog.underlying 3 = some (.int .i64) := by kernel_rfl
theorem Try.und22 : Try.prog.underlying 22 = some (.slice 3) := by kernel_rfl
theorem Try.und23 : Try.prog.underlying 23 = some (.slice 76) := by kernel_rfl
theorem Try.cells3 : Try.prog.cellsOf 3 = 1 := by kernel_rfl
theorem Try.cells76 : Try.prog.cellsOf 76 = 2 := by kernel_rfl
theorem given_int {w : AW} {n : Nat} {cs : List Value} (h : Hd Try.prog w n 3 cs) : ∃ x : Int, cs = icells x := by
  cases n with
  | zero => exact h.elim
  | succ n =>
    simp only [Hd, Try.und3] at h
    obtain ⟨i, rfl, _⟩ := h
    exact ⟨i, rfl⟩
theorem given_num {w : AW} {n : Nat} {v : Value} (h : HdV Try.prog w n 3 v) : ∃ x : Int, v = .int .i64 x := by
  simp only [HdV, Try.und3] at h
  obtain ⟨x, e⟩ := given_int h
  injection e with e
  exact ⟨x, e⟩
theorem given_ints {w : AW} {n : Nat} {cs : List Value} (h : Hd Try.prog w n 22 cs) : ∃ v, cs = [v] ∧ ∃ xs, ArrOf w 1 icells v xs := by
  cases n with
  | zero => exact h.elim
  | succ n =>
    simp only [Hd, Try.und22, Try.cells3] at h
    obtain ⟨v, rows, rfl, ha, hr, hgv⟩ := h
    obtain ⟨xs, rfl⟩ := rows_of fun r hq => given_int (hr r hq)
    exact ⟨v, rfl, xs, ha⟩
theorem given_intsV {w : AW} {n : Nat} {v : Value} (h : HdV Try.prog w n 22 v) : ∃ xs, ArrOf w 1 icells v xs := by
  simp only [HdV, Try.und22] at h
  obtain ⟨u, e, xs, hx⟩ := given_ints h
  injection e with e
  subst e
  exact ⟨xs, hx⟩
theorem Try.und76 : Try.prog.underlying 76 = some (.struct #[{ name := "Rank", type := 3, offset := 0, embedded := false, tag := "", pkgPath := "", byteOffset := 0 }, { name := "Amount", type := 3, offset := 1, embedded := false, tag := "", pkgPath := "", byteOffset := 8 }]) := by kernel_rfl
theorem given_due {w : AW} {n : Nat} {cs : List Value} (h : Hd Try.prog w n 76 cs) : ∃ d : DueN, cs = dcells d := by
  cases n with
  | zero => exact h.elim
  | succ n =>
    simp only [Hd, Try.und76] at h
    obtain ⟨parts, rfl, hl, hp⟩ := h
    match parts, hl with
    | [p0, p1], _ =>
      obtain ⟨x0, rfl⟩ := given_int (hp 0 _ p0 rfl rfl)
      obtain ⟨x1, rfl⟩ := given_int (hp 1 _ p1 rfl rfl)
      exact ⟨⟨x0, x1⟩, rfl⟩
theorem given_dues {w : AW} {n : Nat} {cs : List Value} (h : Hd Try.prog w n 23 cs) : ∃ v, cs = [v] ∧ ∃ xs, ArrOf w 2 dcells v xs := by
  cases n with
  | zero => exact h.elim
  | succ n =>
    simp only [Hd, Try.und23, Try.cells76] at h
    obtain ⟨v, rows, rfl, ha, hr, hgv⟩ := h
    obtain ⟨xs, rfl⟩ := rows_of fun r hq => given_due (hr r hq)
    exact ⟨v, rfl, xs, ha⟩
theorem given_duesV {w : AW} {n : Nat} {v : Value} (h : HdV Try.prog w n 23 v) : ∃ xs, ArrOf w 2 dcells v xs := by
  simp only [HdV, Try.und23] at h
  obtain ⟨u, e, xs, hx⟩ := given_dues h
  injection e with e
  subst e
  exact ⟨xs, hx⟩
end Go.Proofs
