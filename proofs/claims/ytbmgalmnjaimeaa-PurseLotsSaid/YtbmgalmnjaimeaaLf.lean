/- All that a lot brought is in its portions: the law on the machine. -/
import Derived.Test.YtbmgalmnjaimeaaPc
set_option linter.unusedVariables false
set_option linter.unusedSimpArgs false
/- All that a lot brought is in its portions: the law on the machine. -/
namespace Go.Proofs
open Go Go.RowKit Go.Sim
set_option maxRecDepth 100000
theorem same_sliceN (k : Nat) (p : Option Addr) (n c : Nat) : same (k + 1) (.slice p n c) (.slice p n c) = true := by
  cases p with
  | none => simp [same]
  | some a => obtain ⟨b, o, s⟩ := a; cases s <;> simp [same]
theorem same_tup3 (p : Option Addr) (n c : Nat) (a b : Int) : same 12 (.tuple #[.slice p n c, .int .i64 a, .int .i64 b]) (.tuple #[.slice p n c, .int .i64 a, .int .i64 b]) = true := by
  have h := same_sliceN 10 p n c
  simp only [same, same.all, h]
  simp [same, intEq_eq]
/-- A portion's three cells, at a place. -/
theorem port_at {w : AW} {u : Value} {Q : List Int} {Ds : List (List DueN)} {zs : List PortV} (h : ArrOf w 3 pcells u zs) (hok : PortOk w Q Ds zs) : ∃ p cap, u = .slice p zs.length cap ∧ ∀ i (hi : i < zs.length), ∃ b o q m c, p = some ⟨b, o, none⟩ ∧ ArrOf w 1 icells (.slice q m c) (paidN (Ds.getD i []) (W Q i) 10) ∧ ∀ w', Keep w.next w w' → w'.cell? ⟨b, o + i * 3, none⟩ = some (.int .i64 (W Q i)) ∧ w'.cell? ⟨b, o + i * 3 + 1, none⟩ = some (.slice q m c) ∧ w'.cell? ⟨b, o + i * 3 + 2, none⟩ = some (.int .i64 (leftN (Ds.getD i []) (W Q i) 10)) := by
  obtain ⟨p, cap, rfl, _, _, hat⟩ := h.open
  refine ⟨p, cap, rfl, fun i hi => ?_⟩
  obtain ⟨b, o, rfl, _, hcell⟩ := hat i hi
  obtain ⟨h1, h2, h3⟩ := hok i hi
  obtain ⟨q, c, hd, _⟩ := id h3.open
  rw [hd] at h3
  refine ⟨b, o, q, _, c, rfl, h3, fun w' hk => ⟨?_, ?_, ?_⟩⟩
  · have := hcell w' hk 0 _ rfl
    rw [Nat.add_zero] at this
    rw [this, h1]
  · have := hcell w' hk 1 zs[i].pv rfl
    rw [this, hd]
  · have := hcell w' hk 2 _ rfl
    rw [this, h2]
set_option maxHeartbeats 8000000 in
theorem whole_law (w : AW) (xs : List Value) (f : Fresh w) (h : HdAll Try.prog w [3, 32] xs) : CallT Try.prog Try.T1 (.fn (.func 10) #[]) xs.toArray w fun v _ => v = .bool true := by
  cases h with
  | cons n1 h1 h =>
  cases h with
  | cons n2 h2 h =>
  cases h
  rename_i v1 v2
  obtain ⟨pr, rfl⟩ := given_num h1
  obtain ⟨xs, Ds, hs, _⟩ := given_parts h2
  clear h1 h2
  obtain ⟨p, cap, rfl, hat⟩ := hs.at
  show CallT Try.prog Try.T1 (.fn (.func 10) #[]) #[.int .i64 pr, .slice p xs.length cap] w _
  refine callT_code rfl Try.func10 rfl Try.s10_eq rfl ?_
  unfold Try.s10
  simp -dsimp -implicitDefEqProofs (maxSteps := 2000000) (disch := first | assumption | omega | (simp only [AW.next_push, AW.next_put]; omega) | ((repeat refine Fresh.push ?_ _); assumption) | (simp only [same_int, same_bool, same_ptr, same_slice, same_sliceP, same_nil, same_agg2, same_string]; done) | (simp [oneCell, AW.next_push]; done) | fail) only [go_sem, Nat.reduceEqDiff, reduceIte, Nat.reduceAdd, Int.toNat_natCast, Nat.add_zero, Owes_true, Try.results10]
  apply callV_of (e := rfl)
  · exact Portions_ok pr xs Ds _ w f hs
  rintro _ w1 ⟨u, zs, rfl, ⟨hA, hz1, hz2⟩, g1⟩
  by_cases hE : portE pr xs Ds = 0
  case neg =>
    obtain rfl := hz2 hE
    obtain ⟨p1, c1, rfl, _⟩ := hA.open
    have hl0 : decide ((([] : List PortV).length : Int) = 0) = true := rfl
    simp -dsimp -implicitDefEqProofs (maxSteps := 2000000) (disch := first | assumption | omega | (simp only [AW.next_push, AW.next_put]; omega) | ((repeat refine Fresh.push ?_ _); assumption) | (simp only [same_int, same_bool, same_ptr, same_slice, same_sliceP, same_nil, same_agg2, same_string]; done) | (simp [oneCell, AW.next_push]; done) | fail) only [go_sem, Nat.reduceEqDiff, reduceIte, Nat.reduceAdd, Int.toNat_natCast, Nat.add_zero, Owes_true, Try.results10, hE, ne_eq, not_false_eq_true, hl0]
    apply callV_of (e := rfl)
    · exact callT_told (Q := fun v w' => v = .bool true ∧ w1 = w') (v := .bool true) (w' := w1) rfl ⟨rfl, rfl⟩
    rintro _ _ ⟨rfl, rfl⟩
    simp -dsimp -implicitDefEqProofs (maxSteps := 2000000) (disch := first | assumption | omega | (simp only [AW.next_push, AW.next_put]; omega) | ((repeat refine Fresh.push ?_ _); assumption) | (simp only [same_int, same_bool, same_ptr, same_slice, same_sliceP, same_nil, same_agg2, same_string]; done) | (simp [oneCell, AW.next_push]; done) | fail) only [go_sem, Nat.reduceEqDiff, reduceIte, Nat.reduceAdd, Int.toNat_natCast, Nat.add_zero, Owes_true, Try.results10]
  obtain ⟨hzl, hok⟩ := hz1 hE
  clear hz1 hz2
  have hI := portE_in hE
  have hpr := hI.pr
  have hlen8 := hI.len
  have hdl := hs.len
  obtain ⟨hsh, hsum⟩ := share_is hI.wgt.nn hI.wgt.sum.1 hpr.1
  have hQl := hsh.len
  rw [List.length_map] at hQl
  have hle := fun i => W_le_sum hsh.nn i
  have hnn := hsh.nn
  have htk : ∀ n, 0 ≤ ((shareL (xs.map PartV.v) pr).take n).sum ∧ ((shareL (xs.map PartV.v) pr).take n).sum ≤ pr := fun n => by
    have a := sum_nn (l := (shareL (xs.map PartV.v) pr).take n) (fun i => by
      rcases Nat.lt_or_ge i ((shareL (xs.map PartV.v) pr).take n).length with q | q
      · rw [W_at q, List.getElem_take, ← W_at]; exact hnn i
      · rw [W_out q]; exact Int.le_refl _)
    refine ⟨a, ?_⟩
    have b := sum_le (l := ((shareL (xs.map PartV.v) pr).take n) ++ List.replicate ((shareL (xs.map PartV.v) pr).length - n) 0) (m := shareL (xs.map PartV.v) pr) (by simp; omega) (fun i hi => by
      rcases Nat.lt_or_ge i ((shareL (xs.map PartV.v) pr).take n).length with q | q
      · rw [W_at hi, List.getElem_append_left q, List.getElem_take, ← W_at]; exact Int.le_refl _
      · rw [W_at hi, List.getElem_append_right q, List.getElem_replicate]; exact hnn i)
    rw [List.sum_append_int] at b
    have e : ∀ n : Nat, (List.replicate n (0 : Int)).sum = 0 := by
      intro n
      induction n with
      | zero => simp
      | succ n ih => rw [List.replicate_succ, List.sum_cons, ih]; rfl
    rw [e] at b
    omega
  generalize shareL (xs.map PartV.v) pr = Q at *
  obtain ⟨p1, c1, rfl, hat1⟩ := port_at hA hok
  have hzlI : (zs.length : Int) = (xs.length : Int) := by omega
  simp -dsimp -implicitDefEqProofs (maxSteps := 2000000) (disch := first | assumption | omega | (simp only [AW.next_push, AW.next_put]; omega) | ((repeat refine Fresh.push ?_ _); assumption) | (simp only [same_int, same_bool, same_ptr, same_slice, same_sliceP, same_nil, same_agg2, same_string]; done) | (simp [oneCell, AW.next_push]; done) | fail) only [go_sem, Nat.reduceEqDiff, reduceIte, Nat.reduceAdd, Int.toNat_natCast, Nat.add_zero, Owes_true, Try.results10, hE, hzlI]
  refine loopR (fun k t ds w2 => ∃ i : Nat, i ≤ zs.length ∧ k = zs.length - i ∧ ds = [] ∧ ev t (.tmp 0) = .int .i64 pr ∧ ev t (.tmp 1) = .slice p xs.length cap ∧ ev t (.tmp 5) = .slice p1 zs.length c1 ∧ ev t (.tmp 7) = .int .i64 (Q.take i).sum ∧ ev t (.tmp 8) = .int .i64 (i : Int) ∧ Grown w1 w2) (zs.length) ?_ ?_
  · refine ⟨0, by omega, by omega, rfl, ?_, ?_, ?_, ?_, ?_, Grown.refl g1.2⟩ <;> simp -dsimp -implicitDefEqProofs (maxSteps := 2000000) (disch := first | assumption | omega | (simp only [AW.next_push, AW.next_put]; omega) | ((repeat refine Fresh.push ?_ _); assumption) | (simp only [same_int, same_bool, same_ptr, same_slice, same_sliceP, same_nil, same_agg2, same_string]; done) | (simp [oneCell, AW.next_push]; done) | fail) only [go_sem, Nat.reduceEqDiff, reduceIte, Nat.reduceAdd, Int.toNat_natCast, Nat.add_zero, Owes_true] <;> rfl
  rintro k t ds w2 ⟨i, hii, rfl, rfl, e0, e1, e5, e7, e8, hg⟩
  have gg := g1.trans hg
  by_cases hlt : (i : Int) < (zs.length : Int)
  case neg =>
    obtain rfl : i = zs.length := by omega
    rw [List.take_of_length_le (by omega), hsum] at e7
    simp -dsimp -implicitDefEqProofs (maxSteps := 2000000) (disch := first | assumption | omega | (simp only [AW.next_push, AW.next_put]; omega) | ((repeat refine Fresh.push ?_ _); assumption) | (simp only [same_int, same_bool, same_ptr, same_slice, same_sliceP, same_nil, same_agg2, same_string]; done) | (simp [oneCell, AW.next_push]; done) | fail) only [go_sem, Nat.reduceEqDiff, reduceIte, Nat.reduceAdd, Int.toNat_natCast, Nat.add_zero, Owes_true, Try.results10, e0, e1, e5, e7, e8, hlt]
    apply callV_of (e := rfl)
    · exact callT_told (Q := fun v w' => v = .bool true ∧ w2 = w') (v := .bool true) (w' := w2) rfl ⟨rfl, rfl⟩
    rintro _ _ ⟨rfl, rfl⟩
    simp -dsimp -implicitDefEqProofs (maxSteps := 2000000) (disch := first | assumption | omega | (simp only [AW.next_push, AW.next_put]; omega) | ((repeat refine Fresh.push ?_ _); assumption) | (simp only [same_int, same_bool, same_ptr, same_slice, same_sliceP, same_nil, same_agg2, same_string]; done) | (simp [oneCell, AW.next_push]; done) | fail) only [go_sem, Nat.reduceEqDiff, reduceIte, Nat.reduceAdd, Int.toNat_natCast, Nat.add_zero, Owes_true, Try.results10]
  have hlt' : i < zs.length := by omega
  have hltx : i < xs.length := by omega
  have hltxI : (i : Int) < (xs.length : Int) := by omega
  have hltD : i < Ds.length := by omega
  obtain ⟨b1, o1, q, m, c, rfl, hdu, hcell⟩ := hat i hltx
  obtain ⟨_, _, a2⟩ := hcell w2 gg.1
  obtain ⟨b2, o2, q2, m2, c2, rfl, hP, hcell2⟩ := hat1 i hlt'
  obtain ⟨d0, d1, d2⟩ := hcell2 w2 hg.1
  have hgd : Ds.getD i [] = Ds[i] := getD_at hltD
  have hDi := hI.dues _ (List.getElem_mem hltD)
  have hdB : duesB Ds[i] = true := by
    have := hI.all
    rw [List.all_eq_true] at this
    exact this _ (List.getElem_mem hltD)
  have hq0 := hnn i
  have hq1 := hle i
  have hD2 := (hs.dues i hltx hltD).grown gg
  rw [hdu] at hD2
  rw [hgd] at hP d2
  have hE2 : spreadE Ds[i] (W Q i) = 0 := by
    have q2 : inR 0 (W Q i) 34359738368 = true := (inR_iff _ _ _).2 ⟨by omega, by omega⟩
    rw [spreadE, if_neg (by rw [hdB]; simp), if_neg (by rw [q2]; simp)]
  have hO2 : spreadO Ds[i] (W Q i) = paidN Ds[i] (W Q i) 10 := by rw [spreadO, if_pos hE2]
  have hL2 : spreadL Ds[i] (W Q i) = leftN Ds[i] (W Q i) 10 := by rw [spreadL, if_pos hE2]
  have hps := paidN_sum hDi.1 hq0 10
  have hl0 := leftN_nn hDi.1.nn hq0 10
  have hpn : NN (paidN Ds[i] (W Q i) 10) := fun j => by
    rcases Nat.lt_or_ge j Ds[i].length with z | z
    · exact (paid_in hDi.1 hq0 z).1
    · rw [W_out (by rw [paidN_len]; exact z)]; exact Int.le_refl _
  have hsn := small_nn hpn (by omega)
  have hspr : ∀ w', ArrOf w' 2 dcells (.slice q m c) Ds[i] → Fresh w' → _ := fun w' a b => Spread_ok Ds[i] (.slice q m c) (W Q i) w' b a
  simp only [hE2, hO2, hL2] at hspr
  generalize paidN Ds[i] (W Q i) 10 = P at *
  generalize hlf : leftN Ds[i] (W Q i) 10 = lf at *
  simp -dsimp -implicitDefEqProofs (maxSteps := 2000000) (disch := first | assumption | omega | (simp only [AW.next_push, AW.next_put]; omega) | ((repeat refine Fresh.push ?_ _); assumption) | (simp only [same_int, same_bool, same_ptr, same_slice, same_sliceP, same_nil, same_agg2, same_string]; done) | (simp [oneCell, AW.next_push]; done) | fail) only [go_sem, Nat.reduceEqDiff, reduceIte, Nat.reduceAdd, Int.toNat_natCast, Nat.add_zero, Owes_true, Try.results10, e0, e1, e5, e7, e8, hlt, hltxI, indexV_eq, a2, d0]
  apply callV_of (e := rfl)
  · exact hspr w2 hD2 gg.2
  rintro _ w3 ⟨u3, rfl, hA3, hg3⟩
  obtain ⟨p3, c3, rfl, _⟩ := id hA3.open
  have g3 := hg.trans hg3
  obtain ⟨d0, d1, d2⟩ := hcell2 w3 g3.1
  rw [hgd, hlf] at d2
  have htp := same_tup3 p3 P.length c3 lf 0
  have hP3 := hP.grown g3
  simp -dsimp -implicitDefEqProofs (maxSteps := 2000000) (disch := first | assumption | omega | (simp only [AW.next_push, AW.next_put]; omega) | ((repeat refine Fresh.push ?_ _); assumption) | (simp only [same_int, same_bool, same_ptr, same_slice, same_sliceP, same_nil, same_agg2, same_string]; done) | (simp [oneCell, AW.next_push]; done) | fail) only [go_sem, Nat.reduceEqDiff, reduceIte, Nat.reduceAdd, Int.toNat_natCast, Nat.add_zero, Owes_true, Try.results10, e0, e1, e5, e7, e8, hlt, indexV_eq, d0, d1, d2, htp]
  apply callV_of (e := rfl)
  · exact same_ok _ _ _ _ w3 (g1.trans g3).2 hA3 hP3
  rintro _ w4 ⟨rfl, hg4⟩
  have e : decide (P = P) = true := decide_eq_true rfl
  rw [e]
  have g4 := g3.trans hg4
  obtain ⟨d0, d1, d2⟩ := hcell2 w4 g4.1
  rw [hgd, hlf] at d2
  have hP4 := hP3.grown hg4
  have hle4 := WLe.refl w4
  simp -dsimp -implicitDefEqProofs (maxSteps := 2000000) (disch := first | assumption | omega | (simp only [AW.next_push, AW.next_put]; omega) | ((repeat refine Fresh.push ?_ _); assumption) | (simp only [same_int, same_bool, same_ptr, same_slice, same_sliceP, same_nil, same_agg2, same_string]; done) | (simp [oneCell, AW.next_push]; done) | fail) only [go_sem, Nat.reduceEqDiff, reduceIte, Nat.reduceAdd, Int.toNat_natCast, Nat.add_zero, Owes_true, Try.results10, e0, e1, e5, e7, e8, hlt, indexV_eq, d0, d1, d2]
  apply callV_of (e := rfl)
  · exact Sum_ok _ _ w4 hP4 hsn
  rintro _ _ ⟨rfl, rfl⟩
  have htkn := take_sum (l := Q) (n := i) (by omega)
  have hb1 := htk i
  have hb2 := htk (i + 1)
  simp -dsimp -implicitDefEqProofs (maxSteps := 2000000) (disch := first | assumption | omega | (simp only [AW.next_push, AW.next_put]; omega) | ((repeat refine Fresh.push ?_ _); assumption) | (simp only [same_int, same_bool, same_ptr, same_slice, same_sliceP, same_nil, same_agg2, same_string]; done) | (simp [oneCell, AW.next_push]; done) | fail) only [go_sem, Nat.reduceEqDiff, reduceIte, Nat.reduceAdd, Int.toNat_natCast, Nat.add_zero, Owes_true, Try.results10, e0, e1, e5, e7, e8, hlt, indexV_eq, d0, d1, d2, hle4, hps]
  refine ⟨_, by omega, i + 1, by omega, rfl, rfl, by (simp -dsimp -implicitDefEqProofs (maxSteps := 2000000) (disch := first | assumption | omega | (simp only [AW.next_push, AW.next_put]; omega) | ((repeat refine Fresh.push ?_ _); assumption) | (simp only [same_int, same_bool, same_ptr, same_slice, same_sliceP, same_nil, same_agg2, same_string]; done) | (simp [oneCell, AW.next_push]; done) | fail) only [go_sem, Nat.reduceEqDiff, reduceIte, Nat.reduceAdd, Int.toNat_natCast, Nat.add_zero, Owes_true, e0, htkn]; try rfl), by (simp -dsimp -implicitDefEqProofs (maxSteps := 2000000) (disch := first | assumption | omega | (simp only [AW.next_push, AW.next_put]; omega) | ((repeat refine Fresh.push ?_ _); assumption) | (simp only [same_int, same_bool, same_ptr, same_slice, same_sliceP, same_nil, same_agg2, same_string]; done) | (simp [oneCell, AW.next_push]; done) | fail) only [go_sem, Nat.reduceEqDiff, reduceIte, Nat.reduceAdd, Int.toNat_natCast, Nat.add_zero, Owes_true, e1, htkn]; try rfl), by (simp -dsimp -implicitDefEqProofs (maxSteps := 2000000) (disch := first | assumption | omega | (simp only [AW.next_push, AW.next_put]; omega) | ((repeat refine Fresh.push ?_ _); assumption) | (simp only [same_int, same_bool, same_ptr, same_slice, same_sliceP, same_nil, same_agg2, same_string]; done) | (simp [oneCell, AW.next_push]; done) | fail) only [go_sem, Nat.reduceEqDiff, reduceIte, Nat.reduceAdd, Int.toNat_natCast, Nat.add_zero, Owes_true, e5, htkn]; try rfl), by (simp -dsimp -implicitDefEqProofs (maxSteps := 2000000) (disch := first | assumption | omega | (simp only [AW.next_push, AW.next_put]; omega) | ((repeat refine Fresh.push ?_ _); assumption) | (simp only [same_int, same_bool, same_ptr, same_slice, same_sliceP, same_nil, same_agg2, same_string]; done) | (simp [oneCell, AW.next_push]; done) | fail) only [go_sem, Nat.reduceEqDiff, reduceIte, Nat.reduceAdd, Int.toNat_natCast, Nat.add_zero, Owes_true, e7, htkn]; try rfl), by (simp -dsimp -implicitDefEqProofs (maxSteps := 2000000) (disch := first | assumption | omega | (simp only [AW.next_push, AW.next_put]; omega) | ((repeat refine Fresh.push ?_ _); assumption) | (simp only [same_int, same_bool, same_ptr, same_slice, same_sliceP, same_nil, same_agg2, same_string]; done) | (simp [oneCell, AW.next_push]; done) | fail) only [go_sem, Nat.reduceEqDiff, reduceIte, Nat.reduceAdd, Int.toNat_natCast, Nat.add_zero, Owes_true, e8, htkn]; try rfl), g4⟩
end Go.Proofs
