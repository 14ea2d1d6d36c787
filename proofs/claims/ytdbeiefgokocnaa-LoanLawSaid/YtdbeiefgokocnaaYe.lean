/- Loans: the law of the law, on the machine. -/
import Derived.Test.YtdbeiefgokocnaaYd
set_option linter.unusedVariables false
set_option linter.unusedSimpArgs false
/- Loans: the law of the law, on the machine. -/
namespace Go.Proofs
open Go Go.RowKit Go.Sim
set_option maxRecDepth 100000
/-- The round of a loop that several roads come to. -/
def StepJ (I : Nat → Tmps → List DI → AW → Prop) (R : Tmps → List DI → AW → Post → Prop) (Q : Post) : Prop := ∀ k t ds w, I k t ds w → R t ds w (loopQ I k Q)
theorem loopJ {R : Tmps → List DI → AW → Post → Prop} {t : Tmps} {ds : List DI} {w : AW} {Q : Post} {x : Tok (R, t, ds, w, Q)} (I : Nat → Tmps → List DI → AW → Prop) (k : Nat) (h : I k t ds w) (step : StepJ I R Q) : LoopR R t ds w Q x := loopR I k h step
theorem joinMain {G : Prop} {I : Nat → Tmps → List DI → AW → Prop} {R : Tmps → List DI → AW → Post → Prop} {Q : Post} (mainJ : StepJ I R Q → G) (stepJ : StepJ I R Q) : G := mainJ stepJ
theorem acts_days {d : DealN} {cl : List Int} {l : List ActN} (hi : 0 ≤ d.st) (hacts : actsTo d.st l = true) : ∀ k (h : k < l.length), 0 ≤ l[k].D ∧ l[k].D ≤ 36500
  | 0, h => by have := acts_at hacts h; rw [dayAt, if_pos rfl] at this; omega
  | k + 1, h => by
    have h1 := acts_days (cl := cl) hi hacts k (by omega)
    have := acts_at hacts h
    rw [dayAt, if_neg (by omega), Nat.add_sub_cancel, getD_at (show k < l.length by omega)] at this
    omega
theorem put_acc {w0 w : AW} {b : Nat} {x : LN} (hg : Grown w0 w) (hb : w0.next ≤ b) (hO : Own w b 70 (accells x)) (y : LN) :
    ∃ w2, storeV w true 5 (.pointer (some ⟨b, 0, none⟩)) (.agg #[.int .i64 y.P, .int .i64 y.C, .int .i64 y.Q, .int .i64 y.A, .bool y.op]) = some w2 ∧ Own w2 b 70 (accells y) ∧ Grown w0 w2 := by
  have h1 := storeV_own (o := 0) (l := accells y) (size := 5) hO rfl (by omega) (by simp [accells]) (List.all_eq_true.mpr (accells_one y))
  exact ⟨_, h1, hO.put _, ⟨hg.1.put hb _, hg.2.put hO.lt _⟩⟩
set_option maxHeartbeats 40000000 in
theorem law_law (w : AW) (xs : List Value) (f : Fresh w) (h : HdAll Try.prog w [56, 68, 3] xs) : CallT Try.prog Try.T1 (.fn (.func 8) #[]) xs.toArray w fun v _ => v = .bool true := by
  cases h with
  | cons n1 h1 h =>
  cases h with
  | cons n2 h2 h =>
  cases h with
  | cons n3 h3 h =>
  cases h
  obtain ⟨d, u, cl, rfl, hs⟩ := given_deal h1
  obtain ⟨l, hl⟩ := given_acts h2
  obtain ⟨day, rfl⟩ := given_num h3
  rename_i ul
  clear h1 h2 h3
  show CallT Try.prog Try.T1 (.fn (.func 8) #[]) #[.agg #[.int .i64 d.r, .int .i64 d.c, .int .i64 d.a, .int .i64 d.fr, .int .i64 d.fe, .int .i64 d.tm, .int .i64 d.gr, u, .int .i64 d.st, .int .i64 d.sm], ul, .int .i64 day] w _
  obtain ⟨p, cap, rfl, _⟩ := id hs.open
  obtain ⟨pl, capl, rfl, hcapl, hmaxl, hatl⟩ := id hl.open
  have g := (Grown.refl f).push (.cells [.int .i64 d.r, .int .i64 d.c, .int .i64 d.a, .int .i64 d.fr, .int .i64 d.fe, .int .i64 d.tm, .int .i64 d.gr, (.slice p cl.length cap), .int .i64 d.st, .int .i64 d.sm] 56 w.next 0 0)
  have hO := Own.new f 56 [.int .i64 d.r, .int .i64 d.c, .int .i64 d.a, .int .i64 d.fr, .int .i64 d.fe, .int .i64 d.tm, .int .i64 d.gr, (.slice p cl.length cap), .int .i64 d.st, .int .i64 d.sm]
  have c0 := (hO).cell (o := 0) rfl rfl
  have c1 := (hO).cell (o := 1) rfl rfl
  have c2 := (hO).cell (o := 2) rfl rfl
  have c3 := (hO).cell (o := 3) rfl rfl
  have c4 := (hO).cell (o := 4) rfl rfl
  have c5 := (hO).cell (o := 5) rfl rfl
  have c6 := (hO).cell (o := 6) rfl rfl
  have c7 := (hO).cell (o := 7) rfl rfl
  have c8 := (hO).cell (o := 8) rfl rfl
  have c9 := (hO).cell (o := 9) rfl rfl
  refine callT_code rfl Try.func8 rfl Try.s8_eq rfl ?_
  unfold Try.s8
  simp -dsimp -implicitDefEqProofs (maxSteps := 2000000) (disch := first | assumption | omega | (simp only [AW.next_push, AW.next_put]; omega) | ((repeat refine Fresh.push ?_ _); assumption) | (simp only [same_int, same_bool, same_ptr, same_slice, same_sliceP, same_nil, same_agg2, same_string]; done) | (simp [oneCell, AW.next_push]; done) | fail) only [go_sem, Nat.reduceEqDiff, reduceIte, Nat.reduceAdd, Int.toNat_natCast, Nat.add_zero, Owes_true, Try.results8, Nat.zero_add, c0, c1, c2, c3, c4, c5, c6, c7, c8, c9]
  apply callV_of (e := rfl)
  · exact Owe_ok d cl l day _ _ _ g.2 (hs.grown g) (hl.grown g)
  rintro _ w1 ⟨rfl, hg1⟩
  have g1 := g.trans hg1
  have hO1 := hO.keep hg1.1
  have f1 := g1.2
  by_cases hE : oweE d cl l day = 0
  case neg =>
    have hX := oweA_bad hE
    rw [hX]
    have hA2 := Own.new f1 70 (accells zacc)
    unfold accells zacc at hA2
    have v0 := (hA2).cell (o := 0) rfl rfl
    have v1 := (hA2).cell (o := 1) rfl rfl
    have v2 := (hA2).cell (o := 2) rfl rfl
    have v3 := (hA2).cell (o := 3) rfl rfl
    have v4 := (hA2).cell (o := 4) rfl rfl
    have t1 : ((0 : Int) == 0) = true := by decide
    have t2 : (false == false) = true := by decide
    have t3 : ((0 : Int) == 0 && ((0 : Int) == 0 && ((0 : Int) == 0 && ((0 : Int) == 0 && ((false == false) && true))))) = true := by decide
    simp -dsimp -implicitDefEqProofs (maxSteps := 2000000) (disch := first | assumption | omega | (simp only [AW.next_push, AW.next_put]; omega) | ((repeat refine Fresh.push ?_ _); assumption) | (simp only [same_int, same_bool, same_ptr, same_slice, same_sliceP, same_nil, same_agg2, same_string]; done) | (simp [oneCell, AW.next_push]; done) | fail) only [go_sem, Nat.reduceEqDiff, reduceIte, Nat.reduceAdd, Int.toNat_natCast, Nat.add_zero, Owes_true, Try.results8, accV, zacc, hE, Nat.zero_add, v0, v1, v2, v3, v4, bldQ_zero, List.all_cons, List.all_nil, id, t1, t2, t3]
    apply callV_of (e := rfl)
    · exact callT_told (Q := fun v w' => v = .bool true ∧ _ = w') (v := .bool true) (w' := _) rfl ⟨rfl, rfl⟩
    rintro _ w8 ⟨rfl, rfl⟩
    simp -dsimp -implicitDefEqProofs (maxSteps := 2000000) (disch := first | assumption | omega | (simp only [AW.next_push, AW.next_put]; omega) | ((repeat refine Fresh.push ?_ _); assumption) | (simp only [same_int, same_bool, same_ptr, same_slice, same_sliceP, same_nil, same_agg2, same_string]; done) | (simp [oneCell, AW.next_push]; done) | fail) only [go_sem, Nat.reduceEqDiff, reduceIte, Nat.reduceAdd, Int.toNat_natCast, Nat.add_zero, Owes_true, Try.results8]
  have hR := owe_ran.1 hE
  have hd := hR.deal
  have hi := (dealB_in hd).1
  have hst := hi.st; have hsm := hi.sm; have hr := hi.r; have hc := hi.c
  have hday := hR.day
  have hgo := hR.ok
  have hacts := hR.acts
  have hlen := hR.len
  have hdys := acts_days (cl := cl) hst.1 hacts
  have hXe := oweA_ok hE
  have hX0 : oweX d cl l day = passL d cl (stA d cl l l.length) day := by unfold oweX stA; rw [List.take_length]
  have hdyl : (stA d cl l l.length).dy ≤ day := by unfold stA; rw [List.take_length]; exact hR.dy
  have hAl := at_ok hd hacts hgo l.length (Nat.le_refl _)
  have hst2 : d.st ≤ day := by have := hAl.ok.dy; omega
  rw [hXe]
  generalize hX : oweX d cl l day = X at *
  have g2 := g1.push (.cells (accells X) 70 w1.next 0 0)
  have hE2 := Own.new f1 70 (accells X)
  have hO2 := hO1.push (.cells (accells X) 70 w1.next 0 0)
  unfold accells at g2 hE2 hO2
  have c0 := (hO2).cell (o := 0) rfl rfl
  have c1 := (hO2).cell (o := 1) rfl rfl
  have c2 := (hO2).cell (o := 2) rfl rfl
  have c3 := (hO2).cell (o := 3) rfl rfl
  have c4 := (hO2).cell (o := 4) rfl rfl
  have c5 := (hO2).cell (o := 5) rfl rfl
  have c6 := (hO2).cell (o := 6) rfl rfl
  have c7 := (hO2).cell (o := 7) rfl rfl
  have c8 := (hO2).cell (o := 8) rfl rfl
  have c9 := (hO2).cell (o := 9) rfl rfl
  simp -dsimp -implicitDefEqProofs (maxSteps := 2000000) (disch := first | assumption | omega | (simp only [AW.next_push, AW.next_put]; omega) | ((repeat refine Fresh.push ?_ _); assumption) | (simp only [same_int, same_bool, same_ptr, same_slice, same_sliceP, same_nil, same_agg2, same_string]; done) | (simp [oneCell, AW.next_push]; done) | fail) only [go_sem, Nat.reduceEqDiff, reduceIte, Nat.reduceAdd, Int.toNat_natCast, Nat.add_zero, Owes_true, Try.results8, accV, hE, Nat.zero_add, ne_eq, not_true, c0, c1, c2, c3, c4, c5, c6, c7, c8, c9]
  generalize w1.push (.cells [.int .i64 X.P, .int .i64 X.C, .int .i64 X.Q, .int .i64 X.A, .bool X.op] 70 w1.next 0 0) = w2 at *
  apply callV_of (e := rfl)
  · exact Run_ok d cl l _ _ w2 g2.2 (hs.grown g2) (hl.grown g2)
  rintro _ w3 ⟨s, ys, rfl, hys, hg3, hrun⟩
  have hrE : runE d cl l = 0 := by rw [runE, if_neg (by rw [hd]; simp), if_neg (by rw [actsB, hacts, decide_eq_true hlen]; simp)]; exact hgo
  rcases hrun with ⟨hbad, _⟩ | ⟨_, hat, hyse, hyl, _, _⟩
  · exact absurd hrE hbad
  have g3 := g2.trans hg3
  have f3 := g3.2
  have hO3 := hO2.keep hg3.1
  have hE3 := hE2.keep hg3.1
  obtain ⟨py, capy, rfl, hcapy, hmaxy, haty⟩ := id hys.open
  have b0 := hO3.lt
  have b7 := hE3.lt
  have l0 : (ys.length : Int) = (l.length : Int) := by omega
  have c0 := (hO3).cell (o := 0) rfl rfl
  have c1 := (hO3).cell (o := 1) rfl rfl
  have c2 := (hO3).cell (o := 2) rfl rfl
  have c3 := (hO3).cell (o := 3) rfl rfl
  have c4 := (hO3).cell (o := 4) rfl rfl
  have c5 := (hO3).cell (o := 5) rfl rfl
  have c6 := (hO3).cell (o := 6) rfl rfl
  have c7 := (hO3).cell (o := 7) rfl rfl
  have c8 := (hO3).cell (o := 8) rfl rfl
  have c9 := (hO3).cell (o := 9) rfl rfl
  simp -dsimp -implicitDefEqProofs (maxSteps := 2000000) (disch := first | assumption | omega | (simp only [AW.next_push, AW.next_put]; omega) | ((repeat refine Fresh.push ?_ _); assumption) | (simp only [same_int, same_bool, same_ptr, same_slice, same_sliceP, same_nil, same_agg2, same_string]; done) | (simp [oneCell, AW.next_push]; done) | fail) only [go_sem, Nat.reduceEqDiff, reduceIte, Nat.reduceAdd, Int.toNat_natCast, Nat.add_zero, Owes_true, Try.results8, hrE, hat, l0, Nat.zero_add, ne_eq, not_true, c0, c1, c2, c3, c4, c5, c6, c7, c8, c9]
  apply callV_of (e := rfl)
  · exact From_ok _ _ _ _
  rintro _ _ ⟨rfl, rfl⟩
  have q1 : inR 0 d.r 10000 = true := (inR_iff _ _ _).2 hr
  have q2 : inR 0 d.c 64 = true := (inR_iff _ _ _).2 hc
  have q3 : inR 0 day 36500 = true := (inR_iff _ _ _).2 ⟨by omega, hday⟩
  simp -dsimp -implicitDefEqProofs (maxSteps := 2000000) (disch := first | assumption | omega | (simp only [AW.next_push, AW.next_put]; omega) | ((repeat refine Fresh.push ?_ _); assumption) | (simp only [same_int, same_bool, same_ptr, same_slice, same_sliceP, same_nil, same_agg2, same_string]; done) | (simp [oneCell, AW.next_push]; done) | fail) only [go_sem, Nat.reduceEqDiff, reduceIte, Nat.reduceAdd, Int.toNat_natCast, Nat.add_zero, Owes_true, Try.results8, q1, Nat.zero_add, c0, c1, c2, c3, c4, c5, c6, c7, c8, c9]
  apply callV_of (e := rfl)
  · exact From_ok _ _ _ _
  rintro _ _ ⟨rfl, rfl⟩
  simp -dsimp -implicitDefEqProofs (maxSteps := 2000000) (disch := first | assumption | omega | (simp only [AW.next_push, AW.next_put]; omega) | ((repeat refine Fresh.push ?_ _); assumption) | (simp only [same_int, same_bool, same_ptr, same_slice, same_sliceP, same_nil, same_agg2, same_string]; done) | (simp [oneCell, AW.next_push]; done) | fail) only [go_sem, Nat.reduceEqDiff, reduceIte, Nat.reduceAdd, Int.toNat_natCast, Nat.add_zero, Owes_true, Try.results8, q2, Nat.zero_add, c0, c1, c2, c3, c4, c5, c6, c7, c8, c9]
  apply callV_of (e := rfl)
  · exact From_ok _ _ _ _
  rintro _ _ ⟨rfl, rfl⟩
  have g4 := (Grown.refl f3).push (.cells (accells (beginL d)) 70 w3.next 0 0)
  have hB4 := Own.new f3 70 (accells (beginL d))
  have g4' := g4
  have hB4' := hB4
  have hm0 : max 0 d.st = d.st := by omega
  have z1 : lwAt cl (stA d cl l 0) (d.st + ((0 : Nat) : Int) - 1) = 0 := lwAt_same (by show d.st + ((0 : Nat) : Int) - 1 ≤ d.st; omega)
  have z3 : lwAt cl (stA d cl l 0) (d.st - 1) = 0 := lwAt_same (by show d.st - 1 ≤ d.st; omega)
  have z2 : d.st + ((0 : Nat) : Int) = d.st := by omega
  unfold accells beginL at g4 hB4
  simp -dsimp -implicitDefEqProofs (maxSteps := 2000000) (disch := first | assumption | omega | (simp only [AW.next_push, AW.next_put]; omega) | ((repeat refine Fresh.push ?_ _); assumption) | (simp only [same_int, same_bool, same_ptr, same_slice, same_sliceP, same_nil, same_agg2, same_string]; done) | (simp [oneCell, AW.next_push]; done) | fail) only [go_sem, Nat.reduceEqDiff, reduceIte, Nat.reduceAdd, Int.toNat_natCast, Nat.add_zero, Owes_true, Try.results8, q3, Nat.zero_add, c0, c1, c2, c3, c4, c5, c6, c7, c8, c9, hm0]
  refine loopR (fun k t ds w4 => ∃ i : Nat, i ≤ (day - d.st + 1).toNat ∧ k = (day - d.st + 1).toNat - i ∧ ds = [] ∧ ev t (.tmp 1) = .slice pl l.length capl ∧ ev t (.tmp 2) = .int .i64 day ∧ ev t (.tmp 3) = .pointer (some ⟨w.next, 0, none⟩) ∧ ev t (.tmp 7) = .pointer (some ⟨w1.next, 0, none⟩) ∧ ev t (.tmp 9) = .slice py ys.length capy ∧ ev t (.tmp 15) = .pointer (some ⟨w3.next, 0, none⟩) ∧ ev t (.tmp 16) = .int .i64 (d.st + (i : Int)) ∧ (∃ a : Nat, a ≤ l.length ∧ ev t (.tmp 13) = .int .i64 (a : Int) ∧ ev t (.tmp 11) = .int .i64 (stA d cl l a).P ∧ ev t (.tmp 12) = .int .i64 (lwAt cl (stA d cl l a) (d.st + (i : Int) - 1)) ∧ ev t (.tmp 14) = .bool (stA d cl l a).op ∧ Own w4 w3.next 70 (accells (stA d cl l a)) ∧ (i = 0 → a = 0) ∧ (1 ≤ i → (stA d cl l a).dy ≤ d.st + (i : Int) - 1) ∧ (∀ q : a < l.length, d.st + (i : Int) ≤ l[a].D)) ∧ Grown w3 w4) ((day - d.st + 1).toNat) ?_ ?_
  · refine ⟨0, by omega, by omega, rfl, ?_, ?_, ?_, ?_, ?_, ?_, ?_, ⟨0, by omega, by (simp -dsimp -implicitDefEqProofs (maxSteps := 2000000) (disch := first | assumption | omega | (simp only [AW.next_push, AW.next_put]; omega) | ((repeat refine Fresh.push ?_ _); assumption) | (simp only [same_int, same_bool, same_ptr, same_slice, same_sliceP, same_nil, same_agg2, same_string]; done) | (simp [oneCell, AW.next_push]; done) | fail) only [go_sem, Nat.reduceEqDiff, reduceIte, Nat.reduceAdd, Int.toNat_natCast, Nat.add_zero, Owes_true]; try rfl), by (simp -dsimp -implicitDefEqProofs (maxSteps := 2000000) (disch := first | assumption | omega | (simp only [AW.next_push, AW.next_put]; omega) | ((repeat refine Fresh.push ?_ _); assumption) | (simp only [same_int, same_bool, same_ptr, same_slice, same_sliceP, same_nil, same_agg2, same_string]; done) | (simp [oneCell, AW.next_push]; done) | fail) only [go_sem, Nat.reduceEqDiff, reduceIte, Nat.reduceAdd, Int.toNat_natCast, Nat.add_zero, Owes_true]; try rfl), by rw [z1]; (simp -dsimp -implicitDefEqProofs (maxSteps := 2000000) (disch := first | assumption | omega | (simp only [AW.next_push, AW.next_put]; omega) | ((repeat refine Fresh.push ?_ _); assumption) | (simp only [same_int, same_bool, same_ptr, same_slice, same_sliceP, same_nil, same_agg2, same_string]; done) | (simp [oneCell, AW.next_push]; done) | fail) only [go_sem, Nat.reduceEqDiff, reduceIte, Nat.reduceAdd, Int.toNat_natCast, Nat.add_zero, Owes_true]; try rfl), by (simp -dsimp -implicitDefEqProofs (maxSteps := 2000000) (disch := first | assumption | omega | (simp only [AW.next_push, AW.next_put]; omega) | ((repeat refine Fresh.push ?_ _); assumption) | (simp only [same_int, same_bool, same_ptr, same_slice, same_sliceP, same_nil, same_agg2, same_string]; done) | (simp [oneCell, AW.next_push]; done) | fail) only [go_sem, Nat.reduceEqDiff, reduceIte, Nat.reduceAdd, Int.toNat_natCast, Nat.add_zero, Owes_true]; try rfl), hB4', fun _ => rfl, fun q => by omega, fun q => by have := (acts_at hacts q).1; rw [dayAt, if_pos rfl] at this; omega⟩, g4'⟩ <;> simp -dsimp -implicitDefEqProofs (maxSteps := 2000000) (disch := first | assumption | omega | (simp only [AW.next_push, AW.next_put]; omega) | ((repeat refine Fresh.push ?_ _); assumption) | (simp only [same_int, same_bool, same_ptr, same_slice, same_sliceP, same_nil, same_agg2, same_string]; done) | (simp [oneCell, AW.next_push]; done) | fail) only [go_sem, Nat.reduceEqDiff, reduceIte, Nat.reduceAdd, Int.toNat_natCast, Nat.add_zero, Owes_true, z2] <;> rfl
  rintro k t ds w4 ⟨i, hii, rfl, rfl, e1, e2, e3, e7, e9, e15, e16, hx, g4⟩
  obtain ⟨a, ha, e13, e11, e12, e14, hB, hi0, hi1, hnext⟩ := hx
  have hAx := at_ok hd hacts hgo a ha
  have hO4 := hO3.keep g4.1
  have g4w := g3.trans g4
  have c0 := (hO4).cell (o := 0) rfl rfl
  have c1 := (hO4).cell (o := 1) rfl rfl
  have c2 := (hO4).cell (o := 2) rfl rfl
  have c3 := (hO4).cell (o := 3) rfl rfl
  have c4 := (hO4).cell (o := 4) rfl rfl
  have c5 := (hO4).cell (o := 5) rfl rfl
  have c6 := (hO4).cell (o := 6) rfl rfl
  have c7 := (hO4).cell (o := 7) rfl rfl
  have c8 := (hO4).cell (o := 8) rfl rfl
  have c9 := (hO4).cell (o := 9) rfl rfl
  have p2 : 0 ≤ d.sm * d.c := mul_nonneg' (by omega) hc.1
  have p2' := mul_mono2 hsm.2 hc.2 hc.1 (by omega)
  have hle := WLe.refl w4
  by_cases hlt : d.st + (i : Int) ≤ day
  case neg =>
    have hend : d.st + (i : Int) - 1 = day := by omega
    have haL : a = l.length := by
      by_cases q : a = l.length
      · exact q
      · have q' : a < l.length := by omega
        have := hnext q'
        have := act_before hd hacts hgo q'
        omega
    subst haL
    rw [hend] at e12
    have hpl := pass_lw (d := d) (cl := cl) (x := stA d cl l l.length) (D := day)
    rw [← hX0] at hpl
    have hLWb := lwAt_in hd hAx.ok hdyl hday
    have p1 : 0 ≤ lwAt cl (stA d cl l l.length) day * d.r := mul_nonneg' hLWb.1 hr.1
    have p1' := mul_mono2 hLWb.2 hr.2 hr.1 (by omega)
    simp -dsimp -implicitDefEqProofs (maxSteps := 2000000) (disch := first | assumption | omega | (simp only [AW.next_push, AW.next_put]; omega) | ((repeat refine Fresh.push ?_ _); assumption) | (simp only [same_int, same_bool, same_ptr, same_slice, same_sliceP, same_nil, same_agg2, same_string]; done) | (simp [oneCell, AW.next_push]; done) | fail) only [go_sem, Nat.reduceEqDiff, reduceIte, Nat.reduceAdd, Int.toNat_natCast, Nat.add_zero, Owes_true, Try.results8, e1, e2, e3, e7, e9, e11, e12, e13, e14, e15, e16, hlt, Nat.zero_add, c0, c1, c2, c3, c4, c5, c6, c7, c8, c9]
    apply callV_of (e := rfl)
    · exact Legal_ok d cl l day _ _ w4 g4w.2 (hs.grown g4w) (hl.grown g4w)
    rintro _ w5 ⟨m, rfl, hm1, hm2, hg5⟩
    have hm := hm1 hE
    rw [hX, hpl] at hm
    have hO5 := hO4.keep hg5.1
    have hle5 := WLe.refl w5
    have c0 := (hO5).cell (o := 0) rfl rfl
    have c1 := (hO5).cell (o := 1) rfl rfl
    have c2 := (hO5).cell (o := 2) rfl rfl
    have c3 := (hO5).cell (o := 3) rfl rfl
    have c4 := (hO5).cell (o := 4) rfl rfl
    have c5 := (hO5).cell (o := 5) rfl rfl
    have c6 := (hO5).cell (o := 6) rfl rfl
    have c7 := (hO5).cell (o := 7) rfl rfl
    have c8 := (hO5).cell (o := 8) rfl rfl
    have c9 := (hO5).cell (o := 9) rfl rfl
    simp -dsimp -implicitDefEqProofs (maxSteps := 2000000) (disch := first | assumption | omega | (simp only [AW.next_push, AW.next_put]; omega) | ((repeat refine Fresh.push ?_ _); assumption) | (simp only [same_int, same_bool, same_ptr, same_slice, same_sliceP, same_nil, same_agg2, same_string]; done) | (simp [oneCell, AW.next_push]; done) | fail) only [go_sem, Nat.reduceEqDiff, reduceIte, Nat.reduceAdd, Int.toNat_natCast, Nat.add_zero, Owes_true, Try.results8, e1, e2, e3, e7, e9, e11, e12, e13, e14, e15, e16, hE, Nat.zero_add, c0, c1, c2, c3, c4, c5, c6, c7, c8, c9]
    apply callV_of (e := rfl)
    · exact Down6_ok (lwAt cl (stA d cl l l.length) day * d.r) p1 (by omega) w5
    rintro _ _ ⟨rfl, rfl⟩
    simp -dsimp -implicitDefEqProofs (maxSteps := 2000000) (disch := first | assumption | omega | (simp only [AW.next_push, AW.next_put]; omega) | ((repeat refine Fresh.push ?_ _); assumption) | (simp only [same_int, same_bool, same_ptr, same_slice, same_sliceP, same_nil, same_agg2, same_string]; done) | (simp [oneCell, AW.next_push]; done) | fail) only [go_sem, Nat.reduceEqDiff, reduceIte, Nat.reduceAdd, Int.toNat_natCast, Nat.add_zero, Owes_true, Try.results8, hle5, Nat.zero_add, c0, c1, c2, c3, c4, c5, c6, c7, c8, c9]
    apply callV_of (e := rfl)
    · exact Down64_ok (d.sm * d.c) p2 (by omega) w5
    rintro _ _ ⟨rfl, rfl⟩
    have hlim : min (lwAt cl (stA d cl l l.length) day * d.r / 1000000) (d.sm * d.c / 64) = m := hm.symm
    simp -dsimp -implicitDefEqProofs (maxSteps := 2000000) (disch := first | assumption | omega | (simp only [AW.next_push, AW.next_put]; omega) | ((repeat refine Fresh.push ?_ _); assumption) | (simp only [same_int, same_bool, same_ptr, same_slice, same_sliceP, same_nil, same_agg2, same_string]; done) | (simp [oneCell, AW.next_push]; done) | fail) only [go_sem, Nat.reduceEqDiff, reduceIte, Nat.reduceAdd, Int.toNat_natCast, Nat.add_zero, Owes_true, Try.results8, hle5, Nat.zero_add, hlim]
    apply callV_of (e := rfl)
    · exact callT_told (Q := fun v w' => v = .bool true ∧ w5 = w') (v := .bool true) (w' := w5) rfl ⟨rfl, rfl⟩
    rintro _ w8 ⟨rfl, rfl⟩
    simp -dsimp -implicitDefEqProofs (maxSteps := 2000000) (disch := first | assumption | omega | (simp only [AW.next_push, AW.next_put]; omega) | ((repeat refine Fresh.push ?_ _); assumption) | (simp only [same_int, same_bool, same_ptr, same_slice, same_sliceP, same_nil, same_agg2, same_string]; done) | (simp [oneCell, AW.next_push]; done) | fail) only [go_sem, Nat.reduceEqDiff, reduceIte, Nat.reduceAdd, Int.toNat_natCast, Nat.add_zero, Owes_true, Try.results8, hle5]
  have hdyx : (stA d cl l a).dy ≤ d.st + (i : Int) := by
    by_cases q : i = 0
    · rw [hi0 q]; show d.st ≤ _; omega
    · have := hi1 (by omega); omega
  have hLWb := lwAt_in hd hAx.ok hdyx (by omega : d.st + (i : Int) ≤ 36500)
  have p1 : 0 ≤ lwAt cl (stA d cl l a) (d.st + (i : Int)) * d.r := mul_nonneg' hLWb.1 hr.1
  have p1' := mul_mono2 hLWb.2 hr.2 hr.1 (by omega)
  have hlim : min (lwAt cl (stA d cl l a) (d.st + (i : Int)) * d.r / 1000000) (d.sm * d.c / 64) = lwF d (lwAt cl (stA d cl l a) (d.st + (i : Int))) := rfl
  obtain ⟨IJ, hIJ⟩ : ∃ I : Nat → Tmps → List DI → AW → Prop, I = (fun k t ds w5 => ∃ j : Nat, j ≤ l.length - a ∧ k = l.length - a - j ∧ ds = [] ∧ ev t (.tmp 1) = .slice pl l.length capl ∧ ev t (.tmp 2) = .int .i64 day ∧ ev t (.tmp 3) = .pointer (some ⟨w.next, 0, none⟩) ∧ ev t (.tmp 7) = .pointer (some ⟨w1.next, 0, none⟩) ∧ ev t (.tmp 9) = .slice py ys.length capy ∧ ev t (.tmp 15) = .pointer (some ⟨w3.next, 0, none⟩) ∧ ev t (.tmp 16) = .int .i64 (d.st + (i : Int)) ∧ ev t (.tmp 12) = .int .i64 (lwAt cl (stA d cl l a) (d.st + (i : Int))) ∧ ev t (.tmp 13) = .int .i64 ((a + j : Nat) : Int) ∧ ev t (.tmp 11) = .int .i64 (stA d cl l (a + j)).P ∧ ev t (.tmp 14) = .bool (stA d cl l (a + j)).op ∧ ev t (.tmp 17) = .int .i64 (lwF d (lwAt cl (stA d cl l a) (d.st + (i : Int)))) ∧ Own w5 w3.next 70 (accells (stA d cl l (a + j))) ∧ Grown w3 w5 ∧ lwAt cl (stA d cl l (a + j)) (d.st + (i : Int)) = lwAt cl (stA d cl l a) (d.st + (i : Int)) ∧ (stA d cl l (a + j)).dy ≤ d.st + (i : Int) ∧ (∀ q : a + j < l.length, d.st + (i : Int) ≤ l[a + j].D)) := ⟨_, rfl⟩
  apply joinMain (I := IJ)
  case mainJ =>
    intro stepJ
    by_cases hi00 : i = 0
    · have hgt : ¬ d.st < d.st + (i : Int) := by omega
      have ha0 := hi0 hi00
      have e12' : lwAt cl (stA d cl l a) (d.st + (i : Int) - 1) = lwAt cl (stA d cl l a) (d.st + (i : Int)) := by
        rw [ha0, lwAt_same (by show _ ≤ d.st; omega), lwAt_same (by show _ ≤ d.st; omega)]
      rw [e12'] at e12
      simp -dsimp -implicitDefEqProofs (maxSteps := 2000000) (disch := first | assumption | omega | (simp only [AW.next_push, AW.next_put]; omega) | ((repeat refine Fresh.push ?_ _); assumption) | (simp only [same_int, same_bool, same_ptr, same_slice, same_sliceP, same_nil, same_agg2, same_string]; done) | (simp [oneCell, AW.next_push]; done) | fail) only [go_sem, Nat.reduceEqDiff, reduceIte, Nat.reduceAdd, Int.toNat_natCast, Nat.add_zero, Owes_true, Try.results8, e1, e2, e3, e7, e9, e11, e12, e13, e14, e15, e16, hlt, hgt, Nat.zero_add, c0, c1, c2, c3, c4, c5, c6, c7, c8, c9]
      apply callV_of (e := rfl)
      · exact Down6_ok (lwAt cl (stA d cl l a) (d.st + (i : Int)) * d.r) p1 (by omega) w4
      rintro _ _ ⟨rfl, rfl⟩
      simp -dsimp -implicitDefEqProofs (maxSteps := 2000000) (disch := first | assumption | omega | (simp only [AW.next_push, AW.next_put]; omega) | ((repeat refine Fresh.push ?_ _); assumption) | (simp only [same_int, same_bool, same_ptr, same_slice, same_sliceP, same_nil, same_agg2, same_string]; done) | (simp [oneCell, AW.next_push]; done) | fail) only [go_sem, Nat.reduceEqDiff, reduceIte, Nat.reduceAdd, Int.toNat_natCast, Nat.add_zero, Owes_true, Try.results8, hle, Nat.zero_add, c0, c1, c2, c3, c4, c5, c6, c7, c8, c9]
      apply callV_of (e := rfl)
      · exact Down64_ok (d.sm * d.c) p2 (by omega) w4
      rintro _ _ ⟨rfl, rfl⟩
      simp -dsimp -implicitDefEqProofs (maxSteps := 2000000) (disch := first | assumption | omega | (simp only [AW.next_push, AW.next_put]; omega) | ((repeat refine Fresh.push ?_ _); assumption) | (simp only [same_int, same_bool, same_ptr, same_slice, same_sliceP, same_nil, same_agg2, same_string]; done) | (simp [oneCell, AW.next_push]; done) | fail) only [go_sem, Nat.reduceEqDiff, reduceIte, Nat.reduceAdd, Int.toNat_natCast, Nat.add_zero, Owes_true, Try.results8, hle, Nat.zero_add, hlim]
      refine loopJ IJ (l.length - a) ?_ stepJ
      rw [hIJ]
      refine ⟨0, by omega, by omega, rfl, ?_, ?_, ?_, ?_, ?_, ?_, ?_, ?_, ?_, ?_, ?_, ?_, hB, g4, rfl, hdyx, hnext⟩ <;> simp -dsimp -implicitDefEqProofs (maxSteps := 2000000) (disch := first | assumption | omega | (simp only [AW.next_push, AW.next_put]; omega) | ((repeat refine Fresh.push ?_ _); assumption) | (simp only [same_int, same_bool, same_ptr, same_slice, same_sliceP, same_nil, same_agg2, same_string]; done) | (simp [oneCell, AW.next_push]; done) | fail) only [go_sem, Nat.reduceEqDiff, reduceIte, Nat.reduceAdd, Int.toNat_natCast, Nat.add_zero, Owes_true, e1, e2, e3, e7, e9, e11, e12, e13, e14, e15, e16] <;> rfl
    have hgt : d.st < d.st + (i : Int) := by omega
    have hdy1 := hi1 (by omega)
    have hstep := lwAt_day hd (x := stA d cl l a) (t := d.st + (i : Int) - 1) hdy1
    rw [show d.st + (i : Int) - 1 + 1 = d.st + (i : Int) by omega] at hstep
    have hhold := hAx.hold (d.st + (i : Int)) (by omega)
    cases hopa : (stA d cl l a).op with
    | false =>
      have e12' : lwAt cl (stA d cl l a) (d.st + (i : Int) - 1) = lwAt cl (stA d cl l a) (d.st + (i : Int)) := by
        rw [hstep, if_neg (fun q => by rw [hopa] at q; exact absurd q.1 (by simp))]
      rw [e12'] at e12
      simp -dsimp -implicitDefEqProofs (maxSteps := 2000000) (disch := first | assumption | omega | (simp only [AW.next_push, AW.next_put]; omega) | ((repeat refine Fresh.push ?_ _); assumption) | (simp only [same_int, same_bool, same_ptr, same_slice, same_sliceP, same_nil, same_agg2, same_string]; done) | (simp [oneCell, AW.next_push]; done) | fail) only [go_sem, Nat.reduceEqDiff, reduceIte, Nat.reduceAdd, Int.toNat_natCast, Nat.add_zero, Owes_true, Try.results8, e1, e2, e3, e7, e9, e11, e12, e13, e14, e15, e16, hlt, hgt, hopa, Nat.zero_add, c0, c1, c2, c3, c4, c5, c6, c7, c8, c9]
      apply callV_of (e := rfl)
      · exact Down6_ok (lwAt cl (stA d cl l a) (d.st + (i : Int)) * d.r) p1 (by omega) w4
      rintro _ _ ⟨rfl, rfl⟩
      simp -dsimp -implicitDefEqProofs (maxSteps := 2000000) (disch := first | assumption | omega | (simp only [AW.next_push, AW.next_put]; omega) | ((repeat refine Fresh.push ?_ _); assumption) | (simp only [same_int, same_bool, same_ptr, same_slice, same_sliceP, same_nil, same_agg2, same_string]; done) | (simp [oneCell, AW.next_push]; done) | fail) only [go_sem, Nat.reduceEqDiff, reduceIte, Nat.reduceAdd, Int.toNat_natCast, Nat.add_zero, Owes_true, Try.results8, hle, Nat.zero_add, c0, c1, c2, c3, c4, c5, c6, c7, c8, c9]
      apply callV_of (e := rfl)
      · exact Down64_ok (d.sm * d.c) p2 (by omega) w4
      rintro _ _ ⟨rfl, rfl⟩
      simp -dsimp -implicitDefEqProofs (maxSteps := 2000000) (disch := first | assumption | omega | (simp only [AW.next_push, AW.next_put]; omega) | ((repeat refine Fresh.push ?_ _); assumption) | (simp only [same_int, same_bool, same_ptr, same_slice, same_sliceP, same_nil, same_agg2, same_string]; done) | (simp [oneCell, AW.next_push]; done) | fail) only [go_sem, Nat.reduceEqDiff, reduceIte, Nat.reduceAdd, Int.toNat_natCast, Nat.add_zero, Owes_true, Try.results8, hle, Nat.zero_add, hlim]
      refine loopJ IJ (l.length - a) ?_ stepJ
      rw [hIJ]
      refine ⟨0, by omega, by omega, rfl, ?_, ?_, ?_, ?_, ?_, ?_, ?_, ?_, ?_, ?_, ?_, ?_, hB, g4, rfl, hdyx, hnext⟩ <;> simp -dsimp -implicitDefEqProofs (maxSteps := 2000000) (disch := first | assumption | omega | (simp only [AW.next_push, AW.next_put]; omega) | ((repeat refine Fresh.push ?_ _); assumption) | (simp only [same_int, same_bool, same_ptr, same_slice, same_sliceP, same_nil, same_agg2, same_string]; done) | (simp [oneCell, AW.next_push]; done) | fail) only [go_sem, Nat.reduceEqDiff, reduceIte, Nat.reduceAdd, Int.toNat_natCast, Nat.add_zero, Owes_true, e1, e2, e3, e7, e9, e11, e12, e13, e14, e15, e16] <;> rfl
    | true =>
    simp -dsimp -implicitDefEqProofs (maxSteps := 2000000) (disch := first | assumption | omega | (simp only [AW.next_push, AW.next_put]; omega) | ((repeat refine Fresh.push ?_ _); assumption) | (simp only [same_int, same_bool, same_ptr, same_slice, same_sliceP, same_nil, same_agg2, same_string]; done) | (simp [oneCell, AW.next_push]; done) | fail) only [go_sem, Nat.reduceEqDiff, reduceIte, Nat.reduceAdd, Int.toNat_natCast, Nat.add_zero, Owes_true, Try.results8, e1, e2, e3, e7, e9, e11, e12, e13, e14, e15, e16, hlt, hgt, hopa, Nat.zero_add, c0, c1, c2, c3, c4, c5, c6, c7, c8, c9]
    apply callV_of (e := rfl)
    · exact seek_ok cl (d.st + (i : Int)) _ w4 (hs.grown g4w)
    rintro _ _ ⟨n, rfl, hn, rfl⟩
    by_cases hm : d.st + (i : Int) ∈ cl
    · have hn' : ¬ n < 0 := by rw [decide_eq_true hm] at hn; have := of_decide_eq_true hn; omega
      have e12' : lwAt cl (stA d cl l a) (d.st + (i : Int) - 1) = lwAt cl (stA d cl l a) (d.st + (i : Int)) := by
        rw [hstep, if_neg (fun q => q.2.1 hm)]
      rw [e12'] at e12
      simp -dsimp -implicitDefEqProofs (maxSteps := 2000000) (disch := first | assumption | omega | (simp only [AW.next_push, AW.next_put]; omega) | ((repeat refine Fresh.push ?_ _); assumption) | (simp only [same_int, same_bool, same_ptr, same_slice, same_sliceP, same_nil, same_agg2, same_string]; done) | (simp [oneCell, AW.next_push]; done) | fail) only [go_sem, Nat.reduceEqDiff, reduceIte, Nat.reduceAdd, Int.toNat_natCast, Nat.add_zero, Owes_true, Try.results8, e1, e2, e3, e7, e9, e11, e12, e13, e14, e15, e16, hn', hopa, Nat.zero_add, c0, c1, c2, c3, c4, c5, c6, c7, c8, c9]
      apply callV_of (e := rfl)
      · exact Down6_ok (lwAt cl (stA d cl l a) (d.st + (i : Int)) * d.r) p1 (by omega) w4
      rintro _ _ ⟨rfl, rfl⟩
      simp -dsimp -implicitDefEqProofs (maxSteps := 2000000) (disch := first | assumption | omega | (simp only [AW.next_push, AW.next_put]; omega) | ((repeat refine Fresh.push ?_ _); assumption) | (simp only [same_int, same_bool, same_ptr, same_slice, same_sliceP, same_nil, same_agg2, same_string]; done) | (simp [oneCell, AW.next_push]; done) | fail) only [go_sem, Nat.reduceEqDiff, reduceIte, Nat.reduceAdd, Int.toNat_natCast, Nat.add_zero, Owes_true, Try.results8, hle, Nat.zero_add, c0, c1, c2, c3, c4, c5, c6, c7, c8, c9]
      apply callV_of (e := rfl)
      · exact Down64_ok (d.sm * d.c) p2 (by omega) w4
      rintro _ _ ⟨rfl, rfl⟩
      simp -dsimp -implicitDefEqProofs (maxSteps := 2000000) (disch := first | assumption | omega | (simp only [AW.next_push, AW.next_put]; omega) | ((repeat refine Fresh.push ?_ _); assumption) | (simp only [same_int, same_bool, same_ptr, same_slice, same_sliceP, same_nil, same_agg2, same_string]; done) | (simp [oneCell, AW.next_push]; done) | fail) only [go_sem, Nat.reduceEqDiff, reduceIte, Nat.reduceAdd, Int.toNat_natCast, Nat.add_zero, Owes_true, Try.results8, hle, Nat.zero_add, hlim]
      refine loopJ IJ (l.length - a) ?_ stepJ
      rw [hIJ]
      refine ⟨0, by omega, by omega, rfl, ?_, ?_, ?_, ?_, ?_, ?_, ?_, ?_, ?_, ?_, ?_, ?_, hB, g4, rfl, hdyx, hnext⟩ <;> simp -dsimp -implicitDefEqProofs (maxSteps := 2000000) (disch := first | assumption | omega | (simp only [AW.next_push, AW.next_put]; omega) | ((repeat refine Fresh.push ?_ _); assumption) | (simp only [same_int, same_bool, same_ptr, same_slice, same_sliceP, same_nil, same_agg2, same_string]; done) | (simp [oneCell, AW.next_push]; done) | fail) only [go_sem, Nat.reduceEqDiff, reduceIte, Nat.reduceAdd, Int.toNat_natCast, Nat.add_zero, Owes_true, e1, e2, e3, e7, e9, e11, e12, e13, e14, e15, e16] <;> rfl
    have hn' : n < 0 := by rw [decide_eq_false hm] at hn; have := of_decide_eq_false hn; omega
    simp -dsimp -implicitDefEqProofs (maxSteps := 2000000) (disch := first | assumption | omega | (simp only [AW.next_push, AW.next_put]; omega) | ((repeat refine Fresh.push ?_ _); assumption) | (simp only [same_int, same_bool, same_ptr, same_slice, same_sliceP, same_nil, same_agg2, same_string]; done) | (simp [oneCell, AW.next_push]; done) | fail) only [go_sem, Nat.reduceEqDiff, reduceIte, Nat.reduceAdd, Int.toNat_natCast, Nat.add_zero, Owes_true, Try.results8, e1, e2, e3, e7, e9, e11, e12, e13, e14, e15, e16, hn', hopa, Nat.zero_add, c0, c1, c2, c3, c4, c5, c6, c7, c8, c9]
    apply callV_of (e := rfl)
    · exact held_ok l a (d.st + (i : Int)) _ w4 (hl.grown g4w) ha hdys (by omega) hlen
    rintro _ _ ⟨B, rfl, hBh, rfl⟩
    cases B with
    | true =>
      have hhe := hhold.1 (hBh.1 rfl)
      have e12' : lwAt cl (stA d cl l a) (d.st + (i : Int) - 1) = lwAt cl (stA d cl l a) (d.st + (i : Int)) := by
        rw [hstep, if_neg (fun q => q.2.2 hhe)]
      rw [e12'] at e12
      simp -dsimp -implicitDefEqProofs (maxSteps := 2000000) (disch := first | assumption | omega | (simp only [AW.next_push, AW.next_put]; omega) | ((repeat refine Fresh.push ?_ _); assumption) | (simp only [same_int, same_bool, same_ptr, same_slice, same_sliceP, same_nil, same_agg2, same_string]; done) | (simp [oneCell, AW.next_push]; done) | fail) only [go_sem, Nat.reduceEqDiff, reduceIte, Nat.reduceAdd, Int.toNat_natCast, Nat.add_zero, Owes_true, Try.results8, e1, e2, e3, e7, e9, e11, e12, e13, e14, e15, e16, hopa, Nat.zero_add, c0, c1, c2, c3, c4, c5, c6, c7, c8, c9]
      apply callV_of (e := rfl)
      · exact Down6_ok (lwAt cl (stA d cl l a) (d.st + (i : Int)) * d.r) p1 (by omega) w4
      rintro _ _ ⟨rfl, rfl⟩
      simp -dsimp -implicitDefEqProofs (maxSteps := 2000000) (disch := first | assumption | omega | (simp only [AW.next_push, AW.next_put]; omega) | ((repeat refine Fresh.push ?_ _); assumption) | (simp only [same_int, same_bool, same_ptr, same_slice, same_sliceP, same_nil, same_agg2, same_string]; done) | (simp [oneCell, AW.next_push]; done) | fail) only [go_sem, Nat.reduceEqDiff, reduceIte, Nat.reduceAdd, Int.toNat_natCast, Nat.add_zero, Owes_true, Try.results8, hle, Nat.zero_add, c0, c1, c2, c3, c4, c5, c6, c7, c8, c9]
      apply callV_of (e := rfl)
      · exact Down64_ok (d.sm * d.c) p2 (by omega) w4
      rintro _ _ ⟨rfl, rfl⟩
      simp -dsimp -implicitDefEqProofs (maxSteps := 2000000) (disch := first | assumption | omega | (simp only [AW.next_push, AW.next_put]; omega) | ((repeat refine Fresh.push ?_ _); assumption) | (simp only [same_int, same_bool, same_ptr, same_slice, same_sliceP, same_nil, same_agg2, same_string]; done) | (simp [oneCell, AW.next_push]; done) | fail) only [go_sem, Nat.reduceEqDiff, reduceIte, Nat.reduceAdd, Int.toNat_natCast, Nat.add_zero, Owes_true, Try.results8, hle, Nat.zero_add, hlim]
      refine loopJ IJ (l.length - a) ?_ stepJ
      rw [hIJ]
      refine ⟨0, by omega, by omega, rfl, ?_, ?_, ?_, ?_, ?_, ?_, ?_, ?_, ?_, ?_, ?_, ?_, hB, g4, rfl, hdyx, hnext⟩ <;> simp -dsimp -implicitDefEqProofs (maxSteps := 2000000) (disch := first | assumption | omega | (simp only [AW.next_push, AW.next_put]; omega) | ((repeat refine Fresh.push ?_ _); assumption) | (simp only [same_int, same_bool, same_ptr, same_slice, same_sliceP, same_nil, same_agg2, same_string]; done) | (simp [oneCell, AW.next_push]; done) | fail) only [go_sem, Nat.reduceEqDiff, reduceIte, Nat.reduceAdd, Int.toNat_natCast, Nat.add_zero, Owes_true, e1, e2, e3, e7, e9, e11, e12, e13, e14, e15, e16] <;> rfl
    | false =>
      have hhe : ¬ d.st + (i : Int) ≤ (stA d cl l a).he := fun q => by have := hBh.2 (hhold.2 q); cases this
      have e12' : lwAt cl (stA d cl l a) (d.st + (i : Int) - 1) + (stA d cl l a).P = lwAt cl (stA d cl l a) (d.st + (i : Int)) := by
        rw [hstep, if_pos ⟨hopa, hm, hhe⟩]
      have hPa := hAx.ok.P
      have hLWb1 := lwAt_in hd hAx.ok hdy1 (by omega : d.st + (i : Int) - 1 ≤ 36500)
      simp -dsimp -implicitDefEqProofs (maxSteps := 2000000) (disch := first | assumption | omega | (simp only [AW.next_push, AW.next_put]; omega) | ((repeat refine Fresh.push ?_ _); assumption) | (simp only [same_int, same_bool, same_ptr, same_slice, same_sliceP, same_nil, same_agg2, same_string]; done) | (simp [oneCell, AW.next_push]; done) | fail) only [go_sem, Nat.reduceEqDiff, reduceIte, Nat.reduceAdd, Int.toNat_natCast, Nat.add_zero, Owes_true, Try.results8, e1, e2, e3, e7, e9, e11, e12, e13, e14, e15, e16, e12', hopa, Nat.zero_add, c0, c1, c2, c3, c4, c5, c6, c7, c8, c9]
      apply callV_of (e := rfl)
      · exact Down6_ok (lwAt cl (stA d cl l a) (d.st + (i : Int)) * d.r) p1 (by omega) w4
      rintro _ _ ⟨rfl, rfl⟩
      simp -dsimp -implicitDefEqProofs (maxSteps := 2000000) (disch := first | assumption | omega | (simp only [AW.next_push, AW.next_put]; omega) | ((repeat refine Fresh.push ?_ _); assumption) | (simp only [same_int, same_bool, same_ptr, same_slice, same_sliceP, same_nil, same_agg2, same_string]; done) | (simp [oneCell, AW.next_push]; done) | fail) only [go_sem, Nat.reduceEqDiff, reduceIte, Nat.reduceAdd, Int.toNat_natCast, Nat.add_zero, Owes_true, Try.results8, hle, Nat.zero_add, c0, c1, c2, c3, c4, c5, c6, c7, c8, c9]
      apply callV_of (e := rfl)
      · exact Down64_ok (d.sm * d.c) p2 (by omega) w4
      rintro _ _ ⟨rfl, rfl⟩
      simp -dsimp -implicitDefEqProofs (maxSteps := 2000000) (disch := first | assumption | omega | (simp only [AW.next_push, AW.next_put]; omega) | ((repeat refine Fresh.push ?_ _); assumption) | (simp only [same_int, same_bool, same_ptr, same_slice, same_sliceP, same_nil, same_agg2, same_string]; done) | (simp [oneCell, AW.next_push]; done) | fail) only [go_sem, Nat.reduceEqDiff, reduceIte, Nat.reduceAdd, Int.toNat_natCast, Nat.add_zero, Owes_true, Try.results8, hle, Nat.zero_add, hlim]
      refine loopJ IJ (l.length - a) ?_ stepJ
      rw [hIJ]
      refine ⟨0, by omega, by omega, rfl, ?_, ?_, ?_, ?_, ?_, ?_, ?_, ?_, ?_, ?_, ?_, ?_, hB, g4, rfl, hdyx, hnext⟩ <;> simp -dsimp -implicitDefEqProofs (maxSteps := 2000000) (disch := first | assumption | omega | (simp only [AW.next_push, AW.next_put]; omega) | ((repeat refine Fresh.push ?_ _); assumption) | (simp only [same_int, same_bool, same_ptr, same_slice, same_sliceP, same_nil, same_agg2, same_string]; done) | (simp [oneCell, AW.next_push]; done) | fail) only [go_sem, Nat.reduceEqDiff, reduceIte, Nat.reduceAdd, Int.toNat_natCast, Nat.add_zero, Owes_true, e1, e2, e3, e7, e9, e11, e12, e13, e14, e15, e16] <;> rfl
  case stepJ =>
    intro k t ds w5 hJ
    rw [hIJ] at hJ
    obtain ⟨j, hij, rfl, rfl, e1, e2, e3, e7, e9, e15, e16, e12, e13, e11, e14, e17, hB5, g5', hLW5, hdy5, hge5⟩ := hJ
    subst hIJ
    by_cases hin : ((a + j : Nat) : Int) < (l.length : Int)
    case neg =>
      have hgt : ∀ q : a + j < l.length, d.st + (i : Int) < l[a + j].D := fun q => by omega
      simp -dsimp -implicitDefEqProofs (maxSteps := 2000000) (disch := first | assumption | omega | (simp only [AW.next_push, AW.next_put]; omega) | ((repeat refine Fresh.push ?_ _); assumption) | (simp only [same_int, same_bool, same_ptr, same_slice, same_sliceP, same_nil, same_agg2, same_string]; done) | (simp [oneCell, AW.next_push]; done) | fail) only [go_sem, Nat.reduceEqDiff, reduceIte, Nat.reduceAdd, Int.toNat_natCast, Nat.add_zero, Owes_true, Try.results8, e1, e2, e3, e7, e9, e11, e12, e13, e14, e15, e16, e17, hin]
      have hnx : d.st + ((i + 1 : Nat) : Int) - 1 = d.st + (i : Int) := by omega
      have hnx2 : d.st + (i : Int) + 1 = d.st + ((i + 1 : Nat) : Int) := by omega
      by_cases hdd : d.st + (i : Int) = day
      · subst hdd
        have haL : a + j = l.length := by
          by_cases q : a + j = l.length
          · exact q
          · have q' : a + j < l.length := by omega
            have := hgt q'
            have := act_before hd hacts hgo q'
            omega
        have hpp := pass_P (d := d) (cl := cl) (x := stA d cl l l.length) (D := d.st + (i : Int))
        have hpc := pass_C hd hAl.ok hdyl
        have hpl := pass_lw (d := d) (cl := cl) (x := stA d cl l l.length) (D := d.st + (i : Int))
        have hpk := pass_keeps hd hAl.ok hdyl hday
        rw [← hX0] at hpp hpc hpl hpk
        rw [haL] at hLW5 hB5 e11 e13 e14 hdy5
        rw [hLW5] at hpl
        have hpk2 : X.C ≤ lwF d (lwAt cl (stA d cl l a) (d.st + (i : Int))) := by rw [← hpl, hpk.C]; exact chF_law _ _ _ _
        have hE5 := hE3.keep g5'.1
        simp only [hpp.1, hpp.2.1, hpp.2.2.2] at hE5
        have hB6 := hB5
        unfold accells at hB6
        have v0 := (hE5).cell (o := 0) rfl rfl
        have v1 := (hE5).cell (o := 1) rfl rfl
        have v2 := (hE5).cell (o := 2) rfl rfl
        have v3 := (hE5).cell (o := 3) rfl rfl
        have v4 := (hE5).cell (o := 4) rfl rfl
        have k0 := (hB6).cell (o := 0) rfl rfl
        have k1 := (hB6).cell (o := 1) rfl rfl
        have k2 := (hB6).cell (o := 2) rfl rfl
        have k3 := (hB6).cell (o := 3) rfl rfl
        have k4 := (hB6).cell (o := 4) rfl rfl
        have n5 : ¬ lwF d (lwAt cl (stA d cl l a) (d.st + (i : Int))) < X.C := by omega
        have n6 : ¬ X.C < (stA d cl l l.length).C := by omega
        have eb : ∀ z : Bool, (z == z) = true := fun z => beq_self_eq_true z
        simp -dsimp -implicitDefEqProofs (maxSteps := 2000000) (disch := first | assumption | omega | (simp only [AW.next_push, AW.next_put]; omega) | ((repeat refine Fresh.push ?_ _); assumption) | (simp only [same_int, same_bool, same_ptr, same_slice, same_sliceP, same_nil, same_agg2, same_string]; done) | (simp [oneCell, AW.next_push]; done) | fail) only [go_sem, Nat.reduceEqDiff, reduceIte, Nat.reduceAdd, Int.toNat_natCast, Nat.add_zero, Owes_true, Try.results8, e1, e2, e3, e7, e9, e11, e12, e13, e14, e15, e16, e17, Nat.zero_add, n5, n6, v0, v1, v2, v3, v4, k0, k1, k2, k3, k4, eb]
        refine ⟨_, by omega, i + 1, by omega, rfl, rfl, by (simp -dsimp -implicitDefEqProofs (maxSteps := 2000000) (disch := first | assumption | omega | (simp only [AW.next_push, AW.next_put]; omega) | ((repeat refine Fresh.push ?_ _); assumption) | (simp only [same_int, same_bool, same_ptr, same_slice, same_sliceP, same_nil, same_agg2, same_string]; done) | (simp [oneCell, AW.next_push]; done) | fail) only [go_sem, Nat.reduceEqDiff, reduceIte, Nat.reduceAdd, Int.toNat_natCast, Nat.add_zero, Owes_true, e1, hnx2]; try rfl), by (simp -dsimp -implicitDefEqProofs (maxSteps := 2000000) (disch := first | assumption | omega | (simp only [AW.next_push, AW.next_put]; omega) | ((repeat refine Fresh.push ?_ _); assumption) | (simp only [same_int, same_bool, same_ptr, same_slice, same_sliceP, same_nil, same_agg2, same_string]; done) | (simp [oneCell, AW.next_push]; done) | fail) only [go_sem, Nat.reduceEqDiff, reduceIte, Nat.reduceAdd, Int.toNat_natCast, Nat.add_zero, Owes_true, e2, hnx2]; try rfl), by (simp -dsimp -implicitDefEqProofs (maxSteps := 2000000) (disch := first | assumption | omega | (simp only [AW.next_push, AW.next_put]; omega) | ((repeat refine Fresh.push ?_ _); assumption) | (simp only [same_int, same_bool, same_ptr, same_slice, same_sliceP, same_nil, same_agg2, same_string]; done) | (simp [oneCell, AW.next_push]; done) | fail) only [go_sem, Nat.reduceEqDiff, reduceIte, Nat.reduceAdd, Int.toNat_natCast, Nat.add_zero, Owes_true, e3, hnx2]; try rfl), by (simp -dsimp -implicitDefEqProofs (maxSteps := 2000000) (disch := first | assumption | omega | (simp only [AW.next_push, AW.next_put]; omega) | ((repeat refine Fresh.push ?_ _); assumption) | (simp only [same_int, same_bool, same_ptr, same_slice, same_sliceP, same_nil, same_agg2, same_string]; done) | (simp [oneCell, AW.next_push]; done) | fail) only [go_sem, Nat.reduceEqDiff, reduceIte, Nat.reduceAdd, Int.toNat_natCast, Nat.add_zero, Owes_true, e7, hnx2]; try rfl), by (simp -dsimp -implicitDefEqProofs (maxSteps := 2000000) (disch := first | assumption | omega | (simp only [AW.next_push, AW.next_put]; omega) | ((repeat refine Fresh.push ?_ _); assumption) | (simp only [same_int, same_bool, same_ptr, same_slice, same_sliceP, same_nil, same_agg2, same_string]; done) | (simp [oneCell, AW.next_push]; done) | fail) only [go_sem, Nat.reduceEqDiff, reduceIte, Nat.reduceAdd, Int.toNat_natCast, Nat.add_zero, Owes_true, e9, hnx2]; try rfl), by (simp -dsimp -implicitDefEqProofs (maxSteps := 2000000) (disch := first | assumption | omega | (simp only [AW.next_push, AW.next_put]; omega) | ((repeat refine Fresh.push ?_ _); assumption) | (simp only [same_int, same_bool, same_ptr, same_slice, same_sliceP, same_nil, same_agg2, same_string]; done) | (simp [oneCell, AW.next_push]; done) | fail) only [go_sem, Nat.reduceEqDiff, reduceIte, Nat.reduceAdd, Int.toNat_natCast, Nat.add_zero, Owes_true, e15, hnx2]; try rfl), by (simp -dsimp -implicitDefEqProofs (maxSteps := 2000000) (disch := first | assumption | omega | (simp only [AW.next_push, AW.next_put]; omega) | ((repeat refine Fresh.push ?_ _); assumption) | (simp only [same_int, same_bool, same_ptr, same_slice, same_sliceP, same_nil, same_agg2, same_string]; done) | (simp [oneCell, AW.next_push]; done) | fail) only [go_sem, Nat.reduceEqDiff, reduceIte, Nat.reduceAdd, Int.toNat_natCast, Nat.add_zero, Owes_true, e16, hnx2]; try rfl), ⟨l.length, Nat.le_refl _, by (simp -dsimp -implicitDefEqProofs (maxSteps := 2000000) (disch := first | assumption | omega | (simp only [AW.next_push, AW.next_put]; omega) | ((repeat refine Fresh.push ?_ _); assumption) | (simp only [same_int, same_bool, same_ptr, same_slice, same_sliceP, same_nil, same_agg2, same_string]; done) | (simp [oneCell, AW.next_push]; done) | fail) only [go_sem, Nat.reduceEqDiff, reduceIte, Nat.reduceAdd, Int.toNat_natCast, Nat.add_zero, Owes_true, e13]; try rfl), by (simp -dsimp -implicitDefEqProofs (maxSteps := 2000000) (disch := first | assumption | omega | (simp only [AW.next_push, AW.next_put]; omega) | ((repeat refine Fresh.push ?_ _); assumption) | (simp only [same_int, same_bool, same_ptr, same_slice, same_sliceP, same_nil, same_agg2, same_string]; done) | (simp [oneCell, AW.next_push]; done) | fail) only [go_sem, Nat.reduceEqDiff, reduceIte, Nat.reduceAdd, Int.toNat_natCast, Nat.add_zero, Owes_true, e11]; try rfl), by rw [hnx, hLW5]; (simp -dsimp -implicitDefEqProofs (maxSteps := 2000000) (disch := first | assumption | omega | (simp only [AW.next_push, AW.next_put]; omega) | ((repeat refine Fresh.push ?_ _); assumption) | (simp only [same_int, same_bool, same_ptr, same_slice, same_sliceP, same_nil, same_agg2, same_string]; done) | (simp [oneCell, AW.next_push]; done) | fail) only [go_sem, Nat.reduceEqDiff, reduceIte, Nat.reduceAdd, Int.toNat_natCast, Nat.add_zero, Owes_true, e12]; try rfl), by (simp -dsimp -implicitDefEqProofs (maxSteps := 2000000) (disch := first | assumption | omega | (simp only [AW.next_push, AW.next_put]; omega) | ((repeat refine Fresh.push ?_ _); assumption) | (simp only [same_int, same_bool, same_ptr, same_slice, same_sliceP, same_nil, same_agg2, same_string]; done) | (simp [oneCell, AW.next_push]; done) | fail) only [go_sem, Nat.reduceEqDiff, reduceIte, Nat.reduceAdd, Int.toNat_natCast, Nat.add_zero, Owes_true, e14]; try rfl), hB5, fun q => by omega, fun _ => by omega, fun q => absurd q (by omega)⟩, g5'⟩
      · simp -dsimp -implicitDefEqProofs (maxSteps := 2000000) (disch := first | assumption | omega | (simp only [AW.next_push, AW.next_put]; omega) | ((repeat refine Fresh.push ?_ _); assumption) | (simp only [same_int, same_bool, same_ptr, same_slice, same_sliceP, same_nil, same_agg2, same_string]; done) | (simp [oneCell, AW.next_push]; done) | fail) only [go_sem, Nat.reduceEqDiff, reduceIte, Nat.reduceAdd, Int.toNat_natCast, Nat.add_zero, Owes_true, Try.results8, e1, e2, e3, e7, e9, e11, e12, e13, e14, e15, e16, e17, Nat.zero_add, hdd]
        refine ⟨_, by omega, i + 1, by omega, rfl, rfl, by (simp -dsimp -implicitDefEqProofs (maxSteps := 2000000) (disch := first | assumption | omega | (simp only [AW.next_push, AW.next_put]; omega) | ((repeat refine Fresh.push ?_ _); assumption) | (simp only [same_int, same_bool, same_ptr, same_slice, same_sliceP, same_nil, same_agg2, same_string]; done) | (simp [oneCell, AW.next_push]; done) | fail) only [go_sem, Nat.reduceEqDiff, reduceIte, Nat.reduceAdd, Int.toNat_natCast, Nat.add_zero, Owes_true, e1, hnx2]; try rfl), by (simp -dsimp -implicitDefEqProofs (maxSteps := 2000000) (disch := first | assumption | omega | (simp only [AW.next_push, AW.next_put]; omega) | ((repeat refine Fresh.push ?_ _); assumption) | (simp only [same_int, same_bool, same_ptr, same_slice, same_sliceP, same_nil, same_agg2, same_string]; done) | (simp [oneCell, AW.next_push]; done) | fail) only [go_sem, Nat.reduceEqDiff, reduceIte, Nat.reduceAdd, Int.toNat_natCast, Nat.add_zero, Owes_true, e2, hnx2]; try rfl), by (simp -dsimp -implicitDefEqProofs (maxSteps := 2000000) (disch := first | assumption | omega | (simp only [AW.next_push, AW.next_put]; omega) | ((repeat refine Fresh.push ?_ _); assumption) | (simp only [same_int, same_bool, same_ptr, same_slice, same_sliceP, same_nil, same_agg2, same_string]; done) | (simp [oneCell, AW.next_push]; done) | fail) only [go_sem, Nat.reduceEqDiff, reduceIte, Nat.reduceAdd, Int.toNat_natCast, Nat.add_zero, Owes_true, e3, hnx2]; try rfl), by (simp -dsimp -implicitDefEqProofs (maxSteps := 2000000) (disch := first | assumption | omega | (simp only [AW.next_push, AW.next_put]; omega) | ((repeat refine Fresh.push ?_ _); assumption) | (simp only [same_int, same_bool, same_ptr, same_slice, same_sliceP, same_nil, same_agg2, same_string]; done) | (simp [oneCell, AW.next_push]; done) | fail) only [go_sem, Nat.reduceEqDiff, reduceIte, Nat.reduceAdd, Int.toNat_natCast, Nat.add_zero, Owes_true, e7, hnx2]; try rfl), by (simp -dsimp -implicitDefEqProofs (maxSteps := 2000000) (disch := first | assumption | omega | (simp only [AW.next_push, AW.next_put]; omega) | ((repeat refine Fresh.push ?_ _); assumption) | (simp only [same_int, same_bool, same_ptr, same_slice, same_sliceP, same_nil, same_agg2, same_string]; done) | (simp [oneCell, AW.next_push]; done) | fail) only [go_sem, Nat.reduceEqDiff, reduceIte, Nat.reduceAdd, Int.toNat_natCast, Nat.add_zero, Owes_true, e9, hnx2]; try rfl), by (simp -dsimp -implicitDefEqProofs (maxSteps := 2000000) (disch := first | assumption | omega | (simp only [AW.next_push, AW.next_put]; omega) | ((repeat refine Fresh.push ?_ _); assumption) | (simp only [same_int, same_bool, same_ptr, same_slice, same_sliceP, same_nil, same_agg2, same_string]; done) | (simp [oneCell, AW.next_push]; done) | fail) only [go_sem, Nat.reduceEqDiff, reduceIte, Nat.reduceAdd, Int.toNat_natCast, Nat.add_zero, Owes_true, e15, hnx2]; try rfl), by (simp -dsimp -implicitDefEqProofs (maxSteps := 2000000) (disch := first | assumption | omega | (simp only [AW.next_push, AW.next_put]; omega) | ((repeat refine Fresh.push ?_ _); assumption) | (simp only [same_int, same_bool, same_ptr, same_slice, same_sliceP, same_nil, same_agg2, same_string]; done) | (simp [oneCell, AW.next_push]; done) | fail) only [go_sem, Nat.reduceEqDiff, reduceIte, Nat.reduceAdd, Int.toNat_natCast, Nat.add_zero, Owes_true, e16, hnx2]; try rfl), ⟨a + j, by omega, by (simp -dsimp -implicitDefEqProofs (maxSteps := 2000000) (disch := first | assumption | omega | (simp only [AW.next_push, AW.next_put]; omega) | ((repeat refine Fresh.push ?_ _); assumption) | (simp only [same_int, same_bool, same_ptr, same_slice, same_sliceP, same_nil, same_agg2, same_string]; done) | (simp [oneCell, AW.next_push]; done) | fail) only [go_sem, Nat.reduceEqDiff, reduceIte, Nat.reduceAdd, Int.toNat_natCast, Nat.add_zero, Owes_true, e13]; try rfl), by (simp -dsimp -implicitDefEqProofs (maxSteps := 2000000) (disch := first | assumption | omega | (simp only [AW.next_push, AW.next_put]; omega) | ((repeat refine Fresh.push ?_ _); assumption) | (simp only [same_int, same_bool, same_ptr, same_slice, same_sliceP, same_nil, same_agg2, same_string]; done) | (simp [oneCell, AW.next_push]; done) | fail) only [go_sem, Nat.reduceEqDiff, reduceIte, Nat.reduceAdd, Int.toNat_natCast, Nat.add_zero, Owes_true, e11]; try rfl), by rw [hnx, hLW5]; (simp -dsimp -implicitDefEqProofs (maxSteps := 2000000) (disch := first | assumption | omega | (simp only [AW.next_push, AW.next_put]; omega) | ((repeat refine Fresh.push ?_ _); assumption) | (simp only [same_int, same_bool, same_ptr, same_slice, same_sliceP, same_nil, same_agg2, same_string]; done) | (simp [oneCell, AW.next_push]; done) | fail) only [go_sem, Nat.reduceEqDiff, reduceIte, Nat.reduceAdd, Int.toNat_natCast, Nat.add_zero, Owes_true, e12]; try rfl), by (simp -dsimp -implicitDefEqProofs (maxSteps := 2000000) (disch := first | assumption | omega | (simp only [AW.next_push, AW.next_put]; omega) | ((repeat refine Fresh.push ?_ _); assumption) | (simp only [same_int, same_bool, same_ptr, same_slice, same_sliceP, same_nil, same_agg2, same_string]; done) | (simp [oneCell, AW.next_push]; done) | fail) only [go_sem, Nat.reduceEqDiff, reduceIte, Nat.reduceAdd, Int.toNat_natCast, Nat.add_zero, Owes_true, e14]; try rfl), hB5, fun q => by omega, fun _ => by omega, fun q => by have := hgt q; omega⟩, g5'⟩
    have hin' : a + j < l.length := by omega
    obtain ⟨bl, ol, rfl, hbl, hcl⟩ := hatl (a + j) hin'
    have g5w := g3.trans g5'
    have d0 := hcl _ g5w.1 0 _ rfl
    rw [Nat.add_zero] at d0
    by_cases heq : l[a + j].D = d.st + (i : Int)
    case neg =>
      have hgt : ∀ q : a + j < l.length, d.st + (i : Int) < l[a + j].D := fun q => by have := hge5 q; omega
      simp -dsimp -implicitDefEqProofs (maxSteps := 2000000) (disch := first | assumption | omega | (simp only [AW.next_push, AW.next_put]; omega) | ((repeat refine Fresh.push ?_ _); assumption) | (simp only [same_int, same_bool, same_ptr, same_slice, same_sliceP, same_nil, same_agg2, same_string]; done) | (simp [oneCell, AW.next_push]; done) | fail) only [go_sem, Nat.reduceEqDiff, reduceIte, Nat.reduceAdd, Int.toNat_natCast, Nat.add_zero, Owes_true, Try.results8, e1, e2, e3, e7, e9, e11, e12, e13, e14, e15, e16, e17, hin, indexV_eq, d0, Nat.zero_add, heq]
      have hnx : d.st + ((i + 1 : Nat) : Int) - 1 = d.st + (i : Int) := by omega
      have hnx2 : d.st + (i : Int) + 1 = d.st + ((i + 1 : Nat) : Int) := by omega
      by_cases hdd : d.st + (i : Int) = day
      · subst hdd
        have haL : a + j = l.length := by
          by_cases q : a + j = l.length
          · exact q
          · have q' : a + j < l.length := by omega
            have := hgt q'
            have := act_before hd hacts hgo q'
            omega
        have hpp := pass_P (d := d) (cl := cl) (x := stA d cl l l.length) (D := d.st + (i : Int))
        have hpc := pass_C hd hAl.ok hdyl
        have hpl := pass_lw (d := d) (cl := cl) (x := stA d cl l l.length) (D := d.st + (i : Int))
        have hpk := pass_keeps hd hAl.ok hdyl hday
        rw [← hX0] at hpp hpc hpl hpk
        rw [haL] at hLW5 hB5 e11 e13 e14 hdy5
        rw [hLW5] at hpl
        have hpk2 : X.C ≤ lwF d (lwAt cl (stA d cl l a) (d.st + (i : Int))) := by rw [← hpl, hpk.C]; exact chF_law _ _ _ _
        have hE5 := hE3.keep g5'.1
        simp only [hpp.1, hpp.2.1, hpp.2.2.2] at hE5
        have hB6 := hB5
        unfold accells at hB6
        have v0 := (hE5).cell (o := 0) rfl rfl
        have v1 := (hE5).cell (o := 1) rfl rfl
        have v2 := (hE5).cell (o := 2) rfl rfl
        have v3 := (hE5).cell (o := 3) rfl rfl
        have v4 := (hE5).cell (o := 4) rfl rfl
        have k0 := (hB6).cell (o := 0) rfl rfl
        have k1 := (hB6).cell (o := 1) rfl rfl
        have k2 := (hB6).cell (o := 2) rfl rfl
        have k3 := (hB6).cell (o := 3) rfl rfl
        have k4 := (hB6).cell (o := 4) rfl rfl
        have n5 : ¬ lwF d (lwAt cl (stA d cl l a) (d.st + (i : Int))) < X.C := by omega
        have n6 : ¬ X.C < (stA d cl l l.length).C := by omega
        have eb : ∀ z : Bool, (z == z) = true := fun z => beq_self_eq_true z
        simp -dsimp -implicitDefEqProofs (maxSteps := 2000000) (disch := first | assumption | omega | (simp only [AW.next_push, AW.next_put]; omega) | ((repeat refine Fresh.push ?_ _); assumption) | (simp only [same_int, same_bool, same_ptr, same_slice, same_sliceP, same_nil, same_agg2, same_string]; done) | (simp [oneCell, AW.next_push]; done) | fail) only [go_sem, Nat.reduceEqDiff, reduceIte, Nat.reduceAdd, Int.toNat_natCast, Nat.add_zero, Owes_true, Try.results8, e1, e2, e3, e7, e9, e11, e12, e13, e14, e15, e16, e17, Nat.zero_add, n5, n6, v0, v1, v2, v3, v4, k0, k1, k2, k3, k4, eb]
        refine ⟨_, by omega, i + 1, by omega, rfl, rfl, by (simp -dsimp -implicitDefEqProofs (maxSteps := 2000000) (disch := first | assumption | omega | (simp only [AW.next_push, AW.next_put]; omega) | ((repeat refine Fresh.push ?_ _); assumption) | (simp only [same_int, same_bool, same_ptr, same_slice, same_sliceP, same_nil, same_agg2, same_string]; done) | (simp [oneCell, AW.next_push]; done) | fail) only [go_sem, Nat.reduceEqDiff, reduceIte, Nat.reduceAdd, Int.toNat_natCast, Nat.add_zero, Owes_true, e1, hnx2]; try rfl), by (simp -dsimp -implicitDefEqProofs (maxSteps := 2000000) (disch := first | assumption | omega | (simp only [AW.next_push, AW.next_put]; omega) | ((repeat refine Fresh.push ?_ _); assumption) | (simp only [same_int, same_bool, same_ptr, same_slice, same_sliceP, same_nil, same_agg2, same_string]; done) | (simp [oneCell, AW.next_push]; done) | fail) only [go_sem, Nat.reduceEqDiff, reduceIte, Nat.reduceAdd, Int.toNat_natCast, Nat.add_zero, Owes_true, e2, hnx2]; try rfl), by (simp -dsimp -implicitDefEqProofs (maxSteps := 2000000) (disch := first | assumption | omega | (simp only [AW.next_push, AW.next_put]; omega) | ((repeat refine Fresh.push ?_ _); assumption) | (simp only [same_int, same_bool, same_ptr, same_slice, same_sliceP, same_nil, same_agg2, same_string]; done) | (simp [oneCell, AW.next_push]; done) | fail) only [go_sem, Nat.reduceEqDiff, reduceIte, Nat.reduceAdd, Int.toNat_natCast, Nat.add_zero, Owes_true, e3, hnx2]; try rfl), by (simp -dsimp -implicitDefEqProofs (maxSteps := 2000000) (disch := first | assumption | omega | (simp only [AW.next_push, AW.next_put]; omega) | ((repeat refine Fresh.push ?_ _); assumption) | (simp only [same_int, same_bool, same_ptr, same_slice, same_sliceP, same_nil, same_agg2, same_string]; done) | (simp [oneCell, AW.next_push]; done) | fail) only [go_sem, Nat.reduceEqDiff, reduceIte, Nat.reduceAdd, Int.toNat_natCast, Nat.add_zero, Owes_true, e7, hnx2]; try rfl), by (simp -dsimp -implicitDefEqProofs (maxSteps := 2000000) (disch := first | assumption | omega | (simp only [AW.next_push, AW.next_put]; omega) | ((repeat refine Fresh.push ?_ _); assumption) | (simp only [same_int, same_bool, same_ptr, same_slice, same_sliceP, same_nil, same_agg2, same_string]; done) | (simp [oneCell, AW.next_push]; done) | fail) only [go_sem, Nat.reduceEqDiff, reduceIte, Nat.reduceAdd, Int.toNat_natCast, Nat.add_zero, Owes_true, e9, hnx2]; try rfl), by (simp -dsimp -implicitDefEqProofs (maxSteps := 2000000) (disch := first | assumption | omega | (simp only [AW.next_push, AW.next_put]; omega) | ((repeat refine Fresh.push ?_ _); assumption) | (simp only [same_int, same_bool, same_ptr, same_slice, same_sliceP, same_nil, same_agg2, same_string]; done) | (simp [oneCell, AW.next_push]; done) | fail) only [go_sem, Nat.reduceEqDiff, reduceIte, Nat.reduceAdd, Int.toNat_natCast, Nat.add_zero, Owes_true, e15, hnx2]; try rfl), by (simp -dsimp -implicitDefEqProofs (maxSteps := 2000000) (disch := first | assumption | omega | (simp only [AW.next_push, AW.next_put]; omega) | ((repeat refine Fresh.push ?_ _); assumption) | (simp only [same_int, same_bool, same_ptr, same_slice, same_sliceP, same_nil, same_agg2, same_string]; done) | (simp [oneCell, AW.next_push]; done) | fail) only [go_sem, Nat.reduceEqDiff, reduceIte, Nat.reduceAdd, Int.toNat_natCast, Nat.add_zero, Owes_true, e16, hnx2]; try rfl), ⟨l.length, Nat.le_refl _, by (simp -dsimp -implicitDefEqProofs (maxSteps := 2000000) (disch := first | assumption | omega | (simp only [AW.next_push, AW.next_put]; omega) | ((repeat refine Fresh.push ?_ _); assumption) | (simp only [same_int, same_bool, same_ptr, same_slice, same_sliceP, same_nil, same_agg2, same_string]; done) | (simp [oneCell, AW.next_push]; done) | fail) only [go_sem, Nat.reduceEqDiff, reduceIte, Nat.reduceAdd, Int.toNat_natCast, Nat.add_zero, Owes_true, e13]; try rfl), by (simp -dsimp -implicitDefEqProofs (maxSteps := 2000000) (disch := first | assumption | omega | (simp only [AW.next_push, AW.next_put]; omega) | ((repeat refine Fresh.push ?_ _); assumption) | (simp only [same_int, same_bool, same_ptr, same_slice, same_sliceP, same_nil, same_agg2, same_string]; done) | (simp [oneCell, AW.next_push]; done) | fail) only [go_sem, Nat.reduceEqDiff, reduceIte, Nat.reduceAdd, Int.toNat_natCast, Nat.add_zero, Owes_true, e11]; try rfl), by rw [hnx, hLW5]; (simp -dsimp -implicitDefEqProofs (maxSteps := 2000000) (disch := first | assumption | omega | (simp only [AW.next_push, AW.next_put]; omega) | ((repeat refine Fresh.push ?_ _); assumption) | (simp only [same_int, same_bool, same_ptr, same_slice, same_sliceP, same_nil, same_agg2, same_string]; done) | (simp [oneCell, AW.next_push]; done) | fail) only [go_sem, Nat.reduceEqDiff, reduceIte, Nat.reduceAdd, Int.toNat_natCast, Nat.add_zero, Owes_true, e12]; try rfl), by (simp -dsimp -implicitDefEqProofs (maxSteps := 2000000) (disch := first | assumption | omega | (simp only [AW.next_push, AW.next_put]; omega) | ((repeat refine Fresh.push ?_ _); assumption) | (simp only [same_int, same_bool, same_ptr, same_slice, same_sliceP, same_nil, same_agg2, same_string]; done) | (simp [oneCell, AW.next_push]; done) | fail) only [go_sem, Nat.reduceEqDiff, reduceIte, Nat.reduceAdd, Int.toNat_natCast, Nat.add_zero, Owes_true, e14]; try rfl), hB5, fun q => by omega, fun _ => by omega, fun q => absurd q (by omega)⟩, g5'⟩
      · simp -dsimp -implicitDefEqProofs (maxSteps := 2000000) (disch := first | assumption | omega | (simp only [AW.next_push, AW.next_put]; omega) | ((repeat refine Fresh.push ?_ _); assumption) | (simp only [same_int, same_bool, same_ptr, same_slice, same_sliceP, same_nil, same_agg2, same_string]; done) | (simp [oneCell, AW.next_push]; done) | fail) only [go_sem, Nat.reduceEqDiff, reduceIte, Nat.reduceAdd, Int.toNat_natCast, Nat.add_zero, Owes_true, Try.results8, e1, e2, e3, e7, e9, e11, e12, e13, e14, e15, e16, e17, Nat.zero_add, hdd]
        refine ⟨_, by omega, i + 1, by omega, rfl, rfl, by (simp -dsimp -implicitDefEqProofs (maxSteps := 2000000) (disch := first | assumption | omega | (simp only [AW.next_push, AW.next_put]; omega) | ((repeat refine Fresh.push ?_ _); assumption) | (simp only [same_int, same_bool, same_ptr, same_slice, same_sliceP, same_nil, same_agg2, same_string]; done) | (simp [oneCell, AW.next_push]; done) | fail) only [go_sem, Nat.reduceEqDiff, reduceIte, Nat.reduceAdd, Int.toNat_natCast, Nat.add_zero, Owes_true, e1, hnx2]; try rfl), by (simp -dsimp -implicitDefEqProofs (maxSteps := 2000000) (disch := first | assumption | omega | (simp only [AW.next_push, AW.next_put]; omega) | ((repeat refine Fresh.push ?_ _); assumption) | (simp only [same_int, same_bool, same_ptr, same_slice, same_sliceP, same_nil, same_agg2, same_string]; done) | (simp [oneCell, AW.next_push]; done) | fail) only [go_sem, Nat.reduceEqDiff, reduceIte, Nat.reduceAdd, Int.toNat_natCast, Nat.add_zero, Owes_true, e2, hnx2]; try rfl), by (simp -dsimp -implicitDefEqProofs (maxSteps := 2000000) (disch := first | assumption | omega | (simp only [AW.next_push, AW.next_put]; omega) | ((repeat refine Fresh.push ?_ _); assumption) | (simp only [same_int, same_bool, same_ptr, same_slice, same_sliceP, same_nil, same_agg2, same_string]; done) | (simp [oneCell, AW.next_push]; done) | fail) only [go_sem, Nat.reduceEqDiff, reduceIte, Nat.reduceAdd, Int.toNat_natCast, Nat.add_zero, Owes_true, e3, hnx2]; try rfl), by (simp -dsimp -implicitDefEqProofs (maxSteps := 2000000) (disch := first | assumption | omega | (simp only [AW.next_push, AW.next_put]; omega) | ((repeat refine Fresh.push ?_ _); assumption) | (simp only [same_int, same_bool, same_ptr, same_slice, same_sliceP, same_nil, same_agg2, same_string]; done) | (simp [oneCell, AW.next_push]; done) | fail) only [go_sem, Nat.reduceEqDiff, reduceIte, Nat.reduceAdd, Int.toNat_natCast, Nat.add_zero, Owes_true, e7, hnx2]; try rfl), by (simp -dsimp -implicitDefEqProofs (maxSteps := 2000000) (disch := first | assumption | omega | (simp only [AW.next_push, AW.next_put]; omega) | ((repeat refine Fresh.push ?_ _); assumption) | (simp only [same_int, same_bool, same_ptr, same_slice, same_sliceP, same_nil, same_agg2, same_string]; done) | (simp [oneCell, AW.next_push]; done) | fail) only [go_sem, Nat.reduceEqDiff, reduceIte, Nat.reduceAdd, Int.toNat_natCast, Nat.add_zero, Owes_true, e9, hnx2]; try rfl), by (simp -dsimp -implicitDefEqProofs (maxSteps := 2000000) (disch := first | assumption | omega | (simp only [AW.next_push, AW.next_put]; omega) | ((repeat refine Fresh.push ?_ _); assumption) | (simp only [same_int, same_bool, same_ptr, same_slice, same_sliceP, same_nil, same_agg2, same_string]; done) | (simp [oneCell, AW.next_push]; done) | fail) only [go_sem, Nat.reduceEqDiff, reduceIte, Nat.reduceAdd, Int.toNat_natCast, Nat.add_zero, Owes_true, e15, hnx2]; try rfl), by (simp -dsimp -implicitDefEqProofs (maxSteps := 2000000) (disch := first | assumption | omega | (simp only [AW.next_push, AW.next_put]; omega) | ((repeat refine Fresh.push ?_ _); assumption) | (simp only [same_int, same_bool, same_ptr, same_slice, same_sliceP, same_nil, same_agg2, same_string]; done) | (simp [oneCell, AW.next_push]; done) | fail) only [go_sem, Nat.reduceEqDiff, reduceIte, Nat.reduceAdd, Int.toNat_natCast, Nat.add_zero, Owes_true, e16, hnx2]; try rfl), ⟨a + j, by omega, by (simp -dsimp -implicitDefEqProofs (maxSteps := 2000000) (disch := first | assumption | omega | (simp only [AW.next_push, AW.next_put]; omega) | ((repeat refine Fresh.push ?_ _); assumption) | (simp only [same_int, same_bool, same_ptr, same_slice, same_sliceP, same_nil, same_agg2, same_string]; done) | (simp [oneCell, AW.next_push]; done) | fail) only [go_sem, Nat.reduceEqDiff, reduceIte, Nat.reduceAdd, Int.toNat_natCast, Nat.add_zero, Owes_true, e13]; try rfl), by (simp -dsimp -implicitDefEqProofs (maxSteps := 2000000) (disch := first | assumption | omega | (simp only [AW.next_push, AW.next_put]; omega) | ((repeat refine Fresh.push ?_ _); assumption) | (simp only [same_int, same_bool, same_ptr, same_slice, same_sliceP, same_nil, same_agg2, same_string]; done) | (simp [oneCell, AW.next_push]; done) | fail) only [go_sem, Nat.reduceEqDiff, reduceIte, Nat.reduceAdd, Int.toNat_natCast, Nat.add_zero, Owes_true, e11]; try rfl), by rw [hnx, hLW5]; (simp -dsimp -implicitDefEqProofs (maxSteps := 2000000) (disch := first | assumption | omega | (simp only [AW.next_push, AW.next_put]; omega) | ((repeat refine Fresh.push ?_ _); assumption) | (simp only [same_int, same_bool, same_ptr, same_slice, same_sliceP, same_nil, same_agg2, same_string]; done) | (simp [oneCell, AW.next_push]; done) | fail) only [go_sem, Nat.reduceEqDiff, reduceIte, Nat.reduceAdd, Int.toNat_natCast, Nat.add_zero, Owes_true, e12]; try rfl), by (simp -dsimp -implicitDefEqProofs (maxSteps := 2000000) (disch := first | assumption | omega | (simp only [AW.next_push, AW.next_put]; omega) | ((repeat refine Fresh.push ?_ _); assumption) | (simp only [same_int, same_bool, same_ptr, same_slice, same_sliceP, same_nil, same_agg2, same_string]; done) | (simp [oneCell, AW.next_push]; done) | fail) only [go_sem, Nat.reduceEqDiff, reduceIte, Nat.reduceAdd, Int.toNat_natCast, Nat.add_zero, Owes_true, e14]; try rfl), hB5, fun q => by omega, fun _ => by omega, fun q => by have := hgt q; omega⟩, g5'⟩
    have hS := step_at hd hacts hgo hin'
    have hAj := at_ok hd hacts hgo (a + j) (by omega)
    have hop := hAj.op hin'
    have hyl2 : a + j < ys.length := by omega
    have hyl3 : ((a + j : Nat) : Int) < (ys.length : Int) := by omega
    have hyj : ys[a + j] = stA d cl l (a + j + 1) := by
      have := ys_at hgo hin'
      rw [← hyse, List.getElem?_eq_getElem hyl2] at this
      exact Option.some.inj this
    obtain ⟨by_, oy, rfl, hby, hcy⟩ := haty (a + j) hyl2
    rw [hyj] at hcy
    have y0 := hcy _ g5'.1 0 _ rfl
    have y1 := hcy _ g5'.1 1 _ rfl
    have y2 := hcy _ g5'.1 2 _ rfl
    have y3 := hcy _ g5'.1 3 _ rfl
    have y4 := hcy _ g5'.1 4 _ rfl
    rw [Nat.add_zero] at y0
    rw [heq] at hS
    have hSlaw := hS.law
    rw [hS.lw, hLW5] at hSlaw
    have hSQ := hS.Q
    have n1 : ¬ lwF d (lwAt cl (stA d cl l a) (d.st + (i : Int))) < (stA d cl l (a + j + 1)).C := by omega
    have n2 : ¬ (stA d cl l (a + j + 1)).C < (stA d cl l (a + j)).C := by have := hS.C; omega
    have n3 : ¬ (stA d cl l (a + j + 1)).C < (stA d cl l (a + j + 1)).Q := by omega
    have n4 : ¬ (stA d cl l (a + j + 1)).Q < (stA d cl l (a + j)).Q := by omega
    have hfr : inR 0 (stA d cl l (a + j + 1)).P (stA d cl l (a + j)).P = true := (inR_iff _ _ _).2 hS.P
    have hSlw : lwAt cl (stA d cl l (a + j + 1)) (d.st + (i : Int)) = lwAt cl (stA d cl l a) (d.st + (i : Int)) := by
      rw [lwAt_same (by rw [hS.dy]; exact Int.le_refl _), hS.lw, hLW5]
    have hSdy := hS.dy
    have hge6 : ∀ q : a + (j + 1) < l.length, d.st + (i : Int) ≤ l[a + (j + 1)].D := fun q => by
      have := (acts_at hacts q).1
      rw [dayAt, if_neg (by omega), show a + (j + 1) - 1 = a + j by omega, getD_at hin'] at this
      omega
    have hcast : ((a + j : Nat) : Int) + 1 = ((a + (j + 1) : Nat) : Int) := by omega
    have f5 := g5'.2
    have hY6 := Own.new f5 70 (accells (stA d cl l (a + j + 1)))
    have hB6 := hB5.push (.cells (accells (stA d cl l (a + j + 1))) 70 w5.next 0 0)
    have g6 := g5'.push (.cells (accells (stA d cl l (a + j + 1))) 70 w5.next 0 0)
    obtain ⟨w7, hput, hB7, g7⟩ := put_acc g6 (Nat.le_refl _) hB6 (stA d cl l (a + j + 1))
    unfold accells at hY6 hB6 g6 hput
    have v0 := (hY6).cell (o := 0) rfl rfl
    have v1 := (hY6).cell (o := 1) rfl rfl
    have v2 := (hY6).cell (o := 2) rfl rfl
    have v3 := (hY6).cell (o := 3) rfl rfl
    have v4 := (hY6).cell (o := 4) rfl rfl
    have k0 := (hB6).cell (o := 0) rfl rfl
    have k1 := (hB6).cell (o := 1) rfl rfl
    have k2 := (hB6).cell (o := 2) rfl rfl
    have k3 := (hB6).cell (o := 3) rfl rfl
    have k4 := (hB6).cell (o := 4) rfl rfl
    simp -dsimp -implicitDefEqProofs (maxSteps := 2000000) (disch := first | assumption | omega | (simp only [AW.next_push, AW.next_put]; omega) | ((repeat refine Fresh.push ?_ _); assumption) | (simp only [same_int, same_bool, same_ptr, same_slice, same_sliceP, same_nil, same_agg2, same_string]; done) | (simp [oneCell, AW.next_push]; done) | fail) only [go_sem, Nat.reduceEqDiff, reduceIte, Nat.reduceAdd, Int.toNat_natCast, Nat.add_zero, Owes_true, Try.results8, e1, e2, e3, e7, e9, e11, e12, e13, e14, e15, e16, e17, hin, hyl3, indexV_eq, d0, y0, y1, y2, y3, y4, Nat.zero_add, heq, v0, v1, v2, v3, v4, k0, k1, k2, k3, k4, n1, n2, n3, n4]
    apply callV_of (e := rfl)
    · exact From_ok _ _ _ _
    rintro _ _ ⟨rfl, rfl⟩
    have s5 := same_agg5 (stA d cl l (a + j + 1)).P (stA d cl l (a + j + 1)).C (stA d cl l (a + j + 1)).Q (stA d cl l (a + j + 1)).A (stA d cl l (a + j + 1)).op
    simp -dsimp -implicitDefEqProofs (maxSteps := 2000000) (disch := first | assumption | omega | (simp only [AW.next_push, AW.next_put]; omega) | ((repeat refine Fresh.push ?_ _); assumption) | (simp only [same_int, same_bool, same_ptr, same_slice, same_sliceP, same_nil, same_agg2, same_string]; done) | (simp [oneCell, AW.next_push]; done) | fail) only [go_sem, Nat.reduceEqDiff, reduceIte, Nat.reduceAdd, Int.toNat_natCast, Nat.add_zero, Owes_true, Try.results8, e1, e2, e3, e7, e9, e11, e12, e13, e14, e15, e16, e17, hfr, Nat.zero_add, v0, v1, v2, v3, v4, k0, k1, k2, k3, k4, hop, hput]
    have hSdy' : (stA d cl l (a + (j + 1))).dy ≤ d.st + (i : Int) := by show (stA d cl l (a + j + 1)).dy ≤ _; omega
    refine ⟨_, by omega, j + 1, by omega, rfl, rfl, by (simp -dsimp -implicitDefEqProofs (maxSteps := 2000000) (disch := first | assumption | omega | (simp only [AW.next_push, AW.next_put]; omega) | ((repeat refine Fresh.push ?_ _); assumption) | (simp only [same_int, same_bool, same_ptr, same_slice, same_sliceP, same_nil, same_agg2, same_string]; done) | (simp [oneCell, AW.next_push]; done) | fail) only [go_sem, Nat.reduceEqDiff, reduceIte, Nat.reduceAdd, Int.toNat_natCast, Nat.add_zero, Owes_true, e1, hcast]; try rfl), by (simp -dsimp -implicitDefEqProofs (maxSteps := 2000000) (disch := first | assumption | omega | (simp only [AW.next_push, AW.next_put]; omega) | ((repeat refine Fresh.push ?_ _); assumption) | (simp only [same_int, same_bool, same_ptr, same_slice, same_sliceP, same_nil, same_agg2, same_string]; done) | (simp [oneCell, AW.next_push]; done) | fail) only [go_sem, Nat.reduceEqDiff, reduceIte, Nat.reduceAdd, Int.toNat_natCast, Nat.add_zero, Owes_true, e2, hcast]; try rfl), by (simp -dsimp -implicitDefEqProofs (maxSteps := 2000000) (disch := first | assumption | omega | (simp only [AW.next_push, AW.next_put]; omega) | ((repeat refine Fresh.push ?_ _); assumption) | (simp only [same_int, same_bool, same_ptr, same_slice, same_sliceP, same_nil, same_agg2, same_string]; done) | (simp [oneCell, AW.next_push]; done) | fail) only [go_sem, Nat.reduceEqDiff, reduceIte, Nat.reduceAdd, Int.toNat_natCast, Nat.add_zero, Owes_true, e3, hcast]; try rfl), by (simp -dsimp -implicitDefEqProofs (maxSteps := 2000000) (disch := first | assumption | omega | (simp only [AW.next_push, AW.next_put]; omega) | ((repeat refine Fresh.push ?_ _); assumption) | (simp only [same_int, same_bool, same_ptr, same_slice, same_sliceP, same_nil, same_agg2, same_string]; done) | (simp [oneCell, AW.next_push]; done) | fail) only [go_sem, Nat.reduceEqDiff, reduceIte, Nat.reduceAdd, Int.toNat_natCast, Nat.add_zero, Owes_true, e7, hcast]; try rfl), by (simp -dsimp -implicitDefEqProofs (maxSteps := 2000000) (disch := first | assumption | omega | (simp only [AW.next_push, AW.next_put]; omega) | ((repeat refine Fresh.push ?_ _); assumption) | (simp only [same_int, same_bool, same_ptr, same_slice, same_sliceP, same_nil, same_agg2, same_string]; done) | (simp [oneCell, AW.next_push]; done) | fail) only [go_sem, Nat.reduceEqDiff, reduceIte, Nat.reduceAdd, Int.toNat_natCast, Nat.add_zero, Owes_true, e9, hcast]; try rfl), by (simp -dsimp -implicitDefEqProofs (maxSteps := 2000000) (disch := first | assumption | omega | (simp only [AW.next_push, AW.next_put]; omega) | ((repeat refine Fresh.push ?_ _); assumption) | (simp only [same_int, same_bool, same_ptr, same_slice, same_sliceP, same_nil, same_agg2, same_string]; done) | (simp [oneCell, AW.next_push]; done) | fail) only [go_sem, Nat.reduceEqDiff, reduceIte, Nat.reduceAdd, Int.toNat_natCast, Nat.add_zero, Owes_true, e15, hcast]; try rfl), by (simp -dsimp -implicitDefEqProofs (maxSteps := 2000000) (disch := first | assumption | omega | (simp only [AW.next_push, AW.next_put]; omega) | ((repeat refine Fresh.push ?_ _); assumption) | (simp only [same_int, same_bool, same_ptr, same_slice, same_sliceP, same_nil, same_agg2, same_string]; done) | (simp [oneCell, AW.next_push]; done) | fail) only [go_sem, Nat.reduceEqDiff, reduceIte, Nat.reduceAdd, Int.toNat_natCast, Nat.add_zero, Owes_true, e16, hcast]; try rfl), by (simp -dsimp -implicitDefEqProofs (maxSteps := 2000000) (disch := first | assumption | omega | (simp only [AW.next_push, AW.next_put]; omega) | ((repeat refine Fresh.push ?_ _); assumption) | (simp only [same_int, same_bool, same_ptr, same_slice, same_sliceP, same_nil, same_agg2, same_string]; done) | (simp [oneCell, AW.next_push]; done) | fail) only [go_sem, Nat.reduceEqDiff, reduceIte, Nat.reduceAdd, Int.toNat_natCast, Nat.add_zero, Owes_true, e12, hcast]; try rfl), by (simp -dsimp -implicitDefEqProofs (maxSteps := 2000000) (disch := first | assumption | omega | (simp only [AW.next_push, AW.next_put]; omega) | ((repeat refine Fresh.push ?_ _); assumption) | (simp only [same_int, same_bool, same_ptr, same_slice, same_sliceP, same_nil, same_agg2, same_string]; done) | (simp [oneCell, AW.next_push]; done) | fail) only [go_sem, Nat.reduceEqDiff, reduceIte, Nat.reduceAdd, Int.toNat_natCast, Nat.add_zero, Owes_true, e13, hcast]; try rfl), by (simp -dsimp -implicitDefEqProofs (maxSteps := 2000000) (disch := first | assumption | omega | (simp only [AW.next_push, AW.next_put]; omega) | ((repeat refine Fresh.push ?_ _); assumption) | (simp only [same_int, same_bool, same_ptr, same_slice, same_sliceP, same_nil, same_agg2, same_string]; done) | (simp [oneCell, AW.next_push]; done) | fail) only [go_sem, Nat.reduceEqDiff, reduceIte, Nat.reduceAdd, Int.toNat_natCast, Nat.add_zero, Owes_true, e11, hcast]; try rfl), by (simp -dsimp -implicitDefEqProofs (maxSteps := 2000000) (disch := first | assumption | omega | (simp only [AW.next_push, AW.next_put]; omega) | ((repeat refine Fresh.push ?_ _); assumption) | (simp only [same_int, same_bool, same_ptr, same_slice, same_sliceP, same_nil, same_agg2, same_string]; done) | (simp [oneCell, AW.next_push]; done) | fail) only [go_sem, Nat.reduceEqDiff, reduceIte, Nat.reduceAdd, Int.toNat_natCast, Nat.add_zero, Owes_true, e14, hcast]; try rfl), by (simp -dsimp -implicitDefEqProofs (maxSteps := 2000000) (disch := first | assumption | omega | (simp only [AW.next_push, AW.next_put]; omega) | ((repeat refine Fresh.push ?_ _); assumption) | (simp only [same_int, same_bool, same_ptr, same_slice, same_sliceP, same_nil, same_agg2, same_string]; done) | (simp [oneCell, AW.next_push]; done) | fail) only [go_sem, Nat.reduceEqDiff, reduceIte, Nat.reduceAdd, Int.toNat_natCast, Nat.add_zero, Owes_true, e17, hcast]; try rfl), hB7, g7, hSlw, hSdy', hge6⟩
end Go.Proofs
