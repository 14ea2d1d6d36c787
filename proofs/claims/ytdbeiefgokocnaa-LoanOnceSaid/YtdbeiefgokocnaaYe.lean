/- Loans: a day is counted once, on the machine. -/
import Derived.Test.YtdbeiefgokocnaaYd
set_option linter.unusedVariables false
set_option linter.unusedSimpArgs false
/- Loans: a day is counted once, on the machine. -/
namespace Go.Proofs
open Go Go.RowKit Go.Sim
set_option maxRecDepth 100000
def zfee (d : DealN) : DealN := ⟨d.r, d.c, d.a, d.fr, 0, d.tm, d.gr, d.st, d.sm⟩
theorem zfee_deal {d : DealN} {cl : List Int} (h : dealB d cl = true) : dealB (zfee d) cl = true := by
  simp only [dealB, lawB, fiveB, tarB, Bool.and_eq_true] at h ⊢
  obtain ⟨⟨⟨⟨h1, h2⟩, h5⟩, h3⟩, h4⟩ := h
  exact ⟨⟨⟨⟨h1, ⟨⟨⟨⟨h2.1.1.1.1, h2.1.1.1.2⟩, by rfl⟩, h2.1.2⟩, h2.2⟩⟩, h5⟩, h3⟩, h4⟩
theorem owe_none {d : DealN} {cl : List Int} {day : Int} : oweE d cl [] day = 0 ∨ oweE d cl [] day = 23 ∨ oweE d cl [] day = 7 := by
  unfold oweE
  have h1 : actsB d [] = true := rfl
  have h2 : (goL d cl (beginL d) []).2.2 = 0 := rfl
  rw [h1, h2]
  simp only [ne_eq, not_true, Bool.true_eq_false, if_false]
  split
  · exact .inr (.inl rfl)
  · split
    · exact .inr (.inr rfl)
    · exact .inl rfl
theorem owe_lok {d : DealN} {cl : List Int} {l : List ActN} {day : Int} (h : oweE d cl l day = 0) : ∃ j, LOk d j (oweX d cl l day) := by
  have hr := owe_ran.1 h
  have hi := (dealB_in hr.deal).1
  obtain ⟨j, _, hj⟩ := go_keeps hr.deal (begin_ok' hi) hr.acts
  exact ⟨j, pass_keeps hr.deal hj hr.dy hr.day⟩
def rens (l : List ActN) : List ActN := l.filter fun a => decide (a.K = 2)
theorem rens_K {l : List ActN} : ∀ a ∈ rens l, a.K = 2 := fun a h => by
  have := (List.mem_filter.mp h).2
  exact of_decide_eq_true this
theorem rens_len (l : List ActN) : (rens l).length ≤ l.length := List.length_filter_le _ _
theorem rens_take {l : List ActN} {i : Nat} (h : i < l.length) : rens (l.take (i + 1)) = rens (l.take i) ++ (if l[i].K = 2 then [l[i]] else []) := by
  rw [rens, List.take_succ_eq_append_getElem h, List.filter_append]
  congr 1
  by_cases q : l[i].K = 2
  · rw [if_pos q]; simp [q]
  · rw [if_neg q]; simp [q]
set_option maxHeartbeats 16000000 in
theorem once_law (w : AW) (xs : List Value) (f : Fresh w) (h : HdAll Try.prog w [56, 68, 59] xs) : CallT Try.prog Try.T1 (.fn (.func 9) #[]) xs.toArray w fun v _ => v = .bool true := by
  cases h with
  | cons n1 h1 h =>
  cases h with
  | cons n2 h2 h =>
  cases h with
  | cons n3 h3 h =>
  cases h
  obtain ⟨d, u, cl, rfl, hs⟩ := given_deal h1
  obtain ⟨l, hl, hroom⟩ := given_actsR h2
  obtain ⟨m0, m1, m2, rfl⟩ := given_three h3
  rename_i ul
  clear h1 h2 h3
  show CallT Try.prog Try.T1 (.fn (.func 9) #[]) #[.agg #[.int .i64 d.r, .int .i64 d.c, .int .i64 d.a, .int .i64 d.fr, .int .i64 d.fe, .int .i64 d.tm, .int .i64 d.gr, u, .int .i64 d.st, .int .i64 d.sm], ul, .agg #[.int .i64 m0, .int .i64 m1, .int .i64 m2]] w _
  obtain ⟨p, cap, rfl, _⟩ := id hs.open
  obtain ⟨pl, capl, rfl, hcapl, hmaxl, hatl⟩ := id hl.open
  have hroom := hroom _ _ _ rfl
  have g0 := (Grown.refl f).push (.cells [.int .i64 d.r, .int .i64 d.c, .int .i64 d.a, .int .i64 d.fr, .int .i64 d.fe, .int .i64 d.tm, .int .i64 d.gr, (.slice p cl.length cap), .int .i64 d.st, .int .i64 d.sm] 56 w.next 0 0)
  have hO0 := Own.new f 56 [.int .i64 d.r, .int .i64 d.c, .int .i64 d.a, .int .i64 d.fr, .int .i64 d.fe, .int .i64 d.tm, .int .i64 d.gr, (.slice p cl.length cap), .int .i64 d.st, .int .i64 d.sm]
  have g := g0.push (.cells [.int .i64 m0, .int .i64 m1, .int .i64 m2] 59 (w.next + 1) 0 0)
  have hO := hO0.push (.cells [.int .i64 m0, .int .i64 m1, .int .i64 m2] 59 (w.next + 1) 0 0)
  have hN := Own.new g0.2 59 [.int .i64 m0, .int .i64 m1, .int .i64 m2]
  simp only [AW.next_push] at hN
  have c0 := (hO).cell (o := 0) rfl rfl
  have c1 := (hO).cell (o := 1) rfl rfl
  have c2 := (hO).cell (o := 2) rfl rfl
  have c3 := (hO).cell (o := 3) rfl rfl
  have c4 := (hO).cell (o := 4) rfl rfl
  have c5 := (hO).cell (o := 5) rfl rfl
  have c6 := (hO).cell (o := 6) rfl rfl
  have c7 := (hO).cell (o := 7) rfl rfl
  have c8 := (hO).cell (o := 8) rfl rfl
  have c9 := (hO).cell (o := 9) rfl rfl
  have u0 := hN.cell (o := 0) rfl rfl
  refine callT_code rfl Try.func9 rfl Try.s9_eq rfl ?_
  unfold Try.s9
  simp -dsimp -implicitDefEqProofs (maxSteps := 2000000) (disch := first | assumption | omega | (simp only [AW.next_push, AW.next_put]; omega) | ((repeat refine Fresh.push ?_ _); assumption) | (simp only [same_int, same_bool, same_ptr, same_slice, same_sliceP, same_nil, same_agg2, same_string]; done) | (simp [oneCell, AW.next_push]; done) | fail) only [go_sem, Nat.reduceEqDiff, reduceIte, Nat.reduceAdd, Int.toNat_natCast, Nat.add_zero, Owes_true, Try.results9, Nat.zero_add, c0, c1, c2, c3, c4, c5, c6, c7, c8, c9, u0]
  apply callV_of (e := rfl)
  · exact Owe_ok d cl [] m0 _ _ _ g.2 (hs.grown g) (ArrOf.nil _ _ _)
  rintro _ w1 ⟨rfl, hg1⟩
  have g1 := g.trans hg1
  have f1 := g1.2
  have hO1 := hO.keep hg1.1
  have hN1 := hN.keep hg1.1
  have l1 : ¬ (23 : Int) = 0 := by decide
  have l2 : ¬ (7 : Int) = 0 := by decide
  have l3 : ¬ (7 : Int) = 23 := by decide
  rcases owe_none (d := d) (cl := cl) (day := m0) with hE1 | hE1 | hE1
  rotate_left
  · rw [hE1]
    simp -dsimp -implicitDefEqProofs (maxSteps := 2000000) (disch := first | assumption | omega | (simp only [AW.next_push, AW.next_put]; omega) | ((repeat refine Fresh.push ?_ _); assumption) | (simp only [same_int, same_bool, same_ptr, same_slice, same_sliceP, same_nil, same_agg2, same_string]; done) | (simp [oneCell, AW.next_push]; done) | fail) only [go_sem, Nat.reduceEqDiff, reduceIte, Nat.reduceAdd, Int.toNat_natCast, Nat.add_zero, Owes_true, Try.results9, accV, Nat.zero_add, l1]
    apply callV_of (e := rfl)
    · exact callT_told (Q := fun v w' => v = .bool true ∧ _ = w') (v := .bool true) (w' := _) rfl ⟨rfl, rfl⟩
    rintro _ w8 ⟨rfl, rfl⟩
    simp -dsimp -implicitDefEqProofs (maxSteps := 2000000) (disch := first | assumption | omega | (simp only [AW.next_push, AW.next_put]; omega) | ((repeat refine Fresh.push ?_ _); assumption) | (simp only [same_int, same_bool, same_ptr, same_slice, same_sliceP, same_nil, same_agg2, same_string]; done) | (simp [oneCell, AW.next_push]; done) | fail) only [go_sem, Nat.reduceEqDiff, reduceIte, Nat.reduceAdd, Int.toNat_natCast, Nat.add_zero, Owes_true, Try.results9]
  · rw [hE1]
    simp -dsimp -implicitDefEqProofs (maxSteps := 2000000) (disch := first | assumption | omega | (simp only [AW.next_push, AW.next_put]; omega) | ((repeat refine Fresh.push ?_ _); assumption) | (simp only [same_int, same_bool, same_ptr, same_slice, same_sliceP, same_nil, same_agg2, same_string]; done) | (simp [oneCell, AW.next_push]; done) | fail) only [go_sem, Nat.reduceEqDiff, reduceIte, Nat.reduceAdd, Int.toNat_natCast, Nat.add_zero, Owes_true, Try.results9, accV, Nat.zero_add, l2, l3]
    apply callV_of (e := rfl)
    · exact callT_told (Q := fun v w' => v = .bool true ∧ _ = w') (v := .bool true) (w' := _) rfl ⟨rfl, rfl⟩
    rintro _ w8 ⟨rfl, rfl⟩
    simp -dsimp -implicitDefEqProofs (maxSteps := 2000000) (disch := first | assumption | omega | (simp only [AW.next_push, AW.next_put]; omega) | ((repeat refine Fresh.push ?_ _); assumption) | (simp only [same_int, same_bool, same_ptr, same_slice, same_sliceP, same_nil, same_agg2, same_string]; done) | (simp [oneCell, AW.next_push]; done) | fail) only [go_sem, Nat.reduceEqDiff, reduceIte, Nat.reduceAdd, Int.toNat_natCast, Nat.add_zero, Owes_true, Try.results9]
  have hd := (owe_ran.1 hE1).deal
  have hi := (dealB_in hd).1
  have hi0 := (dealB_in (zfee_deal hd)).1
  have hsm := hi.sm
  have hfee := hi.fe
  have hst := hi.st
  rw [hE1, oweA_ok hE1]
  have hC1 := renews_charge (owe_ran.1 hE1) (l := []) (fun a h => by simp at h)
  have hlk1 := owe_lok hE1
  generalize hA1 : oweX d cl [] m0 = A1 at *
  have g2 := g1.push (.cells (accells A1) 70 w1.next 0 0)
  have hB2 := Own.new f1 70 (accells A1)
  have hO2 := hO1.push (.cells (accells A1) 70 w1.next 0 0)
  have hN2 := hN1.push (.cells (accells A1) 70 w1.next 0 0)
  unfold accells at g2 hB2 hO2 hN2
  simp -dsimp -implicitDefEqProofs (maxSteps := 2000000) (disch := first | assumption | omega | (simp only [AW.next_push, AW.next_put]; omega) | ((repeat refine Fresh.push ?_ _); assumption) | (simp only [same_int, same_bool, same_ptr, same_slice, same_sliceP, same_nil, same_agg2, same_string]; done) | (simp [oneCell, AW.next_push]; done) | fail) only [go_sem, Nat.reduceEqDiff, reduceIte, Nat.reduceAdd, Int.toNat_natCast, Nat.add_zero, Owes_true, Try.results9, accV, Nat.zero_add, ne_eq, not_true]
  generalize w1.push (.cells [.int .i64 A1.P, .int .i64 A1.C, .int .i64 A1.Q, .int .i64 A1.A, .bool A1.op] 70 w1.next 0 0) = w2 at *
  have f2 := g2.2
  refine loopR (fun k t ds w3 => ∃ i : Nat, i ≤ l.length ∧ k = l.length - i ∧ ds = [] ∧ ev t (.tmp 1) = .slice pl l.length capl ∧ ev t (.tmp 3) = .pointer (some ⟨w.next, 0, none⟩) ∧ ev t (.tmp 5) = .pointer (some ⟨w.next + 1, 0, none⟩) ∧ ev t (.tmp 7) = .pointer (some ⟨w1.next, 0, none⟩) ∧ ev t (.tmp 10) = .int .i64 (i : Int) ∧ (∃ s, ev t (.tmp 9) = s ∧ AOwn w2.next w3 79 3 s (rens (l.take i)).length ((rens (l.take i)).flatMap acells)) ∧ Grown w2 w3) (l.length) ?_ ?_
  · refine ⟨0, by omega, by omega, rfl, ?_, ?_, ?_, ?_, ?_, ⟨.slice none 0 0, by simp -dsimp -implicitDefEqProofs (maxSteps := 2000000) (disch := first | assumption | omega | (simp only [AW.next_push, AW.next_put]; omega) | ((repeat refine Fresh.push ?_ _); assumption) | (simp only [same_int, same_bool, same_ptr, same_slice, same_sliceP, same_nil, same_agg2, same_string]; done) | (simp [oneCell, AW.next_push]; done) | fail) only [go_sem, Nat.reduceEqDiff, reduceIte, Nat.reduceAdd, Int.toNat_natCast, Nat.add_zero, Owes_true], .inl ⟨rfl, rfl, rfl⟩⟩, .refl f2⟩ <;> simp -dsimp -implicitDefEqProofs (maxSteps := 2000000) (disch := first | assumption | omega | (simp only [AW.next_push, AW.next_put]; omega) | ((repeat refine Fresh.push ?_ _); assumption) | (simp only [same_int, same_bool, same_ptr, same_slice, same_sliceP, same_nil, same_agg2, same_string]; done) | (simp [oneCell, AW.next_push]; done) | fail) only [go_sem, Nat.reduceEqDiff, reduceIte, Nat.reduceAdd, Int.toNat_natCast, Nat.add_zero, Owes_true] <;> rfl
  rintro k t ds w3 ⟨i, hii, rfl, rfl, e1, e3, e5, e7, e10, hlist, g3⟩
  obtain ⟨s, e9, hA⟩ := hlist
  obtain ⟨sp, sn, sc, hsl⟩ : ∃ x y z, s = .slice x y z := by rcases hA with ⟨rfl, _⟩ | ⟨_, _, rfl, _⟩ <;> exact ⟨_, _, _, rfl⟩
  subst hsl
  have f3 := g3.2
  have g3w := g2.trans g3
  by_cases hlt : (i : Int) < (l.length : Int)
  case pos =>
    have hlt' : i < l.length := by omega
    obtain ⟨b1, o1, rfl, hb1, hcell⟩ := hatl i hlt'
    have a0 := hcell _ g3w.1 0 _ rfl
    have a1 := hcell _ g3w.1 1 _ rfl
    have a2 := hcell _ g3w.1 2 _ rfl
    rw [Nat.add_zero] at a0
    have hT := rens_take hlt'
    have hlen3 := rens_len (l.take i)
    rw [List.length_take] at hlen3
    by_cases k2 : l[i].K = 2
    · rw [if_pos k2] at hT
      obtain ⟨s', w7, happ, hA7, hk7, f7, hn7, hap7⟩ := append_oneR (e' := 79) Try.ty68 Try.ty79 rfl (by decide) hA f3 g3.1.next (acells_len l[i]) (acells_one l[i]) (by omega) (by omega)
      unfold acells at happ
      have hkd : decide (l[i].K = 2) = true := decide_eq_true k2
      simp -dsimp -implicitDefEqProofs (maxSteps := 2000000) (disch := first | assumption | omega | (simp only [AW.next_push, AW.next_put]; omega) | ((repeat refine Fresh.push ?_ _); assumption) | (simp only [same_int, same_bool, same_ptr, same_slice, same_sliceP, same_nil, same_agg2, same_string]; done) | (simp [oneCell, AW.next_push]; done) | fail) only [go_sem, Nat.reduceEqDiff, reduceIte, Nat.reduceAdd, Int.toNat_natCast, Nat.add_zero, Owes_true, Try.results9, e1, e3, e5, e7, e9, e10, hlt, indexV_eq, a0, a1, a2, Nat.zero_add, hkd, happ]
      refine ⟨_, by omega, i + 1, by omega, rfl, rfl, by (simp -dsimp -implicitDefEqProofs (maxSteps := 2000000) (disch := first | assumption | omega | (simp only [AW.next_push, AW.next_put]; omega) | ((repeat refine Fresh.push ?_ _); assumption) | (simp only [same_int, same_bool, same_ptr, same_slice, same_sliceP, same_nil, same_agg2, same_string]; done) | (simp [oneCell, AW.next_push]; done) | fail) only [go_sem, Nat.reduceEqDiff, reduceIte, Nat.reduceAdd, Int.toNat_natCast, Nat.add_zero, Owes_true, e1]; try rfl), by (simp -dsimp -implicitDefEqProofs (maxSteps := 2000000) (disch := first | assumption | omega | (simp only [AW.next_push, AW.next_put]; omega) | ((repeat refine Fresh.push ?_ _); assumption) | (simp only [same_int, same_bool, same_ptr, same_slice, same_sliceP, same_nil, same_agg2, same_string]; done) | (simp [oneCell, AW.next_push]; done) | fail) only [go_sem, Nat.reduceEqDiff, reduceIte, Nat.reduceAdd, Int.toNat_natCast, Nat.add_zero, Owes_true, e3]; try rfl), by (simp -dsimp -implicitDefEqProofs (maxSteps := 2000000) (disch := first | assumption | omega | (simp only [AW.next_push, AW.next_put]; omega) | ((repeat refine Fresh.push ?_ _); assumption) | (simp only [same_int, same_bool, same_ptr, same_slice, same_sliceP, same_nil, same_agg2, same_string]; done) | (simp [oneCell, AW.next_push]; done) | fail) only [go_sem, Nat.reduceEqDiff, reduceIte, Nat.reduceAdd, Int.toNat_natCast, Nat.add_zero, Owes_true, e5]; try rfl), by (simp -dsimp -implicitDefEqProofs (maxSteps := 2000000) (disch := first | assumption | omega | (simp only [AW.next_push, AW.next_put]; omega) | ((repeat refine Fresh.push ?_ _); assumption) | (simp only [same_int, same_bool, same_ptr, same_slice, same_sliceP, same_nil, same_agg2, same_string]; done) | (simp [oneCell, AW.next_push]; done) | fail) only [go_sem, Nat.reduceEqDiff, reduceIte, Nat.reduceAdd, Int.toNat_natCast, Nat.add_zero, Owes_true, e7]; try rfl), by (simp -dsimp -implicitDefEqProofs (maxSteps := 2000000) (disch := first | assumption | omega | (simp only [AW.next_push, AW.next_put]; omega) | ((repeat refine Fresh.push ?_ _); assumption) | (simp only [same_int, same_bool, same_ptr, same_slice, same_sliceP, same_nil, same_agg2, same_string]; done) | (simp [oneCell, AW.next_push]; done) | fail) only [go_sem, Nat.reduceEqDiff, reduceIte, Nat.reduceAdd, Int.toNat_natCast, Nat.add_zero, Owes_true, e10]; try rfl), ⟨s', by simp -dsimp -implicitDefEqProofs (maxSteps := 2000000) (disch := first | assumption | omega | (simp only [AW.next_push, AW.next_put]; omega) | ((repeat refine Fresh.push ?_ _); assumption) | (simp only [same_int, same_bool, same_ptr, same_slice, same_sliceP, same_nil, same_agg2, same_string]; done) | (simp [oneCell, AW.next_push]; done) | fail) only [go_sem, Nat.reduceEqDiff, reduceIte, Nat.reduceAdd, Int.toNat_natCast, Nat.add_zero, Owes_true], by rw [hT, List.flatMap_append, List.length_append]; simpa using hA7⟩, ⟨g3.1.trans hk7, f7⟩⟩
    · rw [if_neg k2, List.append_nil] at hT
      have hkd : decide (l[i].K = 2) = false := decide_eq_false k2
      simp -dsimp -implicitDefEqProofs (maxSteps := 2000000) (disch := first | assumption | omega | (simp only [AW.next_push, AW.next_put]; omega) | ((repeat refine Fresh.push ?_ _); assumption) | (simp only [same_int, same_bool, same_ptr, same_slice, same_sliceP, same_nil, same_agg2, same_string]; done) | (simp [oneCell, AW.next_push]; done) | fail) only [go_sem, Nat.reduceEqDiff, reduceIte, Nat.reduceAdd, Int.toNat_natCast, Nat.add_zero, Owes_true, Try.results9, e1, e3, e5, e7, e9, e10, hlt, indexV_eq, a0, a1, a2, Nat.zero_add, hkd]
      refine ⟨_, by omega, i + 1, by omega, rfl, rfl, by (simp -dsimp -implicitDefEqProofs (maxSteps := 2000000) (disch := first | assumption | omega | (simp only [AW.next_push, AW.next_put]; omega) | ((repeat refine Fresh.push ?_ _); assumption) | (simp only [same_int, same_bool, same_ptr, same_slice, same_sliceP, same_nil, same_agg2, same_string]; done) | (simp [oneCell, AW.next_push]; done) | fail) only [go_sem, Nat.reduceEqDiff, reduceIte, Nat.reduceAdd, Int.toNat_natCast, Nat.add_zero, Owes_true, e1]; try rfl), by (simp -dsimp -implicitDefEqProofs (maxSteps := 2000000) (disch := first | assumption | omega | (simp only [AW.next_push, AW.next_put]; omega) | ((repeat refine Fresh.push ?_ _); assumption) | (simp only [same_int, same_bool, same_ptr, same_slice, same_sliceP, same_nil, same_agg2, same_string]; done) | (simp [oneCell, AW.next_push]; done) | fail) only [go_sem, Nat.reduceEqDiff, reduceIte, Nat.reduceAdd, Int.toNat_natCast, Nat.add_zero, Owes_true, e3]; try rfl), by (simp -dsimp -implicitDefEqProofs (maxSteps := 2000000) (disch := first | assumption | omega | (simp only [AW.next_push, AW.next_put]; omega) | ((repeat refine Fresh.push ?_ _); assumption) | (simp only [same_int, same_bool, same_ptr, same_slice, same_sliceP, same_nil, same_agg2, same_string]; done) | (simp [oneCell, AW.next_push]; done) | fail) only [go_sem, Nat.reduceEqDiff, reduceIte, Nat.reduceAdd, Int.toNat_natCast, Nat.add_zero, Owes_true, e5]; try rfl), by (simp -dsimp -implicitDefEqProofs (maxSteps := 2000000) (disch := first | assumption | omega | (simp only [AW.next_push, AW.next_put]; omega) | ((repeat refine Fresh.push ?_ _); assumption) | (simp only [same_int, same_bool, same_ptr, same_slice, same_sliceP, same_nil, same_agg2, same_string]; done) | (simp [oneCell, AW.next_push]; done) | fail) only [go_sem, Nat.reduceEqDiff, reduceIte, Nat.reduceAdd, Int.toNat_natCast, Nat.add_zero, Owes_true, e7]; try rfl), by (simp -dsimp -implicitDefEqProofs (maxSteps := 2000000) (disch := first | assumption | omega | (simp only [AW.next_push, AW.next_put]; omega) | ((repeat refine Fresh.push ?_ _); assumption) | (simp only [same_int, same_bool, same_ptr, same_slice, same_sliceP, same_nil, same_agg2, same_string]; done) | (simp [oneCell, AW.next_push]; done) | fail) only [go_sem, Nat.reduceEqDiff, reduceIte, Nat.reduceAdd, Int.toNat_natCast, Nat.add_zero, Owes_true, e10]; try rfl), ⟨_, by (simp -dsimp -implicitDefEqProofs (maxSteps := 2000000) (disch := first | assumption | omega | (simp only [AW.next_push, AW.next_put]; omega) | ((repeat refine Fresh.push ?_ _); assumption) | (simp only [same_int, same_bool, same_ptr, same_slice, same_sliceP, same_nil, same_agg2, same_string]; done) | (simp [oneCell, AW.next_push]; done) | fail) only [go_sem, Nat.reduceEqDiff, reduceIte, Nat.reduceAdd, Int.toNat_natCast, Nat.add_zero, Owes_true, e9]; try rfl), by rw [hT]; exact hA⟩, g3⟩
  obtain rfl : i = l.length := by omega
  rw [List.take_length] at hA
  have hrl := rens_len l
  have hArr := hA.arrR acells_len (by omega)
  have hsn : sn = (rens l).length := by
    rcases hA with ⟨z1, z2, _⟩ | ⟨_, _, z1, _⟩
    · injection z1 with _ z3 _; omega
    · injection z1 with _ z3 _
  subst hsn
  have hO3 := hO2.keep g3.1
  have hN3 := hN2.keep g3.1
  have hB3 := hB2.keep g3.1
  have c0 := (hO3).cell (o := 0) rfl rfl
  have c1 := (hO3).cell (o := 1) rfl rfl
  have c2 := (hO3).cell (o := 2) rfl rfl
  have c3 := (hO3).cell (o := 3) rfl rfl
  have c4 := (hO3).cell (o := 4) rfl rfl
  have c5 := (hO3).cell (o := 5) rfl rfl
  have c6 := (hO3).cell (o := 6) rfl rfl
  have c7 := (hO3).cell (o := 7) rfl rfl
  have c8 := (hO3).cell (o := 8) rfl rfl
  have c9 := (hO3).cell (o := 9) rfl rfl
  have u0 := hN3.cell (o := 0) rfl rfl
  have g4 := g3w.push (.cells [.int .i64 d.r, .int .i64 d.c, .int .i64 d.a, .int .i64 d.fr, .int .i64 0, .int .i64 d.tm, .int .i64 d.gr, .slice p cl.length cap, .int .i64 d.st, .int .i64 d.sm] 56 w3.next 0 0)
  have hArr4 := hArr.grown ((Grown.refl f3).push (.cells [.int .i64 d.r, .int .i64 d.c, .int .i64 d.a, .int .i64 d.fr, .int .i64 0, .int .i64 d.tm, .int .i64 d.gr, .slice p cl.length cap, .int .i64 d.st, .int .i64 d.sm] 56 w3.next 0 0))
  have hF4 := Own.new f3 56 [.int .i64 d.r, .int .i64 d.c, .int .i64 d.a, .int .i64 d.fr, .int .i64 0, .int .i64 d.tm, .int .i64 d.gr, .slice p cl.length cap, .int .i64 d.st, .int .i64 d.sm]
  have hO4 := hO3.push (.cells [.int .i64 d.r, .int .i64 d.c, .int .i64 d.a, .int .i64 d.fr, .int .i64 0, .int .i64 d.tm, .int .i64 d.gr, .slice p cl.length cap, .int .i64 d.st, .int .i64 d.sm] 56 w3.next 0 0)
  have hN4 := hN3.push (.cells [.int .i64 d.r, .int .i64 d.c, .int .i64 d.a, .int .i64 d.fr, .int .i64 0, .int .i64 d.tm, .int .i64 d.gr, .slice p cl.length cap, .int .i64 d.st, .int .i64 d.sm] 56 w3.next 0 0)
  have hB4 := hB3.push (.cells [.int .i64 d.r, .int .i64 d.c, .int .i64 d.a, .int .i64 d.fr, .int .i64 0, .int .i64 d.tm, .int .i64 d.gr, .slice p cl.length cap, .int .i64 d.st, .int .i64 d.sm] 56 w3.next 0 0)
  have u0 := hN4.cell (o := 0) rfl rfl
  have k0 := hF4.cell (o := 0) rfl rfl
  have k1 := hF4.cell (o := 1) rfl rfl
  have k2 := hF4.cell (o := 2) rfl rfl
  have k3 := hF4.cell (o := 3) rfl rfl
  have k4 := hF4.cell (o := 4) rfl rfl
  have k5 := hF4.cell (o := 5) rfl rfl
  have k6 := hF4.cell (o := 6) rfl rfl
  have k7 := hF4.cell (o := 7) rfl rfl
  have k8 := hF4.cell (o := 8) rfl rfl
  have k9 := hF4.cell (o := 9) rfl rfl
  have kst : storeV (w3.push (.cells [.int .i64 d.r, .int .i64 d.c, .int .i64 d.a, .int .i64 d.fr, .int .i64 d.fe, .int .i64 d.tm, .int .i64 d.gr, (.slice p cl.length cap), .int .i64 d.st, .int .i64 d.sm] 56 w3.next 0 0)) false 1 (.pointer (some ⟨w3.next, 4, none⟩)) (.int .i64 0) = some (w3.push (.cells [.int .i64 d.r, .int .i64 d.c, .int .i64 d.a, .int .i64 d.fr, .int .i64 0, .int .i64 d.tm, .int .i64 d.gr, .slice p cl.length cap, .int .i64 d.st, .int .i64 d.sm] 56 w3.next 0 0)) := by
    have := storeV_own1 (o := 4) (v := .int .i64 0) (Own.new f3 56 [.int .i64 d.r, .int .i64 d.c, .int .i64 d.a, .int .i64 d.fr, .int .i64 d.fe, .int .i64 d.tm, .int .i64 d.gr, (.slice p cl.length cap), .int .i64 d.st, .int .i64 d.sm]) (by simp) rfl
    rw [put_push] at this
    exact this
  simp -dsimp -implicitDefEqProofs (maxSteps := 2000000) (disch := first | assumption | omega | (simp only [AW.next_push, AW.next_put]; omega) | ((repeat refine Fresh.push ?_ _); assumption) | (simp only [same_int, same_bool, same_ptr, same_slice, same_sliceP, same_nil, same_agg2, same_string]; done) | (simp [oneCell, AW.next_push]; done) | fail) only [go_sem, Nat.reduceEqDiff, reduceIte, Nat.reduceAdd, Int.toNat_natCast, Nat.add_zero, Owes_true, Try.results9, e1, e3, e5, e7, e9, e10, hlt, Nat.zero_add, c0, c1, c2, c3, c4, c5, c6, c7, c8, c9, kst, u0, k0, k1, k2, k3, k4, k5, k6, k7, k8, k9]
  generalize w3.push (.cells [.int .i64 d.r, .int .i64 d.c, .int .i64 d.a, .int .i64 d.fr, .int .i64 0, .int .i64 d.tm, .int .i64 d.gr, .slice p cl.length cap, .int .i64 d.st, .int .i64 d.sm] 56 w3.next 0 0) = w4 at *
  apply callV_of (e := rfl)
  · exact Owe_ok (zfee d) cl [] m0 _ _ w4 g4.2 (hs.grown g4) (ArrOf.nil _ _ _)
  rintro _ w5 ⟨rfl, hg5⟩
  have hRan := owe_ran.1 hE1
  have hE2 : oweE (zfee d) cl [] m0 = 0 := owe_ran.2 ⟨zfee_deal hd, by simp, rfl, rfl, hRan.dy, hRan.day⟩
  have hC2 := renews_charge (owe_ran.1 hE2) (l := []) (fun a h => by simp at h)
  rw [hE2, oweA_ok hE2]
  generalize hA2 : oweX (zfee d) cl [] m0 = A2 at *
  have g5 := g4.trans hg5
  have f5 := g5.2
  have hO5 := hO4.keep hg5.1
  have hN5 := hN4.keep hg5.1
  have hB5 := hB4.keep hg5.1
  have hF5 := hF4.keep hg5.1
  have hArr5 := hArr4.grown hg5
  have g6 := g5.push (.cells (accells A2) 70 w5.next 0 0)
  have hG6 := Own.new f5 70 (accells A2)
  have hO6 := hO5.push (.cells (accells A2) 70 w5.next 0 0)
  have hN6 := hN5.push (.cells (accells A2) 70 w5.next 0 0)
  have hB6 := hB5.push (.cells (accells A2) 70 w5.next 0 0)
  have hF6 := hF5.push (.cells (accells A2) 70 w5.next 0 0)
  have hArr6 := hArr5.grown ((Grown.refl f5).push (.cells (accells A2) 70 w5.next 0 0))
  unfold accells at g6 hG6 hO6 hN6 hB6 hF6 hArr6
  have u0 := hN6.cell (o := 0) rfl rfl
  have k0 := hF6.cell (o := 0) rfl rfl
  have k1 := hF6.cell (o := 1) rfl rfl
  have k2 := hF6.cell (o := 2) rfl rfl
  have k3 := hF6.cell (o := 3) rfl rfl
  have k4 := hF6.cell (o := 4) rfl rfl
  have k5 := hF6.cell (o := 5) rfl rfl
  have k6 := hF6.cell (o := 6) rfl rfl
  have k7 := hF6.cell (o := 7) rfl rfl
  have k8 := hF6.cell (o := 8) rfl rfl
  have k9 := hF6.cell (o := 9) rfl rfl
  simp -dsimp -implicitDefEqProofs (maxSteps := 2000000) (disch := first | assumption | omega | (simp only [AW.next_push, AW.next_put]; omega) | ((repeat refine Fresh.push ?_ _); assumption) | (simp only [same_int, same_bool, same_ptr, same_slice, same_sliceP, same_nil, same_agg2, same_string]; done) | (simp [oneCell, AW.next_push]; done) | fail) only [go_sem, Nat.reduceEqDiff, reduceIte, Nat.reduceAdd, Int.toNat_natCast, Nat.add_zero, Owes_true, Try.results9, accV, e1, e3, e5, e7, e9, e10, Nat.zero_add, u0, k0, k1, k2, k3, k4, k5, k6, k7, k8, k9]
  generalize w5.push (.cells [.int .i64 A2.P, .int .i64 A2.C, .int .i64 A2.Q, .int .i64 A2.A, .bool A2.op] 70 w5.next 0 0) = w6 at *
  apply callV_of (e := rfl)
  · exact Owe_ok (zfee d) cl (rens l) m0 _ _ w6 g6.2 (hs.grown g6) hArr6
  rintro _ w7 ⟨rfl, hg7⟩
  have hC3 : oweE (zfee d) cl (rens l) m0 = 0 → (oweA (zfee d) cl (rens l) m0).C = A2.C := fun q => by
    rw [oweA_ok q, renews_charge (owe_ran.1 q) rens_K, hC2]
    show chF (zfee d) _ _ (((rens l).length : Int) * 0) = chF (zfee d) _ _ ((([] : List ActN).length : Int) * 0)
    rw [Int.mul_zero, Int.mul_zero]
  generalize oweE (zfee d) cl (rens l) m0 = E3 at *
  generalize oweA (zfee d) cl (rens l) m0 = A3 at *
  have g7 := g6.trans hg7
  have f7 := g7.2
  have hO7 := hO6.keep hg7.1
  have hN7 := hN6.keep hg7.1
  have hB7 := hB6.keep hg7.1
  have hG7 := hG6.keep hg7.1
  have hArr7 := hArr6.grown hg7
  have g8 := g7.push (.cells (accells A3) 70 w7.next 0 0)
  have hH8 := Own.new f7 70 (accells A3)
  have hO8 := hO7.push (.cells (accells A3) 70 w7.next 0 0)
  have hN8 := hN7.push (.cells (accells A3) 70 w7.next 0 0)
  have hB8 := hB7.push (.cells (accells A3) 70 w7.next 0 0)
  have hG8 := hG7.push (.cells (accells A3) 70 w7.next 0 0)
  have hArr8 := hArr7.grown ((Grown.refl f7).push (.cells (accells A3) 70 w7.next 0 0))
  unfold accells at g8 hH8 hO8 hN8 hB8 hG8 hArr8
  have x1 := hH8.cell (o := 1) rfl rfl
  have y1 := hG8.cell (o := 1) rfl rfl
  have u0 := hN8.cell (o := 0) rfl rfl
  have c0 := (hO8).cell (o := 0) rfl rfl
  have c1 := (hO8).cell (o := 1) rfl rfl
  have c2 := (hO8).cell (o := 2) rfl rfl
  have c3 := (hO8).cell (o := 3) rfl rfl
  have c4 := (hO8).cell (o := 4) rfl rfl
  have c5 := (hO8).cell (o := 5) rfl rfl
  have c6 := (hO8).cell (o := 6) rfl rfl
  have c7 := (hO8).cell (o := 7) rfl rfl
  have c8 := (hO8).cell (o := 8) rfl rfl
  have c9 := (hO8).cell (o := 9) rfl rfl
  simp -dsimp -implicitDefEqProofs (maxSteps := 2000000) (disch := first | assumption | omega | (simp only [AW.next_push, AW.next_put]; omega) | ((repeat refine Fresh.push ?_ _); assumption) | (simp only [same_int, same_bool, same_ptr, same_slice, same_sliceP, same_nil, same_agg2, same_string]; done) | (simp [oneCell, AW.next_push]; done) | fail) only [go_sem, Nat.reduceEqDiff, reduceIte, Nat.reduceAdd, Int.toNat_natCast, Nat.add_zero, Owes_true, Try.results9, accV, e1, e3, e5, e7, e9, e10, Nat.zero_add]
  generalize w7.push (.cells [.int .i64 A3.P, .int .i64 A3.C, .int .i64 A3.Q, .int .i64 A3.A, .bool A3.op] 70 w7.next 0 0) = w8 at *
  apply joinC (F := fun t => ev t (.tmp 1) = .slice pl l.length capl ∧ ev t (.tmp 3) = .pointer (some ⟨w.next, 0, none⟩) ∧ ev t (.tmp 5) = .pointer (some ⟨w.next + 1, 0, none⟩) ∧ ev t (.tmp 7) = .pointer (some ⟨w1.next, 0, none⟩) ∧ ev t (.tmp 9) = .slice sp (rens l).length sc) (w := w8)
  case mainC =>
    intro go
    by_cases hE3 : E3 = 0
    · have hc3d : decide (A3.C = A2.C) = true := decide_eq_true (hC3 hE3)
      have hE3d : decide (E3 = 0) = true := decide_eq_true hE3
      simp -dsimp -implicitDefEqProofs (maxSteps := 2000000) (disch := first | assumption | omega | (simp only [AW.next_push, AW.next_put]; omega) | ((repeat refine Fresh.push ?_ _); assumption) | (simp only [same_int, same_bool, same_ptr, same_slice, same_sliceP, same_nil, same_agg2, same_string]; done) | (simp [oneCell, AW.next_push]; done) | fail) only [go_sem, Nat.reduceEqDiff, reduceIte, Nat.reduceAdd, Int.toNat_natCast, Nat.add_zero, Owes_true, Try.results9, e1, e3, e5, e7, e9, Nat.zero_add, ne_eq, not_true, hE3d, x1, y1, hc3d]
      exact joinC_use go ⟨by (simp -dsimp -implicitDefEqProofs (maxSteps := 2000000) (disch := first | assumption | omega | (simp only [AW.next_push, AW.next_put]; omega) | ((repeat refine Fresh.push ?_ _); assumption) | (simp only [same_int, same_bool, same_ptr, same_slice, same_sliceP, same_nil, same_agg2, same_string]; done) | (simp [oneCell, AW.next_push]; done) | fail) only [go_sem, Nat.reduceEqDiff, reduceIte, Nat.reduceAdd, Int.toNat_natCast, Nat.add_zero, Owes_true, e1]; try rfl), by (simp -dsimp -implicitDefEqProofs (maxSteps := 2000000) (disch := first | assumption | omega | (simp only [AW.next_push, AW.next_put]; omega) | ((repeat refine Fresh.push ?_ _); assumption) | (simp only [same_int, same_bool, same_ptr, same_slice, same_sliceP, same_nil, same_agg2, same_string]; done) | (simp [oneCell, AW.next_push]; done) | fail) only [go_sem, Nat.reduceEqDiff, reduceIte, Nat.reduceAdd, Int.toNat_natCast, Nat.add_zero, Owes_true, e3]; try rfl), by (simp -dsimp -implicitDefEqProofs (maxSteps := 2000000) (disch := first | assumption | omega | (simp only [AW.next_push, AW.next_put]; omega) | ((repeat refine Fresh.push ?_ _); assumption) | (simp only [same_int, same_bool, same_ptr, same_slice, same_sliceP, same_nil, same_agg2, same_string]; done) | (simp [oneCell, AW.next_push]; done) | fail) only [go_sem, Nat.reduceEqDiff, reduceIte, Nat.reduceAdd, Int.toNat_natCast, Nat.add_zero, Owes_true, e5]; try rfl), by (simp -dsimp -implicitDefEqProofs (maxSteps := 2000000) (disch := first | assumption | omega | (simp only [AW.next_push, AW.next_put]; omega) | ((repeat refine Fresh.push ?_ _); assumption) | (simp only [same_int, same_bool, same_ptr, same_slice, same_sliceP, same_nil, same_agg2, same_string]; done) | (simp [oneCell, AW.next_push]; done) | fail) only [go_sem, Nat.reduceEqDiff, reduceIte, Nat.reduceAdd, Int.toNat_natCast, Nat.add_zero, Owes_true, e7]; try rfl), by (simp -dsimp -implicitDefEqProofs (maxSteps := 2000000) (disch := first | assumption | omega | (simp only [AW.next_push, AW.next_put]; omega) | ((repeat refine Fresh.push ?_ _); assumption) | (simp only [same_int, same_bool, same_ptr, same_slice, same_sliceP, same_nil, same_agg2, same_string]; done) | (simp [oneCell, AW.next_push]; done) | fail) only [go_sem, Nat.reduceEqDiff, reduceIte, Nat.reduceAdd, Int.toNat_natCast, Nat.add_zero, Owes_true, e9]; try rfl)⟩
    · simp -dsimp -implicitDefEqProofs (maxSteps := 2000000) (disch := first | assumption | omega | (simp only [AW.next_push, AW.next_put]; omega) | ((repeat refine Fresh.push ?_ _); assumption) | (simp only [same_int, same_bool, same_ptr, same_slice, same_sliceP, same_nil, same_agg2, same_string]; done) | (simp [oneCell, AW.next_push]; done) | fail) only [go_sem, Nat.reduceEqDiff, reduceIte, Nat.reduceAdd, Int.toNat_natCast, Nat.add_zero, Owes_true, Try.results9, e1, e3, e5, e7, e9, Nat.zero_add, ne_eq, not_true, hE3]
      exact joinC_use go ⟨by (simp -dsimp -implicitDefEqProofs (maxSteps := 2000000) (disch := first | assumption | omega | (simp only [AW.next_push, AW.next_put]; omega) | ((repeat refine Fresh.push ?_ _); assumption) | (simp only [same_int, same_bool, same_ptr, same_slice, same_sliceP, same_nil, same_agg2, same_string]; done) | (simp [oneCell, AW.next_push]; done) | fail) only [go_sem, Nat.reduceEqDiff, reduceIte, Nat.reduceAdd, Int.toNat_natCast, Nat.add_zero, Owes_true, e1]; try rfl), by (simp -dsimp -implicitDefEqProofs (maxSteps := 2000000) (disch := first | assumption | omega | (simp only [AW.next_push, AW.next_put]; omega) | ((repeat refine Fresh.push ?_ _); assumption) | (simp only [same_int, same_bool, same_ptr, same_slice, same_sliceP, same_nil, same_agg2, same_string]; done) | (simp [oneCell, AW.next_push]; done) | fail) only [go_sem, Nat.reduceEqDiff, reduceIte, Nat.reduceAdd, Int.toNat_natCast, Nat.add_zero, Owes_true, e3]; try rfl), by (simp -dsimp -implicitDefEqProofs (maxSteps := 2000000) (disch := first | assumption | omega | (simp only [AW.next_push, AW.next_put]; omega) | ((repeat refine Fresh.push ?_ _); assumption) | (simp only [same_int, same_bool, same_ptr, same_slice, same_sliceP, same_nil, same_agg2, same_string]; done) | (simp [oneCell, AW.next_push]; done) | fail) only [go_sem, Nat.reduceEqDiff, reduceIte, Nat.reduceAdd, Int.toNat_natCast, Nat.add_zero, Owes_true, e5]; try rfl), by (simp -dsimp -implicitDefEqProofs (maxSteps := 2000000) (disch := first | assumption | omega | (simp only [AW.next_push, AW.next_put]; omega) | ((repeat refine Fresh.push ?_ _); assumption) | (simp only [same_int, same_bool, same_ptr, same_slice, same_sliceP, same_nil, same_agg2, same_string]; done) | (simp [oneCell, AW.next_push]; done) | fail) only [go_sem, Nat.reduceEqDiff, reduceIte, Nat.reduceAdd, Int.toNat_natCast, Nat.add_zero, Owes_true, e7]; try rfl), by (simp -dsimp -implicitDefEqProofs (maxSteps := 2000000) (disch := first | assumption | omega | (simp only [AW.next_push, AW.next_put]; omega) | ((repeat refine Fresh.push ?_ _); assumption) | (simp only [same_int, same_bool, same_ptr, same_slice, same_sliceP, same_nil, same_agg2, same_string]; done) | (simp [oneCell, AW.next_push]; done) | fail) only [go_sem, Nat.reduceEqDiff, reduceIte, Nat.reduceAdd, Int.toNat_natCast, Nat.add_zero, Owes_true, e9]; try rfl)⟩
  case restC =>
  rintro t ⟨e1, e3, e5, e7, e9⟩
  unfold Try.s9_c93
  simp -dsimp -implicitDefEqProofs (maxSteps := 2000000) (disch := first | assumption | omega | (simp only [AW.next_push, AW.next_put]; omega) | ((repeat refine Fresh.push ?_ _); assumption) | (simp only [same_int, same_bool, same_ptr, same_slice, same_sliceP, same_nil, same_agg2, same_string]; done) | (simp [oneCell, AW.next_push]; done) | fail) only [go_sem, Nat.reduceEqDiff, reduceIte, Nat.reduceAdd, Int.toNat_natCast, Nat.add_zero, Owes_true, Try.results9, e1, e3, e5, e7, e9, Nat.zero_add, u0, c0, c1, c2, c3, c4, c5, c6, c7, c8, c9]
  apply callV_of (e := rfl)
  · exact Owe_ok d cl (rens l) m0 _ _ w8 g8.2 (hs.grown g8) hArr8
  rintro _ w9 ⟨rfl, hg9⟩
  have hC4 : oweE d cl (rens l) m0 = 0 → A1.C ≤ (oweA d cl (rens l) m0).C ∧ (oweA d cl (rens l) m0).C ≤ A1.C + ((rens l).length : Int) * d.fe ∧ (rens l).length ≤ 32 := fun q => by
    have hr := owe_ran.1 q
    rw [oweA_ok q, renews_charge hr rens_K, hC1]
    have hf : 0 ≤ ((rens l).length : Int) * d.fe := mul_nonneg' (by omega) hfee.1
    have := fees_in hi (l := oD cl d.st m0 * d.sm) (c := max 0 (oD cl d.st m0 - d.fr) * d.sm) hf
    have e0 : ((([] : List ActN).length : Int) * d.fe) = 0 := by simp
    rw [e0]
    exact ⟨this.1, this.2, hr.len⟩
  obtain ⟨j1, hj1⟩ := hlk1
  have hA1b := hj1.charge hd
  generalize oweE d cl (rens l) m0 = E4 at *
  generalize oweA d cl (rens l) m0 = A4 at *
  have g9 := g8.trans hg9
  have f9 := g9.2
  have hO9 := hO8.keep hg9.1
  have hN9 := hN8.keep hg9.1
  have hB9 := hB8.keep hg9.1
  have g10 := g9.push (.cells (accells A4) 70 w9.next 0 0)
  have hI10 := Own.new f9 70 (accells A4)
  have hO10 := hO9.push (.cells (accells A4) 70 w9.next 0 0)
  have hN10 := hN9.push (.cells (accells A4) 70 w9.next 0 0)
  have hB10 := hB9.push (.cells (accells A4) 70 w9.next 0 0)
  unfold accells at g10 hI10 hO10 hN10 hB10
  have x1 := hI10.cell (o := 1) rfl rfl
  have y1 := hB10.cell (o := 1) rfl rfl
  have u1 := hN10.cell (o := 1) rfl rfl
  have u2 := hN10.cell (o := 2) rfl rfl
  have c0 := (hO10).cell (o := 0) rfl rfl
  have c1 := (hO10).cell (o := 1) rfl rfl
  have c2 := (hO10).cell (o := 2) rfl rfl
  have c3 := (hO10).cell (o := 3) rfl rfl
  have c4 := (hO10).cell (o := 4) rfl rfl
  have c5 := (hO10).cell (o := 5) rfl rfl
  have c6 := (hO10).cell (o := 6) rfl rfl
  have c7 := (hO10).cell (o := 7) rfl rfl
  have c8 := (hO10).cell (o := 8) rfl rfl
  have c9 := (hO10).cell (o := 9) rfl rfl
  simp -dsimp -implicitDefEqProofs (maxSteps := 2000000) (disch := first | assumption | omega | (simp only [AW.next_push, AW.next_put]; omega) | ((repeat refine Fresh.push ?_ _); assumption) | (simp only [same_int, same_bool, same_ptr, same_slice, same_sliceP, same_nil, same_agg2, same_string]; done) | (simp [oneCell, AW.next_push]; done) | fail) only [go_sem, Nat.reduceEqDiff, reduceIte, Nat.reduceAdd, Int.toNat_natCast, Nat.add_zero, Owes_true, Try.results9, accV, e1, e3, e5, e7, e9, Nat.zero_add]
  generalize w9.push (.cells [.int .i64 A4.P, .int .i64 A4.C, .int .i64 A4.Q, .int .i64 A4.A, .bool A4.op] 70 w9.next 0 0) = w10 at *
  apply joinC (F := fun t => ev t (.tmp 1) = .slice pl l.length capl ∧ ev t (.tmp 3) = .pointer (some ⟨w.next, 0, none⟩) ∧ ev t (.tmp 5) = .pointer (some ⟨w.next + 1, 0, none⟩)) (w := w10)
  case mainC =>
    intro go
    by_cases hE4 : E4 = 0
    · obtain ⟨q1, q2, q3⟩ := hC4 hE4
      have hE4d : decide (E4 = 0) = true := decide_eq_true hE4
      have hm1 : 0 ≤ ((rens l).length : Int) * d.fe := mul_nonneg' (by omega) hfee.1
      have hm2 := mul_mono2 (show ((rens l).length : Int) ≤ 32 by omega) hfee.2 hfee.1 (by omega)
      have n1 : ¬ A4.C < A1.C := by omega
      have n2 : ¬ A1.C + ((rens l).length : Int) * d.fe < A4.C := by omega
      simp -dsimp -implicitDefEqProofs (maxSteps := 2000000) (disch := first | assumption | omega | (simp only [AW.next_push, AW.next_put]; omega) | ((repeat refine Fresh.push ?_ _); assumption) | (simp only [same_int, same_bool, same_ptr, same_slice, same_sliceP, same_nil, same_agg2, same_string]; done) | (simp [oneCell, AW.next_push]; done) | fail) only [go_sem, Nat.reduceEqDiff, reduceIte, Nat.reduceAdd, Int.toNat_natCast, Nat.add_zero, Owes_true, Try.results9, e1, e3, e5, e7, e9, Nat.zero_add, hE4d, x1, y1, n1, n2, c0, c1, c2, c3, c4, c5, c6, c7, c8, c9]
      exact joinC_use go ⟨by (simp -dsimp -implicitDefEqProofs (maxSteps := 2000000) (disch := first | assumption | omega | (simp only [AW.next_push, AW.next_put]; omega) | ((repeat refine Fresh.push ?_ _); assumption) | (simp only [same_int, same_bool, same_ptr, same_slice, same_sliceP, same_nil, same_agg2, same_string]; done) | (simp [oneCell, AW.next_push]; done) | fail) only [go_sem, Nat.reduceEqDiff, reduceIte, Nat.reduceAdd, Int.toNat_natCast, Nat.add_zero, Owes_true, e1]; try rfl), by (simp -dsimp -implicitDefEqProofs (maxSteps := 2000000) (disch := first | assumption | omega | (simp only [AW.next_push, AW.next_put]; omega) | ((repeat refine Fresh.push ?_ _); assumption) | (simp only [same_int, same_bool, same_ptr, same_slice, same_sliceP, same_nil, same_agg2, same_string]; done) | (simp [oneCell, AW.next_push]; done) | fail) only [go_sem, Nat.reduceEqDiff, reduceIte, Nat.reduceAdd, Int.toNat_natCast, Nat.add_zero, Owes_true, e3]; try rfl), by (simp -dsimp -implicitDefEqProofs (maxSteps := 2000000) (disch := first | assumption | omega | (simp only [AW.next_push, AW.next_put]; omega) | ((repeat refine Fresh.push ?_ _); assumption) | (simp only [same_int, same_bool, same_ptr, same_slice, same_sliceP, same_nil, same_agg2, same_string]; done) | (simp [oneCell, AW.next_push]; done) | fail) only [go_sem, Nat.reduceEqDiff, reduceIte, Nat.reduceAdd, Int.toNat_natCast, Nat.add_zero, Owes_true, e5]; try rfl)⟩
    · simp -dsimp -implicitDefEqProofs (maxSteps := 2000000) (disch := first | assumption | omega | (simp only [AW.next_push, AW.next_put]; omega) | ((repeat refine Fresh.push ?_ _); assumption) | (simp only [same_int, same_bool, same_ptr, same_slice, same_sliceP, same_nil, same_agg2, same_string]; done) | (simp [oneCell, AW.next_push]; done) | fail) only [go_sem, Nat.reduceEqDiff, reduceIte, Nat.reduceAdd, Int.toNat_natCast, Nat.add_zero, Owes_true, Try.results9, e1, e3, e5, e7, e9, Nat.zero_add, hE4]
      exact joinC_use go ⟨by (simp -dsimp -implicitDefEqProofs (maxSteps := 2000000) (disch := first | assumption | omega | (simp only [AW.next_push, AW.next_put]; omega) | ((repeat refine Fresh.push ?_ _); assumption) | (simp only [same_int, same_bool, same_ptr, same_slice, same_sliceP, same_nil, same_agg2, same_string]; done) | (simp [oneCell, AW.next_push]; done) | fail) only [go_sem, Nat.reduceEqDiff, reduceIte, Nat.reduceAdd, Int.toNat_natCast, Nat.add_zero, Owes_true, e1]; try rfl), by (simp -dsimp -implicitDefEqProofs (maxSteps := 2000000) (disch := first | assumption | omega | (simp only [AW.next_push, AW.next_put]; omega) | ((repeat refine Fresh.push ?_ _); assumption) | (simp only [same_int, same_bool, same_ptr, same_slice, same_sliceP, same_nil, same_agg2, same_string]; done) | (simp [oneCell, AW.next_push]; done) | fail) only [go_sem, Nat.reduceEqDiff, reduceIte, Nat.reduceAdd, Int.toNat_natCast, Nat.add_zero, Owes_true, e3]; try rfl), by (simp -dsimp -implicitDefEqProofs (maxSteps := 2000000) (disch := first | assumption | omega | (simp only [AW.next_push, AW.next_put]; omega) | ((repeat refine Fresh.push ?_ _); assumption) | (simp only [same_int, same_bool, same_ptr, same_slice, same_sliceP, same_nil, same_agg2, same_string]; done) | (simp [oneCell, AW.next_push]; done) | fail) only [go_sem, Nat.reduceEqDiff, reduceIte, Nat.reduceAdd, Int.toNat_natCast, Nat.add_zero, Owes_true, e5]; try rfl)⟩
  case restC =>
  clear e1 e3 e5 e7 e9
  rintro t ⟨e1, e3, e5⟩
  unfold Try.s9_c123
  simp -dsimp -implicitDefEqProofs (maxSteps := 2000000) (disch := first | assumption | omega | (simp only [AW.next_push, AW.next_put]; omega) | ((repeat refine Fresh.push ?_ _); assumption) | (simp only [same_int, same_bool, same_ptr, same_slice, same_sliceP, same_nil, same_agg2, same_string]; done) | (simp [oneCell, AW.next_push]; done) | fail) only [go_sem, Nat.reduceEqDiff, reduceIte, Nat.reduceAdd, Int.toNat_natCast, Nat.add_zero, Owes_true, Try.results9, e1, e3, e5, Nat.zero_add, u1, c0, c1, c2, c3, c4, c5, c6, c7, c8, c9]
  apply callV_of (e := rfl)
  · exact Ring_ok m1 (d.sm + 1000) (by omega) (by omega) w10
  rintro _ _ ⟨k1, rfl, hk1, hk1', rfl⟩
  have f10 := g10.2
  have hle10 := WLe.refl w10
  have sd := same_deal d p cl.length cap
  have ssl := same_sliceP pl l.length capl
  have hlc : l.length * 24 ≤ 140737488351232 := by have := Nat.mul_le_mul_right 24 hcapl; omega
  -- the first list
  have g11 := g10.push (.cells [] 79 w10.next 0 0)
  have hO11 := hO10.push (.cells [] 79 w10.next 0 0)
  have hN11 := hN10.push (.cells [] 79 w10.next 0 0)
  have hnew := arr_new (hl.grown g11) acells_len (by decide)
  obtain ⟨v1, w12, happ1, hk12, f12, hcase⟩ := append_empty Try.ty68 Try.ty79 rfl (by decide) (b := w10.next) (e' := 79) (blk_push_top _ _) (f10.push (.cells [] 79 w10.next 0 0)) rfl hnew (acells_lens l) (acells_ones l) (by omega) (by omega)
  have hM12 : Making (w10.next + 1) w12 79 3 v1 l.length (l.flatMap acells) := by
    rcases hcase with ⟨z, rfl, rfl⟩ | z
    · obtain rfl : l = [] := List.length_eq_zero_iff.mp z
      exact .inl ⟨rfl, rfl, w10.next, 79, rfl, by rw [AW.next_push]; omega, blk_push_top _ _⟩
    · rw [AW.next_push] at z; exact .inr z
  have hle12 := hk12.wle (f10.push (.cells [] 79 w10.next 0 0))
  have hn12 := hk12.next
  rw [AW.next_push] at hn12
  have g12 : Grown w w12 := ⟨g11.1.trans (hk12.mono g11.1.next), f12⟩
  have hO12 := hO11.keepC hk12 (by have := hO11.lt; omega)
  have hN12 := hN11.keepC hk12 (by have := hN11.lt; omega)
  have c0 := (hO11).cell (o := 0) rfl rfl
  have c1 := (hO11).cell (o := 1) rfl rfl
  have c2 := (hO11).cell (o := 2) rfl rfl
  have c3 := (hO11).cell (o := 3) rfl rfl
  have c4 := (hO11).cell (o := 4) rfl rfl
  have c5 := (hO11).cell (o := 5) rfl rfl
  have c6 := (hO11).cell (o := 6) rfl rfl
  have c7 := (hO11).cell (o := 7) rfl rfl
  have c8 := (hO11).cell (o := 8) rfl rfl
  have c9 := (hO11).cell (o := 9) rfl rfl
  simp -dsimp -implicitDefEqProofs (maxSteps := 2000000) (disch := first | assumption | omega | (simp only [AW.next_push, AW.next_put]; omega) | ((repeat refine Fresh.push ?_ _); assumption) | (simp only [same_int, same_bool, same_ptr, same_slice, same_sliceP, same_nil, same_agg2, same_string]; done) | (simp [oneCell, AW.next_push]; done) | fail) only [go_sem, Nat.reduceEqDiff, reduceIte, Nat.reduceAdd, Int.toNat_natCast, Nat.add_zero, Owes_true, Try.results9, e1, e3, e5, Nat.zero_add, c0, c1, c2, c3, c4, c5, c6, c7, c8, c9, happ1, hle12]
  apply callV_of (e := rfl)
  · exact last_ok d cl l _ _ w12 f12 (hs.grown g12) (hl.grown g12)
  rintro _ w13 ⟨rfl, hg13⟩
  have g13 := g12.trans hg13
  have f13 := g13.2
  have hle13 := hg13.1.wle f12
  have hn13 := hg13.1.next
  have hM13 := hM12.keep hg13.1 (Nat.le_refl _)
  have hO13 := hO12.keep hg13.1
  have hN13 := hN12.keep hg13.1
  obtain ⟨v2, w14, happ2, hA14, hk14, f14⟩ := hM13.app (e' := 79) (k := 1) (new := [.int .i64 (lastD d.st l), .int .i64 1, .int .i64 (2 + k1)]) Try.ty68 Try.ty79 rfl (by decide) f13 (by omega) (by decide) rfl (acells_one ⟨lastD d.st l, 1, 2 + k1⟩) (by omega) (by omega)
  obtain ⟨p2, r2, rfl⟩ : ∃ p2 r2, v2 = .slice p2 (l.length + 1) r2 := by
    rcases hA14 with ⟨rfl, z, _⟩ | ⟨_, _, rfl, _⟩
    · omega
    · exact ⟨_, _, rfl⟩
  have g14 : Grown w w14 := ⟨g13.1.trans (hk14.mono (by have := g10.1.next; omega)), f14⟩
  have hO14 := hO13.keepC hk14 (by have := hO10.lt; omega)
  have hN14 := hN13.keepC hk14 (by have := hN10.lt; omega)
  have hone : AOwn (w10.next + 1) w14 79 3 (.slice p2 (l.length + 1) r2) (l ++ [(⟨lastD d.st l, 1, 2 + k1⟩ : ActN)]).length ((l ++ [(⟨lastD d.st l, 1, 2 + k1⟩ : ActN)]).flatMap acells) := by
    rw [List.length_append, List.flatMap_append]; exact hA14
  have hArr1 := hone.arrR acells_len (by rw [List.length_append]; show l.length + 1 ≤ _; omega)
  have hsl2 := same_sliceP p2 (l.length + 1) r2
  have s3 := same_acts3 (lastD d.st l) 1 (2 + k1)
  have u2 := hN14.cell (o := 2) rfl rfl
  simp -dsimp -implicitDefEqProofs (maxSteps := 2000000) (disch := first | assumption | omega | (simp only [AW.next_push, AW.next_put]; omega) | ((repeat refine Fresh.push ?_ _); assumption) | (simp only [same_int, same_bool, same_ptr, same_slice, same_sliceP, same_nil, same_agg2, same_string]; done) | (simp [oneCell, AW.next_push]; done) | fail) only [go_sem, Nat.reduceEqDiff, reduceIte, Nat.reduceAdd, Int.toNat_natCast, Nat.add_zero, Owes_true, Try.results9, e1, e3, e5, Nat.zero_add, hle13, happ2, u2]
  apply callV_of (e := rfl)
  · exact Ring_ok m2 (2 + k1 - 1) (by omega) (by omega) w14
  rintro _ _ ⟨k2, rfl, hk2, hk2', rfl⟩
  -- the second list
  have g15 := g14.push (.cells [] 79 w14.next 0 0)
  have hO15 := hO14.push (.cells [] 79 w14.next 0 0)
  have hnew2 := arr_new (hl.grown g15) acells_len (by decide)
  obtain ⟨v3, w16, happ3, hk16, f16, hcase3⟩ := append_empty Try.ty68 Try.ty79 rfl (by decide) (b := w14.next) (e' := 79) (blk_push_top _ _) (f14.push (.cells [] 79 w14.next 0 0)) rfl hnew2 (acells_lens l) (acells_ones l) (by omega) (by omega)
  have hM16 : Making (w14.next + 1) w16 79 3 v3 l.length (l.flatMap acells) := by
    rcases hcase3 with ⟨z, rfl, rfl⟩ | z
    · obtain rfl : l = [] := List.length_eq_zero_iff.mp z
      exact .inl ⟨rfl, rfl, w14.next, 79, rfl, by rw [AW.next_push]; omega, blk_push_top _ _⟩
    · rw [AW.next_push] at z; exact .inr z
  have hle16 := hk16.wle (f14.push (.cells [] 79 w14.next 0 0))
  have hn16 := hk16.next
  rw [AW.next_push] at hn16
  have g16 : Grown w w16 := ⟨g15.1.trans (hk16.mono g15.1.next), f16⟩
  have hO16 := hO15.keepC hk16 (by have := hO15.lt; omega)
  have c0 := (hO15).cell (o := 0) rfl rfl
  have c1 := (hO15).cell (o := 1) rfl rfl
  have c2 := (hO15).cell (o := 2) rfl rfl
  have c3 := (hO15).cell (o := 3) rfl rfl
  have c4 := (hO15).cell (o := 4) rfl rfl
  have c5 := (hO15).cell (o := 5) rfl rfl
  have c6 := (hO15).cell (o := 6) rfl rfl
  have c7 := (hO15).cell (o := 7) rfl rfl
  have c8 := (hO15).cell (o := 8) rfl rfl
  have c9 := (hO15).cell (o := 9) rfl rfl
  simp -dsimp -implicitDefEqProofs (maxSteps := 2000000) (disch := first | assumption | omega | (simp only [AW.next_push, AW.next_put]; omega) | ((repeat refine Fresh.push ?_ _); assumption) | (simp only [same_int, same_bool, same_ptr, same_slice, same_sliceP, same_nil, same_agg2, same_string]; done) | (simp [oneCell, AW.next_push]; done) | fail) only [go_sem, Nat.reduceEqDiff, reduceIte, Nat.reduceAdd, Int.toNat_natCast, Nat.add_zero, Owes_true, Try.results9, e1, e3, e5, Nat.zero_add, c0, c1, c2, c3, c4, c5, c6, c7, c8, c9, happ3, hle16]
  apply callV_of (e := rfl)
  · exact last_ok d cl l _ _ w16 f16 (hs.grown g16) (hl.grown g16)
  rintro _ w17 ⟨rfl, hg17⟩
  have g17 := g16.trans hg17
  have f17 := g17.2
  have hle17 := hg17.1.wle f16
  have hn17 := hg17.1.next
  have s4 := same_acts3 (lastD d.st l) 1 (1 + k2)
  have s5 := same_acts3 (lastD d.st l) 1 (2 + k1 - (1 + k2))
  simp -dsimp -implicitDefEqProofs (maxSteps := 2000000) (disch := first | assumption | omega | (simp only [AW.next_push, AW.next_put]; omega) | ((repeat refine Fresh.push ?_ _); assumption) | (simp only [same_int, same_bool, same_ptr, same_slice, same_sliceP, same_nil, same_agg2, same_string]; done) | (simp [oneCell, AW.next_push]; done) | fail) only [go_sem, Nat.reduceEqDiff, reduceIte, Nat.reduceAdd, Int.toNat_natCast, Nat.add_zero, Owes_true, Try.results9, e1, e3, e5, Nat.zero_add, hle17]
  apply callV_of (e := rfl)
  · exact last_ok d cl l _ _ w17 f17 (hs.grown g17) (hl.grown g17)
  rintro _ w18 ⟨rfl, hg18⟩
  have g18 := g17.trans hg18
  have f18 := g18.2
  have hle18 := hg18.1.wle f17
  have hn18 := hg18.1.next
  have hM18 := (hM16.keep hg17.1 (Nat.le_refl _)).keep hg18.1 (Nat.le_refl _)
  have hO18 := (hO16.keep hg17.1).keep hg18.1
  obtain ⟨v4, w19, happ4, hA19, hk19, f19⟩ := hM18.app (e' := 79) (k := 2) (new := [.int .i64 (lastD d.st l), .int .i64 1, .int .i64 (1 + k2), .int .i64 (lastD d.st l), .int .i64 1, .int .i64 (2 + k1 - (1 + k2))]) Try.ty68 Try.ty79 rfl (by decide) f18 (by omega) (by decide) rfl (acells_ones [⟨lastD d.st l, 1, 1 + k2⟩, ⟨lastD d.st l, 1, 2 + k1 - (1 + k2)⟩]) (by omega) (by omega)
  obtain ⟨p4, r4, rfl⟩ : ∃ p4 r4, v4 = .slice p4 (l.length + 2) r4 := by
    rcases hA19 with ⟨rfl, z, _⟩ | ⟨_, _, rfl, _⟩
    · omega
    · exact ⟨_, _, rfl⟩
  have q15 := (Grown.refl f14).push (.cells [] 79 w14.next 0 0)
  have q16 : Grown w14 w16 := ⟨q15.1.trans (hk16.mono q15.1.next), f16⟩
  have q18 := (q16.trans hg17).trans hg18
  have q19 : Grown w14 w19 := ⟨q18.1.trans (hk19.mono (by omega)), f19⟩
  have g19 := g14.trans q19
  have hO19 := hO14.keep q19.1
  have hArr1' := hArr1.grown q19
  have htwo : AOwn (w14.next + 1) w19 79 3 (.slice p4 (l.length + 2) r4) (l ++ [(⟨lastD d.st l, 1, 1 + k2⟩ : ActN), ⟨lastD d.st l, 1, 2 + k1 - (1 + k2)⟩]).length ((l ++ [(⟨lastD d.st l, 1, 1 + k2⟩ : ActN), ⟨lastD d.st l, 1, 2 + k1 - (1 + k2)⟩]).flatMap acells) := by
    rw [List.length_append, List.flatMap_append]; exact hA19
  have hArr2 := htwo.arrR acells_len (by rw [List.length_append]; show l.length + 2 ≤ _; omega)
  have hsl4 := same_sliceP p4 (l.length + 2) r4
  have c0 := (hO19).cell (o := 0) rfl rfl
  have c1 := (hO19).cell (o := 1) rfl rfl
  have c2 := (hO19).cell (o := 2) rfl rfl
  have c3 := (hO19).cell (o := 3) rfl rfl
  have c4 := (hO19).cell (o := 4) rfl rfl
  have c5 := (hO19).cell (o := 5) rfl rfl
  have c6 := (hO19).cell (o := 6) rfl rfl
  have c7 := (hO19).cell (o := 7) rfl rfl
  have c8 := (hO19).cell (o := 8) rfl rfl
  have c9 := (hO19).cell (o := 9) rfl rfl
  simp -dsimp -implicitDefEqProofs (maxSteps := 2000000) (disch := first | assumption | omega | (simp only [AW.next_push, AW.next_put]; omega) | ((repeat refine Fresh.push ?_ _); assumption) | (simp only [same_int, same_bool, same_ptr, same_slice, same_sliceP, same_nil, same_agg2, same_string]; done) | (simp [oneCell, AW.next_push]; done) | fail) only [go_sem, Nat.reduceEqDiff, reduceIte, Nat.reduceAdd, Int.toNat_natCast, Nat.add_zero, Owes_true, Try.results9, e1, e3, e5, Nat.zero_add, hle18, happ4, c0, c1, c2, c3, c4, c5, c6, c7, c8, c9]
  apply callV_of (e := rfl)
  · exact Run_ok d cl (l ++ [(⟨lastD d.st l, 1, 2 + k1⟩ : ActN)]) _ _ w19 f19 (hs.grown g19) hArr1'
  rintro _ w20 ⟨s1, ys1, rfl, hy1, hg20, hr1⟩
  obtain ⟨py1, cy1, rfl, _, _, hat1⟩ := id hy1.open
  have g20 := g19.trans hg20
  have hO20 := hO19.keep hg20.1
  have c0 := (hO20).cell (o := 0) rfl rfl
  have c1 := (hO20).cell (o := 1) rfl rfl
  have c2 := (hO20).cell (o := 2) rfl rfl
  have c3 := (hO20).cell (o := 3) rfl rfl
  have c4 := (hO20).cell (o := 4) rfl rfl
  have c5 := (hO20).cell (o := 5) rfl rfl
  have c6 := (hO20).cell (o := 6) rfl rfl
  have c7 := (hO20).cell (o := 7) rfl rfl
  have c8 := (hO20).cell (o := 8) rfl rfl
  have c9 := (hO20).cell (o := 9) rfl rfl
  simp -dsimp -implicitDefEqProofs (maxSteps := 2000000) (disch := first | assumption | omega | (simp only [AW.next_push, AW.next_put]; omega) | ((repeat refine Fresh.push ?_ _); assumption) | (simp only [same_int, same_bool, same_ptr, same_slice, same_sliceP, same_nil, same_agg2, same_string]; done) | (simp [oneCell, AW.next_push]; done) | fail) only [go_sem, Nat.reduceEqDiff, reduceIte, Nat.reduceAdd, Int.toNat_natCast, Nat.add_zero, Owes_true, Try.results9, e1, e3, e5, Nat.zero_add, c0, c1, c2, c3, c4, c5, c6, c7, c8, c9]
  apply callV_of (e := rfl)
  · exact Run_ok d cl (l ++ [(⟨lastD d.st l, 1, 1 + k2⟩ : ActN), ⟨lastD d.st l, 1, 2 + k1 - (1 + k2)⟩]) _ _ w20 g20.2 (hs.grown g20) (hArr2.grown hg20)
  rintro _ w21 ⟨s2, ys2, rfl, hy2, hg21, hr2⟩
  obtain ⟨py2, cy2, rfl, _, _, hat2⟩ := id hy2.open
  by_cases hR1 : runE d cl (l ++ [(⟨lastD d.st l, 1, 2 + k1⟩ : ActN)]) = 0
  case neg =>
    simp -dsimp -implicitDefEqProofs (maxSteps := 2000000) (disch := first | assumption | omega | (simp only [AW.next_push, AW.next_put]; omega) | ((repeat refine Fresh.push ?_ _); assumption) | (simp only [same_int, same_bool, same_ptr, same_slice, same_sliceP, same_nil, same_agg2, same_string]; done) | (simp [oneCell, AW.next_push]; done) | fail) only [go_sem, Nat.reduceEqDiff, reduceIte, Nat.reduceAdd, Int.toNat_natCast, Nat.add_zero, Owes_true, Try.results9, e1, e3, e5, Nat.zero_add, hR1]
    apply callV_of (e := rfl)
    · exact callT_told (Q := fun v w' => v = .bool true ∧ w21 = w') (v := .bool true) (w' := w21) rfl ⟨rfl, rfl⟩
    rintro _ w8 ⟨rfl, rfl⟩
    simp -dsimp -implicitDefEqProofs (maxSteps := 2000000) (disch := first | assumption | omega | (simp only [AW.next_push, AW.next_put]; omega) | ((repeat refine Fresh.push ?_ _); assumption) | (simp only [same_int, same_bool, same_ptr, same_slice, same_sliceP, same_nil, same_agg2, same_string]; done) | (simp [oneCell, AW.next_push]; done) | fail) only [go_sem, Nat.reduceEqDiff, reduceIte, Nat.reduceAdd, Int.toNat_natCast, Nat.add_zero, Owes_true, Try.results9]
  have hR1d : decide (runE d cl (l ++ [(⟨lastD d.st l, 1, 2 + k1⟩ : ActN)]) = 0) = true := decide_eq_true hR1
  by_cases h32 : 32 < ((l.length + 2 : Nat) : Int)
  · simp -dsimp -implicitDefEqProofs (maxSteps := 2000000) (disch := first | assumption | omega | (simp only [AW.next_push, AW.next_put]; omega) | ((repeat refine Fresh.push ?_ _); assumption) | (simp only [same_int, same_bool, same_ptr, same_slice, same_sliceP, same_nil, same_agg2, same_string]; done) | (simp [oneCell, AW.next_push]; done) | fail) only [go_sem, Nat.reduceEqDiff, reduceIte, Nat.reduceAdd, Int.toNat_natCast, Nat.add_zero, Owes_true, Try.results9, e1, e3, e5, Nat.zero_add, hR1d, hR1, ne_eq, not_true, h32]
    apply callV_of (e := rfl)
    · exact callT_told (Q := fun v w' => v = .bool true ∧ w21 = w') (v := .bool true) (w' := w21) rfl ⟨rfl, rfl⟩
    rintro _ w8 ⟨rfl, rfl⟩
    simp -dsimp -implicitDefEqProofs (maxSteps := 2000000) (disch := first | assumption | omega | (simp only [AW.next_push, AW.next_put]; omega) | ((repeat refine Fresh.push ?_ _); assumption) | (simp only [same_int, same_bool, same_ptr, same_slice, same_sliceP, same_nil, same_agg2, same_string]; done) | (simp [oneCell, AW.next_push]; done) | fail) only [go_sem, Nat.reduceEqDiff, reduceIte, Nat.reduceAdd, Int.toNat_natCast, Nat.add_zero, Owes_true, Try.results9]
  obtain ⟨hR2, X, hx1, hx2⟩ := once_math (d := d) (cl := cl) (l := l) (p := 1 + k2) (q := 2 + k1 - (1 + k2)) (N := 2 + k1) (by omega) (by omega) (by omega) hR1 (by omega)
  rcases hr1 with ⟨z, _⟩ | ⟨_, hat1n, hys1, hyl1, _, _⟩
  · exact absurd hR1 z
  rcases hr2 with ⟨z, _⟩ | ⟨_, hat2n, hys2, hyl2, _, _⟩
  · exact absurd hR2 z
  rw [← hys1] at hx1
  rw [← hys2] at hx2
  rw [List.length_append] at hyl1 hyl2
  have hyl1 : ys1.length = l.length + 1 := hyl1
  have hyl2 : ys2.length = l.length + 2 := hyl2
  have hx1' : ys1[l.length]'(by omega) = X := by rw [List.getElem?_eq_getElem (by omega)] at hx1; exact Option.some.inj hx1
  have hx2' : ys2[l.length + 1]'(by omega) = X := by rw [List.getElem?_eq_getElem (by omega)] at hx2; exact Option.some.inj hx2
  obtain ⟨b1, o1, rfl, hb1, hc1⟩ := hat1 l.length (by omega)
  obtain ⟨b2, o2, rfl, hb2, hc2⟩ := hat2 (l.length + 1) (by omega)
  rw [hx1'] at hc1
  rw [hx2'] at hc2
  have a0 := hc1 _ hg21.1 0 _ rfl
  have a1 := hc1 _ hg21.1 1 _ rfl
  have a2 := hc1 _ hg21.1 2 _ rfl
  have a3 := hc1 _ hg21.1 3 _ rfl
  have a4 := hc1 _ hg21.1 4 _ rfl
  have d0 := hc2 w21 (.refl _ _) 0 _ rfl
  have d1 := hc2 w21 (.refl _ _) 1 _ rfl
  have d2 := hc2 w21 (.refl _ _) 2 _ rfl
  have d3 := hc2 w21 (.refl _ _) 3 _ rfl
  have d4 := hc2 w21 (.refl _ _) 4 _ rfl
  rw [Nat.add_zero] at a0 d0
  have hq1 : decide ((ys1.length : Int) = ((l.length + 1 : Nat) : Int)) = true := decide_eq_true (by omega)
  have hq2 : decide ((ys2.length : Int) = ((l.length + 2 : Nat) : Int)) = true := decide_eq_true (by omega)
  have hi1 : (ys1.length : Int) - 1 = ((l.length : Nat) : Int) := by omega
  have hi2 : (ys2.length : Int) - 1 = ((l.length + 1 : Nat) : Int) := by omega
  have hj1 : ((l.length : Nat) : Int) < (ys1.length : Int) := by omega
  have hj2 : ((l.length + 1 : Nat) : Int) < (ys2.length : Int) := by omega
  have s6 := same_agg5 X.P X.C X.Q X.A X.op
  have e0 : ∀ z : Int, (z == z) = true := fun z => beq_self_eq_true z
  have eb : ∀ z : Bool, (z == z) = true := fun z => beq_self_eq_true z
  have hle21 := WLe.refl w21
  apply joinC (F := fun t => ev t (.tmp 14) = .int .i64 0 ∧ ev t (.tmp 17) = .slice p2 (l.length + 1) r2 ∧ ev t (.tmp 19) = .slice p4 (l.length + 2) r4 ∧ ev t (.tmp 20) = .slice (some ⟨b1, o1, none⟩) ys1.length cy1 ∧ ev t (.tmp 22) = .slice (some ⟨b2, o2, none⟩) ys2.length cy2) (w := w21)
  case mainC =>
    intro go
    simp -dsimp -implicitDefEqProofs (maxSteps := 2000000) (disch := first | assumption | omega | (simp only [AW.next_push, AW.next_put]; omega) | ((repeat refine Fresh.push ?_ _); assumption) | (simp only [same_int, same_bool, same_ptr, same_slice, same_sliceP, same_nil, same_agg2, same_string]; done) | (simp [oneCell, AW.next_push]; done) | fail) only [go_sem, Nat.reduceEqDiff, reduceIte, Nat.reduceAdd, Int.toNat_natCast, Nat.add_zero, Owes_true, Try.results9, e1, e3, e5, Nat.zero_add, hR1d, hR1, hR2, ne_eq, not_true, h32]
    exact joinC_use go ⟨by (simp -dsimp -implicitDefEqProofs (maxSteps := 2000000) (disch := first | assumption | omega | (simp only [AW.next_push, AW.next_put]; omega) | ((repeat refine Fresh.push ?_ _); assumption) | (simp only [same_int, same_bool, same_ptr, same_slice, same_sliceP, same_nil, same_agg2, same_string]; done) | (simp [oneCell, AW.next_push]; done) | fail) only [go_sem, Nat.reduceEqDiff, reduceIte, Nat.reduceAdd, Int.toNat_natCast, Nat.add_zero, Owes_true]; try rfl), by (simp -dsimp -implicitDefEqProofs (maxSteps := 2000000) (disch := first | assumption | omega | (simp only [AW.next_push, AW.next_put]; omega) | ((repeat refine Fresh.push ?_ _); assumption) | (simp only [same_int, same_bool, same_ptr, same_slice, same_sliceP, same_nil, same_agg2, same_string]; done) | (simp [oneCell, AW.next_push]; done) | fail) only [go_sem, Nat.reduceEqDiff, reduceIte, Nat.reduceAdd, Int.toNat_natCast, Nat.add_zero, Owes_true]; try rfl), by (simp -dsimp -implicitDefEqProofs (maxSteps := 2000000) (disch := first | assumption | omega | (simp only [AW.next_push, AW.next_put]; omega) | ((repeat refine Fresh.push ?_ _); assumption) | (simp only [same_int, same_bool, same_ptr, same_slice, same_sliceP, same_nil, same_agg2, same_string]; done) | (simp [oneCell, AW.next_push]; done) | fail) only [go_sem, Nat.reduceEqDiff, reduceIte, Nat.reduceAdd, Int.toNat_natCast, Nat.add_zero, Owes_true]; try rfl), by (simp -dsimp -implicitDefEqProofs (maxSteps := 2000000) (disch := first | assumption | omega | (simp only [AW.next_push, AW.next_put]; omega) | ((repeat refine Fresh.push ?_ _); assumption) | (simp only [same_int, same_bool, same_ptr, same_slice, same_sliceP, same_nil, same_agg2, same_string]; done) | (simp [oneCell, AW.next_push]; done) | fail) only [go_sem, Nat.reduceEqDiff, reduceIte, Nat.reduceAdd, Int.toNat_natCast, Nat.add_zero, Owes_true]; try rfl), by (simp -dsimp -implicitDefEqProofs (maxSteps := 2000000) (disch := first | assumption | omega | (simp only [AW.next_push, AW.next_put]; omega) | ((repeat refine Fresh.push ?_ _); assumption) | (simp only [same_int, same_bool, same_ptr, same_slice, same_sliceP, same_nil, same_agg2, same_string]; done) | (simp [oneCell, AW.next_push]; done) | fail) only [go_sem, Nat.reduceEqDiff, reduceIte, Nat.reduceAdd, Int.toNat_natCast, Nat.add_zero, Owes_true]; try rfl)⟩
  case restC =>
  clear e1 e3 e5
  rintro t ⟨e14, e17, e19, e20, e22⟩
  unfold Try.s9_c185
  simp -dsimp -implicitDefEqProofs (maxSteps := 2000000) (disch := first | assumption | omega | (simp only [AW.next_push, AW.next_put]; omega) | ((repeat refine Fresh.push ?_ _); assumption) | (simp only [same_int, same_bool, same_ptr, same_slice, same_sliceP, same_nil, same_agg2, same_string]; done) | (simp [oneCell, AW.next_push]; done) | fail) only [go_sem, Nat.reduceEqDiff, reduceIte, Nat.reduceAdd, Int.toNat_natCast, Nat.add_zero, Owes_true, Try.results9, e14, e17, e19, e20, e22, Nat.zero_add, hq1, hq2, hi1, hi2, indexV_eq, a0, a1, a2, a3, a4, d0, d1, d2, d3, d4, List.all_cons, List.all_nil, id, e0, eb]
  apply callV_of (e := rfl)
  · exact callT_told (Q := fun v w' => v = .bool true ∧ w21 = w') (v := .bool true) (w' := w21) rfl ⟨rfl, rfl⟩
  rintro _ w8 ⟨rfl, rfl⟩
  simp -dsimp -implicitDefEqProofs (maxSteps := 2000000) (disch := first | assumption | omega | (simp only [AW.next_push, AW.next_put]; omega) | ((repeat refine Fresh.push ?_ _); assumption) | (simp only [same_int, same_bool, same_ptr, same_slice, same_sliceP, same_nil, same_agg2, same_string]; done) | (simp [oneCell, AW.next_push]; done) | fail) only [go_sem, Nat.reduceEqDiff, reduceIte, Nat.reduceAdd, Int.toNat_natCast, Nat.add_zero, Owes_true, Try.results9, hle21]
end Go.Proofs
