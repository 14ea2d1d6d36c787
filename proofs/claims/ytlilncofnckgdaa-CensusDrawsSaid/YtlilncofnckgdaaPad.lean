/- This program: its code, contracts, numbers, part 4. -/
import Derived.Test.YtlilncofnckgdaaPac
import Derived.Test.YtlilncofnckgdaaPaa
import Derived.Test.YtlilncofnckgdaaNc
import Derived.Test.YtlilncofnckgdaaRows
import Derived.ProofKit
import Derived.SizedLaws
set_option linter.unusedVariables false
set_option linter.unusedSimpArgs false
namespace Go.Proofs
open Go Go.RowKit Go.Sim
set_option maxRecDepth 100000
theorem UnrankR_ok (n r : Int) (w : AW) (f : Fresh w) :
    CallT Try.prog Try.T1 (.fn (.func 37) #[]) #[.int .i64 n, .int .i64 r] w (Drawn (unrE n r) (ordI n.toNat r.toNat) w) := by
  refine callT_code rfl Try.func37 rfl Try.s37_eq rfl ?_
  unfold Try.s37
  simp -dsimp -implicitDefEqProofs (maxSteps := 2000000) (disch := first | assumption | omega | (simp only [nx]; omega) | ((repeat refine Fresh.push ?_ _); assumption) | (simp only [smA]; done) | (simp [oneCell, AW.next_push]; done) | fail) only [go_sem, Nat.reduceEqDiff, reduceIte, Nat.reduceAdd, Int.toNat_natCast, Nat.add_zero, Owes_true, Try.results37]
  apply callV_of (e := rfl)
  · exact From_ok n 1 8 w
  rintro _ _ ⟨rfl, rfl⟩
  cases hm : inR 1 n 8 with
  | false =>
    have he : unrE n r = 104 := by simp [unrE, hm]
    simp -dsimp -implicitDefEqProofs (maxSteps := 2000000) (disch := first | assumption | omega | (simp only [nx]; omega) | ((repeat refine Fresh.push ?_ _); assumption) | (simp only [smA]; done) | (simp [oneCell, AW.next_push]; done) | fail) only [go_sem, Nat.reduceEqDiff, reduceIte, Nat.reduceAdd, Int.toNat_natCast, Nat.add_zero, Owes_true, Try.results37, hm]
    exact ⟨Grown.refl f, none, 0, 0, by rw [he], fun _ => rfl, fun h => by omega⟩
  | true =>
  have hn := (inR_iff _ _ _).1 hm
  obtain ⟨k, rfl⟩ : ∃ k : Nat, n = (k : Int) := ⟨n.toNat, by omega⟩
  have hfl := fct_le (n := k) (by omega)
  simp -dsimp -implicitDefEqProofs (maxSteps := 2000000) (disch := first | assumption | omega | (simp only [nx]; omega) | ((repeat refine Fresh.push ?_ _); assumption) | (simp only [smA]; done) | (simp [oneCell, AW.next_push]; done) | fail) only [go_sem, Nat.reduceEqDiff, reduceIte, Nat.reduceAdd, Int.toNat_natCast, Nat.add_zero, Owes_true, Try.results37, hm]
  apply callV_of (e := rfl)
  · exact factorial_ok k (by omega) w
  rintro _ _ ⟨rfl, rfl⟩
  simp -dsimp -implicitDefEqProofs (maxSteps := 2000000) (disch := first | assumption | omega | (simp only [nx]; omega) | ((repeat refine Fresh.push ?_ _); assumption) | (simp only [smA]; done) | (simp [oneCell, AW.next_push]; done) | fail) only [go_sem, Nat.reduceEqDiff, reduceIte, Nat.reduceAdd, Int.toNat_natCast, Nat.add_zero, Owes_true, Try.results37]
  apply callV_of (e := rfl)
  · exact From_ok r 0 _ w
  rintro _ _ ⟨rfl, rfl⟩
  cases hr : inR 0 r ((fct k : Int) - 1) with
  | false =>
    have he : unrE (k : Int) r = 7 := by simp [unrE, hm, hr]
    simp -dsimp -implicitDefEqProofs (maxSteps := 2000000) (disch := first | assumption | omega | (simp only [nx]; omega) | ((repeat refine Fresh.push ?_ _); assumption) | (simp only [smA]; done) | (simp [oneCell, AW.next_push]; done) | fail) only [go_sem, Nat.reduceEqDiff, reduceIte, Nat.reduceAdd, Int.toNat_natCast, Nat.add_zero, Owes_true, Try.results37, hr]
    exact ⟨Grown.refl f, none, 0, 0, by rw [he], fun _ => rfl, fun h => by omega⟩
  | true =>
  have hr' := (inR_iff _ _ _).1 hr
  have he : unrE (k : Int) r = 0 := by simp [unrE, hm, hr]
  obtain ⟨q, rfl⟩ : ∃ q : Nat, r = (q : Int) := ⟨r.toNat, by omega⟩
  simp -dsimp -implicitDefEqProofs (maxSteps := 2000000) (disch := first | assumption | omega | (simp only [nx]; omega) | ((repeat refine Fresh.push ?_ _); assumption) | (simp only [smA]; done) | (simp [oneCell, AW.next_push]; done) | fail) only [go_sem, Nat.reduceEqDiff, reduceIte, Nat.reduceAdd, Int.toNat_natCast, Nat.add_zero, Owes_true, Try.results37, hr]
  apply callV_of (e := rfl)
  · exact unrankR_ok k q (by omega) (by omega) (by omega) w f
  rintro u w2 ⟨hA, g⟩
  have hl := ordI_len k q
  have hA2 := hA.arr (by omega)
  obtain ⟨p, c, rfl, _⟩ := id hA2.open
  simp -dsimp -implicitDefEqProofs (maxSteps := 2000000) (disch := first | assumption | omega | (simp only [nx]; omega) | ((repeat refine Fresh.push ?_ _); assumption) | (simp only [smA]; done) | (simp [oneCell, AW.next_push]; done) | fail) only [go_sem, Nat.reduceEqDiff, reduceIte, Nat.reduceAdd, Int.toNat_natCast, Nat.add_zero, Owes_true, Try.results37]
  exact ⟨g, p, _, c, by rw [he], fun h => absurd he h, fun _ => hA2⟩
def seedTo (n : Int) (L : List Int) (i : Nat) : Bool := inR 1 n 8 && (inR 1 L.length 16 && (L.take i).all fun x => inR 0 x ((fct n.toNat : Int) - 1))
theorem seedTo_succ {n : Int} {L : List Int} {i : Nat} (h : i < L.length) : seedTo n L (i + 1) = (seedTo n L i && inR 0 L[i] ((fct n.toNat : Int) - 1)) := by
  unfold seedTo
  rw [List.take_succ_eq_append_getElem h, List.all_append]
  simp only [List.all_cons, List.all_nil, Bool.and_true, Bool.and_assoc]
theorem seedTo_bad {n : Int} {L : List Int} {i : Nat} (h : seedTo n L i = false) : seedB n L = false := by
  cases hs : seedB n L with
  | false => rfl
  | true =>
    unfold seedB at hs
    simp only [Bool.and_eq_true, List.all_eq_true] at hs
    obtain ⟨a, b, c⟩ := hs
    have hc : ((L.take i).all fun x => inR 0 x ((fct n.toNat : Int) - 1)) = true := List.all_eq_true.2 fun x hx => c x (List.mem_of_mem_take hx)
    unfold seedTo at h
    rw [a, b, hc] at h; exact h
theorem seedTo_all (n : Int) (L : List Int) : seedTo n L L.length = seedB n L := by
  unfold seedTo seedB; rw [List.take_of_length_le (Nat.le_refl _)]
theorem rest39 (n many : Int) (hmm : -9223372036854775808 ≤ many) (L : List Int) (pv : Option Addr) (cv : Nat) (w : AW) (f : Fresh w) (hv : ArrOf w 1 icells (.slice pv L.length cv) L) (b : Bool) (hb : b = seedTo n L 0) (t : Tmps)
    (e0 : ev t (.tmp 0) = .int .i64 n) (e1 : ev t (.tmp 1) = .int .i64 many) (e2 : ev t (.tmp 2) = .slice pv L.length cv) (e8 : ev t (.tmp 8) = .bool b) (e6 : ev t (.tmp 6) = .slice none 0 0) (e7 : ev t (.tmp 7) = .int .i64 0) :
    CodeR Try.prog Try.T1 { fn := 39, round := none } Try.s39_c9 t [] w (fun e t ds w' => Sim.Left (P := Try.prog) Try.f39.results.toList e t ds w' (Drawn (drawE n many L) (drawL n many L) w)) .mk := by
  subst hb
  unfold Try.s39_c9
  simp -dsimp -implicitDefEqProofs (maxSteps := 2000000) (disch := first | assumption | omega | (simp only [nx]; omega) | ((repeat refine Fresh.push ?_ _); assumption) | (simp only [smA]; done) | (simp [oneCell, AW.next_push]; done) | fail) only [go_sem, Nat.reduceEqDiff, reduceIte, Nat.reduceAdd, Int.toNat_natCast, Nat.add_zero, Owes_true, e0, e1, e2, e8]
  refine loopR (fun k t ds w1 => ∃ i : Nat, i ≤ L.length ∧ k = L.length - i ∧ ds = [] ∧ ev t (.tmp 0) = .int .i64 n ∧ ev t (.tmp 1) = .int .i64 many ∧ ev t (.tmp 2) = .slice pv L.length cv ∧ ev t (.tmp 8) = .bool (seedTo n L i) ∧ ev t (.tmp 9) = .int .i64 (i : Int) ∧ w = w1) (L.length) ?_ ?_
  · refine ⟨0, by omega, by omega, rfl, ?_, ?_, ?_, ?_, ?_, rfl⟩ <;> simp -dsimp -implicitDefEqProofs (maxSteps := 2000000) (disch := first | assumption | omega | (simp only [nx]; omega) | ((repeat refine Fresh.push ?_ _); assumption) | (simp only [smA]; done) | (simp [oneCell, AW.next_push]; done) | fail) only [go_sem, Nat.reduceEqDiff, reduceIte, Nat.reduceAdd, Int.toNat_natCast, Nat.add_zero, Owes_true, e0, e1, e2, e8] <;> rfl
  rintro k t ds w1 ⟨i, hii, rfl, rfl, e0, e1, e2, e8, e9, hw⟩
  subst hw
  cases hB : seedTo n L i with
  | false =>
    have he : drawE n many L = 104 := by simp [drawE, seedTo_bad hB]
    simp -dsimp -implicitDefEqProofs (maxSteps := 2000000) (disch := first | assumption | omega | (simp only [nx]; omega) | ((repeat refine Fresh.push ?_ _); assumption) | (simp only [smA]; done) | (simp [oneCell, AW.next_push]; done) | fail) only [go_sem, Nat.reduceEqDiff, reduceIte, Nat.reduceAdd, Int.toNat_natCast, Nat.add_zero, Owes_true, e0, e1, e2, e8, e9, hB, Try.results39]
    exact ⟨Grown.refl f, none, 0, 0, by rw [he], fun _ => rfl, fun h => by omega⟩
  | true =>
  have hB' := hB
  unfold seedTo at hB'
  simp only [Bool.and_eq_true] at hB'
  obtain ⟨hm, hl, ha⟩ := hB'
  have hn := (inR_iff _ _ _).1 hm
  have hl' := (inR_iff _ _ _).1 hl
  obtain ⟨k, rfl⟩ : ∃ k : Nat, n = (k : Int) := ⟨n.toNat, by omega⟩
  have hfl := fct_le (n := k) (by omega)
  have hfp := fct_pos k
  by_cases hlt : (i : Int) < (L.length : Int)
  case pos =>
    have hlt' : i < L.length := by omega
    obtain ⟨_, _, epd, _, _, hat⟩ := hv.open
    injection epd with epd1 epd2 epd3
    subst epd1 epd3
    obtain ⟨b1, o1, rfl, hb1, hcell⟩ := hat i hlt'
    have a0 := hcell w (.refl _ _) 0 _ rfl
    rw [Nat.add_zero] at a0
    have hnx := seedTo_succ (n := (k : Int)) hlt'
    rw [hB, Bool.true_and] at hnx
    have hnx' : seedTo (k : Int) L (i + 1) = inR 0 L[i] ((fct k : Int) - 1) := hnx
    have hle : WLe w w := (Grown.refl f).1.wle f
    simp -dsimp -implicitDefEqProofs (maxSteps := 2000000) (disch := first | assumption | omega | (simp only [nx]; omega) | ((repeat refine Fresh.push ?_ _); assumption) | (simp only [smA]; done) | (simp [oneCell, AW.next_push]; done) | fail) only [go_sem, Nat.reduceEqDiff, reduceIte, Nat.reduceAdd, Int.toNat_natCast, Nat.add_zero, Owes_true, e0, e1, e2, e8, e9, hB, hlt, indexV_eq, a0]
    apply callV_of (e := rfl)
    · exact factorial_ok k (by omega) w
    rintro _ _ ⟨rfl, rfl⟩
    simp -dsimp -implicitDefEqProofs (maxSteps := 2000000) (disch := first | assumption | omega | (simp only [nx]; omega) | ((repeat refine Fresh.push ?_ _); assumption) | (simp only [smA]; done) | (simp [oneCell, AW.next_push]; done) | fail) only [go_sem, Nat.reduceEqDiff, reduceIte, Nat.reduceAdd, Int.toNat_natCast, Nat.add_zero, Owes_true, e0, e1, e2, e8, e9, hle]
    apply callV_of (e := rfl)
    · exact From_ok _ _ _ _
    rintro _ _ ⟨rfl, rfl⟩
    simp -dsimp -implicitDefEqProofs (maxSteps := 2000000) (disch := first | assumption | omega | (simp only [nx]; omega) | ((repeat refine Fresh.push ?_ _); assumption) | (simp only [smA]; done) | (simp [oneCell, AW.next_push]; done) | fail) only [go_sem, Nat.reduceEqDiff, reduceIte, Nat.reduceAdd, Int.toNat_natCast, Nat.add_zero, Owes_true, e0, e1, e2, e8, e9, hle]
    refine ⟨_, by omega, i + 1, by omega, rfl, rfl, by (simp -dsimp -implicitDefEqProofs (maxSteps := 2000000) (disch := first | assumption | omega | (simp only [nx]; omega) | ((repeat refine Fresh.push ?_ _); assumption) | (simp only [smA]; done) | (simp [oneCell, AW.next_push]; done) | fail) only [go_sem, Nat.reduceEqDiff, reduceIte, Nat.reduceAdd, Int.toNat_natCast, Nat.add_zero, Owes_true, e0, hnx']; try rfl), by (simp -dsimp -implicitDefEqProofs (maxSteps := 2000000) (disch := first | assumption | omega | (simp only [nx]; omega) | ((repeat refine Fresh.push ?_ _); assumption) | (simp only [smA]; done) | (simp [oneCell, AW.next_push]; done) | fail) only [go_sem, Nat.reduceEqDiff, reduceIte, Nat.reduceAdd, Int.toNat_natCast, Nat.add_zero, Owes_true, e1, hnx']; try rfl), by (simp -dsimp -implicitDefEqProofs (maxSteps := 2000000) (disch := first | assumption | omega | (simp only [nx]; omega) | ((repeat refine Fresh.push ?_ _); assumption) | (simp only [smA]; done) | (simp [oneCell, AW.next_push]; done) | fail) only [go_sem, Nat.reduceEqDiff, reduceIte, Nat.reduceAdd, Int.toNat_natCast, Nat.add_zero, Owes_true, e2, hnx']; try rfl), by (simp -dsimp -implicitDefEqProofs (maxSteps := 2000000) (disch := first | assumption | omega | (simp only [nx]; omega) | ((repeat refine Fresh.push ?_ _); assumption) | (simp only [smA]; done) | (simp [oneCell, AW.next_push]; done) | fail) only [go_sem, Nat.reduceEqDiff, reduceIte, Nat.reduceAdd, Int.toNat_natCast, Nat.add_zero, Owes_true, e8, hnx']; try rfl), by (simp -dsimp -implicitDefEqProofs (maxSteps := 2000000) (disch := first | assumption | omega | (simp only [nx]; omega) | ((repeat refine Fresh.push ?_ _); assumption) | (simp only [smA]; done) | (simp [oneCell, AW.next_push]; done) | fail) only [go_sem, Nat.reduceEqDiff, reduceIte, Nat.reduceAdd, Int.toNat_natCast, Nat.add_zero, Owes_true, e9, hnx']; try rfl), rfl⟩
  obtain rfl : i = L.length := by omega
  rw [seedTo_all] at hB
  rw [List.take_of_length_le (Nat.le_refl _)] at ha
  simp -dsimp -implicitDefEqProofs (maxSteps := 2000000) (disch := first | assumption | omega | (simp only [nx]; omega) | ((repeat refine Fresh.push ?_ _); assumption) | (simp only [smA]; done) | (simp [oneCell, AW.next_push]; done) | fail) only [go_sem, Nat.reduceEqDiff, reduceIte, Nat.reduceAdd, Int.toNat_natCast, Nat.add_zero, Owes_true, e0, e1, e2, e8, e9, hlt, seedTo_all, hB, Try.results39]
  apply callV_of (e := rfl)
  · exact From_ok many 0 (k : Int) w
  rintro _ _ ⟨rfl, rfl⟩
  cases hy : inR 0 many (k : Int) with
  | false =>
    have he : drawE (k : Int) many L = 7 := by simp [drawE, hB, hy]
    simp -dsimp -implicitDefEqProofs (maxSteps := 2000000) (disch := first | assumption | omega | (simp only [nx]; omega) | ((repeat refine Fresh.push ?_ _); assumption) | (simp only [smA]; done) | (simp [oneCell, AW.next_push]; done) | fail) only [go_sem, Nat.reduceEqDiff, reduceIte, Nat.reduceAdd, Int.toNat_natCast, Nat.add_zero, Owes_true, hy, Try.results39]
    exact ⟨Grown.refl f, none, 0, 0, by rw [he], fun _ => rfl, fun h => by omega⟩
  | true =>
  have hy' := (inR_iff _ _ _).1 hy
  have he : drawE (k : Int) many L = 0 := by simp [drawE, hB, hy]
  have hall : ∀ x ∈ L, 0 ≤ x ∧ x < 40320 := fun x hx => by
    have := (inR_iff _ _ _).1 (List.all_eq_true.1 ha x hx)
    have h2 : ((k : Int).toNat) = k := rfl
    rw [h2] at this; omega
  have hsm : smallL L := ⟨fun x hx => by have := hall x hx; omega, by omega⟩
  obtain ⟨a, rfl⟩ : ∃ a : Nat, many = (a : Int) := ⟨many.toNat, by omega⟩
  simp -dsimp -implicitDefEqProofs (maxSteps := 2000000) (disch := first | assumption | omega | (simp only [nx]; omega) | ((repeat refine Fresh.push ?_ _); assumption) | (simp only [smA]; done) | (simp [oneCell, AW.next_push]; done) | fail) only [go_sem, Nat.reduceEqDiff, reduceIte, Nat.reduceAdd, Int.toNat_natCast, Nat.add_zero, Owes_true, hy, e0, e1, e2]
  apply callV_of (e := rfl)
  · exact Sum_ok L _ w hv
  rintro _ _ ⟨rfl, s, rfl, hs⟩
  have hs' := hs hsm
  subst hs'
  have hnn := sum_nonneg fun x hx => (hall x hx).1
  have hub := sum_small hsm
  simp -dsimp -implicitDefEqProofs (maxSteps := 2000000) (disch := first | assumption | omega | (simp only [nx]; omega) | ((repeat refine Fresh.push ?_ _); assumption) | (simp only [smA]; done) | (simp [oneCell, AW.next_push]; done) | fail) only [go_sem, Nat.reduceEqDiff, reduceIte, Nat.reduceAdd, Int.toNat_natCast, Nat.add_zero, Owes_true, e0, e1, e2]
  apply callV_of (e := rfl)
  · exact factorial_ok k (by omega) w
  rintro _ _ ⟨rfl, rfl⟩
  simp -dsimp -implicitDefEqProofs (maxSteps := 2000000) (disch := first | assumption | omega | (simp only [nx]; omega) | ((repeat refine Fresh.push ?_ _); assumption) | (simp only [smA]; done) | (simp [oneCell, AW.next_push]; done) | fail) only [go_sem, Nat.reduceEqDiff, reduceIte, Nat.reduceAdd, Int.toNat_natCast, Nat.add_zero, Owes_true, e0, e1, e2]
  apply callV_of (e := rfl)
  · exact Ring_ok L.sum (fct k : Int) (by omega) w
  rintro _ _ ⟨rfl, rfl⟩
  obtain ⟨S, hS⟩ : ∃ S : Nat, L.sum = (S : Int) := ⟨L.sum.toNat, by omega⟩
  have hdl : drawL (k : Int) (a : Int) L = (ordI k (S % fct k)).take a := by unfold drawL; rw [hS]; rfl
  have hq2 : (if (fct k : Int) ≤ 0 then 0 else L.sum % (fct k : Int)) = ((S % fct k : Nat) : Int) := by rw [if_neg (by omega), hS]; rfl
  have hlt9 := Nat.mod_lt S hfp
  generalize hSS : S % fct k = q at *
  rw [hq2]
  simp -dsimp -implicitDefEqProofs (maxSteps := 2000000) (disch := first | assumption | omega | (simp only [nx]; omega) | ((repeat refine Fresh.push ?_ _); assumption) | (simp only [smA]; done) | (simp [oneCell, AW.next_push]; done) | fail) only [go_sem, Nat.reduceEqDiff, reduceIte, Nat.reduceAdd, Int.toNat_natCast, Nat.add_zero, Owes_true, e0, e1, e2]
  apply callV_of (e := rfl)
  · exact unrankR_ok k q (by omega) (by omega) hlt9 w f
  rintro u w3 ⟨hA, g3⟩
  have hlen := ordI_len k q
  obtain ⟨b, rfl, hsl, hA2⟩ := hA.to (a := a) (by omega) (by omega) (by omega)
  simp -dsimp -implicitDefEqProofs (maxSteps := 2000000) (disch := first | assumption | omega | (simp only [nx]; omega) | ((repeat refine Fresh.push ?_ _); assumption) | (simp only [smA]; done) | (simp [oneCell, AW.next_push]; done) | fail) only [go_sem, Nat.reduceEqDiff, reduceIte, Nat.reduceAdd, Int.toNat_natCast, Nat.add_zero, Owes_true, e0, e1, e2, hsl, Try.results39]
  exact ⟨g3, _, _, _, by rw [he], fun h => absurd he h, fun _ => by rw [hdl]; exact hA2⟩
theorem DrawR_ok (n many : Int) (hmm : -9223372036854775808 ≤ many) (L : List Int) (v : Value) (w : AW) (f : Fresh w) (hv : ArrOf w 1 icells v L) :
    CallT Try.prog Try.T1 (.fn (.func 39) #[]) #[.int .i64 n, .int .i64 many, v] w (Drawn (drawE n many L) (drawL n many L) w) := by
  obtain ⟨pv, cv, rfl, _⟩ := id hv.open
  refine callT_code rfl Try.func39 rfl Try.s39_eq rfl ?_
  unfold Try.s39
  simp -dsimp -implicitDefEqProofs (maxSteps := 2000000) (disch := first | assumption | omega | (simp only [nx]; omega) | ((repeat refine Fresh.push ?_ _); assumption) | (simp only [smA]; done) | (simp [oneCell, AW.next_push]; done) | fail) only [go_sem, Nat.reduceEqDiff, reduceIte, Nat.reduceAdd, Int.toNat_natCast, Nat.add_zero, Owes_true]
  apply callV_of (e := rfl)
  · exact From_ok n 1 8 w
  rintro _ _ ⟨rfl, rfl⟩
  cases hm : inR 1 n 8 with
  | false =>
    simp -dsimp -implicitDefEqProofs (maxSteps := 2000000) (disch := first | assumption | omega | (simp only [nx]; omega) | ((repeat refine Fresh.push ?_ _); assumption) | (simp only [smA]; done) | (simp [oneCell, AW.next_push]; done) | fail) only [go_sem, Nat.reduceEqDiff, reduceIte, Nat.reduceAdd, Int.toNat_natCast, Nat.add_zero, Owes_true, hm]
    exact rest39 n many hmm L pv cv w f hv false (by unfold seedTo; rw [hm]; rfl) _ (by simp -dsimp -implicitDefEqProofs (maxSteps := 2000000) (disch := first | assumption | omega | (simp only [nx]; omega) | ((repeat refine Fresh.push ?_ _); assumption) | (simp only [smA]; done) | (simp [oneCell, AW.next_push]; done) | fail) only [go_sem, Nat.reduceEqDiff, reduceIte, Nat.reduceAdd, Int.toNat_natCast, Nat.add_zero, Owes_true]; try rfl) (by simp -dsimp -implicitDefEqProofs (maxSteps := 2000000) (disch := first | assumption | omega | (simp only [nx]; omega) | ((repeat refine Fresh.push ?_ _); assumption) | (simp only [smA]; done) | (simp [oneCell, AW.next_push]; done) | fail) only [go_sem, Nat.reduceEqDiff, reduceIte, Nat.reduceAdd, Int.toNat_natCast, Nat.add_zero, Owes_true]; try rfl) (by simp -dsimp -implicitDefEqProofs (maxSteps := 2000000) (disch := first | assumption | omega | (simp only [nx]; omega) | ((repeat refine Fresh.push ?_ _); assumption) | (simp only [smA]; done) | (simp [oneCell, AW.next_push]; done) | fail) only [go_sem, Nat.reduceEqDiff, reduceIte, Nat.reduceAdd, Int.toNat_natCast, Nat.add_zero, Owes_true]; try rfl) (by simp -dsimp -implicitDefEqProofs (maxSteps := 2000000) (disch := first | assumption | omega | (simp only [nx]; omega) | ((repeat refine Fresh.push ?_ _); assumption) | (simp only [smA]; done) | (simp [oneCell, AW.next_push]; done) | fail) only [go_sem, Nat.reduceEqDiff, reduceIte, Nat.reduceAdd, Int.toNat_natCast, Nat.add_zero, Owes_true]; try rfl) (by simp -dsimp -implicitDefEqProofs (maxSteps := 2000000) (disch := first | assumption | omega | (simp only [nx]; omega) | ((repeat refine Fresh.push ?_ _); assumption) | (simp only [smA]; done) | (simp [oneCell, AW.next_push]; done) | fail) only [go_sem, Nat.reduceEqDiff, reduceIte, Nat.reduceAdd, Int.toNat_natCast, Nat.add_zero, Owes_true]; try rfl) (by simp -dsimp -implicitDefEqProofs (maxSteps := 2000000) (disch := first | assumption | omega | (simp only [nx]; omega) | ((repeat refine Fresh.push ?_ _); assumption) | (simp only [smA]; done) | (simp [oneCell, AW.next_push]; done) | fail) only [go_sem, Nat.reduceEqDiff, reduceIte, Nat.reduceAdd, Int.toNat_natCast, Nat.add_zero, Owes_true]; try rfl)
  | true =>
  simp -dsimp -implicitDefEqProofs (maxSteps := 2000000) (disch := first | assumption | omega | (simp only [nx]; omega) | ((repeat refine Fresh.push ?_ _); assumption) | (simp only [smA]; done) | (simp [oneCell, AW.next_push]; done) | fail) only [go_sem, Nat.reduceEqDiff, reduceIte, Nat.reduceAdd, Int.toNat_natCast, Nat.add_zero, Owes_true, hm]
  apply callV_of (e := rfl)
  · exact From_ok (L.length : Int) 1 16 w
  rintro _ _ ⟨rfl, rfl⟩
  simp -dsimp -implicitDefEqProofs (maxSteps := 2000000) (disch := first | assumption | omega | (simp only [nx]; omega) | ((repeat refine Fresh.push ?_ _); assumption) | (simp only [smA]; done) | (simp [oneCell, AW.next_push]; done) | fail) only [go_sem, Nat.reduceEqDiff, reduceIte, Nat.reduceAdd, Int.toNat_natCast, Nat.add_zero, Owes_true]
  exact rest39 n many hmm L pv cv w f hv (inR 1 (L.length : Int) 16) (by unfold seedTo; rw [hm]; simp) _ (by simp -dsimp -implicitDefEqProofs (maxSteps := 2000000) (disch := first | assumption | omega | (simp only [nx]; omega) | ((repeat refine Fresh.push ?_ _); assumption) | (simp only [smA]; done) | (simp [oneCell, AW.next_push]; done) | fail) only [go_sem, Nat.reduceEqDiff, reduceIte, Nat.reduceAdd, Int.toNat_natCast, Nat.add_zero, Owes_true]; try rfl) (by simp -dsimp -implicitDefEqProofs (maxSteps := 2000000) (disch := first | assumption | omega | (simp only [nx]; omega) | ((repeat refine Fresh.push ?_ _); assumption) | (simp only [smA]; done) | (simp [oneCell, AW.next_push]; done) | fail) only [go_sem, Nat.reduceEqDiff, reduceIte, Nat.reduceAdd, Int.toNat_natCast, Nat.add_zero, Owes_true]; try rfl) (by simp -dsimp -implicitDefEqProofs (maxSteps := 2000000) (disch := first | assumption | omega | (simp only [nx]; omega) | ((repeat refine Fresh.push ?_ _); assumption) | (simp only [smA]; done) | (simp [oneCell, AW.next_push]; done) | fail) only [go_sem, Nat.reduceEqDiff, reduceIte, Nat.reduceAdd, Int.toNat_natCast, Nat.add_zero, Owes_true]; try rfl) (by simp -dsimp -implicitDefEqProofs (maxSteps := 2000000) (disch := first | assumption | omega | (simp only [nx]; omega) | ((repeat refine Fresh.push ?_ _); assumption) | (simp only [smA]; done) | (simp [oneCell, AW.next_push]; done) | fail) only [go_sem, Nat.reduceEqDiff, reduceIte, Nat.reduceAdd, Int.toNat_natCast, Nat.add_zero, Owes_true]; try rfl) (by simp -dsimp -implicitDefEqProofs (maxSteps := 2000000) (disch := first | assumption | omega | (simp only [nx]; omega) | ((repeat refine Fresh.push ?_ _); assumption) | (simp only [smA]; done) | (simp [oneCell, AW.next_push]; done) | fail) only [go_sem, Nat.reduceEqDiff, reduceIte, Nat.reduceAdd, Int.toNat_natCast, Nat.add_zero, Owes_true]; try rfl) (by simp -dsimp -implicitDefEqProofs (maxSteps := 2000000) (disch := first | assumption | omega | (simp only [nx]; omega) | ((repeat refine Fresh.push ?_ _); assumption) | (simp only [smA]; done) | (simp [oneCell, AW.next_push]; done) | fail) only [go_sem, Nat.reduceEqDiff, reduceIte, Nat.reduceAdd, Int.toNat_natCast, Nat.add_zero, Owes_true]; try rfl)
end Go.Proofs

namespace Go.Proofs
open Go Go.RowKit Go.Sim
set_option maxRecDepth 100000
def ordTo (l : List Int) (i : Nat) : Bool := inR 1 l.length 8 && (List.range i).all fun j => inR 0 (W l j) (l.length - 1) && decide (∀ k, k < j → W l k ≠ W l j)
theorem ordTo_succ (l : List Int) (i : Nat) : ordTo l (i + 1) = (ordTo l i && (inR 0 (W l i) (l.length - 1) && decide (∀ k, k < i → W l k ≠ W l i))) := by
  unfold ordTo
  rw [List.range_succ, List.all_append]
  simp only [List.all_cons, List.all_nil, Bool.and_true, Bool.and_assoc]
theorem ordTo_iff (l : List Int) : ordTo l l.length = isOrd l := by
  have key : ((List.range l.length).all fun j => inR 0 (W l j) (l.length - 1) && decide (∀ k, k < j → W l k ≠ W l j)) = (l.all (fun x => inR 0 x (l.length - 1)) && decide l.Nodup) := by
    rw [Bool.eq_iff_iff]
    simp only [List.all_eq_true, Bool.and_eq_true, decide_eq_true_eq, List.mem_range]
    constructor
    · intro h
      refine ⟨fun x hx => ?_, ?_⟩
      · obtain ⟨i, hi, rfl⟩ := List.getElem_of_mem hx
        have := (h i hi).1
        rwa [W_at hi] at this
      · unfold List.Nodup
        rw [List.pairwise_iff_getElem]
        intro i j hi hj hij
        have := (h j hj).2 i hij
        rwa [W_at hi, W_at hj] at this
    · rintro ⟨h1, h2⟩ j hj
      refine ⟨by rw [W_at hj]; exact h1 _ (List.getElem_mem hj), fun k hk => ?_⟩
      unfold List.Nodup at h2
      rw [List.pairwise_iff_getElem] at h2
      rw [W_at (by omega), W_at hj]
      exact h2 k j (by omega) hj hk
  unfold ordTo isOrd
  rw [key, Bool.and_assoc]
theorem ordTo_bad {l : List Int} {i : Nat} (hi : i ≤ l.length) (h : ordTo l i = false) : isOrd l = false := by
  cases hs : isOrd l with
  | false => rfl
  | true =>
    rw [← ordTo_iff] at hs
    unfold ordTo at hs h
    simp only [Bool.and_eq_true, List.all_eq_true, List.mem_range] at hs
    have : ((List.range i).all fun j => inR 0 (W l j) (l.length - 1) && decide (∀ k, k < j → W l k ≠ W l j)) = true := by
      rw [List.all_eq_true]
      intro j hj
      rw [List.mem_range] at hj
      rw [Bool.and_eq_true]
      exact hs.2 j (by omega)
    rw [hs.1, this] at h; exact h
theorem rankR_drop {l : List Int} {i : Nat} (h : i < l.length) : rankR (l.drop i) = lessN l[i] (l.drop (i + 1)) * fct (l.length - (i + 1)) + rankR (l.drop (i + 1)) := by
  rw [List.drop_eq_getElem_cons h, rankR, List.length_drop]
set_option maxHeartbeats 8000000 in
theorem RankR_ok (l : List Int) (v : Value) (w : AW) (hv : ArrOf w 1 icells v l) :
    CallT Try.prog Try.T1 (.fn (.func 35) #[]) #[v] w (Ret (.tuple #[.int .i64 (rankV l), .int .i64 (rankE l)]) fun w' => w = w') := by
  obtain ⟨pv, cv, rfl, _, _, hat⟩ := id hv.open
  refine callT_code rfl Try.func35 rfl Try.s35_eq rfl ?_
  unfold Try.s35
  simp -dsimp -implicitDefEqProofs (maxSteps := 2000000) (disch := first | assumption | omega | (simp only [nx]; omega) | ((repeat refine Fresh.push ?_ _); assumption) | (simp only [smA]; done) | (simp [oneCell, AW.next_push]; done) | fail) only [go_sem, Nat.reduceEqDiff, reduceIte, Nat.reduceAdd, Int.toNat_natCast, Nat.add_zero, Owes_true, Try.results35]
  apply callV_of (e := rfl)
  · exact From_ok (l.length : Int) 1 8 w
  rintro _ _ ⟨rfl, rfl⟩
  simp -dsimp -implicitDefEqProofs (maxSteps := 2000000) (disch := first | assumption | omega | (simp only [nx]; omega) | ((repeat refine Fresh.push ?_ _); assumption) | (simp only [smA]; done) | (simp [oneCell, AW.next_push]; done) | fail) only [go_sem, Nat.reduceEqDiff, reduceIte, Nat.reduceAdd, Int.toNat_natCast, Nat.add_zero, Owes_true, Try.results35]
  have h00 : ordTo l 0 = inR 1 (l.length : Int) 8 := by unfold ordTo; simp
  refine loopR (fun k t ds w1 => ∃ i : Nat, i ≤ l.length ∧ k = l.length - i ∧ ds = [] ∧ ev t (.tmp 0) = .slice pv l.length cv ∧ ev t (.tmp 4) = .int .i64 (l.length : Int) ∧ ev t (.tmp 5) = .bool (ordTo l i) ∧ ev t (.tmp 6) = .int .i64 (i : Int) ∧ w = w1) (l.length) ?_ ?_
  · refine ⟨0, by omega, by omega, rfl, ?_, ?_, ?_, ?_, rfl⟩ <;> simp -dsimp -implicitDefEqProofs (maxSteps := 2000000) (disch := first | assumption | omega | (simp only [nx]; omega) | ((repeat refine Fresh.push ?_ _); assumption) | (simp only [smA]; done) | (simp [oneCell, AW.next_push]; done) | fail) only [go_sem, Nat.reduceEqDiff, reduceIte, Nat.reduceAdd, Int.toNat_natCast, Nat.add_zero, Owes_true, h00] <;> rfl
  rintro k t ds w1 ⟨i, hii, rfl, rfl, e0, e4, e5, e6, hw⟩
  subst hw
  cases hB : ordTo l i with
  | false =>
    have hbad := ordTo_bad hii hB
    simp -dsimp -implicitDefEqProofs (maxSteps := 2000000) (disch := first | assumption | omega | (simp only [nx]; omega) | ((repeat refine Fresh.push ?_ _); assumption) | (simp only [smA]; done) | (simp [oneCell, AW.next_push]; done) | fail) only [go_sem, Nat.reduceEqDiff, reduceIte, Nat.reduceAdd, Int.toNat_natCast, Nat.add_zero, Owes_true, Try.results35, e0, e4, e5, e6, hB]
    exact ⟨by simp [rankV, rankE, hbad], rfl⟩
  | true =>
  have hl8 : 1 ≤ l.length ∧ l.length ≤ 8 := by
    unfold ordTo at hB
    simp only [Bool.and_eq_true, inR_iff] at hB
    omega
  by_cases hlt : (i : Int) < (l.length : Int)
  case pos =>
    have hlt' : i < l.length := by omega
    obtain ⟨b1, o1, rfl, hb1, hcell⟩ := hat i hlt'
    have a0 := hcell w (.refl _ _) 0 _ rfl
    rw [Nat.add_zero] at a0
    have hs := ordTo_succ l i
    rw [hB, Bool.true_and, W_at hlt'] at hs
    simp -dsimp -implicitDefEqProofs (maxSteps := 2000000) (disch := first | assumption | omega | (simp only [nx]; omega) | ((repeat refine Fresh.push ?_ _); assumption) | (simp only [smA]; done) | (simp [oneCell, AW.next_push]; done) | fail) only [go_sem, Nat.reduceEqDiff, reduceIte, Nat.reduceAdd, Int.toNat_natCast, Nat.add_zero, Owes_true, Try.results35, e0, e4, e5, e6, hB, hlt, indexV_eq, a0]
    apply callV_of (e := rfl)
    · exact From_ok l[i] 0 _ w
    rintro _ _ ⟨rfl, rfl⟩
    cases hi : inR 0 l[i] ((l.length : Int) - 1) with
    | false =>
      rw [hi, Bool.false_and] at hs
      simp -dsimp -implicitDefEqProofs (maxSteps := 2000000) (disch := first | assumption | omega | (simp only [nx]; omega) | ((repeat refine Fresh.push ?_ _); assumption) | (simp only [smA]; done) | (simp [oneCell, AW.next_push]; done) | fail) only [go_sem, Nat.reduceEqDiff, reduceIte, Nat.reduceAdd, Int.toNat_natCast, Nat.add_zero, Owes_true, Try.results35, e0, e4, e5, e6, hi]
      refine ⟨_, by omega, i + 1, by omega, rfl, rfl, by (simp -dsimp -implicitDefEqProofs (maxSteps := 2000000) (disch := first | assumption | omega | (simp only [nx]; omega) | ((repeat refine Fresh.push ?_ _); assumption) | (simp only [smA]; done) | (simp [oneCell, AW.next_push]; done) | fail) only [go_sem, Nat.reduceEqDiff, reduceIte, Nat.reduceAdd, Int.toNat_natCast, Nat.add_zero, Owes_true, e0, hs]; try rfl), by (simp -dsimp -implicitDefEqProofs (maxSteps := 2000000) (disch := first | assumption | omega | (simp only [nx]; omega) | ((repeat refine Fresh.push ?_ _); assumption) | (simp only [smA]; done) | (simp [oneCell, AW.next_push]; done) | fail) only [go_sem, Nat.reduceEqDiff, reduceIte, Nat.reduceAdd, Int.toNat_natCast, Nat.add_zero, Owes_true, e4, hs]; try rfl), by (simp -dsimp -implicitDefEqProofs (maxSteps := 2000000) (disch := first | assumption | omega | (simp only [nx]; omega) | ((repeat refine Fresh.push ?_ _); assumption) | (simp only [smA]; done) | (simp [oneCell, AW.next_push]; done) | fail) only [go_sem, Nat.reduceEqDiff, reduceIte, Nat.reduceAdd, Int.toNat_natCast, Nat.add_zero, Owes_true, e5, hs]; try rfl), by (simp -dsimp -implicitDefEqProofs (maxSteps := 2000000) (disch := first | assumption | omega | (simp only [nx]; omega) | ((repeat refine Fresh.push ?_ _); assumption) | (simp only [smA]; done) | (simp [oneCell, AW.next_push]; done) | fail) only [go_sem, Nat.reduceEqDiff, reduceIte, Nat.reduceAdd, Int.toNat_natCast, Nat.add_zero, Owes_true, e6, hs]; try rfl), rfl⟩
    | true =>
    rw [hi, Bool.true_and] at hs
    simp -dsimp -implicitDefEqProofs (maxSteps := 2000000) (disch := first | assumption | omega | (simp only [nx]; omega) | ((repeat refine Fresh.push ?_ _); assumption) | (simp only [smA]; done) | (simp [oneCell, AW.next_push]; done) | fail) only [go_sem, Nat.reduceEqDiff, reduceIte, Nat.reduceAdd, Int.toNat_natCast, Nat.add_zero, Owes_true, Try.results35, e0, e4, e5, e6, hi, hlt, indexV_eq, a0]
    apply callV_of (e := rfl)
    · exact Seek_ok l l[i] _ w hv
    rintro _ _ ⟨rfl, n, rfl, hk⟩
    have hdec : decide (n = (i : Int)) = decide (∀ k, k < i → W l k ≠ l[i]) := by
      rw [decide_eq_decide]
      constructor
      · intro hn
        rcases hk with ⟨k, hnk, _, _, hno⟩ | ⟨hn1, _⟩
        · have : k = i := by omega
          subst this; exact hno
        · omega
      · intro hno
        rcases hk with ⟨k, hnk, hkl, hwk, hno2⟩ | ⟨_, hno2⟩
        · rcases Nat.lt_trichotomy k i with q | q | q
          · exact absurd hwk (hno k q)
          · omega
          · exact absurd (W_at hlt') (hno2 i q)
        · exact absurd (W_at hlt') (hno2 i hlt')
    rw [← hdec] at hs
    simp -dsimp -implicitDefEqProofs (maxSteps := 2000000) (disch := first | assumption | omega | (simp only [nx]; omega) | ((repeat refine Fresh.push ?_ _); assumption) | (simp only [smA]; done) | (simp [oneCell, AW.next_push]; done) | fail) only [go_sem, Nat.reduceEqDiff, reduceIte, Nat.reduceAdd, Int.toNat_natCast, Nat.add_zero, Owes_true, Try.results35, e0, e4, e5, e6]
    refine ⟨_, by omega, i + 1, by omega, rfl, rfl, by (simp -dsimp -implicitDefEqProofs (maxSteps := 2000000) (disch := first | assumption | omega | (simp only [nx]; omega) | ((repeat refine Fresh.push ?_ _); assumption) | (simp only [smA]; done) | (simp [oneCell, AW.next_push]; done) | fail) only [go_sem, Nat.reduceEqDiff, reduceIte, Nat.reduceAdd, Int.toNat_natCast, Nat.add_zero, Owes_true, e0, hs]; try rfl), by (simp -dsimp -implicitDefEqProofs (maxSteps := 2000000) (disch := first | assumption | omega | (simp only [nx]; omega) | ((repeat refine Fresh.push ?_ _); assumption) | (simp only [smA]; done) | (simp [oneCell, AW.next_push]; done) | fail) only [go_sem, Nat.reduceEqDiff, reduceIte, Nat.reduceAdd, Int.toNat_natCast, Nat.add_zero, Owes_true, e4, hs]; try rfl), by (simp -dsimp -implicitDefEqProofs (maxSteps := 2000000) (disch := first | assumption | omega | (simp only [nx]; omega) | ((repeat refine Fresh.push ?_ _); assumption) | (simp only [smA]; done) | (simp [oneCell, AW.next_push]; done) | fail) only [go_sem, Nat.reduceEqDiff, reduceIte, Nat.reduceAdd, Int.toNat_natCast, Nat.add_zero, Owes_true, e5, hs]; try rfl), by (simp -dsimp -implicitDefEqProofs (maxSteps := 2000000) (disch := first | assumption | omega | (simp only [nx]; omega) | ((repeat refine Fresh.push ?_ _); assumption) | (simp only [smA]; done) | (simp [oneCell, AW.next_push]; done) | fail) only [go_sem, Nat.reduceEqDiff, reduceIte, Nat.reduceAdd, Int.toNat_natCast, Nat.add_zero, Owes_true, e6, hs]; try rfl), rfl⟩
  obtain rfl : i = l.length := by omega
  have hor := hB
  rw [ordTo_iff] at hor
  have htot := rankR_lt l hl8.2
  simp -dsimp -implicitDefEqProofs (maxSteps := 2000000) (disch := first | assumption | omega | (simp only [nx]; omega) | ((repeat refine Fresh.push ?_ _); assumption) | (simp only [smA]; done) | (simp [oneCell, AW.next_push]; done) | fail) only [go_sem, Nat.reduceEqDiff, reduceIte, Nat.reduceAdd, Int.toNat_natCast, Nat.add_zero, Owes_true, Try.results35, e0, e4, e5, e6, hlt, hB]
  refine loopR (fun k t ds w3 => ∃ j : Nat, j ≤ l.length ∧ k = l.length - j ∧ ds = [] ∧ ev t (.tmp 0) = .slice pv l.length cv ∧ ev t (.tmp 4) = .int .i64 (l.length : Int) ∧ ev t (.tmp 8) = .int .i64 (j : Int) ∧ w = w3 ∧ ∃ a : Nat, ev t (.tmp 7) = .int .i64 (a : Int) ∧ a + rankR (l.drop j) = rankR l) (l.length) ?_ ?_
  · refine ⟨0, by omega, by omega, rfl, ?_, ?_, ?_, rfl, 0, (by simp -dsimp -implicitDefEqProofs (maxSteps := 2000000) (disch := first | assumption | omega | (simp only [nx]; omega) | ((repeat refine Fresh.push ?_ _); assumption) | (simp only [smA]; done) | (simp [oneCell, AW.next_push]; done) | fail) only [go_sem, Nat.reduceEqDiff, reduceIte, Nat.reduceAdd, Int.toNat_natCast, Nat.add_zero, Owes_true]; try rfl), by simp⟩ <;> simp -dsimp -implicitDefEqProofs (maxSteps := 2000000) (disch := first | assumption | omega | (simp only [nx]; omega) | ((repeat refine Fresh.push ?_ _); assumption) | (simp only [smA]; done) | (simp [oneCell, AW.next_push]; done) | fail) only [go_sem, Nat.reduceEqDiff, reduceIte, Nat.reduceAdd, Int.toNat_natCast, Nat.add_zero, Owes_true, e0, e4] <;> rfl
  rintro k t ds w3 ⟨j, hij, rfl, rfl, e0, e4, e8, hw, a, e7, ha⟩
  subst hw
  by_cases hlt2 : (j : Int) < (l.length : Int)
  case neg =>
    obtain rfl : j = l.length := by omega
    rw [List.drop_length] at ha
    simp only [rankR, Nat.add_zero] at ha
    simp -dsimp -implicitDefEqProofs (maxSteps := 2000000) (disch := first | assumption | omega | (simp only [nx]; omega) | ((repeat refine Fresh.push ?_ _); assumption) | (simp only [smA]; done) | (simp [oneCell, AW.next_push]; done) | fail) only [go_sem, Nat.reduceEqDiff, reduceIte, Nat.reduceAdd, Int.toNat_natCast, Nat.add_zero, Owes_true, Try.results35, e0, e4, e7, e8, hlt2]
    exact ⟨by rw [ha]; simp [rankV, rankE, hor], rfl⟩
  have hlt2' : j < l.length := by omega
  obtain ⟨b1, o1, rfl, hb1, hcell⟩ := hat j hlt2'
  have a0 := hcell w (.refl _ _) 0 _ rfl
  rw [Nat.add_zero] at a0
  have hrd := rankR_drop hlt2'
  simp -dsimp -implicitDefEqProofs (maxSteps := 2000000) (disch := first | assumption | omega | (simp only [nx]; omega) | ((repeat refine Fresh.push ?_ _); assumption) | (simp only [smA]; done) | (simp [oneCell, AW.next_push]; done) | fail) only [go_sem, Nat.reduceEqDiff, reduceIte, Nat.reduceAdd, Int.toNat_natCast, Nat.add_zero, Owes_true, Try.results35, e0, e4, e7, e8, hlt2]
  refine loopR (fun k t ds w4 => ∃ m : Nat, m ≤ l.length - (j + 1) ∧ k = l.length - (j + 1) - m ∧ ds = [] ∧ ev t (.tmp 0) = .slice (some ⟨b1, o1, none⟩) l.length cv ∧ ev t (.tmp 4) = .int .i64 (l.length : Int) ∧ ev t (.tmp 7) = .int .i64 (a : Int) ∧ ev t (.tmp 8) = .int .i64 (j : Int) ∧ ev t (.tmp 9) = .int .i64 (lessN l[j] ((l.drop (j + 1)).take m) : Int) ∧ ev t (.tmp 10) = .int .i64 (((j + 1 + m : Nat)) : Int) ∧ w = w4) (l.length - (j + 1)) ?_ ?_
  · refine ⟨0, by omega, by omega, rfl, ?_, ?_, ?_, ?_, ?_, ?_, rfl⟩ <;> simp -dsimp -implicitDefEqProofs (maxSteps := 2000000) (disch := first | assumption | omega | (simp only [nx]; omega) | ((repeat refine Fresh.push ?_ _); assumption) | (simp only [smA]; done) | (simp [oneCell, AW.next_push]; done) | fail) only [go_sem, Nat.reduceEqDiff, reduceIte, Nat.reduceAdd, Int.toNat_natCast, Nat.add_zero, Owes_true, e0, e4, e7, e8] <;> rfl
  rintro k t ds w4 ⟨m, him, rfl, rfl, e0, e4, e7, e8, e9, e10, hw⟩
  subst hw
  have hDl : (l.drop (j + 1)).length = l.length - (j + 1) := List.length_drop ..
  by_cases hlm : ((j + 1 + m : Nat) : Int) < (l.length : Int)
  case pos =>
    have hlm' : j + 1 + m < l.length := by omega
    obtain ⟨b2, o2, e2, hb2, hc2⟩ := hat (j + 1 + m) hlm'
    injection e2 with e2
    injection e2 with e2a e2b
    subst e2a e2b
    have a1 := hc2 w (.refl _ _) 0 _ rfl
    rw [Nat.add_zero] at a1
    have hln := lessTo_succ (x := l[j]) (l := l.drop (j + 1)) (i := m) (by omega)
    have hgd : (l.drop (j + 1))[m]'(by omega) = l[j + 1 + m] := by rw [List.getElem_drop]
    rw [hgd] at hln
    have hlb := lessN_le l[j] ((l.drop (j + 1)).take m)
    rw [List.length_take] at hlb
    generalize lessN l[j] ((l.drop (j + 1)).take m) = q at *
    have hcst : ((j + 1 + m : Nat) : Int) + 1 = ((j + 1 + (m + 1) : Nat) : Int) := by omega
    by_cases hx : l[j + 1 + m] < l[j]
    · rw [if_pos hx] at hln
      simp -dsimp -implicitDefEqProofs (maxSteps := 2000000) (disch := first | assumption | omega | (simp only [nx]; omega) | ((repeat refine Fresh.push ?_ _); assumption) | (simp only [smA]; done) | (simp [oneCell, AW.next_push]; done) | fail) only [go_sem, Nat.reduceEqDiff, reduceIte, Nat.reduceAdd, Int.toNat_natCast, Nat.add_zero, Owes_true, Try.results35, e0, e4, e7, e8, e9, e10, hlm, hlt2, indexV_eq, a0, a1, hx, hcst]
      refine ⟨_, by omega, m + 1, by omega, rfl, rfl, by (simp -dsimp -implicitDefEqProofs (maxSteps := 2000000) (disch := first | assumption | omega | (simp only [nx]; omega) | ((repeat refine Fresh.push ?_ _); assumption) | (simp only [smA]; done) | (simp [oneCell, AW.next_push]; done) | fail) only [go_sem, Nat.reduceEqDiff, reduceIte, Nat.reduceAdd, Int.toNat_natCast, Nat.add_zero, Owes_true, e0, hln, hcst]; try rfl), by (simp -dsimp -implicitDefEqProofs (maxSteps := 2000000) (disch := first | assumption | omega | (simp only [nx]; omega) | ((repeat refine Fresh.push ?_ _); assumption) | (simp only [smA]; done) | (simp [oneCell, AW.next_push]; done) | fail) only [go_sem, Nat.reduceEqDiff, reduceIte, Nat.reduceAdd, Int.toNat_natCast, Nat.add_zero, Owes_true, e4, hln, hcst]; try rfl), by (simp -dsimp -implicitDefEqProofs (maxSteps := 2000000) (disch := first | assumption | omega | (simp only [nx]; omega) | ((repeat refine Fresh.push ?_ _); assumption) | (simp only [smA]; done) | (simp [oneCell, AW.next_push]; done) | fail) only [go_sem, Nat.reduceEqDiff, reduceIte, Nat.reduceAdd, Int.toNat_natCast, Nat.add_zero, Owes_true, e7, hln, hcst]; try rfl), by (simp -dsimp -implicitDefEqProofs (maxSteps := 2000000) (disch := first | assumption | omega | (simp only [nx]; omega) | ((repeat refine Fresh.push ?_ _); assumption) | (simp only [smA]; done) | (simp [oneCell, AW.next_push]; done) | fail) only [go_sem, Nat.reduceEqDiff, reduceIte, Nat.reduceAdd, Int.toNat_natCast, Nat.add_zero, Owes_true, e8, hln, hcst]; try rfl), by (simp -dsimp -implicitDefEqProofs (maxSteps := 2000000) (disch := first | assumption | omega | (simp only [nx]; omega) | ((repeat refine Fresh.push ?_ _); assumption) | (simp only [smA]; done) | (simp [oneCell, AW.next_push]; done) | fail) only [go_sem, Nat.reduceEqDiff, reduceIte, Nat.reduceAdd, Int.toNat_natCast, Nat.add_zero, Owes_true, e9, hln, hcst]; try rfl), by (simp -dsimp -implicitDefEqProofs (maxSteps := 2000000) (disch := first | assumption | omega | (simp only [nx]; omega) | ((repeat refine Fresh.push ?_ _); assumption) | (simp only [smA]; done) | (simp [oneCell, AW.next_push]; done) | fail) only [go_sem, Nat.reduceEqDiff, reduceIte, Nat.reduceAdd, Int.toNat_natCast, Nat.add_zero, Owes_true, e10, hln, hcst]; try rfl), rfl⟩
    · rw [if_neg hx, Nat.add_zero] at hln
      simp -dsimp -implicitDefEqProofs (maxSteps := 2000000) (disch := first | assumption | omega | (simp only [nx]; omega) | ((repeat refine Fresh.push ?_ _); assumption) | (simp only [smA]; done) | (simp [oneCell, AW.next_push]; done) | fail) only [go_sem, Nat.reduceEqDiff, reduceIte, Nat.reduceAdd, Int.toNat_natCast, Nat.add_zero, Owes_true, Try.results35, e0, e4, e7, e8, e9, e10, hlm, hlt2, indexV_eq, a0, a1, hx, hcst]
      refine ⟨_, by omega, m + 1, by omega, rfl, rfl, by (simp -dsimp -implicitDefEqProofs (maxSteps := 2000000) (disch := first | assumption | omega | (simp only [nx]; omega) | ((repeat refine Fresh.push ?_ _); assumption) | (simp only [smA]; done) | (simp [oneCell, AW.next_push]; done) | fail) only [go_sem, Nat.reduceEqDiff, reduceIte, Nat.reduceAdd, Int.toNat_natCast, Nat.add_zero, Owes_true, e0, hln, hcst]; try rfl), by (simp -dsimp -implicitDefEqProofs (maxSteps := 2000000) (disch := first | assumption | omega | (simp only [nx]; omega) | ((repeat refine Fresh.push ?_ _); assumption) | (simp only [smA]; done) | (simp [oneCell, AW.next_push]; done) | fail) only [go_sem, Nat.reduceEqDiff, reduceIte, Nat.reduceAdd, Int.toNat_natCast, Nat.add_zero, Owes_true, e4, hln, hcst]; try rfl), by (simp -dsimp -implicitDefEqProofs (maxSteps := 2000000) (disch := first | assumption | omega | (simp only [nx]; omega) | ((repeat refine Fresh.push ?_ _); assumption) | (simp only [smA]; done) | (simp [oneCell, AW.next_push]; done) | fail) only [go_sem, Nat.reduceEqDiff, reduceIte, Nat.reduceAdd, Int.toNat_natCast, Nat.add_zero, Owes_true, e7, hln, hcst]; try rfl), by (simp -dsimp -implicitDefEqProofs (maxSteps := 2000000) (disch := first | assumption | omega | (simp only [nx]; omega) | ((repeat refine Fresh.push ?_ _); assumption) | (simp only [smA]; done) | (simp [oneCell, AW.next_push]; done) | fail) only [go_sem, Nat.reduceEqDiff, reduceIte, Nat.reduceAdd, Int.toNat_natCast, Nat.add_zero, Owes_true, e8, hln, hcst]; try rfl), by (simp -dsimp -implicitDefEqProofs (maxSteps := 2000000) (disch := first | assumption | omega | (simp only [nx]; omega) | ((repeat refine Fresh.push ?_ _); assumption) | (simp only [smA]; done) | (simp [oneCell, AW.next_push]; done) | fail) only [go_sem, Nat.reduceEqDiff, reduceIte, Nat.reduceAdd, Int.toNat_natCast, Nat.add_zero, Owes_true, e9, hln, hcst]; try rfl), by (simp -dsimp -implicitDefEqProofs (maxSteps := 2000000) (disch := first | assumption | omega | (simp only [nx]; omega) | ((repeat refine Fresh.push ?_ _); assumption) | (simp only [smA]; done) | (simp [oneCell, AW.next_push]; done) | fail) only [go_sem, Nat.reduceEqDiff, reduceIte, Nat.reduceAdd, Int.toNat_natCast, Nat.add_zero, Owes_true, e10, hln, hcst]; try rfl), rfl⟩
  obtain rfl : m = l.length - (j + 1) := by omega
  rw [List.take_of_length_le (by omega)] at e9
  have hcast : (l.length : Int) - 1 - (j : Int) = ((l.length - (j + 1) : Nat) : Int) := by omega
  have hless := lessN_le l[j] (l.drop (j + 1))
  have hfl := fct_le (n := l.length - (j + 1)) (by omega)
  generalize lessN l[j] (l.drop (j + 1)) = q at *
  simp -dsimp -implicitDefEqProofs (maxSteps := 2000000) (disch := first | assumption | omega | (simp only [nx]; omega) | ((repeat refine Fresh.push ?_ _); assumption) | (simp only [smA]; done) | (simp [oneCell, AW.next_push]; done) | fail) only [go_sem, Nat.reduceEqDiff, reduceIte, Nat.reduceAdd, Int.toNat_natCast, Nat.add_zero, Owes_true, Try.results35, e0, e4, e7, e8, e9, e10, hlm, hcast]
  apply callV_of (e := rfl)
  · exact factorial_ok (l.length - (j + 1)) (by omega) w
  rintro _ _ ⟨rfl, rfl⟩
  have hmul : (q : Int) * (fct (l.length - (j + 1)) : Int) = ((q * fct (l.length - (j + 1)) : Nat) : Int) := by push_cast; rfl
  have hmb : q * fct (l.length - (j + 1)) ≤ 40320 := by omega
  have hadd : (a : Int) + ((q * fct (l.length - (j + 1)) : Nat) : Int) = ((a + q * fct (l.length - (j + 1)) : Nat) : Int) := by push_cast; rfl
  generalize q * fct (l.length - (j + 1)) = z at *
  simp -dsimp -implicitDefEqProofs (maxSteps := 2000000) (disch := first | assumption | omega | (simp only [nx]; omega) | ((repeat refine Fresh.push ?_ _); assumption) | (simp only [smA]; done) | (simp [oneCell, AW.next_push]; done) | fail) only [go_sem, Nat.reduceEqDiff, reduceIte, Nat.reduceAdd, Int.toNat_natCast, Nat.add_zero, Owes_true, Try.results35, e0, e4, e7, e8, e9, e10, hmul, hadd]
  refine ⟨_, by omega, j + 1, by omega, rfl, rfl, by (simp -dsimp -implicitDefEqProofs (maxSteps := 2000000) (disch := first | assumption | omega | (simp only [nx]; omega) | ((repeat refine Fresh.push ?_ _); assumption) | (simp only [smA]; done) | (simp [oneCell, AW.next_push]; done) | fail) only [go_sem, Nat.reduceEqDiff, reduceIte, Nat.reduceAdd, Int.toNat_natCast, Nat.add_zero, Owes_true, e0]; try rfl), by (simp -dsimp -implicitDefEqProofs (maxSteps := 2000000) (disch := first | assumption | omega | (simp only [nx]; omega) | ((repeat refine Fresh.push ?_ _); assumption) | (simp only [smA]; done) | (simp [oneCell, AW.next_push]; done) | fail) only [go_sem, Nat.reduceEqDiff, reduceIte, Nat.reduceAdd, Int.toNat_natCast, Nat.add_zero, Owes_true, e4]; try rfl), by (simp -dsimp -implicitDefEqProofs (maxSteps := 2000000) (disch := first | assumption | omega | (simp only [nx]; omega) | ((repeat refine Fresh.push ?_ _); assumption) | (simp only [smA]; done) | (simp [oneCell, AW.next_push]; done) | fail) only [go_sem, Nat.reduceEqDiff, reduceIte, Nat.reduceAdd, Int.toNat_natCast, Nat.add_zero, Owes_true, e8]; try rfl), rfl, a + z, (by simp -dsimp -implicitDefEqProofs (maxSteps := 2000000) (disch := first | assumption | omega | (simp only [nx]; omega) | ((repeat refine Fresh.push ?_ _); assumption) | (simp only [smA]; done) | (simp [oneCell, AW.next_push]; done) | fail) only [go_sem, Nat.reduceEqDiff, reduceIte, Nat.reduceAdd, Int.toNat_natCast, Nat.add_zero, Owes_true]; try rfl), by omega⟩
end Go.Proofs

namespace Go.Proofs
open Go Go.RowKit Go.Sim
set_option maxRecDepth 100000
theorem Try.und22 : Try.prog.underlying 22 = some (.slice 3) := by kernel_rfl
theorem Try.und4 : Try.prog.underlying 4 = some .bool := by kernel_rfl
theorem Try.cells3 : Try.prog.cellsOf 3 = 1 := by kernel_rfl
theorem given_int {w : AW} {n : Nat} {cs : List Value} (h : Hd Try.prog w n 3 cs) : ∃ x : Int, cs = icells x ∧ -9223372036854775808 ≤ x ∧ x ≤ 9223372036854775807 := by
  cases n with
  | zero => exact h.elim
  | succ n =>
    simp only [Hd, Try.und3] at h
    obtain ⟨i, rfl, h1, h2⟩ := h
    exact ⟨i, rfl, h1, h2⟩
theorem rows_ofR {R : Int → Prop} {rows : List (List Value)} (h : ∀ r ∈ rows, ∃ x : Int, r = icells x ∧ R x) : ∃ xs : List Int, rows = xs.map icells ∧ ∀ x ∈ xs, R x := by
  induction rows with
  | nil => exact ⟨[], rfl, fun _ h => by cases h⟩
  | cons r rows ih =>
    obtain ⟨x, hx, hr⟩ := h r List.mem_cons_self
    obtain ⟨xs, hxs, hr2⟩ := ih fun q hq => h q (List.mem_cons_of_mem _ hq)
    exact ⟨x :: xs, by rw [hx, hxs]; rfl, fun y hy => by
      rcases List.mem_cons.1 hy with rfl | hy
      · exact hr
      · exact hr2 y hy⟩
def I64 (x : Int) : Prop := -9223372036854775808 ≤ x ∧ x ≤ 9223372036854775807
theorem given_ints {w : AW} {n : Nat} {cs : List Value} (h : Hd Try.prog w n 22 cs) : ∃ v, cs = [v] ∧ ∃ xs, ArrOf w 1 icells v xs ∧ ∀ x ∈ xs, I64 x := by
  cases n with
  | zero => exact h.elim
  | succ n =>
    simp only [Hd, Try.und22, Try.cells3] at h
    obtain ⟨v, rows, rfl, ha, hr, hgv⟩ := h
    obtain ⟨xs, rfl, hI⟩ := rows_ofR (R := I64) fun r hq => by obtain ⟨x, hx, h1, h2⟩ := given_int (hr r hq); exact ⟨x, hx, h1, h2⟩
    exact ⟨v, rfl, xs, ha, hI⟩
theorem given_intsV {w : AW} {n : Nat} {v : Value} (h : HdV Try.prog w n 22 v) : ∃ xs, ArrOf w 1 icells v xs ∧ ∀ x ∈ xs, I64 x := by
  simp only [HdV, Try.und22] at h
  obtain ⟨u, e, xs, hx⟩ := given_ints h
  injection e with e
  subst e
  exact ⟨xs, hx⟩
end Go.Proofs

namespace Go.Proofs
open Go Go.RowKit Go.Sim
set_option maxRecDepth 100000
theorem given_intsC {w : AW} {n : Nat} {v : Value} (h : HdV Try.prog w n 22 v) : ∃ xs, ArrOf w 1 icells v xs ∧ (∀ x ∈ xs, I64 x) ∧ Cutt w v xs.length := by
  simp only [HdV, Try.und22] at h
  cases n with
  | zero => exact h.elim
  | succ n =>
    simp only [Hd, Try.und22, Try.cells3] at h
    obtain ⟨v', rows, e, ha, hr, hgv⟩ := h
    injection e with e
    subst e
    obtain ⟨xs, rfl, hI⟩ := rows_ofR (R := I64) fun r hq => by obtain ⟨x, hx, h1, h2⟩ := given_int (hr r hq); exact ⟨x, hx, h1, h2⟩
    have hA : ArrOf w 1 icells v xs := ha
    refine ⟨xs, hA, hI, ?_⟩
    obtain ⟨p, cap, rfl, hc, _, hat⟩ := hA.open
    rcases Nat.eq_zero_or_pos xs.length with q | q
    · exact .inl q
    · obtain ⟨b, o, rfl, hb, _⟩ := hat 0 q
      obtain ⟨g1, cs, g2⟩ := hgv.1 b o none _ _ rfl q
      exact .inr ⟨b, o, cap, rfl, hc, g1, .inl ⟨cs, g2⟩⟩
theorem Try.und45 : Try.prog.underlying 45 = some (.array 3 3) := by kernel_rfl
theorem given_three {w : AW} {n : Nat} {v : Value} (h : HdV Try.prog w n 45 v) : ∃ a b c : Int, v = .agg #[.int .i64 a, .int .i64 b, .int .i64 c] ∧ I64 a ∧ I64 b ∧ I64 c := by
  simp only [HdV, Try.und45] at h
  obtain ⟨cs, rfl, h⟩ := h
  cases n with
  | zero => exact h.elim
  | succ n =>
    simp only [Hd, Try.und45] at h
    obtain ⟨parts, e, hl, hp⟩ := h
    match parts, hl with
    | [p0, p1, p2], _ =>
      obtain ⟨x0, rfl, h0⟩ := given_int (hp p0 (by simp))
      obtain ⟨x1, rfl, h1⟩ := given_int (hp p1 (by simp))
      obtain ⟨x2, rfl, h2⟩ := given_int (hp p2 (by simp))
      exact ⟨x0, x1, x2, by rw [show cs = cs.toList.toArray from rfl, e]; rfl, h0, h1, h2⟩
theorem Try.ia45 (t : Tmps) (w : AW) (x y : Operand) : fast (prg Try.prog) t w (.indexAddr 45 x y) = indexA 1 3 (ev t x) (ev t y) := fast_indexAddrA Try.ty45 Try.ty3
theorem ix3_0 (b o : Nat) : indexA 1 3 (.pointer (some ⟨b, o, none⟩)) (.int .i64 0) = some (.pointer (some ⟨b, o, none⟩)) := indexA_eq (i := 0) (by decide)
theorem ix3_1 (b o : Nat) : indexA 1 3 (.pointer (some ⟨b, o, none⟩)) (.int .i64 1) = some (.pointer (some ⟨b, o + 1, none⟩)) := indexA_eq (i := 1) (by decide)
theorem ix3_2 (b o : Nat) : indexA 1 3 (.pointer (some ⟨b, o, none⟩)) (.int .i64 2) = some (.pointer (some ⟨b, o + 2, none⟩)) := indexA_eq (i := 2) (by decide)
attribute [go_sem] Try.ia45 ix3_0 ix3_1 ix3_2
def drawnL (e : Int) (L : List Int) : List Int := if e = 0 then L else []
theorem Drawn.list {e : Int} {L : List Int} {w w' : AW} {v : Value} (h : Drawn e L w v w') : Grown w w' ∧ ∃ (p : Option Addr) (m c : Nat), v = .tuple #[.slice p m c, .int .i64 e] ∧ ArrOf w' 1 icells (.slice p m c) (drawnL e L) := by
  obtain ⟨g, p, m, c, rfl, h1, h2⟩ := h
  refine ⟨g, p, m, c, rfl, ?_⟩
  unfold drawnL
  by_cases he : e = 0
  · rw [if_pos he]; exact h2 he
  · rw [if_neg he, h1 he]; exact ArrOf.nil _ _ _
set_option maxHeartbeats 16000000 in
theorem draws_law (w : AW) (xs : List Value) (f : Fresh w) (h : HdAll Try.prog w [22, 45, 22] xs) : CallT Try.prog Try.T1 (.fn (.func 6) #[]) xs.toArray w fun v _ => v = .bool true := by
  cases h with
  | cons n1 h1 h =>
  cases h with
  | cons n2 h2 h =>
  cases h with
  | cons n3 h3 h =>
  cases h
  rename_i v1 v2 v3
  obtain ⟨l, hl, _, hc⟩ := given_intsC h1
  obtain ⟨n, r, k, rfl, hn, hr, hk⟩ := given_three h2
  obtain ⟨L, hL, _⟩ := given_intsV h3
  clear h1 h2 h3
  obtain ⟨pv, cv, rfl, _⟩ := id hl.open
  obtain ⟨pu, cu, rfl, _⟩ := id hL.open
  show CallT Try.prog Try.T1 (.fn (.func 6) #[]) #[.slice pv l.length cv, .agg #[.int .i64 n, .int .i64 r, .int .i64 k], .slice pu L.length cu] w _
  have g0 := (Grown.refl f).push (.cells [.int .i64 n, .int .i64 r, .int .i64 k] 45 w.next 0 0)
  have O := Own.new f 45 [.int .i64 n, .int .i64 r, .int .i64 k]
  refine callT_code rfl Try.func6 rfl Try.s6_eq rfl ?_
  unfold Try.s6
  simp -dsimp -implicitDefEqProofs (maxSteps := 2000000) (disch := first | assumption | omega | (simp only [nx]; omega) | ((repeat refine Fresh.push ?_ _); assumption) | (simp only [smA]; done) | (simp [oneCell, AW.next_push]; done) | fail) only [go_sem, Nat.reduceEqDiff, reduceIte, Nat.reduceAdd, Int.toNat_natCast, Nat.add_zero, Owes_true, Try.results6]
  generalize w.push (.cells [.int .i64 n, .int .i64 r, .int .i64 k] 45 w.next 0 0) = w0 at *
  apply callV_of (e := rfl)
  · exact Rank_ok l _ w0 g0.2 (hl.grown g0) (hc.grown g0.1)
  rintro _ w1 ⟨rfl, g1⟩
  have gg1 := g0.trans g1
  simp -dsimp -implicitDefEqProofs (maxSteps := 2000000) (disch := first | assumption | omega | (simp only [nx]; omega) | ((repeat refine Fresh.push ?_ _); assumption) | (simp only [smA]; done) | (simp [oneCell, AW.next_push]; done) | fail) only [go_sem, Nat.reduceEqDiff, reduceIte, Nat.reduceAdd, Int.toNat_natCast, Nat.add_zero, Owes_true, Try.results6]
  apply callV_of (e := rfl)
  · exact RankR_ok l _ w1 (hl.grown gg1)
  rintro _ _ ⟨rfl, rfl⟩
  have e1 : decide (rankV l = rankV l) = true := decide_eq_true rfl
  have e2 : decide (rankE l = rankE l) = true := decide_eq_true rfl
  have O1 := O.keep g1.1
  have c0 := O1.cell (o := 0) rfl rfl
  have c1 := O1.cell (o := 1) rfl rfl
  simp -dsimp -implicitDefEqProofs (maxSteps := 2000000) (disch := first | assumption | omega | (simp only [nx]; omega) | ((repeat refine Fresh.push ?_ _); assumption) | (simp only [smA]; done) | (simp [oneCell, AW.next_push]; done) | fail) only [go_sem, Nat.reduceEqDiff, reduceIte, Nat.reduceAdd, Int.toNat_natCast, Nat.add_zero, Owes_true, Try.results6, e1, e2, c0, c1, Nat.zero_add]
  apply callV_of (e := rfl)
  · exact Unrank_ok n r w1 gg1.2
  rintro _ w2 hD
  obtain ⟨g2, p2, m2, k2, rfl, hA2⟩ := hD.list
  have gg2 := gg1.trans g2
  have O2 := O1.keep g2.1
  have d0 := O2.cell (o := 0) rfl rfl
  have d1 := O2.cell (o := 1) rfl rfl
  simp -dsimp -implicitDefEqProofs (maxSteps := 2000000) (disch := first | assumption | omega | (simp only [nx]; omega) | ((repeat refine Fresh.push ?_ _); assumption) | (simp only [smA]; done) | (simp [oneCell, AW.next_push]; done) | fail) only [go_sem, Nat.reduceEqDiff, reduceIte, Nat.reduceAdd, Int.toNat_natCast, Nat.add_zero, Owes_true, Try.results6, d0, d1, Nat.zero_add]
  apply callV_of (e := rfl)
  · exact UnrankR_ok n r w2 gg2.2
  rintro _ w3 hD3
  obtain ⟨g3, p3, m3, k3, rfl, hA3⟩ := hD3.list
  have gg3 := gg2.trans g3
  simp -dsimp -implicitDefEqProofs (maxSteps := 2000000) (disch := first | assumption | omega | (simp only [nx]; omega) | ((repeat refine Fresh.push ?_ _); assumption) | (simp only [smA]; done) | (simp [oneCell, AW.next_push]; done) | fail) only [go_sem, Nat.reduceEqDiff, reduceIte, Nat.reduceAdd, Int.toNat_natCast, Nat.add_zero, Owes_true, Try.results6]
  apply callV_of (e := rfl)
  · exact Same_ok _ _ _ _ w3 (hA2.grown g3) hA3
  rintro _ _ ⟨rfl, rfl⟩
  have e3 : decide (drawnL (unrE n r) (ordI n.toNat r.toNat) = drawnL (unrE n r) (ordI n.toNat r.toNat)) = true := decide_eq_true rfl
  have e4 : decide (unrE n r = unrE n r) = true := decide_eq_true rfl
  have O3 := O2.keep g3.1
  have q0 := O3.cell (o := 0) rfl rfl
  have q2 := O3.cell (o := 2) rfl rfl
  simp -dsimp -implicitDefEqProofs (maxSteps := 2000000) (disch := first | assumption | omega | (simp only [nx]; omega) | ((repeat refine Fresh.push ?_ _); assumption) | (simp only [smA]; done) | (simp [oneCell, AW.next_push]; done) | fail) only [go_sem, Nat.reduceEqDiff, reduceIte, Nat.reduceAdd, Int.toNat_natCast, Nat.add_zero, Owes_true, Try.results6, e3, e4, q0, q2, Nat.zero_add]
  apply callV_of (e := rfl)
  · exact Draw_ok n k L _ w3 gg3.2 (hL.grown gg3)
  rintro _ w4 hD4
  obtain ⟨g4, p4, m4, k4, rfl, hA4⟩ := hD4.list
  have gg4 := gg3.trans g4
  have O4 := O3.keep g4.1
  have r0 := O4.cell (o := 0) rfl rfl
  have r2 := O4.cell (o := 2) rfl rfl
  simp -dsimp -implicitDefEqProofs (maxSteps := 2000000) (disch := first | assumption | omega | (simp only [nx]; omega) | ((repeat refine Fresh.push ?_ _); assumption) | (simp only [smA]; done) | (simp [oneCell, AW.next_push]; done) | fail) only [go_sem, Nat.reduceEqDiff, reduceIte, Nat.reduceAdd, Int.toNat_natCast, Nat.add_zero, Owes_true, Try.results6, r0, r2, Nat.zero_add]
  apply callV_of (e := rfl)
  · exact DrawR_ok n k hk.1 L _ w4 gg4.2 (hL.grown gg4)
  rintro _ w5 hD5
  obtain ⟨g5, p5, m5, k5, rfl, hA5⟩ := hD5.list
  simp -dsimp -implicitDefEqProofs (maxSteps := 2000000) (disch := first | assumption | omega | (simp only [nx]; omega) | ((repeat refine Fresh.push ?_ _); assumption) | (simp only [smA]; done) | (simp [oneCell, AW.next_push]; done) | fail) only [go_sem, Nat.reduceEqDiff, reduceIte, Nat.reduceAdd, Int.toNat_natCast, Nat.add_zero, Owes_true, Try.results6]
  apply callV_of (e := rfl)
  · exact Same_ok _ _ _ _ w5 (hA4.grown g5) hA5
  rintro _ _ ⟨rfl, rfl⟩
  have e5 : decide (drawnL (drawE n k L) (drawL n k L) = drawnL (drawE n k L) (drawL n k L)) = true := decide_eq_true rfl
  have e6 : decide (drawE n k L = drawE n k L) = true := decide_eq_true rfl
  simp -dsimp -implicitDefEqProofs (maxSteps := 2000000) (disch := first | assumption | omega | (simp only [nx]; omega) | ((repeat refine Fresh.push ?_ _); assumption) | (simp only [smA]; done) | (simp [oneCell, AW.next_push]; done) | fail) only [go_sem, Nat.reduceEqDiff, reduceIte, Nat.reduceAdd, Int.toNat_natCast, Nat.add_zero, Owes_true, Try.results6, e5, e6]
  apply callV_of (e := rfl)
  · exact callT_told (Q := fun v w' => v = .bool true ∧ w5 = w') (v := .bool true) (w' := w5) rfl ⟨rfl, rfl⟩
  rintro _ _ ⟨rfl, rfl⟩
  simp -dsimp -implicitDefEqProofs (maxSteps := 2000000) (disch := first | assumption | omega | (simp only [nx]; omega) | ((repeat refine Fresh.push ?_ _); assumption) | (simp only [smA]; done) | (simp [oneCell, AW.next_push]; done) | fail) only [go_sem, Nat.reduceEqDiff, reduceIte, Nat.reduceAdd, Int.toNat_natCast, Nat.add_zero, Owes_true, Try.results6]
end Go.Proofs

namespace Go.Proofs
open Go Go.RowKit Go.Sim Go.ChangeShapes Go.WideShapes Go.ChangeAt
set_option maxRecDepth 100000
theorem Try.own : ownKnob Try.prog.godebug = none := by kernel_rfl
theorem Try.laidOut : laidOutB Try.prog = true := by kernel_rfl
end Go.Proofs
