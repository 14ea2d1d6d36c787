/- Markets: contracts of Check, the crafts of a kind, Crafts and Value. -/
import Derived.Test.YtdbeiefgokocnaaKa
import Derived.Test.YtdbeiefgokocnaaTa
import Derived.Test.YtdbeiefgokocnaaTd
import Derived.Test.YtdbeiefgokocnaaNb
import Derived.Test.YtdbeiefgokocnaaLa
set_option linter.unusedVariables false
set_option linter.unusedSimpArgs false
/- Markets: what is valid, and what is left of the craft of a sale. -/
namespace Go.Proofs
open Go Go.RowKit Go.Sim
set_option maxRecDepth 100000
structure SaleN where
  (k d w m p : Int)
def scel (s : SaleN) : List Value := [.int .i64 s.k, .int .i64 s.d, .int .i64 s.w, .int .i64 s.m, .int .i64 s.p]
theorem scel_len (s : SaleN) : (scel s).length = 5 := rfl
structure MarkN where
  (m d f : Int)
def fadesB (F : List Int) : Bool := decide (1 ≤ F.length) && decide (F.length ≤ 8) && F.all fun x => inR 0 x 64
def saleB (n : Nat) (d : Int) (s : SaleN) : Bool := inR 0 s.k ((n : Int) - 1) && inR 0 s.d d && inR 0 s.w 1000 && inR 0 s.m 100000 && inR 0 s.p 1073741824
def markB (x : MarkN) (S : List SaleN) (F : List Int) : Bool := fadesB F && inR 0 x.m 100000 && inR 0 x.d 36500 && inR 1 x.f 16 && decide (S.length ≤ 64) && S.all (saleB F.length x.d)
def markE (x : MarkN) (S : List SaleN) (F : List Int) : Int := if markB x S F = true then 0 else 20
theorem markE_bad {x : MarkN} {S : List SaleN} {F : List Int} (h : markB x S F = false) : markE x S F = 20 := by rw [markE, h]; rfl
theorem areFades_ok (F : List Int) (v : Value) (w : AW) (hs : ArrOf w 1 icells v F) : CallT Try.prog Try.T1 (.fn (.func 49) #[]) #[v] w (Ret (.bool (fadesB F)) fun w' => w = w') := by
  obtain ⟨p, cap, rfl, hcap, hmax, hat⟩ := id hs.open
  refine callT_code rfl Try.func49 rfl Try.s49_eq rfl ?_
  unfold Try.s49
  by_cases h1 : (F.length : Int) < 1
  · simp -dsimp -implicitDefEqProofs (maxSteps := 2000000) (disch := first | assumption | omega | (simp only [AW.next_push, AW.next_put]; omega) | ((repeat refine Fresh.push ?_ _); assumption) | (simp only [same_int, same_bool, same_ptr, same_slice, same_sliceP, same_nil, same_agg2, same_string]; done) | (simp [oneCell, AW.next_push]; done) | fail) only [go_sem, Nat.reduceEqDiff, reduceIte, Nat.reduceAdd, Int.toNat_natCast, Nat.add_zero, Owes_true, Try.results49, h1]
    exact ⟨by rw [fadesB, decide_eq_false (by omega)]; rfl, rfl⟩
  by_cases h8 : 8 < (F.length : Int)
  · simp -dsimp -implicitDefEqProofs (maxSteps := 2000000) (disch := first | assumption | omega | (simp only [AW.next_push, AW.next_put]; omega) | ((repeat refine Fresh.push ?_ _); assumption) | (simp only [same_int, same_bool, same_ptr, same_slice, same_sliceP, same_nil, same_agg2, same_string]; done) | (simp [oneCell, AW.next_push]; done) | fail) only [go_sem, Nat.reduceEqDiff, reduceIte, Nat.reduceAdd, Int.toNat_natCast, Nat.add_zero, Owes_true, Try.results49, h1, h8]
    exact ⟨by rw [fadesB, decide_eq_false (show ¬ F.length ≤ 8 by omega), Bool.and_false]; rfl, rfl⟩
  have hlen : (decide (1 ≤ F.length) && decide (F.length ≤ 8)) = true := by rw [decide_eq_true (by omega), decide_eq_true (by omega)]; rfl
  simp -dsimp -implicitDefEqProofs (maxSteps := 2000000) (disch := first | assumption | omega | (simp only [AW.next_push, AW.next_put]; omega) | ((repeat refine Fresh.push ?_ _); assumption) | (simp only [same_int, same_bool, same_ptr, same_slice, same_sliceP, same_nil, same_agg2, same_string]; done) | (simp [oneCell, AW.next_push]; done) | fail) only [go_sem, Nat.reduceEqDiff, reduceIte, Nat.reduceAdd, Int.toNat_natCast, Nat.add_zero, Owes_true, Try.results49, h1, h8]
  refine loopR (fun k t ds w1 => ∃ i : Nat, i ≤ F.length ∧ k = F.length - i ∧ ds = [] ∧ ev t (.tmp 13) = .slice p F.length cap ∧ ev t (.tmp 14) = .int .i64 (F.length : Int) ∧ ev t (.tmp 15) = .int .i64 (i : Int) ∧ w = w1 ∧ ((F.take i).all fun x => inR 0 x 64) = true) (F.length) ?_ ?_
  · refine ⟨0, by omega, by omega, rfl, ?_, ?_, ?_, rfl, rfl⟩ <;> simp -dsimp -implicitDefEqProofs (maxSteps := 2000000) (disch := first | assumption | omega | (simp only [AW.next_push, AW.next_put]; omega) | ((repeat refine Fresh.push ?_ _); assumption) | (simp only [same_int, same_bool, same_ptr, same_slice, same_sliceP, same_nil, same_agg2, same_string]; done) | (simp [oneCell, AW.next_push]; done) | fail) only [go_sem, Nat.reduceEqDiff, reduceIte, Nat.reduceAdd, Int.toNat_natCast, Nat.add_zero, Owes_true] <;> rfl
  rintro k t ds w1 ⟨i, hii, rfl, rfl, e13, e14, e15, hw, hall⟩
  subst hw
  by_cases hlt : (i : Int) < (F.length : Int)
  case neg =>
    have h2 : F.take i = F := List.take_of_length_le (by omega)
    rw [h2] at hall
    simp -dsimp -implicitDefEqProofs (maxSteps := 2000000) (disch := first | assumption | omega | (simp only [AW.next_push, AW.next_put]; omega) | ((repeat refine Fresh.push ?_ _); assumption) | (simp only [same_int, same_bool, same_ptr, same_slice, same_sliceP, same_nil, same_agg2, same_string]; done) | (simp [oneCell, AW.next_push]; done) | fail) only [go_sem, Nat.reduceEqDiff, reduceIte, Nat.reduceAdd, Int.toNat_natCast, Nat.add_zero, Owes_true, Try.results49, e13, e14, e15, hlt]
    exact ⟨by rw [fadesB, hlen, hall]; rfl, rfl⟩
  have hlt' : i < F.length := by omega
  obtain ⟨b1, o1, rfl, hb1, hcell⟩ := hat i hlt'
  have a0 := hcell w (.refl _ _) 0 _ rfl
  rw [Nat.add_zero] at a0
  simp -dsimp -implicitDefEqProofs (maxSteps := 2000000) (disch := first | assumption | omega | (simp only [AW.next_push, AW.next_put]; omega) | ((repeat refine Fresh.push ?_ _); assumption) | (simp only [same_int, same_bool, same_ptr, same_slice, same_sliceP, same_nil, same_agg2, same_string]; done) | (simp [oneCell, AW.next_push]; done) | fail) only [go_sem, Nat.reduceEqDiff, reduceIte, Nat.reduceAdd, Int.toNat_natCast, Nat.add_zero, Owes_true, Try.results49, e13, e14, e15, hlt, indexV_eq, a0]
  apply callV_of (e := rfl)
  · exact within_ok _ _ _ _
  rintro _ _ ⟨rfl, rfl⟩
  cases hq : inR 0 F[i] 64 with
  | false =>
    simp -dsimp -implicitDefEqProofs (maxSteps := 2000000) (disch := first | assumption | omega | (simp only [AW.next_push, AW.next_put]; omega) | ((repeat refine Fresh.push ?_ _); assumption) | (simp only [same_int, same_bool, same_ptr, same_slice, same_sliceP, same_nil, same_agg2, same_string]; done) | (simp [oneCell, AW.next_push]; done) | fail) only [go_sem, Nat.reduceEqDiff, reduceIte, Nat.reduceAdd, Int.toNat_natCast, Nat.add_zero, Owes_true, Try.results49]
    have : (F.all fun x => inR 0 x 64) = false := by rw [List.all_eq_false]; exact ⟨F[i], List.getElem_mem hlt', by rw [hq]; simp⟩
    exact ⟨by rw [fadesB, this, Bool.and_false], rfl⟩
  | true =>
    simp -dsimp -implicitDefEqProofs (maxSteps := 2000000) (disch := first | assumption | omega | (simp only [AW.next_push, AW.next_put]; omega) | ((repeat refine Fresh.push ?_ _); assumption) | (simp only [same_int, same_bool, same_ptr, same_slice, same_sliceP, same_nil, same_agg2, same_string]; done) | (simp [oneCell, AW.next_push]; done) | fail) only [go_sem, Nat.reduceEqDiff, reduceIte, Nat.reduceAdd, Int.toNat_natCast, Nat.add_zero, Owes_true, Try.results49, e13, e14, e15]
    refine ⟨_, by omega, i + 1, by omega, rfl, rfl, by (simp -dsimp -implicitDefEqProofs (maxSteps := 2000000) (disch := first | assumption | omega | (simp only [AW.next_push, AW.next_put]; omega) | ((repeat refine Fresh.push ?_ _); assumption) | (simp only [same_int, same_bool, same_ptr, same_slice, same_sliceP, same_nil, same_agg2, same_string]; done) | (simp [oneCell, AW.next_push]; done) | fail) only [go_sem, Nat.reduceEqDiff, reduceIte, Nat.reduceAdd, Int.toNat_natCast, Nat.add_zero, Owes_true, e13]; try rfl), by (simp -dsimp -implicitDefEqProofs (maxSteps := 2000000) (disch := first | assumption | omega | (simp only [AW.next_push, AW.next_put]; omega) | ((repeat refine Fresh.push ?_ _); assumption) | (simp only [same_int, same_bool, same_ptr, same_slice, same_sliceP, same_nil, same_agg2, same_string]; done) | (simp [oneCell, AW.next_push]; done) | fail) only [go_sem, Nat.reduceEqDiff, reduceIte, Nat.reduceAdd, Int.toNat_natCast, Nat.add_zero, Owes_true, e14]; try rfl), by (simp -dsimp -implicitDefEqProofs (maxSteps := 2000000) (disch := first | assumption | omega | (simp only [AW.next_push, AW.next_put]; omega) | ((repeat refine Fresh.push ?_ _); assumption) | (simp only [same_int, same_bool, same_ptr, same_slice, same_sliceP, same_nil, same_agg2, same_string]; done) | (simp [oneCell, AW.next_push]; done) | fail) only [go_sem, Nat.reduceEqDiff, reduceIte, Nat.reduceAdd, Int.toNat_natCast, Nat.add_zero, Owes_true, e15]; try rfl), rfl, by rw [List.take_succ_eq_append_getElem hlt', List.all_append, hall]; simp [hq]⟩
theorem isKind_ok (x : MarkN) (F : List Int) (vs vf : Value) (k : Int) (w : AW) (f : Fresh w) (hvs : oneCell vs = true) (hs : ArrOf w 1 icells vf F) : CallT Try.prog Try.T1 (.fn (.func 46) #[]) #[.agg #[vs, vf, .int .i64 x.m, .int .i64 x.d, .int .i64 x.f], .int .i64 k] w (Ret (.bool (inR 0 k ((F.length : Int) - 1))) (Grown w)) := by
  obtain ⟨p, cap, rfl, hcap, hmax, hat⟩ := id hs.open
  have hvf : oneCell (.slice p F.length cap) = true := rfl
  have g := (Grown.refl f).push (.cells [vs, .slice p F.length cap, .int .i64 x.m, .int .i64 x.d, .int .i64 x.f] 25 w.next 0 0)
  have hO := Own.new f 25 [vs, .slice p F.length cap, .int .i64 x.m, .int .i64 x.d, .int .i64 x.f]
  have c0 := (hO).cell (o := 0) rfl hvs
  have c1 := (hO).cell (o := 1) rfl hvf
  have c2 := (hO).cell (o := 2) rfl rfl
  have c3 := (hO).cell (o := 3) rfl rfl
  have c4 := (hO).cell (o := 4) rfl rfl
  refine callT_code rfl Try.func46 rfl Try.s46_eq rfl ?_
  unfold Try.s46
  simp -dsimp -implicitDefEqProofs (maxSteps := 2000000) (disch := first | assumption | omega | (simp only [AW.next_push, AW.next_put]; omega) | ((repeat refine Fresh.push ?_ _); assumption) | (simp only [same_int, same_bool, same_ptr, same_slice, same_sliceP, same_nil, same_agg2, same_string]; done) | (simp [oneCell, AW.next_push]; done) | fail) only [go_sem, Nat.reduceEqDiff, reduceIte, Nat.reduceAdd, Int.toNat_natCast, Nat.add_zero, Owes_true, Try.results46, Nat.zero_add, c1]
  apply callV_of (e := rfl)
  · exact within_ok _ _ _ _
  rintro _ _ ⟨rfl, rfl⟩
  simp -dsimp -implicitDefEqProofs (maxSteps := 2000000) (disch := first | assumption | omega | (simp only [AW.next_push, AW.next_put]; omega) | ((repeat refine Fresh.push ?_ _); assumption) | (simp only [same_int, same_bool, same_ptr, same_slice, same_sliceP, same_nil, same_agg2, same_string]; done) | (simp [oneCell, AW.next_push]; done) | fail) only [go_sem, Nat.reduceEqDiff, reduceIte, Nat.reduceAdd, Int.toNat_natCast, Nat.add_zero, Owes_true, Try.results46]
  exact ⟨rfl, g⟩
set_option maxHeartbeats 1000000 in
theorem isSale_ok (x : MarkN) (F : List Int) (vs vf : Value) (s : SaleN) (w : AW) (f : Fresh w) (hvs : oneCell vs = true) (hs : ArrOf w 1 icells vf F) : CallT Try.prog Try.T1 (.fn (.func 52) #[]) #[.agg #[vs, vf, .int .i64 x.m, .int .i64 x.d, .int .i64 x.f], .agg #[.int .i64 s.k, .int .i64 s.d, .int .i64 s.w, .int .i64 s.m, .int .i64 s.p]] w (Ret (.bool (saleB F.length x.d s)) (Grown w)) := by
  obtain ⟨p, cap, rfl, hcap, hmax, hat⟩ := id hs.open
  have hvf : oneCell (.slice p F.length cap) = true := rfl
  have g := (Grown.refl f).push (.cells [vs, .slice p F.length cap, .int .i64 x.m, .int .i64 x.d, .int .i64 x.f] 25 w.next 0 0)
  have hO := (Own.new f 25 [vs, .slice p F.length cap, .int .i64 x.m, .int .i64 x.d, .int .i64 x.f]).push (.cells (scel s) 66 (w.next + 1) 0 0)
  have hS := Own.new g.2 66 (scel s)
  have g1 := g.push (.cells (scel s) 66 (w.next + 1) 0 0)
  rw [AW.next_push] at hS
  unfold scel at hS hO g1
  have c0 := (hO).cell (o := 0) rfl hvs
  have c1 := (hO).cell (o := 1) rfl hvf
  have c2 := (hO).cell (o := 2) rfl rfl
  have c3 := (hO).cell (o := 3) rfl rfl
  have c4 := (hO).cell (o := 4) rfl rfl
  have s0 := (hS).cell (o := 0) rfl rfl
  have s1 := (hS).cell (o := 1) rfl rfl
  have s2 := (hS).cell (o := 2) rfl rfl
  have s3 := (hS).cell (o := 3) rfl rfl
  have s4 := (hS).cell (o := 4) rfl rfl
  refine callT_code rfl Try.func52 rfl Try.s52_eq rfl ?_
  unfold Try.s52
  simp -dsimp -implicitDefEqProofs (maxSteps := 2000000) (disch := first | assumption | omega | (simp only [AW.next_push, AW.next_put]; omega) | ((repeat refine Fresh.push ?_ _); assumption) | (simp only [same_int, same_bool, same_ptr, same_slice, same_sliceP, same_nil, same_agg2, same_string]; done) | (simp [oneCell, AW.next_push]; done) | fail) only [go_sem, Nat.reduceEqDiff, reduceIte, Nat.reduceAdd, Int.toNat_natCast, Nat.add_zero, Owes_true, Try.results52, Nat.zero_add, c0, c1, c2, c3, c4, s0]
  generalize ((w.push (.cells [vs, .slice p F.length cap, .int .i64 x.m, .int .i64 x.d, .int .i64 x.f] 25 w.next 0 0)).push (.cells [.int .i64 s.k, .int .i64 s.d, .int .i64 s.w, .int .i64 s.m, .int .i64 s.p] 66 (w.next + 1) 0 0)) = W at *
  apply callV_of (e := rfl)
  · exact isKind_ok x F vs _ s.k W g1.2 hvs (hs.grown g1)
  rintro _ w2 ⟨rfl, hg2⟩
  have g2 := g1.trans hg2
  have hO2 := hO.keep hg2.1
  have hS2 := hS.keep hg2.1
  have c0 := (hO2).cell (o := 0) rfl hvs
  have c1 := (hO2).cell (o := 1) rfl hvf
  have c2 := (hO2).cell (o := 2) rfl rfl
  have c3 := (hO2).cell (o := 3) rfl rfl
  have c4 := (hO2).cell (o := 4) rfl rfl
  have s0 := (hS2).cell (o := 0) rfl rfl
  have s1 := (hS2).cell (o := 1) rfl rfl
  have s2 := (hS2).cell (o := 2) rfl rfl
  have s3 := (hS2).cell (o := 3) rfl rfl
  have s4 := (hS2).cell (o := 4) rfl rfl
  cases h0 : inR 0 s.k ((F.length : Int) - 1) with
  | false =>
    simp -dsimp -implicitDefEqProofs (maxSteps := 2000000) (disch := first | assumption | omega | (simp only [AW.next_push, AW.next_put]; omega) | ((repeat refine Fresh.push ?_ _); assumption) | (simp only [same_int, same_bool, same_ptr, same_slice, same_sliceP, same_nil, same_agg2, same_string]; done) | (simp [oneCell, AW.next_push]; done) | fail) only [go_sem, Nat.reduceEqDiff, reduceIte, Nat.reduceAdd, Int.toNat_natCast, Nat.add_zero, Owes_true, Try.results52]
    exact ⟨by rw [saleB, h0]; rfl, g2⟩
  | true =>
  simp -dsimp -implicitDefEqProofs (maxSteps := 2000000) (disch := first | assumption | omega | (simp only [AW.next_push, AW.next_put]; omega) | ((repeat refine Fresh.push ?_ _); assumption) | (simp only [same_int, same_bool, same_ptr, same_slice, same_sliceP, same_nil, same_agg2, same_string]; done) | (simp [oneCell, AW.next_push]; done) | fail) only [go_sem, Nat.reduceEqDiff, reduceIte, Nat.reduceAdd, Int.toNat_natCast, Nat.add_zero, Owes_true, Try.results52, Nat.zero_add, c3, s1]
  apply callV_of (e := rfl)
  · exact within_ok _ _ _ _
  rintro _ _ ⟨rfl, rfl⟩
  cases h1 : inR 0 s.d x.d with
  | false =>
    simp -dsimp -implicitDefEqProofs (maxSteps := 2000000) (disch := first | assumption | omega | (simp only [AW.next_push, AW.next_put]; omega) | ((repeat refine Fresh.push ?_ _); assumption) | (simp only [same_int, same_bool, same_ptr, same_slice, same_sliceP, same_nil, same_agg2, same_string]; done) | (simp [oneCell, AW.next_push]; done) | fail) only [go_sem, Nat.reduceEqDiff, reduceIte, Nat.reduceAdd, Int.toNat_natCast, Nat.add_zero, Owes_true, Try.results52]
    exact ⟨by rw [saleB, h0, h1]; rfl, g2⟩
  | true =>
  simp -dsimp -implicitDefEqProofs (maxSteps := 2000000) (disch := first | assumption | omega | (simp only [AW.next_push, AW.next_put]; omega) | ((repeat refine Fresh.push ?_ _); assumption) | (simp only [same_int, same_bool, same_ptr, same_slice, same_sliceP, same_nil, same_agg2, same_string]; done) | (simp [oneCell, AW.next_push]; done) | fail) only [go_sem, Nat.reduceEqDiff, reduceIte, Nat.reduceAdd, Int.toNat_natCast, Nat.add_zero, Owes_true, Try.results52, Nat.zero_add, s2]
  apply callV_of (e := rfl)
  · exact within_ok _ _ _ _
  rintro _ _ ⟨rfl, rfl⟩
  cases h2 : inR 0 s.w 1000 with
  | false =>
    simp -dsimp -implicitDefEqProofs (maxSteps := 2000000) (disch := first | assumption | omega | (simp only [AW.next_push, AW.next_put]; omega) | ((repeat refine Fresh.push ?_ _); assumption) | (simp only [same_int, same_bool, same_ptr, same_slice, same_sliceP, same_nil, same_agg2, same_string]; done) | (simp [oneCell, AW.next_push]; done) | fail) only [go_sem, Nat.reduceEqDiff, reduceIte, Nat.reduceAdd, Int.toNat_natCast, Nat.add_zero, Owes_true, Try.results52]
    exact ⟨by rw [saleB, h0, h1, h2]; rfl, g2⟩
  | true =>
  simp -dsimp -implicitDefEqProofs (maxSteps := 2000000) (disch := first | assumption | omega | (simp only [AW.next_push, AW.next_put]; omega) | ((repeat refine Fresh.push ?_ _); assumption) | (simp only [same_int, same_bool, same_ptr, same_slice, same_sliceP, same_nil, same_agg2, same_string]; done) | (simp [oneCell, AW.next_push]; done) | fail) only [go_sem, Nat.reduceEqDiff, reduceIte, Nat.reduceAdd, Int.toNat_natCast, Nat.add_zero, Owes_true, Try.results52, Nat.zero_add, s3]
  apply callV_of (e := rfl)
  · exact within_ok _ _ _ _
  rintro _ _ ⟨rfl, rfl⟩
  cases h3 : inR 0 s.m 100000 with
  | false =>
    simp -dsimp -implicitDefEqProofs (maxSteps := 2000000) (disch := first | assumption | omega | (simp only [AW.next_push, AW.next_put]; omega) | ((repeat refine Fresh.push ?_ _); assumption) | (simp only [same_int, same_bool, same_ptr, same_slice, same_sliceP, same_nil, same_agg2, same_string]; done) | (simp [oneCell, AW.next_push]; done) | fail) only [go_sem, Nat.reduceEqDiff, reduceIte, Nat.reduceAdd, Int.toNat_natCast, Nat.add_zero, Owes_true, Try.results52]
    exact ⟨by rw [saleB, h0, h1, h2, h3]; rfl, g2⟩
  | true =>
  simp -dsimp -implicitDefEqProofs (maxSteps := 2000000) (disch := first | assumption | omega | (simp only [AW.next_push, AW.next_put]; omega) | ((repeat refine Fresh.push ?_ _); assumption) | (simp only [same_int, same_bool, same_ptr, same_slice, same_sliceP, same_nil, same_agg2, same_string]; done) | (simp [oneCell, AW.next_push]; done) | fail) only [go_sem, Nat.reduceEqDiff, reduceIte, Nat.reduceAdd, Int.toNat_natCast, Nat.add_zero, Owes_true, Try.results52, Nat.zero_add, s4]
  apply callV_of (e := rfl)
  · exact within_ok _ _ _ _
  rintro _ _ ⟨rfl, rfl⟩
  simp -dsimp -implicitDefEqProofs (maxSteps := 2000000) (disch := first | assumption | omega | (simp only [AW.next_push, AW.next_put]; omega) | ((repeat refine Fresh.push ?_ _); assumption) | (simp only [same_int, same_bool, same_ptr, same_slice, same_sliceP, same_nil, same_agg2, same_string]; done) | (simp [oneCell, AW.next_push]; done) | fail) only [go_sem, Nat.reduceEqDiff, reduceIte, Nat.reduceAdd, Int.toNat_natCast, Nat.add_zero, Owes_true, Try.results52]
  exact ⟨by rw [saleB, h0, h1, h2, h3]; simp, g2⟩
/-- A craft, faded. -/
def fadeTo (c sh : Int) : Nat → Int
  | 0 => c
  | i + 1 => fadeTo c sh i * sh / 64
theorem fadeTo_in {c sh : Int} (h : 0 ≤ c ∧ c ≤ 1073741824) (k : 0 ≤ sh ∧ sh ≤ 64) : ∀ i, 0 ≤ fadeTo c sh i ∧ fadeTo c sh i ≤ 1073741824
  | 0 => h
  | i + 1 => by
    have := fadeTo_in h k i
    rw [fadeTo]
    have m1 : fadeTo c sh i * sh ≤ 1073741824 * 64 := Int.mul_le_mul this.2 k.2 k.1 (by omega)
    have m2 : 0 ≤ fadeTo c sh i * sh := Int.mul_nonneg this.1 k.1
    omega
def craftN (sh day : Int) (s : SaleN) : Int := fadeTo (max 0 (s.p - s.w * s.m)) sh ((day - s.d) / 365).toNat
/-- A sale that is in range. -/
structure SaleIn (day : Int) (s : SaleN) : Prop where
  d : 0 ≤ s.d ∧ s.d ≤ day
  w : 0 ≤ s.w ∧ s.w ≤ 1000
  m : 0 ≤ s.m ∧ s.m ≤ 100000
  p : 0 ≤ s.p ∧ s.p ≤ 1073741824
theorem SaleIn.top {day : Int} {s : SaleN} (h : SaleIn day s) : 0 ≤ max 0 (s.p - s.w * s.m) ∧ max 0 (s.p - s.w * s.m) ≤ 1073741824 := by
  have m2 : 0 ≤ s.w * s.m := Int.mul_nonneg h.w.1 h.m.1
  have := h.p
  omega
theorem craftN_in {sh day : Int} {s : SaleN} (h : SaleIn day s) (k : 0 ≤ sh ∧ sh ≤ 64) : 0 ≤ craftN sh day s ∧ craftN sh day s ≤ 1073741824 := fadeTo_in h.top k _
set_option maxHeartbeats 1000000 in
theorem craft_ok (sh day : Int) (s : SaleN) (w : AW) (f : Fresh w) (hsh : 0 ≤ sh ∧ sh ≤ 64) (hd : day ≤ 36500) (h : SaleIn day s) : CallT Try.prog Try.T1 (.fn (.func 66) #[]) #[.agg #[.int .i64 sh, .int .i64 day], .agg #[.int .i64 s.k, .int .i64 s.d, .int .i64 s.w, .int .i64 s.m, .int .i64 s.p]] w (Ret (.int .i64 (craftN sh day s)) (Grown w)) := by
  have g := (Grown.refl f).push (.cells [.int .i64 sh, .int .i64 day] 123 w.next 0 0)
  have hO := (Own.new f 123 [.int .i64 sh, .int .i64 day]).push (.cells (scel s) 66 (w.next + 1) 0 0)
  have hS := Own.new g.2 66 (scel s)
  have g1 := g.push (.cells (scel s) 66 (w.next + 1) 0 0)
  rw [AW.next_push] at hS
  unfold scel at hS hO g1
  have c0 := hO.cell (o := 0) rfl rfl
  have c1 := hO.cell (o := 1) rfl rfl
  have s0 := (hS).cell (o := 0) rfl rfl
  have s1 := (hS).cell (o := 1) rfl rfl
  have s2 := (hS).cell (o := 2) rfl rfl
  have s3 := (hS).cell (o := 3) rfl rfl
  have s4 := (hS).cell (o := 4) rfl rfl
  have hsd := h.d; have hsw := h.w; have hsm := h.m; have hsp := h.p
  have htop := h.top
  have m1 : s.w * s.m ≤ 1000 * 100000 := Int.mul_le_mul hsw.2 hsm.2 hsm.1 (by omega)
  have m2 : 0 ≤ s.w * s.m := Int.mul_nonneg hsw.1 hsm.1
  have hq : (day - s.d).tdiv 365 = (day - s.d) / 365 := Int.tdiv_eq_ediv_of_nonneg (by omega)
  have hn365 : ¬ (365 : Int) = 0 := by decide
  have hn64 : ¬ (64 : Int) = 0 := by decide
  have hqb : 0 ≤ (day - s.d) / 365 ∧ (day - s.d) / 365 ≤ 36500 := by omega
  refine callT_code rfl Try.func66 rfl Try.s66_eq rfl ?_
  unfold Try.s66
  simp -dsimp -implicitDefEqProofs (maxSteps := 2000000) (disch := first | assumption | omega | (simp only [AW.next_push, AW.next_put]; omega) | ((repeat refine Fresh.push ?_ _); assumption) | (simp only [same_int, same_bool, same_ptr, same_slice, same_sliceP, same_nil, same_agg2, same_string]; done) | (simp [oneCell, AW.next_push]; done) | fail) only [go_sem, Nat.reduceEqDiff, reduceIte, Nat.reduceAdd, Int.toNat_natCast, Nat.add_zero, Owes_true, Try.results66, Nat.zero_add, c1, s1, s2, s3, s4, hq, hn365]
  generalize ((w.push (.cells [.int .i64 sh, .int .i64 day] 123 w.next 0 0)).push (.cells [.int .i64 s.k, .int .i64 s.d, .int .i64 s.w, .int .i64 s.m, .int .i64 s.p] 66 (w.next + 1) 0 0)) = W at *
  refine loopR (fun k t ds w2 => ∃ i : Nat, i ≤ ((day - s.d) / 365).toNat ∧ k = ((day - s.d) / 365).toNat - i ∧ ds = [] ∧ ev t (.tmp 2) = .pointer (some ⟨w.next, 0, none⟩) ∧ ev t (.tmp 5) = .int .i64 (fadeTo (max 0 (s.p - s.w * s.m)) sh i) ∧ ev t (.tmp 20) = .int .i64 ((day - s.d) / 365) ∧ ev t (.tmp 21) = .int .i64 (i : Int) ∧ W = w2) (((day - s.d) / 365).toNat) ?_ ?_
  · refine ⟨0, by omega, by omega, rfl, ?_, ?_, ?_, ?_, rfl⟩ <;> simp -dsimp -implicitDefEqProofs (maxSteps := 2000000) (disch := first | assumption | omega | (simp only [AW.next_push, AW.next_put]; omega) | ((repeat refine Fresh.push ?_ _); assumption) | (simp only [same_int, same_bool, same_ptr, same_slice, same_sliceP, same_nil, same_agg2, same_string]; done) | (simp [oneCell, AW.next_push]; done) | fail) only [go_sem, Nat.reduceEqDiff, reduceIte, Nat.reduceAdd, Int.toNat_natCast, Nat.add_zero, Owes_true, fadeTo] <;> rfl
  rintro k t ds w2 ⟨i, hii, rfl, rfl, e2, e5, e20, e21, hw⟩
  subst hw
  by_cases hlt : (i : Int) < (day - s.d) / 365
  case neg =>
    obtain rfl : i = ((day - s.d) / 365).toNat := by omega
    simp -dsimp -implicitDefEqProofs (maxSteps := 2000000) (disch := first | assumption | omega | (simp only [AW.next_push, AW.next_put]; omega) | ((repeat refine Fresh.push ?_ _); assumption) | (simp only [same_int, same_bool, same_ptr, same_slice, same_sliceP, same_nil, same_agg2, same_string]; done) | (simp [oneCell, AW.next_push]; done) | fail) only [go_sem, Nat.reduceEqDiff, reduceIte, Nat.reduceAdd, Int.toNat_natCast, Nat.add_zero, Owes_true, Try.results66, e2, e5, e20, e21, hlt]
    exact ⟨rfl, g1⟩
  have hin := fadeTo_in htop hsh i
  have hnext : fadeTo (max 0 (s.p - s.w * s.m)) sh (i + 1) = fadeTo (max 0 (s.p - s.w * s.m)) sh i * sh / 64 := rfl
  generalize fadeTo (max 0 (s.p - s.w * s.m)) sh i = c at *
  have k1 : c * sh ≤ 1073741824 * 64 := Int.mul_le_mul hin.2 hsh.2 hsh.1 (by omega)
  have k2 : 0 ≤ c * sh := Int.mul_nonneg hin.1 hsh.1
  have hq2 : (c * sh).tdiv 64 = c * sh / 64 := Int.tdiv_eq_ediv_of_nonneg k2
  simp -dsimp -implicitDefEqProofs (maxSteps := 2000000) (disch := first | assumption | omega | (simp only [AW.next_push, AW.next_put]; omega) | ((repeat refine Fresh.push ?_ _); assumption) | (simp only [same_int, same_bool, same_ptr, same_slice, same_sliceP, same_nil, same_agg2, same_string]; done) | (simp [oneCell, AW.next_push]; done) | fail) only [go_sem, Nat.reduceEqDiff, reduceIte, Nat.reduceAdd, Int.toNat_natCast, Nat.add_zero, Owes_true, Try.results66, e2, e5, e20, e21, hlt, Nat.zero_add, c0, hq2, hn64]
  refine ⟨_, by omega, i + 1, by omega, rfl, rfl, by (simp -dsimp -implicitDefEqProofs (maxSteps := 2000000) (disch := first | assumption | omega | (simp only [AW.next_push, AW.next_put]; omega) | ((repeat refine Fresh.push ?_ _); assumption) | (simp only [same_int, same_bool, same_ptr, same_slice, same_sliceP, same_nil, same_agg2, same_string]; done) | (simp [oneCell, AW.next_push]; done) | fail) only [go_sem, Nat.reduceEqDiff, reduceIte, Nat.reduceAdd, Int.toNat_natCast, Nat.add_zero, Owes_true, e2, hnext]; try rfl), by (simp -dsimp -implicitDefEqProofs (maxSteps := 2000000) (disch := first | assumption | omega | (simp only [AW.next_push, AW.next_put]; omega) | ((repeat refine Fresh.push ?_ _); assumption) | (simp only [same_int, same_bool, same_ptr, same_slice, same_sliceP, same_nil, same_agg2, same_string]; done) | (simp [oneCell, AW.next_push]; done) | fail) only [go_sem, Nat.reduceEqDiff, reduceIte, Nat.reduceAdd, Int.toNat_natCast, Nat.add_zero, Owes_true, e5, hnext]; try rfl), by (simp -dsimp -implicitDefEqProofs (maxSteps := 2000000) (disch := first | assumption | omega | (simp only [AW.next_push, AW.next_put]; omega) | ((repeat refine Fresh.push ?_ _); assumption) | (simp only [same_int, same_bool, same_ptr, same_slice, same_sliceP, same_nil, same_agg2, same_string]; done) | (simp [oneCell, AW.next_push]; done) | fail) only [go_sem, Nat.reduceEqDiff, reduceIte, Nat.reduceAdd, Int.toNat_natCast, Nat.add_zero, Owes_true, e20, hnext]; try rfl), by (simp -dsimp -implicitDefEqProofs (maxSteps := 2000000) (disch := first | assumption | omega | (simp only [AW.next_push, AW.next_put]; omega) | ((repeat refine Fresh.push ?_ _); assumption) | (simp only [same_int, same_bool, same_ptr, same_slice, same_sliceP, same_nil, same_agg2, same_string]; done) | (simp [oneCell, AW.next_push]; done) | fail) only [go_sem, Nat.reduceEqDiff, reduceIte, Nat.reduceAdd, Int.toNat_natCast, Nat.add_zero, Owes_true, e21, hnext]; try rfl), rfl⟩
end Go.Proofs

/- Markets: the crafts of a kind, by a loop over a function, sorted. -/
namespace Go.Proofs
open Go Go.RowKit Go.Sim
set_option maxRecDepth 100000
theorem Mut_put {b : Nat} {w : AW} (f : Fresh w) (hb : b < w.next) (k : Blk) : Mut b w (w.put b k) :=
  ⟨fun i _ hn => by rw [AW.blk_put _ _ _ _ (Trie.in_ _) (Trie.in_ _), if_neg hn], fun i _ => AW.family_put _ _ _ _, by rw [AW.next_put]; omega, f.put hb k⟩
theorem Mut_blk {b j : Nat} {w w' : AW} {x : Blk} (h : Mut b w w') (k : w.blk j = some x) (hj : j < w.next) (hn : j ≠ b) : w'.blk j = some x := by rw [h.blk j hj hn]; exact k
/-- Where the loop's blocks lie. -/
structure CP where
  x : Nat
  y : Nat
  fn : Nat
  l : Nat
  d : Nat
  lp : Nat
def fnV (sh day : Int) : Value := .func (.func 66) #[.agg #[.int .i64 sh, .int .i64 day]] #[]
structure CI (W0 : AW) (c : CP) (sh day kd : Int) (mv : List Value) (lp : ALoop) (L : List Int) (w : AW) : Prop where
  ox : Own w c.x 25 mv
  oy : Own w c.y 3 [.int .i64 kd]
  of : Own w c.fn 121 [fnV sh day]
  ol : ∃ sv, Own w c.l 23 [sv] ∧ AOwn (c.lp + 1) w 3 1 sv L.length (L.flatMap icells)
  loop : w.blk c.lp = some (.loop lp)
  mark : w.blk c.d = some (.deferred (some []))
  keep : Keep W0.next W0 w
  lt : c.lp < w.next
  fresh : Fresh w
def CP.ok (c : CP) (n : Nat) : Prop := n ≤ c.fn ∧ c.fn < c.l ∧ c.l < c.d ∧ c.d < c.lp ∧ n ≤ c.x ∧ c.x < c.d ∧ n ≤ c.y ∧ c.y < c.d ∧ c.x ≠ c.l ∧ c.y ≠ c.l
theorem CI.relp {W0 : AW} {c : CP} {sh day kd : Int} {mv : List Value} {lp : ALoop} {L : List Int} {w : AW} (h : CI W0 c sh day kd mv lp L w) (hc : c.ok W0.next) (lp2 : ALoop) : CI W0 c sh day kd mv lp2 L (w.put c.lp (.loop lp2)) := by
  obtain ⟨h1, h2, h3, h4, h5, h6, h7, h8, h9, h10⟩ := hc
  obtain ⟨sv, a1, a2⟩ := h.ol
  have m := Mut_put h.fresh h.lt (.loop lp2)
  exact ⟨m.own h.ox (by omega), m.own h.oy (by omega), m.own h.of (by omega), ⟨sv, m.own a1 (by omega), m.aown (by omega) a2⟩, by rw [AW.blk_put _ _ _ _ (Trie.in_ _) (Trie.in_ _), if_pos rfl], Mut_blk m h.mark (by have := h.lt; omega) (by omega), h.keep.put (by omega) _, by rw [AW.next_put]; exact h.lt, m.fresh⟩
theorem CI.grown {W0 : AW} {c : CP} {sh day kd : Int} {mv : List Value} {lp : ALoop} {L : List Int} {w w' : AW} (h : CI W0 c sh day kd mv lp L w) (hc : c.ok W0.next) (g : Grown w w') : CI W0 c sh day kd mv lp L w' := by
  obtain ⟨h1, h2, h3, h4, h5, h6, h7, h8, h9, h10⟩ := hc
  obtain ⟨sv, a1, a2⟩ := h.ol
  have hl := h.lt
  have hn := g.1.next
  have hkn := h.keep.next
  exact ⟨h.ox.keep g.1, h.oy.keep g.1, h.of.keep g.1, ⟨sv, a1.keep g.1, a2.keep g.1 (Nat.le_refl _)⟩, by rw [g.1.blk _ hl]; exact h.loop, by rw [g.1.blk _ (by omega)]; exact h.mark, h.keep.trans (g.1.mono hkn), by omega, g.2⟩
set_option maxHeartbeats 4000000 in
/-- A round: what is left of a sale's craft is appended. -/
theorem yield_ok (W0 : AW) (c : CP) (hc : c.ok W0.next) (sh day kd : Int) (mv : List Value) (hsh : 0 ≤ sh ∧ sh ≤ 64) (hday : day ≤ 36500) (t : Tmps) (e5 : ev t (.tmp 5) = .pointer (some ⟨c.fn, 0, none⟩)) (e6 : ev t (.tmp 6) = .pointer (some ⟨c.l, 0, none⟩)) (L : List Int) (hL : L.length ≤ 64) (s : SaleN) (hs : SaleIn day s) (w : AW)
    (h : CI W0 c sh day kd mv ⟨.ready, none, 47, t, #[20], codeA Try.f47, codeB Try.f47, c.d⟩ L w) :
    CallT Try.prog Try.T1 (.fn (.yield c.lp) #[]) #[.agg #[.int .i64 s.k, .int .i64 s.d, .int .i64 s.w, .int .i64 s.m, .int .i64 s.p]] w (fun v w' => v = .bool true ∧ CI W0 c sh day kd mv ⟨.ready, none, 47, t, #[20], codeA Try.f47, codeB Try.f47, c.d⟩ (L ++ [craftN sh day s]) w') := by
  have hc' := hc
  obtain ⟨h1, h2, h3, h4, h5, h6, h7, h8, h9, h10⟩ := hc'
  refine callT_yield (lp := ⟨.ready, none, 47, t, #[20], codeA Try.f47, codeB Try.f47, c.d⟩) h.loop rfl ?_
  show CodeT Try.prog Try.T1 { fn := 47, round := some c.lp } (codeA Try.f47) (putTmp t (some 20) _) [] w _
  refine codeR_codeT (x := .mk) _ ?_
  rw [Try.ra47_eq]
  unfold Try.ra47
  have f0 := h.fresh
  have g1 := (Grown.refl f0).push (.cells (scel s) 66 w.next 0 0)
  have hS := Own.new f0 66 (scel s)
  have hI1 := h.grown hc g1
  have hlt := h.lt
  unfold scel at g1 hS hI1
  simp -dsimp -implicitDefEqProofs (maxSteps := 2000000) (disch := first | assumption | omega | (simp only [AW.next_push, AW.next_put]; omega) | ((repeat refine Fresh.push ?_ _); assumption) | (simp only [same_int, same_bool, same_ptr, same_slice, same_sliceP, same_nil, same_agg2, same_string]; done) | (simp [oneCell, AW.next_push]; done) | fail) only [go_sem, Nat.reduceEqDiff, reduceIte, Nat.reduceAdd, Int.toNat_natCast, Nat.add_zero, Owes_true]
  refine ⟨trivial, _, hI1.loop, rfl, ?_⟩
  refine codeR_codeT (x := .mk) _ ?_
  rw [Try.rb47_eq]
  unfold Try.rb47
  have hI2 := hI1.relp hc ⟨.busy, none, 47, t, #[20], codeA Try.f47, codeB Try.f47, c.d⟩
  have m1 := Mut_put hI1.fresh hI1.lt (.loop ⟨.busy, none, 47, t, #[20], codeA Try.f47, codeB Try.f47, c.d⟩)
  have hS2 := m1.own hS (by omega)
  generalize (w.push (.cells [.int .i64 s.k, .int .i64 s.d, .int .i64 s.w, .int .i64 s.m, .int .i64 s.p] 66 w.next 0 0)).put c.lp (.loop ⟨.busy, none, 47, t, #[20], codeA Try.f47, codeB Try.f47, c.d⟩) = w2 at *
  obtain ⟨sv, o6, hA⟩ := hI2.ol
  obtain ⟨vp, vn, vc, rfl⟩ : ∃ x y z, sv = .slice x y z := by rcases hA with ⟨rfl, _⟩ | ⟨_, _, rfl, _⟩ <;> exact ⟨_, _, _, rfl⟩
  have q5 := hI2.of.cell (o := 0) rfl rfl
  have q6 := o6.cell (o := 0) rfl rfl
  have s0 := (hS2).cell (o := 0) rfl rfl
  have s1 := (hS2).cell (o := 1) rfl rfl
  have s2 := (hS2).cell (o := 2) rfl rfl
  have s3 := (hS2).cell (o := 3) rfl rfl
  have s4 := (hS2).cell (o := 4) rfl rfl
  unfold fnV at q5
  have hsame : same 12 (.func (.func 66) #[.agg #[.int .i64 sh, .int .i64 day]] #[]) (.func (.func 66) #[.agg #[.int .i64 sh, .int .i64 day]] #[]) = true := by simp [same, same.all, intEq_eq]
  have hsame5 : same 12 (.agg #[.int .i64 s.k, .int .i64 s.d, .int .i64 s.w, .int .i64 s.m, .int .i64 s.p]) (.agg #[.int .i64 s.k, .int .i64 s.d, .int .i64 s.w, .int .i64 s.m, .int .i64 s.p]) = true := by simp [same, same.all, intEq_eq]
  simp -dsimp -implicitDefEqProofs (maxSteps := 2000000) (disch := first | assumption | omega | (simp only [AW.next_push, AW.next_put]; omega) | ((repeat refine Fresh.push ?_ _); assumption) | (simp only [same_int, same_bool, same_ptr, same_slice, same_sliceP, same_nil, same_agg2, same_string]; done) | (simp [oneCell, AW.next_push]; done) | fail) only [go_sem, Nat.reduceEqDiff, reduceIte, Nat.reduceAdd, Int.toNat_natCast, Nat.add_zero, Owes_true, e5, e6, q5, q6, s0, s1, s2, s3, s4, hsame, hsame5, Nat.zero_add]
  apply callV_of (e := rfl)
  · exact craft_ok sh day s w2 hI2.fresh hsh hday hs
  rintro _ w3 ⟨rfl, g3⟩
  have hI3 := hI2.grown hc g3
  have hle := g3.1.wle hI2.fresh
  have f3 := g3.2
  have hA3 := hA.keep g3.1 (Nat.le_refl _)
  have o63 := o6.keep g3.1
  obtain ⟨s', w4, happ, hA4, hk4, f4, hn4, _⟩ := append_one (e' := 3) Try.ty23 Try.ty3 rfl (by decide) (by decide) hA3 g3.2 (by have := hI3.lt; omega) (icells_len (craftN sh day s)) (icells_one _) (by omega)
  simp only [icells] at happ
  obtain ⟨rp, rn, rc, rfl⟩ : ∃ x y z, s' = .slice x y z := by rcases hA4 with ⟨rfl, _⟩ | ⟨_, _, rfl, _⟩ <;> exact ⟨_, _, _, rfl⟩
  have o64 := o63.keepC hk4 (by omega)
  have st := storeV_own1 (o := 0) (v := .slice rp rn rc) o64 (by simp) rfl
  simp only [setL] at st
  have hlt3 := hI3.lt
  have hkn3 := hI3.keep.next
  have m5 : Mut c.l w4 (w4.put c.l (.cells [.slice rp rn rc] 23 c.l 0 0)) := (Mut.refl f4).put o64 _
  have hI5 : CI W0 c sh day kd mv ⟨.busy, none, 47, t, #[20], codeA Try.f47, codeB Try.f47, c.d⟩ (L ++ [craftN sh day s]) (w4.put c.l (.cells [.slice rp rn rc] 23 c.l 0 0)) := by
    refine ⟨m5.own (hI3.ox.keepC hk4 (by omega)) (by omega), m5.own (hI3.oy.keepC hk4 (by omega)) (by omega), m5.own (hI3.of.keepC hk4 (by omega)) (by omega), ⟨_, o64.put _, m5.aown (by omega) ?_⟩, Mut_blk m5 (by rw [hk4.blk _ (by omega)]; exact hI3.loop) (by omega) (by omega), Mut_blk m5 (by rw [hk4.blk _ (by omega)]; exact hI3.mark) (by omega) (by omega), (hI3.keep.trans (hk4.mono (by omega))).put (by omega) _, by rw [AW.next_put]; omega, m5.fresh⟩
    rw [List.length_append, List.flatMap_append]
    simpa using hA4
  simp -dsimp -implicitDefEqProofs (maxSteps := 2000000) (disch := first | assumption | omega | (simp only [AW.next_push, AW.next_put]; omega) | ((repeat refine Fresh.push ?_ _); assumption) | (simp only [same_int, same_bool, same_ptr, same_slice, same_sliceP, same_nil, same_agg2, same_string]; done) | (simp [oneCell, AW.next_push]; done) | fail) only [go_sem, Nat.reduceEqDiff, reduceIte, Nat.reduceAdd, Int.toNat_natCast, Nat.add_zero, Owes_true, e5, e6, hle, happ, st]
  exact ⟨by trivial, by trivial, _, hI5.loop, by trivial, hI5.relp hc _⟩
/-- The sales of a kind, and their crafts. -/
def craftsTo (sh day kd : Int) (S : List SaleN) : List Int := (S.filter fun s => decide (s.k = kd)).map (craftN sh day)
theorem craftsTo_snoc (sh day kd : Int) (S : List SaleN) (s : SaleN) : craftsTo sh day kd (S ++ [s]) = if s.k = kd then craftsTo sh day kd S ++ [craftN sh day s] else craftsTo sh day kd S := by
  by_cases q : s.k = kd <;> simp [craftsTo, q]
theorem craftsTo_len (sh day kd : Int) (S : List SaleN) : (craftsTo sh day kd S).length ≤ S.length := by
  rw [craftsTo, List.length_map]; exact List.length_filter_le _ _
set_option maxHeartbeats 4000000 in
/-- All sales of a kind are gone through. -/
theorem rounds_ok (W0 : AW) (c : CP) (hc : c.ok W0.next) (sh day kd : Int) (x : MarkN) (vs vf : Value) (S : List SaleN) (hvf : oneCell vf = true) (hS : ArrOf W0 5 scel vs S) (hlen : S.length ≤ 64) (hin : ∀ s ∈ S, SaleIn day s) (hsh : 0 ≤ sh ∧ sh ≤ 64) (hday : day ≤ 36500) (tt : Tmps) (e5 : ev tt (.tmp 5) = .pointer (some ⟨c.fn, 0, none⟩)) (e6 : ev tt (.tmp 6) = .pointer (some ⟨c.l, 0, none⟩)) (w : AW)
    (h : CI W0 c sh day kd [vs, vf, .int .i64 x.m, .int .i64 x.d, .int .i64 x.f] ⟨.ready, none, 47, tt, #[20], codeA Try.f47, codeB Try.f47, c.d⟩ [] w) :
    CallT Try.prog Try.T1 (.fn (.func 77) #[.pointer (some ⟨c.x, 0, none⟩), .pointer (some ⟨c.y, 0, none⟩)]) #[.func (.yield c.lp) #[] #[]] w (fun v w' => CI W0 c sh day kd [vs, vf, .int .i64 x.m, .int .i64 x.d, .int .i64 x.f] ⟨.ready, none, 47, tt, #[20], codeA Try.f47, codeB Try.f47, c.d⟩ (craftsTo sh day kd S) w') := by
  obtain ⟨p, cap, rfl, hcap, hmax, hat⟩ := id hS.open
  have hvs : oneCell (.slice p S.length cap) = true := rfl
  have c0 := h.ox.cell (o := 0) rfl hvs
  refine callT_code rfl Try.func77 rfl Try.s77_eq rfl ?_
  unfold Try.s77
  simp -dsimp -implicitDefEqProofs (maxSteps := 2000000) (disch := first | assumption | omega | (simp only [AW.next_push, AW.next_put]; omega) | ((repeat refine Fresh.push ?_ _); assumption) | (simp only [same_int, same_bool, same_ptr, same_slice, same_sliceP, same_nil, same_agg2, same_string]; done) | (simp [oneCell, AW.next_push]; done) | fail) only [go_sem, Nat.reduceEqDiff, reduceIte, Nat.reduceAdd, Int.toNat_natCast, Nat.add_zero, Owes_true, Try.results77, Nat.zero_add, c0]
  refine loopR (fun k t ds w2 => ∃ i : Nat, i ≤ S.length ∧ k = S.length - i ∧ ds = [] ∧ ev t (.tmp 0) = .func (.yield c.lp) #[] #[] ∧ ev t (.tmp 1) = .pointer (some ⟨c.x, 0, none⟩) ∧ ev t (.tmp 2) = .pointer (some ⟨c.y, 0, none⟩) ∧ ev t (.tmp 7) = .slice p S.length cap ∧ ev t (.tmp 8) = .int .i64 (S.length : Int) ∧ ev t (.tmp 9) = .int .i64 (i : Int) ∧ CI W0 c sh day kd [.slice p S.length cap, vf, .int .i64 x.m, .int .i64 x.d, .int .i64 x.f] ⟨.ready, none, 47, tt, #[20], codeA Try.f47, codeB Try.f47, c.d⟩ (craftsTo sh day kd (S.take i)) w2) (S.length) ?_ ?_
  · refine ⟨0, by omega, by omega, rfl, ?_, ?_, ?_, ?_, ?_, ?_, h⟩ <;> simp -dsimp -implicitDefEqProofs (maxSteps := 2000000) (disch := first | assumption | omega | (simp only [AW.next_push, AW.next_put]; omega) | ((repeat refine Fresh.push ?_ _); assumption) | (simp only [same_int, same_bool, same_ptr, same_slice, same_sliceP, same_nil, same_agg2, same_string]; done) | (simp [oneCell, AW.next_push]; done) | fail) only [go_sem, Nat.reduceEqDiff, reduceIte, Nat.reduceAdd, Int.toNat_natCast, Nat.add_zero, Owes_true] <;> rfl
  rintro k t ds w2 ⟨i, hii, rfl, rfl, e0, e1, e2, e7, e8, e9, hI⟩
  by_cases hlt : (i : Int) < (S.length : Int)
  case neg =>
    have h2 : S.take i = S := List.take_of_length_le (by omega)
    rw [h2] at hI
    simp -dsimp -implicitDefEqProofs (maxSteps := 2000000) (disch := first | assumption | omega | (simp only [AW.next_push, AW.next_put]; omega) | ((repeat refine Fresh.push ?_ _); assumption) | (simp only [same_int, same_bool, same_ptr, same_slice, same_sliceP, same_nil, same_agg2, same_string]; done) | (simp [oneCell, AW.next_push]; done) | fail) only [go_sem, Nat.reduceEqDiff, reduceIte, Nat.reduceAdd, Int.toNat_natCast, Nat.add_zero, Owes_true, Try.results77, e0, e1, e2, e7, e8, e9, hlt]
    exact hI
  have hlt' : i < S.length := by omega
  obtain ⟨b1, o1, rfl, hb1, hcell⟩ := hat i hlt'
  have a0 := hcell _ hI.keep 0 _ rfl
  have a1 := hcell _ hI.keep 1 _ rfl
  have a2 := hcell _ hI.keep 2 _ rfl
  have a3 := hcell _ hI.keep 3 _ rfl
  have a4 := hcell _ hI.keep 4 _ rfl
  rw [Nat.add_zero] at a0
  have hsin := hin S[i] (List.getElem_mem hlt')
  have htake : S.take (i + 1) = S.take i ++ [S[i]] := List.take_succ_eq_append_getElem hlt'
  have hsn := craftsTo_snoc sh day kd (S.take i) S[i]
  rw [← htake] at hsn
  have hcl := craftsTo_len sh day kd (S.take i)
  have htl : (S.take i).length ≤ i := List.length_take_le _ _
  generalize hs : S[i] = s at *
  obtain ⟨sk, sd, sw, sm, sp⟩ := s
  simp only at hsn a0 a1 a2 a3 a4
  have g3 := (Grown.refl hI.fresh).push (.cells [.int .i64 sk, .int .i64 sd, .int .i64 sw, .int .i64 sm, .int .i64 sp] 66 w2.next 0 0)
  have hN := Own.new hI.fresh 66 [.int .i64 sk, .int .i64 sd, .int .i64 sw, .int .i64 sm, .int .i64 sp]
  have hI3 := hI.grown hc g3
  have f2 := hI.fresh
  have s0 := (hN).cell (o := 0) rfl rfl
  have s1 := (hN).cell (o := 1) rfl rfl
  have s2 := (hN).cell (o := 2) rfl rfl
  have s3 := (hN).cell (o := 3) rfl rfl
  have s4 := (hN).cell (o := 4) rfl rfl
  have y0 := hI3.oy.cell (o := 0) rfl rfl
  by_cases hk : sk = kd
  · rw [if_pos hk] at hsn
    have hkd : decide (sk = kd) = true := decide_eq_true hk
    simp -dsimp -implicitDefEqProofs (maxSteps := 2000000) (disch := first | assumption | omega | (simp only [AW.next_push, AW.next_put]; omega) | ((repeat refine Fresh.push ?_ _); assumption) | (simp only [same_int, same_bool, same_ptr, same_slice, same_sliceP, same_nil, same_agg2, same_string]; done) | (simp [oneCell, AW.next_push]; done) | fail) only [go_sem, Nat.reduceEqDiff, reduceIte, Nat.reduceAdd, Int.toNat_natCast, Nat.add_zero, Owes_true, Try.results77, e0, e1, e2, e7, e8, e9, hlt, indexV_eq, a0, a1, a2, a3, a4, Nat.zero_add, s0, s1, s2, s3, s4, y0, hkd]
    apply callV_of (e := rfl)
    · exact yield_ok W0 c hc sh day kd _ hsh hday tt e5 e6 _ (by omega) ⟨sk, sd, sw, sm, sp⟩ hsin _ hI3
    rintro _ w4 ⟨rfl, hI4⟩
    simp -dsimp -implicitDefEqProofs (maxSteps := 2000000) (disch := first | assumption | omega | (simp only [AW.next_push, AW.next_put]; omega) | ((repeat refine Fresh.push ?_ _); assumption) | (simp only [same_int, same_bool, same_ptr, same_slice, same_sliceP, same_nil, same_agg2, same_string]; done) | (simp [oneCell, AW.next_push]; done) | fail) only [go_sem, Nat.reduceEqDiff, reduceIte, Nat.reduceAdd, Int.toNat_natCast, Nat.add_zero, Owes_true, Try.results77, e0, e1, e2, e7, e8, e9]
    refine ⟨_, by omega, i + 1, by omega, rfl, rfl, by (simp -dsimp -implicitDefEqProofs (maxSteps := 2000000) (disch := first | assumption | omega | (simp only [AW.next_push, AW.next_put]; omega) | ((repeat refine Fresh.push ?_ _); assumption) | (simp only [same_int, same_bool, same_ptr, same_slice, same_sliceP, same_nil, same_agg2, same_string]; done) | (simp [oneCell, AW.next_push]; done) | fail) only [go_sem, Nat.reduceEqDiff, reduceIte, Nat.reduceAdd, Int.toNat_natCast, Nat.add_zero, Owes_true, e0]; try rfl), by (simp -dsimp -implicitDefEqProofs (maxSteps := 2000000) (disch := first | assumption | omega | (simp only [AW.next_push, AW.next_put]; omega) | ((repeat refine Fresh.push ?_ _); assumption) | (simp only [same_int, same_bool, same_ptr, same_slice, same_sliceP, same_nil, same_agg2, same_string]; done) | (simp [oneCell, AW.next_push]; done) | fail) only [go_sem, Nat.reduceEqDiff, reduceIte, Nat.reduceAdd, Int.toNat_natCast, Nat.add_zero, Owes_true, e1]; try rfl), by (simp -dsimp -implicitDefEqProofs (maxSteps := 2000000) (disch := first | assumption | omega | (simp only [AW.next_push, AW.next_put]; omega) | ((repeat refine Fresh.push ?_ _); assumption) | (simp only [same_int, same_bool, same_ptr, same_slice, same_sliceP, same_nil, same_agg2, same_string]; done) | (simp [oneCell, AW.next_push]; done) | fail) only [go_sem, Nat.reduceEqDiff, reduceIte, Nat.reduceAdd, Int.toNat_natCast, Nat.add_zero, Owes_true, e2]; try rfl), by (simp -dsimp -implicitDefEqProofs (maxSteps := 2000000) (disch := first | assumption | omega | (simp only [AW.next_push, AW.next_put]; omega) | ((repeat refine Fresh.push ?_ _); assumption) | (simp only [same_int, same_bool, same_ptr, same_slice, same_sliceP, same_nil, same_agg2, same_string]; done) | (simp [oneCell, AW.next_push]; done) | fail) only [go_sem, Nat.reduceEqDiff, reduceIte, Nat.reduceAdd, Int.toNat_natCast, Nat.add_zero, Owes_true, e7]; try rfl), by (simp -dsimp -implicitDefEqProofs (maxSteps := 2000000) (disch := first | assumption | omega | (simp only [AW.next_push, AW.next_put]; omega) | ((repeat refine Fresh.push ?_ _); assumption) | (simp only [same_int, same_bool, same_ptr, same_slice, same_sliceP, same_nil, same_agg2, same_string]; done) | (simp [oneCell, AW.next_push]; done) | fail) only [go_sem, Nat.reduceEqDiff, reduceIte, Nat.reduceAdd, Int.toNat_natCast, Nat.add_zero, Owes_true, e8]; try rfl), by (simp -dsimp -implicitDefEqProofs (maxSteps := 2000000) (disch := first | assumption | omega | (simp only [AW.next_push, AW.next_put]; omega) | ((repeat refine Fresh.push ?_ _); assumption) | (simp only [same_int, same_bool, same_ptr, same_slice, same_sliceP, same_nil, same_agg2, same_string]; done) | (simp [oneCell, AW.next_push]; done) | fail) only [go_sem, Nat.reduceEqDiff, reduceIte, Nat.reduceAdd, Int.toNat_natCast, Nat.add_zero, Owes_true, e9]; try rfl), (by rw [hsn]; exact hI4)⟩
  · rw [if_neg hk] at hsn
    simp -dsimp -implicitDefEqProofs (maxSteps := 2000000) (disch := first | assumption | omega | (simp only [AW.next_push, AW.next_put]; omega) | ((repeat refine Fresh.push ?_ _); assumption) | (simp only [same_int, same_bool, same_ptr, same_slice, same_sliceP, same_nil, same_agg2, same_string]; done) | (simp [oneCell, AW.next_push]; done) | fail) only [go_sem, Nat.reduceEqDiff, reduceIte, Nat.reduceAdd, Int.toNat_natCast, Nat.add_zero, Owes_true, Try.results77, e0, e1, e2, e7, e8, e9, hlt, indexV_eq, a0, a1, a2, a3, a4, Nat.zero_add, s0, s1, s2, s3, s4, y0, hk]
    refine ⟨_, by omega, i + 1, by omega, rfl, rfl, by (simp -dsimp -implicitDefEqProofs (maxSteps := 2000000) (disch := first | assumption | omega | (simp only [AW.next_push, AW.next_put]; omega) | ((repeat refine Fresh.push ?_ _); assumption) | (simp only [same_int, same_bool, same_ptr, same_slice, same_sliceP, same_nil, same_agg2, same_string]; done) | (simp [oneCell, AW.next_push]; done) | fail) only [go_sem, Nat.reduceEqDiff, reduceIte, Nat.reduceAdd, Int.toNat_natCast, Nat.add_zero, Owes_true, e0]; try rfl), by (simp -dsimp -implicitDefEqProofs (maxSteps := 2000000) (disch := first | assumption | omega | (simp only [AW.next_push, AW.next_put]; omega) | ((repeat refine Fresh.push ?_ _); assumption) | (simp only [same_int, same_bool, same_ptr, same_slice, same_sliceP, same_nil, same_agg2, same_string]; done) | (simp [oneCell, AW.next_push]; done) | fail) only [go_sem, Nat.reduceEqDiff, reduceIte, Nat.reduceAdd, Int.toNat_natCast, Nat.add_zero, Owes_true, e1]; try rfl), by (simp -dsimp -implicitDefEqProofs (maxSteps := 2000000) (disch := first | assumption | omega | (simp only [AW.next_push, AW.next_put]; omega) | ((repeat refine Fresh.push ?_ _); assumption) | (simp only [same_int, same_bool, same_ptr, same_slice, same_sliceP, same_nil, same_agg2, same_string]; done) | (simp [oneCell, AW.next_push]; done) | fail) only [go_sem, Nat.reduceEqDiff, reduceIte, Nat.reduceAdd, Int.toNat_natCast, Nat.add_zero, Owes_true, e2]; try rfl), by (simp -dsimp -implicitDefEqProofs (maxSteps := 2000000) (disch := first | assumption | omega | (simp only [AW.next_push, AW.next_put]; omega) | ((repeat refine Fresh.push ?_ _); assumption) | (simp only [same_int, same_bool, same_ptr, same_slice, same_sliceP, same_nil, same_agg2, same_string]; done) | (simp [oneCell, AW.next_push]; done) | fail) only [go_sem, Nat.reduceEqDiff, reduceIte, Nat.reduceAdd, Int.toNat_natCast, Nat.add_zero, Owes_true, e7]; try rfl), by (simp -dsimp -implicitDefEqProofs (maxSteps := 2000000) (disch := first | assumption | omega | (simp only [AW.next_push, AW.next_put]; omega) | ((repeat refine Fresh.push ?_ _); assumption) | (simp only [same_int, same_bool, same_ptr, same_slice, same_sliceP, same_nil, same_agg2, same_string]; done) | (simp [oneCell, AW.next_push]; done) | fail) only [go_sem, Nat.reduceEqDiff, reduceIte, Nat.reduceAdd, Int.toNat_natCast, Nat.add_zero, Owes_true, e8]; try rfl), by (simp -dsimp -implicitDefEqProofs (maxSteps := 2000000) (disch := first | assumption | omega | (simp only [AW.next_push, AW.next_put]; omega) | ((repeat refine Fresh.push ?_ _); assumption) | (simp only [same_int, same_bool, same_ptr, same_slice, same_sliceP, same_nil, same_agg2, same_string]; done) | (simp [oneCell, AW.next_push]; done) | fail) only [go_sem, Nat.reduceEqDiff, reduceIte, Nat.reduceAdd, Int.toNat_natCast, Nat.add_zero, Owes_true, e9]; try rfl), (by rw [hsn]; exact hI3)⟩
end Go.Proofs

/- Markets: Check, the crafts of a kind, values. -/
namespace Go.Proofs
open Go Go.RowKit Go.Sim
set_option maxRecDepth 100000
set_option maxHeartbeats 2000000 in
theorem CheckMarket_ok (x : MarkN) (S : List SaleN) (F : List Int) (vs vf : Value) (w : AW) (f : Fresh w) (hS : ArrOf w 5 scel vs S) (hs : ArrOf w 1 icells vf F) : CallT Try.prog Try.T1 (.fn (.func 17) #[]) #[.agg #[vs, vf, .int .i64 x.m, .int .i64 x.d, .int .i64 x.f]] w (Ret (.int .i64 (markE x S F)) (Grown w)) := by
  obtain ⟨p, cap, rfl, hcap, hmax, hat⟩ := id hS.open
  obtain ⟨q, cap2, rfl, _⟩ := id hs.open
  have hvs : oneCell (.slice p S.length cap) = true := rfl
  have hvf : oneCell (.slice q F.length cap2) = true := rfl
  have g := (Grown.refl f).push (.cells [.slice p S.length cap, .slice q F.length cap2, .int .i64 x.m, .int .i64 x.d, .int .i64 x.f] 25 w.next 0 0)
  have hO := Own.new f 25 [.slice p S.length cap, .slice q F.length cap2, .int .i64 x.m, .int .i64 x.d, .int .i64 x.f]
  have c0 := (hO).cell (o := 0) rfl hvs
  have c1 := (hO).cell (o := 1) rfl hvf
  have c2 := (hO).cell (o := 2) rfl rfl
  have c3 := (hO).cell (o := 3) rfl rfl
  have c4 := (hO).cell (o := 4) rfl rfl
  refine callT_code rfl Try.func17 rfl Try.s17_eq rfl ?_
  unfold Try.s17
  simp -dsimp -implicitDefEqProofs (maxSteps := 2000000) (disch := first | assumption | omega | (simp only [AW.next_push, AW.next_put]; omega) | ((repeat refine Fresh.push ?_ _); assumption) | (simp only [same_int, same_bool, same_ptr, same_slice, same_sliceP, same_nil, same_agg2, same_string]; done) | (simp [oneCell, AW.next_push]; done) | fail) only [go_sem, Nat.reduceEqDiff, reduceIte, Nat.reduceAdd, Int.toNat_natCast, Nat.add_zero, Owes_true, Try.results17, Nat.zero_add, c1]
  apply callV_of (e := rfl)
  · exact areFades_ok F _ _ (hs.grown g)
  rintro _ _ ⟨rfl, rfl⟩
  cases h1 : fadesB F with
  | false =>
    simp -dsimp -implicitDefEqProofs (maxSteps := 2000000) (disch := first | assumption | omega | (simp only [AW.next_push, AW.next_put]; omega) | ((repeat refine Fresh.push ?_ _); assumption) | (simp only [same_int, same_bool, same_ptr, same_slice, same_sliceP, same_nil, same_agg2, same_string]; done) | (simp [oneCell, AW.next_push]; done) | fail) only [go_sem, Nat.reduceEqDiff, reduceIte, Nat.reduceAdd, Int.toNat_natCast, Nat.add_zero, Owes_true, Try.results17]
    exact ⟨by rw [markE_bad (by rw [markB, h1]; rfl)], g⟩
  | true =>
  simp -dsimp -implicitDefEqProofs (maxSteps := 2000000) (disch := first | assumption | omega | (simp only [AW.next_push, AW.next_put]; omega) | ((repeat refine Fresh.push ?_ _); assumption) | (simp only [same_int, same_bool, same_ptr, same_slice, same_sliceP, same_nil, same_agg2, same_string]; done) | (simp [oneCell, AW.next_push]; done) | fail) only [go_sem, Nat.reduceEqDiff, reduceIte, Nat.reduceAdd, Int.toNat_natCast, Nat.add_zero, Owes_true, Try.results17, Nat.zero_add, c2]
  apply callV_of (e := rfl)
  · exact within_ok _ _ _ _
  rintro _ _ ⟨rfl, rfl⟩
  cases h2 : inR 0 x.m 100000 with
  | false =>
    simp -dsimp -implicitDefEqProofs (maxSteps := 2000000) (disch := first | assumption | omega | (simp only [AW.next_push, AW.next_put]; omega) | ((repeat refine Fresh.push ?_ _); assumption) | (simp only [same_int, same_bool, same_ptr, same_slice, same_sliceP, same_nil, same_agg2, same_string]; done) | (simp [oneCell, AW.next_push]; done) | fail) only [go_sem, Nat.reduceEqDiff, reduceIte, Nat.reduceAdd, Int.toNat_natCast, Nat.add_zero, Owes_true, Try.results17]
    exact ⟨by rw [markE_bad (by rw [markB, h1, h2]; rfl)], g⟩
  | true =>
  simp -dsimp -implicitDefEqProofs (maxSteps := 2000000) (disch := first | assumption | omega | (simp only [AW.next_push, AW.next_put]; omega) | ((repeat refine Fresh.push ?_ _); assumption) | (simp only [same_int, same_bool, same_ptr, same_slice, same_sliceP, same_nil, same_agg2, same_string]; done) | (simp [oneCell, AW.next_push]; done) | fail) only [go_sem, Nat.reduceEqDiff, reduceIte, Nat.reduceAdd, Int.toNat_natCast, Nat.add_zero, Owes_true, Try.results17, Nat.zero_add, c3]
  apply callV_of (e := rfl)
  · exact isDay_ok _ _
  rintro _ _ ⟨rfl, rfl⟩
  cases h3 : inR 0 x.d 36500 with
  | false =>
    simp -dsimp -implicitDefEqProofs (maxSteps := 2000000) (disch := first | assumption | omega | (simp only [AW.next_push, AW.next_put]; omega) | ((repeat refine Fresh.push ?_ _); assumption) | (simp only [same_int, same_bool, same_ptr, same_slice, same_sliceP, same_nil, same_agg2, same_string]; done) | (simp [oneCell, AW.next_push]; done) | fail) only [go_sem, Nat.reduceEqDiff, reduceIte, Nat.reduceAdd, Int.toNat_natCast, Nat.add_zero, Owes_true, Try.results17]
    exact ⟨by rw [markE_bad (by rw [markB, h1, h2, h3]; rfl)], g⟩
  | true =>
  simp -dsimp -implicitDefEqProofs (maxSteps := 2000000) (disch := first | assumption | omega | (simp only [AW.next_push, AW.next_put]; omega) | ((repeat refine Fresh.push ?_ _); assumption) | (simp only [same_int, same_bool, same_ptr, same_slice, same_sliceP, same_nil, same_agg2, same_string]; done) | (simp [oneCell, AW.next_push]; done) | fail) only [go_sem, Nat.reduceEqDiff, reduceIte, Nat.reduceAdd, Int.toNat_natCast, Nat.add_zero, Owes_true, Try.results17, Nat.zero_add, c4]
  apply callV_of (e := rfl)
  · exact within_ok _ _ _ _
  rintro _ _ ⟨rfl, rfl⟩
  cases h4 : inR 1 x.f 16 with
  | false =>
    simp -dsimp -implicitDefEqProofs (maxSteps := 2000000) (disch := first | assumption | omega | (simp only [AW.next_push, AW.next_put]; omega) | ((repeat refine Fresh.push ?_ _); assumption) | (simp only [same_int, same_bool, same_ptr, same_slice, same_sliceP, same_nil, same_agg2, same_string]; done) | (simp [oneCell, AW.next_push]; done) | fail) only [go_sem, Nat.reduceEqDiff, reduceIte, Nat.reduceAdd, Int.toNat_natCast, Nat.add_zero, Owes_true, Try.results17]
    exact ⟨by rw [markE_bad (by rw [markB, h1, h2, h3, h4]; rfl)], g⟩
  | true =>
  by_cases h64 : 64 < (S.length : Int)
  · simp -dsimp -implicitDefEqProofs (maxSteps := 2000000) (disch := first | assumption | omega | (simp only [AW.next_push, AW.next_put]; omega) | ((repeat refine Fresh.push ?_ _); assumption) | (simp only [same_int, same_bool, same_ptr, same_slice, same_sliceP, same_nil, same_agg2, same_string]; done) | (simp [oneCell, AW.next_push]; done) | fail) only [go_sem, Nat.reduceEqDiff, reduceIte, Nat.reduceAdd, Int.toNat_natCast, Nat.add_zero, Owes_true, Try.results17, Nat.zero_add, c0, h64]
    exact ⟨by rw [markE_bad (by rw [markB, decide_eq_false (show ¬ S.length ≤ 64 by omega), Bool.and_false]; rfl)], g⟩
  have hpre : (fadesB F && inR 0 x.m 100000 && inR 0 x.d 36500 && inR 1 x.f 16 && decide (S.length ≤ 64)) = true := by rw [h1, h2, h3, h4, decide_eq_true (by omega)]; rfl
  simp -dsimp -implicitDefEqProofs (maxSteps := 2000000) (disch := first | assumption | omega | (simp only [AW.next_push, AW.next_put]; omega) | ((repeat refine Fresh.push ?_ _); assumption) | (simp only [same_int, same_bool, same_ptr, same_slice, same_sliceP, same_nil, same_agg2, same_string]; done) | (simp [oneCell, AW.next_push]; done) | fail) only [go_sem, Nat.reduceEqDiff, reduceIte, Nat.reduceAdd, Int.toNat_natCast, Nat.add_zero, Owes_true, Try.results17, Nat.zero_add, c0, h64]
  refine loopR (fun k t ds w2 => ∃ i : Nat, i ≤ S.length ∧ k = S.length - i ∧ ds = [] ∧ ev t (.tmp 1) = .pointer (some ⟨w.next, 0, none⟩) ∧ ev t (.tmp 34) = .slice p S.length cap ∧ ev t (.tmp 35) = .int .i64 (S.length : Int) ∧ ev t (.tmp 36) = .int .i64 (i : Int) ∧ (S.take i).all (saleB F.length x.d) = true ∧ Own w2 w.next 25 [.slice p S.length cap, .slice q F.length cap2, .int .i64 x.m, .int .i64 x.d, .int .i64 x.f] ∧ Grown w w2) (S.length) ?_ ?_
  · refine ⟨0, by omega, by omega, rfl, ?_, ?_, ?_, ?_, rfl, hO, g⟩ <;> simp -dsimp -implicitDefEqProofs (maxSteps := 2000000) (disch := first | assumption | omega | (simp only [AW.next_push, AW.next_put]; omega) | ((repeat refine Fresh.push ?_ _); assumption) | (simp only [same_int, same_bool, same_ptr, same_slice, same_sliceP, same_nil, same_agg2, same_string]; done) | (simp [oneCell, AW.next_push]; done) | fail) only [go_sem, Nat.reduceEqDiff, reduceIte, Nat.reduceAdd, Int.toNat_natCast, Nat.add_zero, Owes_true] <;> rfl
  rintro k t ds w2 ⟨i, hii, rfl, rfl, e1, e34, e35, e36, hall, hO2, g2⟩
  by_cases hlt : (i : Int) < (S.length : Int)
  case neg =>
    have h2 : S.take i = S := List.take_of_length_le (by omega)
    rw [h2] at hall
    simp -dsimp -implicitDefEqProofs (maxSteps := 2000000) (disch := first | assumption | omega | (simp only [AW.next_push, AW.next_put]; omega) | ((repeat refine Fresh.push ?_ _); assumption) | (simp only [same_int, same_bool, same_ptr, same_slice, same_sliceP, same_nil, same_agg2, same_string]; done) | (simp [oneCell, AW.next_push]; done) | fail) only [go_sem, Nat.reduceEqDiff, reduceIte, Nat.reduceAdd, Int.toNat_natCast, Nat.add_zero, Owes_true, Try.results17, e1, e34, e35, e36, hlt]
    exact ⟨by rw [markE, markB, hpre, hall]; rfl, g2⟩
  have hlt' : i < S.length := by omega
  obtain ⟨b1, o1, rfl, hb1, hcell⟩ := hat i hlt'
  have a0 := hcell _ g2.1 0 _ rfl
  have a1 := hcell _ g2.1 1 _ rfl
  have a2 := hcell _ g2.1 2 _ rfl
  have a3 := hcell _ g2.1 3 _ rfl
  have a4 := hcell _ g2.1 4 _ rfl
  rw [Nat.add_zero] at a0
  have htake : S.take (i + 1) = S.take i ++ [S[i]] := List.take_succ_eq_append_getElem hlt'
  have hmem : S[i] ∈ S := List.getElem_mem hlt'
  generalize hsx : S[i] = s at *
  have f2 := g2.2
  have g3 := g2.push (.cells (scel s) 66 w2.next 0 0)
  have hN := Own.new f2 66 (scel s)
  have hO3 := hO2.push (.cells (scel s) 66 w2.next 0 0)
  unfold scel at g3 hN hO3
  have s0 := hN.cell (o := 0) rfl rfl
  have s1 := hN.cell (o := 1) rfl rfl
  have s2 := hN.cell (o := 2) rfl rfl
  have s3 := hN.cell (o := 3) rfl rfl
  have s4 := hN.cell (o := 4) rfl rfl
  have c0 := (hO3).cell (o := 0) rfl hvs
  have c1 := (hO3).cell (o := 1) rfl hvf
  have c2 := (hO3).cell (o := 2) rfl rfl
  have c3 := (hO3).cell (o := 3) rfl rfl
  have c4 := (hO3).cell (o := 4) rfl rfl
  simp -dsimp -implicitDefEqProofs (maxSteps := 2000000) (disch := first | assumption | omega | (simp only [AW.next_push, AW.next_put]; omega) | ((repeat refine Fresh.push ?_ _); assumption) | (simp only [same_int, same_bool, same_ptr, same_slice, same_sliceP, same_nil, same_agg2, same_string]; done) | (simp [oneCell, AW.next_push]; done) | fail) only [go_sem, Nat.reduceEqDiff, reduceIte, Nat.reduceAdd, Int.toNat_natCast, Nat.add_zero, Owes_true, Try.results17, e1, e34, e35, e36, hlt, indexV_eq, a0, a1, a2, a3, a4, Nat.zero_add, c0, c1, c2, c3, c4, s0, s1, s2, s3, s4]
  apply callV_of (e := rfl)
  · exact isSale_ok x F _ _ s _ g3.2 rfl (hs.grown g3)
  rintro _ w4 ⟨rfl, hg4⟩
  have g4 := g3.trans hg4
  cases hq : saleB F.length x.d s with
  | false =>
    simp -dsimp -implicitDefEqProofs (maxSteps := 2000000) (disch := first | assumption | omega | (simp only [AW.next_push, AW.next_put]; omega) | ((repeat refine Fresh.push ?_ _); assumption) | (simp only [same_int, same_bool, same_ptr, same_slice, same_sliceP, same_nil, same_agg2, same_string]; done) | (simp [oneCell, AW.next_push]; done) | fail) only [go_sem, Nat.reduceEqDiff, reduceIte, Nat.reduceAdd, Int.toNat_natCast, Nat.add_zero, Owes_true, Try.results17]
    have : S.all (saleB F.length x.d) = false := by rw [List.all_eq_false]; exact ⟨s, hmem, by rw [hq]; simp⟩
    exact ⟨by rw [markE_bad (by rw [markB, this, Bool.and_false])], g4⟩
  | true =>
    simp -dsimp -implicitDefEqProofs (maxSteps := 2000000) (disch := first | assumption | omega | (simp only [AW.next_push, AW.next_put]; omega) | ((repeat refine Fresh.push ?_ _); assumption) | (simp only [same_int, same_bool, same_ptr, same_slice, same_sliceP, same_nil, same_agg2, same_string]; done) | (simp [oneCell, AW.next_push]; done) | fail) only [go_sem, Nat.reduceEqDiff, reduceIte, Nat.reduceAdd, Int.toNat_natCast, Nat.add_zero, Owes_true, Try.results17, e1, e34, e35, e36]
    refine ⟨_, by omega, i + 1, by omega, rfl, rfl, by (simp -dsimp -implicitDefEqProofs (maxSteps := 2000000) (disch := first | assumption | omega | (simp only [AW.next_push, AW.next_put]; omega) | ((repeat refine Fresh.push ?_ _); assumption) | (simp only [same_int, same_bool, same_ptr, same_slice, same_sliceP, same_nil, same_agg2, same_string]; done) | (simp [oneCell, AW.next_push]; done) | fail) only [go_sem, Nat.reduceEqDiff, reduceIte, Nat.reduceAdd, Int.toNat_natCast, Nat.add_zero, Owes_true, e1]; try rfl), by (simp -dsimp -implicitDefEqProofs (maxSteps := 2000000) (disch := first | assumption | omega | (simp only [AW.next_push, AW.next_put]; omega) | ((repeat refine Fresh.push ?_ _); assumption) | (simp only [same_int, same_bool, same_ptr, same_slice, same_sliceP, same_nil, same_agg2, same_string]; done) | (simp [oneCell, AW.next_push]; done) | fail) only [go_sem, Nat.reduceEqDiff, reduceIte, Nat.reduceAdd, Int.toNat_natCast, Nat.add_zero, Owes_true, e34]; try rfl), by (simp -dsimp -implicitDefEqProofs (maxSteps := 2000000) (disch := first | assumption | omega | (simp only [AW.next_push, AW.next_put]; omega) | ((repeat refine Fresh.push ?_ _); assumption) | (simp only [same_int, same_bool, same_ptr, same_slice, same_sliceP, same_nil, same_agg2, same_string]; done) | (simp [oneCell, AW.next_push]; done) | fail) only [go_sem, Nat.reduceEqDiff, reduceIte, Nat.reduceAdd, Int.toNat_natCast, Nat.add_zero, Owes_true, e35]; try rfl), by (simp -dsimp -implicitDefEqProofs (maxSteps := 2000000) (disch := first | assumption | omega | (simp only [AW.next_push, AW.next_put]; omega) | ((repeat refine Fresh.push ?_ _); assumption) | (simp only [same_int, same_bool, same_ptr, same_slice, same_sliceP, same_nil, same_agg2, same_string]; done) | (simp [oneCell, AW.next_push]; done) | fail) only [go_sem, Nat.reduceEqDiff, reduceIte, Nat.reduceAdd, Int.toNat_natCast, Nat.add_zero, Owes_true, e36]; try rfl), (by rw [htake, List.all_append, hall]; simp [hq]), hO3.keep hg4.1, g4⟩
theorem sales_ok (x : MarkN) (vs vf : Value) (kd : Int) (w : AW) (f : Fresh w) (hvs : oneCell vs = true) (hvf : oneCell vf = true) : CallT Try.prog Try.T1 (.fn (.func 67) #[]) #[.agg #[vs, vf, .int .i64 x.m, .int .i64 x.d, .int .i64 x.f], .int .i64 kd] w (fun r w' => r = .func (.func 77) #[] #[.pointer (some ⟨w.next, 0, none⟩), .pointer (some ⟨w.next + 1, 0, none⟩)] ∧ w' = (w.push (.cells [vs, vf, .int .i64 x.m, .int .i64 x.d, .int .i64 x.f] 25 w.next 0 0)).push (.cells [.int .i64 kd] 3 (w.next + 1) 0 0)) := by
  refine callT_code rfl Try.func67 rfl Try.s67_eq rfl ?_
  unfold Try.s67
  simp -dsimp -implicitDefEqProofs (maxSteps := 2000000) (disch := first | assumption | omega | (simp only [AW.next_push, AW.next_put]; omega) | ((repeat refine Fresh.push ?_ _); assumption) | (simp only [same_int, same_bool, same_ptr, same_slice, same_sliceP, same_nil, same_agg2, same_string]; done) | (simp [oneCell, AW.next_push]; done) | fail) only [go_sem, Nat.reduceEqDiff, reduceIte, Nat.reduceAdd, Int.toNat_natCast, Nat.add_zero, Owes_true, Try.results67, Nat.zero_add]
  exact ⟨trivial, trivial⟩
theorem Try.mi23 (t : Tmps) (w : AW) (x : Operand) : fast (prg Try.prog) t w (.makeInterface 23 x) = some (.iface 23 (ev t x)) := by
  simp only [fast, Try.ty23]
attribute [go_sem] Try.mi23
def craftsL (x : MarkN) (S : List SaleN) (F : List Int) (kd : Int) : List Int := sortedL (craftsTo (F.getD kd.toNat 0) x.d kd S)
theorem craftsL_len (x : MarkN) (S : List SaleN) (F : List Int) (kd : Int) : (craftsL x S F kd).length ≤ S.length := by
  rw [craftsL, sortedL_len]; exact craftsTo_len _ _ _ _
structure MarkIn (x : MarkN) (S : List SaleN) (F : List Int) : Prop where
  m : 0 ≤ x.m ∧ x.m ≤ 100000
  d : 0 ≤ x.d ∧ x.d ≤ 36500
  f : 1 ≤ x.f ∧ x.f ≤ 16
  len : S.length ≤ 64
  fl : 1 ≤ F.length ∧ F.length ≤ 8
  fade : ∀ y ∈ F, 0 ≤ y ∧ y ≤ 64
  sale : ∀ s ∈ S, SaleIn x.d s
theorem markB_in {x : MarkN} {S : List SaleN} {F : List Int} (h : markB x S F = true) : MarkIn x S F := by
  simp only [markB, fadesB, Bool.and_eq_true, inR_iff, decide_eq_true_eq, List.all_eq_true] at h
  obtain ⟨⟨⟨⟨⟨⟨⟨h1, h2⟩, h3⟩, h4⟩, h5⟩, h6⟩, h7⟩, h8⟩ := h
  refine ⟨h4, h5, h6, h7, ⟨h1, h2⟩, fun y hy => h3 y hy, fun s hs => ?_⟩
  have := h8 s hs
  simp only [saleB, Bool.and_eq_true, inR_iff] at this
  obtain ⟨⟨⟨⟨a, b⟩, c⟩, d⟩, e⟩ := this
  exact ⟨b, c, d, e⟩
theorem range_crafts (W0 w3 : AW) (X Y fn l : Nat) (hc : CP.ok ⟨X, Y, fn, l, w3.next, w3.next + 1⟩ W0.next) (sh day kd : Int) (x : MarkN) (vs vf : Value) (S : List SaleN) (hvf : oneCell vf = true) (hS : ArrOf W0 5 scel vs S) (hlen : S.length ≤ 64) (hin : ∀ s ∈ S, SaleIn day s) (hsh : 0 ≤ sh ∧ sh ≤ 64) (hday : day ≤ 36500)
    (g3 : Grown W0 w3) (hX : Own w3 X 25 [vs, vf, .int .i64 x.m, .int .i64 x.d, .int .i64 x.f]) (hY : Own w3 Y 3 [.int .i64 kd]) (hF : Own w3 fn 121 [fnV sh day]) (hL : Own w3 l 23 [.slice none 0 0]) (t : Tmps) (e5 : ev t (.tmp 5) = .pointer (some ⟨fn, 0, none⟩)) (e6 : ev t (.tmp 6) = .pointer (some ⟨l, 0, none⟩)) :
    CallT Try.prog Try.T1 (.fn (.func 77) #[.pointer (some ⟨X, 0, none⟩), .pointer (some ⟨Y, 0, none⟩)]) #[.func (.yield (w3.next + 1)) #[] #[]] ((w3.push (.deferred (some []))).push (.loop ⟨.ready, none, 47, t, #[20], codeA Try.f47, codeB Try.f47, w3.next⟩))
      (fun v w' => CI W0 ⟨X, Y, fn, l, w3.next, w3.next + 1⟩ sh day kd [vs, vf, .int .i64 x.m, .int .i64 x.d, .int .i64 x.f] ⟨.ready, none, 47, t, #[20], codeA Try.f47, codeB Try.f47, w3.next⟩ (craftsTo sh day kd S) w') := by
  have hn1 : (w3.push (.deferred (some []))).next = w3.next + 1 := AW.next_push _ _
  refine rounds_ok W0 ⟨X, Y, fn, l, w3.next, w3.next + 1⟩ hc sh day kd x vs vf S hvf hS hlen hin hsh hday t e5 e6 _ ?_
  have g4 := (g3.push (.deferred (some []))).push (.loop ⟨.ready, none, 47, t, #[20], codeA Try.f47, codeB Try.f47, w3.next⟩)
  refine ⟨(hX.push _).push _, (hY.push _).push _, (hF.push _).push _, ⟨_, (hL.push _).push _, .inl ⟨rfl, rfl, rfl⟩⟩, ?_, ?_, g4.1, ?_, g4.2⟩
  · show ((w3.push (.deferred (some []))).push _).blk (w3.next + 1) = _
    rw [AW.blk_push _ _ _ (Trie.in_ _) (Trie.in_ _), if_pos hn1.symm]
  · show ((w3.push (.deferred (some []))).push _).blk w3.next = _
    rw [AW.blk_push _ _ _ (Trie.in_ _) (Trie.in_ _), if_neg (by omega), AW.blk_push _ _ _ (Trie.in_ _) (Trie.in_ _), if_pos rfl]
  · show w3.next + 1 < ((w3.push (.deferred (some []))).push _).next
    rw [AW.next_push, hn1]; omega
set_option maxHeartbeats 4000000 in
theorem crafts_ok (x : MarkN) (S : List SaleN) (F : List Int) (vs vf : Value) (kd : Int) (w : AW) (f : Fresh w) (hS : ArrOf w 5 scel vs S) (hs : ArrOf w 1 icells vf F) (hm : MarkIn x S F) (hk : inR 0 kd ((F.length : Int) - 1) = true) :
    CallT Try.prog Try.T1 (.fn (.func 47) #[]) #[.agg #[vs, vf, .int .i64 x.m, .int .i64 x.d, .int .i64 x.f], .int .i64 kd] w (fun r w' => ArrOf w' 1 icells r (craftsL x S F kd) ∧ Grown w w') := by
  obtain ⟨q, cap2, rfl, _, _, hat⟩ := id hs.open
  obtain ⟨p, cap, rfl, _⟩ := id hS.open
  have hvs : oneCell (.slice p S.length cap) = true := rfl
  have hvf : oneCell (.slice q F.length cap2) = true := rfl
  rw [inR_iff] at hk
  obtain ⟨n, rfl⟩ := Int.eq_ofNat_of_zero_le hk.1
  have hn : n < F.length := by omega
  obtain ⟨b1, o1, rfl, hb1, hcell⟩ := hat n hn
  have hnl : (n : Int) < (F.length : Int) := by omega
  have hgd : F.getD ((n : Int).toNat) 0 = F[n] := by rw [Int.toNat_natCast]; exact getD_at hn
  have hfade := hm.fade F[n] (List.getElem_mem hn)
  have g := (Grown.refl f).push (.cells [.slice p S.length cap, .slice (some ⟨b1, o1, none⟩) F.length cap2, .int .i64 x.m, .int .i64 x.d, .int .i64 x.f] 25 w.next 0 0)
  have hO := Own.new f 25 [.slice p S.length cap, .slice (some ⟨b1, o1, none⟩) F.length cap2, .int .i64 x.m, .int .i64 x.d, .int .i64 x.f]
  have a0 := hcell _ g.1 0 _ rfl
  rw [Nat.add_zero] at a0
  have c0 := (hO).cell (o := 0) rfl hvs
  have c1 := (hO).cell (o := 1) rfl hvf
  have c2 := (hO).cell (o := 2) rfl rfl
  have c3 := (hO).cell (o := 3) rfl rfl
  have c4 := (hO).cell (o := 4) rfl rfl
  have fg := g.2
  have hfs : same 12 (fnV F[n] x.d) (fnV F[n] x.d) = true := by simp [fnV, same, same.all, intEq_eq]
  have g1 := g.push (.cells [fnV F[n] x.d] 121 (w.next + 1) 0 0)
  have g2 := g1.push (.cells [.slice none 0 0] 23 (w.next + 1 + 1) 0 0)
  have hF1 := Own.new g.2 121 [fnV F[n] x.d]
  rw [AW.next_push] at hF1
  have hF := hF1.push (.cells [.slice none 0 0] 23 (w.next + 1 + 1) 0 0)
  have hL := Own.new g1.2 23 [.slice none 0 0]
  simp only [AW.next_push] at hL
  have hO2 := (hO.push (.cells [fnV F[n] x.d] 121 (w.next + 1) 0 0)).push (.cells [.slice none 0 0] 23 (w.next + 1 + 1) 0 0)
  unfold fnV at hfs g1 g2 hF hL hO2
  have hnx : (((w.push (.cells [.slice p S.length cap, .slice (some ⟨b1, o1, none⟩) F.length cap2, .int .i64 x.m, .int .i64 x.d, .int .i64 x.f] 25 w.next 0 0)).push (.cells [.func (.func 66) #[.agg #[.int .i64 F[n], .int .i64 x.d]] #[]] 121 (w.next + 1) 0 0)).push (.cells [.slice none 0 0] 23 (w.next + 1 + 1) 0 0)).next = w.next + 3 := by simp only [AW.next_push]
  have st : storeV ((w.push (.cells [.slice p S.length cap, .slice (some ⟨b1, o1, none⟩) F.length cap2, .int .i64 x.m, .int .i64 x.d, .int .i64 x.f] 25 w.next 0 0)).push (.cells [.nilFunc] 121 (w.next + 1) 0 0)) false 1 (.pointer (some ⟨w.next + 1, 0, none⟩)) (.func (.func 66) #[.agg #[.int .i64 F[n], .int .i64 x.d]] #[]) =
      some ((w.push (.cells [.slice p S.length cap, .slice (some ⟨b1, o1, none⟩) F.length cap2, .int .i64 x.m, .int .i64 x.d, .int .i64 x.f] 25 w.next 0 0)).push (.cells [.func (.func 66) #[.agg #[.int .i64 F[n], .int .i64 x.d]] #[]] 121 (w.next + 1) 0 0)) := by
    have h0 := Own.new fg 121 [.nilFunc]
    have := storeV_own1 (o := 0) (v := .func (.func 66) #[.agg #[.int .i64 F[n], .int .i64 x.d]] #[]) h0 (by simp) rfl
    rw [put_push] at this
    rw [AW.next_push] at this
    exact this
  refine callT_code rfl Try.func47 rfl Try.s47_eq rfl ?_
  unfold Try.s47
  simp -dsimp -implicitDefEqProofs (maxSteps := 2000000) (disch := first | assumption | omega | (simp only [AW.next_push, AW.next_put]; omega) | ((repeat refine Fresh.push ?_ _); assumption) | (simp only [same_int, same_bool, same_ptr, same_slice, same_sliceP, same_nil, same_agg2, same_string]; done) | (simp [oneCell, AW.next_push]; done) | fail) only [go_sem, Nat.reduceEqDiff, reduceIte, Nat.reduceAdd, Int.toNat_natCast, Nat.add_zero, Owes_true, Try.results47, Nat.zero_add, c1, c3, indexV_eq, hnl, a0, hfs, st]
  generalize hW : (((w.push (.cells [.slice p S.length cap, .slice (some ⟨b1, o1, none⟩) F.length cap2, .int .i64 x.m, .int .i64 x.d, .int .i64 x.f] 25 w.next 0 0)).push (.cells [.func (.func 66) #[.agg #[.int .i64 F[n], .int .i64 x.d]] #[]] 121 (w.next + 1) 0 0)).push (.cells [.slice none 0 0] 23 (w.next + 1 + 1) 0 0)) = W at *
  apply callV_of (e := rfl)
  · exact sales_ok x _ _ (n : Int) W g2.2 rfl rfl
  rintro _ w3 ⟨rfl, rfl⟩
  have gx := g2.push (.cells [.slice p S.length cap, .slice (some ⟨b1, o1, none⟩) F.length cap2, .int .i64 x.m, .int .i64 x.d, .int .i64 x.f] 25 W.next 0 0)
  have gy := gx.push (.cells [.int .i64 (n : Int)] 3 (W.next + 1) 0 0)
  have hX := (Own.new g2.2 25 [.slice p S.length cap, .slice (some ⟨b1, o1, none⟩) F.length cap2, .int .i64 x.m, .int .i64 x.d, .int .i64 x.f]).push (.cells [.int .i64 (n : Int)] 3 (W.next + 1) 0 0)
  have hY := Own.new gx.2 3 [.int .i64 (n : Int)]
  have hnx1 : (W.push (.cells [.slice p S.length cap, .slice (some ⟨b1, o1, none⟩) F.length cap2, .int .i64 x.m, .int .i64 x.d, .int .i64 x.f] 25 W.next 0 0)).next = W.next + 1 := AW.next_push _ _
  rw [hnx1] at hY
  have hF3 := (hF.push (.cells [.slice p S.length cap, .slice (some ⟨b1, o1, none⟩) F.length cap2, .int .i64 x.m, .int .i64 x.d, .int .i64 x.f] 25 W.next 0 0)).push (.cells [.int .i64 (n : Int)] 3 (W.next + 1) 0 0)
  have hL3 := (hL.push (.cells [.slice p S.length cap, .slice (some ⟨b1, o1, none⟩) F.length cap2, .int .i64 x.m, .int .i64 x.d, .int .i64 x.f] 25 W.next 0 0)).push (.cells [.int .i64 (n : Int)] 3 (W.next + 1) 0 0)
  have hn3 : ((W.push (.cells [.slice p S.length cap, .slice (some ⟨b1, o1, none⟩) F.length cap2, .int .i64 x.m, .int .i64 x.d, .int .i64 x.f] 25 W.next 0 0)).push (.cells [.int .i64 (n : Int)] 3 (W.next + 1) 0 0)).next = W.next + 2 := by simp only [AW.next_push]
  simp -dsimp -implicitDefEqProofs (maxSteps := 2000000) (disch := first | assumption | omega | (simp only [AW.next_push, AW.next_put]; omega) | ((repeat refine Fresh.push ?_ _); assumption) | (simp only [same_int, same_bool, same_ptr, same_slice, same_sliceP, same_nil, same_agg2, same_string]; done) | (simp [oneCell, AW.next_push]; done) | fail) only [go_sem, Nat.reduceEqDiff, reduceIte, Nat.reduceAdd, Int.toNat_natCast, Nat.add_zero, Owes_true, Try.results47]
  generalize ((W.push (.cells [.slice p S.length cap, .slice (some ⟨b1, o1, none⟩) F.length cap2, .int .i64 x.m, .int .i64 x.d, .int .i64 x.f] 25 W.next 0 0)).push (.cells [.int .i64 (n : Int)] 3 (W.next + 1) 0 0)) = w3 at *
  have hc : CP.ok ⟨W.next, W.next + 1, w.next + 1, w.next + 1 + 1, w3.next, w3.next + 1⟩ w.next := by
    refine ⟨?_, ?_, ?_, ?_, ?_, ?_, ?_, ?_, ?_, ?_⟩ <;> simp only [] <;> omega
  refine codeT_range rfl (by simp -dsimp -implicitDefEqProofs (maxSteps := 2000000) (disch := first | assumption | omega | (simp only [AW.next_push, AW.next_put]; omega) | ((repeat refine Fresh.push ?_ _); assumption) | (simp only [same_int, same_bool, same_ptr, same_slice, same_sliceP, same_nil, same_agg2, same_string]; done) | (simp [oneCell, AW.next_push]; done) | fail) only [go_sem, Nat.reduceEqDiff, reduceIte, Nat.reduceAdd, Int.toNat_natCast, Nat.add_zero, Owes_true]; rfl) ?_
  refine (range_crafts w w3 W.next (W.next + 1) (w.next + 1) (w.next + 1 + 1) hc F[n] x.d (n : Int) x _ _ S hvf hS hm.len hm.sale hfade hm.d.2 gy hX hY hF3 hL3 _ (by simp -dsimp -implicitDefEqProofs (maxSteps := 2000000) (disch := first | assumption | omega | (simp only [AW.next_push, AW.next_put]; omega) | ((repeat refine Fresh.push ?_ _); assumption) | (simp only [same_int, same_bool, same_ptr, same_slice, same_sliceP, same_nil, same_agg2, same_string]; done) | (simp [oneCell, AW.next_push]; done) | fail) only [go_sem, Nat.reduceEqDiff, reduceIte, Nat.reduceAdd, Int.toNat_natCast, Nat.add_zero, Owes_true]) (by simp -dsimp -implicitDefEqProofs (maxSteps := 2000000) (disch := first | assumption | omega | (simp only [AW.next_push, AW.next_put]; omega) | ((repeat refine Fresh.push ?_ _); assumption) | (simp only [same_int, same_bool, same_ptr, same_slice, same_sliceP, same_nil, same_agg2, same_string]; done) | (simp [oneCell, AW.next_push]; done) | fail) only [go_sem, Nat.reduceEqDiff, reduceIte, Nat.reduceAdd, Int.toNat_natCast, Nat.add_zero, Owes_true])).mono ?_
  rintro _ w4 hI
  refine ⟨_, hI.loop, rfl, rfl, ?_⟩
  intro W2 hW2
  obtain ⟨lpx, hIW⟩ : ∃ lpx, CI w ⟨W.next, W.next + 1, w.next + 1, w.next + 1 + 1, w3.next, w3.next + 1⟩ F[n] x.d (n : Int) [.slice p S.length cap, .slice (some ⟨b1, o1, none⟩) F.length cap2, .int .i64 x.m, .int .i64 x.d, .int .i64 x.f] lpx (craftsTo F[n] x.d (n : Int) S) W2 := ⟨_, by rw [hW2]; exact hI.relp hc _⟩
  clear hW2 hI
  have hm2 := hIW.mark
  have hl2 := hIW.lt
  have hk2 := hIW.keep
  have hf2 := hIW.fresh
  obtain ⟨sv, oL, hA⟩ := hIW.ol
  simp only [] at hm2 hl2 hk2 oL hA
  obtain ⟨vp, vn, vc, rfl⟩ : ∃ x y z, sv = .slice x y z := by rcases hA with ⟨rfl, _⟩ | ⟨_, _, rfl, _⟩ <;> exact ⟨_, _, _, rfl⟩
  have q6 := oL.cell (o := 0) rfl rfl
  have hcl := craftsTo_len F[n] x.d (n : Int) S
  have hml := hm.len
  obtain ⟨w5, t1, hA5, k5, f5, n5⟩ := sortT_own (s := Try.sliceIds) hA hf2 (by omega) q6
  simp -dsimp -implicitDefEqProofs (maxSteps := 2000000) (disch := first | assumption | omega | (simp only [AW.next_push, AW.next_put]; omega) | ((repeat refine Fresh.push ?_ _); assumption) | (simp only [same_int, same_bool, same_ptr, same_slice, same_sliceP, same_nil, same_agg2, same_string]; done) | (simp [oneCell, AW.next_push]; done) | fail) only [go_sem, Nat.reduceEqDiff, reduceIte, Nat.reduceAdd, Int.toNat_natCast, Nat.add_zero, Owes_true, Try.results47, q6]
  apply callV_of (e := rfl)
  · exact callT_told (Q := fun v w' => v = .tuple #[] ∧ w5 = w') (v := .tuple #[]) (w' := w5) t1 ⟨rfl, rfl⟩
  rintro _ _ ⟨rfl, rfl⟩
  have oL5 := oL.keepC k5 (by omega)
  have q7 := oL5.cell (o := 0) rfl rfl
  simp -dsimp -implicitDefEqProofs (maxSteps := 2000000) (disch := first | assumption | omega | (simp only [AW.next_push, AW.next_put]; omega) | ((repeat refine Fresh.push ?_ _); assumption) | (simp only [same_int, same_bool, same_ptr, same_slice, same_sliceP, same_nil, same_agg2, same_string]; done) | (simp [oneCell, AW.next_push]; done) | fail) only [go_sem, Nat.reduceEqDiff, reduceIte, Nat.reduceAdd, Int.toNat_natCast, Nat.add_zero, Owes_true, Try.results47, q7]
  refine Left_one (by rw [k5.blk _ (by omega)]; exact hm2) ?_
  simp -dsimp -implicitDefEqProofs (maxSteps := 2000000) (disch := first | assumption | omega | (simp only [AW.next_push, AW.next_put]; omega) | ((repeat refine Fresh.push ?_ _); assumption) | (simp only [same_int, same_bool, same_ptr, same_slice, same_sliceP, same_nil, same_agg2, same_string]; done) | (simp [oneCell, AW.next_push]; done) | fail) only [go_sem, Nat.reduceEqDiff, reduceIte, Nat.reduceAdd, Int.toNat_natCast, Nat.add_zero, Owes_true, Try.results47]
  have m6 := Mut_put f5 (show w3.next < w5.next by omega) (.deferred none)
  have hA6 := m6.aown (by omega) hA5
  rw [← sortedL_len] at hA6
  refine ⟨?_, (hk2.trans (k5.mono (by omega))).put (by omega) _, m6.fresh⟩
  rw [craftsL, hgd]
  exact hA6.arr icells_len (by rw [sortedL_len]; omega)
end Go.Proofs

/- Markets: Crafts and Value. -/
namespace Go.Proofs
open Go Go.RowKit Go.Sim
set_option maxRecDepth 100000
def craftE (x : MarkN) (S : List SaleN) (F : List Int) (kd : Int) : Int := if markB x S F = false then 20 else if inR 0 kd ((F.length : Int) - 1) = false then 7 else 0
set_option maxHeartbeats 1000000 in
theorem Crafts_ok (x : MarkN) (S : List SaleN) (F : List Int) (vs vf : Value) (kd : Int) (w : AW) (f : Fresh w) (hS : ArrOf w 5 scel vs S) (hs : ArrOf w 1 icells vf F) :
    CallT Try.prog Try.T1 (.fn (.func 14) #[]) #[.agg #[vs, vf, .int .i64 x.m, .int .i64 x.d, .int .i64 x.f], .int .i64 kd] w (fun r w' => ∃ s L, r = .tuple #[s, .int .i64 (craftE x S F kd)] ∧ ArrOf w' 1 icells s L ∧ Grown w w' ∧ (craftE x S F kd = 0 → L = craftsL x S F kd ∧ MarkIn x S F ∧ inR 0 kd ((F.length : Int) - 1) = true) ∧ (craftE x S F kd ≠ 0 → L = [])) := by
  obtain ⟨p, cap, rfl, _⟩ := id hS.open
  obtain ⟨q, cap2, rfl, _⟩ := id hs.open
  have hvs : oneCell (.slice p S.length cap) = true := rfl
  have hvf : oneCell (.slice q F.length cap2) = true := rfl
  have g := (Grown.refl f).push (.cells [.slice p S.length cap, .slice q F.length cap2, .int .i64 x.m, .int .i64 x.d, .int .i64 x.f] 25 w.next 0 0)
  have hO := Own.new f 25 [.slice p S.length cap, .slice q F.length cap2, .int .i64 x.m, .int .i64 x.d, .int .i64 x.f]
  have c0 := (hO).cell (o := 0) rfl hvs
  have c1 := (hO).cell (o := 1) rfl hvf
  have c2 := (hO).cell (o := 2) rfl rfl
  have c3 := (hO).cell (o := 3) rfl rfl
  have c4 := (hO).cell (o := 4) rfl rfl
  refine callT_code rfl Try.func14 rfl Try.s14_eq rfl ?_
  unfold Try.s14
  simp -dsimp -implicitDefEqProofs (maxSteps := 2000000) (disch := first | assumption | omega | (simp only [AW.next_push, AW.next_put]; omega) | ((repeat refine Fresh.push ?_ _); assumption) | (simp only [same_int, same_bool, same_ptr, same_slice, same_sliceP, same_nil, same_agg2, same_string]; done) | (simp [oneCell, AW.next_push]; done) | fail) only [go_sem, Nat.reduceEqDiff, reduceIte, Nat.reduceAdd, Int.toNat_natCast, Nat.add_zero, Owes_true, Try.results14, Nat.zero_add, c0, c1, c2, c3, c4]
  apply callV_of (e := rfl)
  · exact CheckMarket_ok x S F _ _ _ g.2 (hS.grown g) (hs.grown g)
  rintro _ w1 ⟨rfl, hg1⟩
  have g1 := g.trans hg1
  have hO1 := hO.keep hg1.1
  cases hm : markB x S F with
  | false =>
    have hE : markE x S F = 20 := markE_bad hm
    have hE2 : craftE x S F kd = 20 := by rw [craftE, if_pos hm]
    have h200 : ¬ (20 : Int) = 0 := by decide
    simp -dsimp -implicitDefEqProofs (maxSteps := 2000000) (disch := first | assumption | omega | (simp only [AW.next_push, AW.next_put]; omega) | ((repeat refine Fresh.push ?_ _); assumption) | (simp only [same_int, same_bool, same_ptr, same_slice, same_sliceP, same_nil, same_agg2, same_string]; done) | (simp [oneCell, AW.next_push]; done) | fail) only [go_sem, Nat.reduceEqDiff, reduceIte, Nat.reduceAdd, Int.toNat_natCast, Nat.add_zero, Owes_true, Try.results14, hE, h200]
    exact ⟨_, [], by rw [hE2], ArrOf.nil _ _ _, g1, fun z => by rw [hE2] at z; exact absurd z (by decide), fun _ => rfl⟩
  | true =>
  have hE : markE x S F = 0 := by rw [markE, hm]; rfl
  have c0 := (hO1).cell (o := 0) rfl hvs
  have c1 := (hO1).cell (o := 1) rfl hvf
  have c2 := (hO1).cell (o := 2) rfl rfl
  have c3 := (hO1).cell (o := 3) rfl rfl
  have c4 := (hO1).cell (o := 4) rfl rfl
  simp -dsimp -implicitDefEqProofs (maxSteps := 2000000) (disch := first | assumption | omega | (simp only [AW.next_push, AW.next_put]; omega) | ((repeat refine Fresh.push ?_ _); assumption) | (simp only [same_int, same_bool, same_ptr, same_slice, same_sliceP, same_nil, same_agg2, same_string]; done) | (simp [oneCell, AW.next_push]; done) | fail) only [go_sem, Nat.reduceEqDiff, reduceIte, Nat.reduceAdd, Int.toNat_natCast, Nat.add_zero, Owes_true, Try.results14, hE, Nat.zero_add, c0, c1, c2, c3, c4, ne_eq, not_true]
  apply callV_of (e := rfl)
  · exact isKind_ok x F _ _ kd _ g1.2 hvs (hs.grown g1)
  rintro _ w2 ⟨rfl, hg2⟩
  have g2 := g1.trans hg2
  have hO2 := hO1.keep hg2.1
  cases hk : inR 0 kd ((F.length : Int) - 1) with
  | false =>
    have hE2 : craftE x S F kd = 7 := by rw [craftE, if_neg (by rw [hm]; simp), if_pos hk]
    simp -dsimp -implicitDefEqProofs (maxSteps := 2000000) (disch := first | assumption | omega | (simp only [AW.next_push, AW.next_put]; omega) | ((repeat refine Fresh.push ?_ _); assumption) | (simp only [same_int, same_bool, same_ptr, same_slice, same_sliceP, same_nil, same_agg2, same_string]; done) | (simp [oneCell, AW.next_push]; done) | fail) only [go_sem, Nat.reduceEqDiff, reduceIte, Nat.reduceAdd, Int.toNat_natCast, Nat.add_zero, Owes_true, Try.results14]
    exact ⟨_, [], by rw [hE2], ArrOf.nil _ _ _, g2, fun z => by rw [hE2] at z; exact absurd z (by decide), fun _ => rfl⟩
  | true =>
  have hE2 : craftE x S F kd = 0 := by rw [craftE, if_neg (by rw [hm]; simp), if_neg (by rw [hk]; simp)]
  have c0 := (hO2).cell (o := 0) rfl hvs
  have c1 := (hO2).cell (o := 1) rfl hvf
  have c2 := (hO2).cell (o := 2) rfl rfl
  have c3 := (hO2).cell (o := 3) rfl rfl
  have c4 := (hO2).cell (o := 4) rfl rfl
  simp -dsimp -implicitDefEqProofs (maxSteps := 2000000) (disch := first | assumption | omega | (simp only [AW.next_push, AW.next_put]; omega) | ((repeat refine Fresh.push ?_ _); assumption) | (simp only [same_int, same_bool, same_ptr, same_slice, same_sliceP, same_nil, same_agg2, same_string]; done) | (simp [oneCell, AW.next_push]; done) | fail) only [go_sem, Nat.reduceEqDiff, reduceIte, Nat.reduceAdd, Int.toNat_natCast, Nat.add_zero, Owes_true, Try.results14, Nat.zero_add, c0, c1, c2, c3, c4]
  apply callV_of (e := rfl)
  · exact crafts_ok x S F _ _ kd _ g2.2 (hS.grown g2) (hs.grown g2) (markB_in hm) hk
  rintro r w3 ⟨hr, hg3⟩
  obtain ⟨rp, rc, rfl, _⟩ := id hr.open
  simp -dsimp -implicitDefEqProofs (maxSteps := 2000000) (disch := first | assumption | omega | (simp only [AW.next_push, AW.next_put]; omega) | ((repeat refine Fresh.push ?_ _); assumption) | (simp only [same_int, same_bool, same_ptr, same_slice, same_sliceP, same_nil, same_agg2, same_string]; done) | (simp [oneCell, AW.next_push]; done) | fail) only [go_sem, Nat.reduceEqDiff, reduceIte, Nat.reduceAdd, Int.toNat_natCast, Nat.add_zero, Owes_true, Try.results14]
  exact ⟨_, _, by rw [hE2], hr, g2.trans hg3, fun _ => ⟨rfl, markB_in hm, by first | exact hk | rfl | trivial⟩, fun z => absurd hE2 z⟩
/-- What a ware is worth. -/
def valE (x : MarkN) (S : List SaleN) (F : List Int) (kd a b : Int) : Int := if markB x S F = false then 20 else if (inR 0 kd ((F.length : Int) - 1) && spanB a b 1000) = false then 21 else if ((craftsL x S F kd).length : Int) < x.f then 4 else 0
def valMn (x : MarkN) (S : List SaleN) (F : List Int) (kd a b : Int) : Int := if valE x S F kd a b = 0 then (craftsL x S F kd).getD (((craftsL x S F kd).length - 1) / 4) 0 + x.m * a else 0
def valMx (x : MarkN) (S : List SaleN) (F : List Int) (kd a b : Int) : Int := if valE x S F kd a b = 0 then (craftsL x S F kd).getD ((craftsL x S F kd).length - 1 - ((craftsL x S F kd).length - 1) / 4) 0 + x.m * b else 0
structure ValIn (x : MarkN) (S : List SaleN) (F : List Int) (kd a b : Int) : Prop where
  mark : MarkIn x S F
  k : inR 0 kd ((F.length : Int) - 1) = true
  a : 0 ≤ a ∧ a ≤ b ∧ b ≤ 1000
  n : x.f ≤ ((craftsL x S F kd).length : Int)
theorem valE_in {x : MarkN} {S : List SaleN} {F : List Int} {kd a b : Int} (h : valE x S F kd a b = 0) : ValIn x S F kd a b := by
  unfold valE at h
  cases hm : markB x S F with
  | false => rw [if_pos hm] at h; exact absurd h (by decide)
  | true =>
  rw [if_neg (by rw [hm]; simp)] at h
  cases hk : (inR 0 kd ((F.length : Int) - 1) && spanB a b 1000) with
  | false => rw [if_pos hk] at h; exact absurd h (by decide)
  | true =>
  rw [if_neg (by rw [hk]; simp)] at h
  by_cases hn : ((craftsL x S F kd).length : Int) < x.f
  · rw [if_pos hn] at h; exact absurd h (by decide)
  rw [Bool.and_eq_true] at hk
  have hs := hk.2
  simp only [spanB, Bool.and_eq_true, decide_eq_true_eq] at hs
  exact ⟨markB_in hm, hk.1, by omega, by omega⟩
theorem craftsL_in {x : MarkN} {S : List SaleN} {F : List Int} {kd : Int} (hm : MarkIn x S F) (hk : inR 0 kd ((F.length : Int) - 1) = true) : ∀ y ∈ craftsL x S F kd, 0 ≤ y ∧ y ≤ 1073741824 := by
  intro y hy
  rw [craftsL, sortedL, (List.mergeSort_perm _ _).mem_iff, craftsTo] at hy
  obtain ⟨s, hs, rfl⟩ := List.mem_map.mp hy
  rw [List.mem_filter] at hs
  rw [inR_iff] at hk
  have hn : kd.toNat < F.length := by omega
  have hf := hm.fade _ (List.getElem_mem hn)
  refine craftN_in (hm.sale s hs.1) ?_
  rw [getD_at hn]; exact hf
set_option maxHeartbeats 4000000 in
theorem Value_ok (x : MarkN) (S : List SaleN) (F : List Int) (vs vf : Value) (kd a b : Int) (w : AW) (f : Fresh w) (hS : ArrOf w 5 scel vs S) (hs : ArrOf w 1 icells vf F) :
    CallT Try.prog Try.T1 (.fn (.func 19) #[]) #[.agg #[vs, vf, .int .i64 x.m, .int .i64 x.d, .int .i64 x.f], .agg #[.int .i64 kd, .int .i64 a, .int .i64 b]] w (Ret (.tuple #[.agg #[.int .i64 (valMn x S F kd a b), .int .i64 (valMx x S F kd a b)], .int .i64 (valE x S F kd a b)]) (Grown w)) := by
  obtain ⟨p, cap, rfl, _⟩ := id hS.open
  obtain ⟨q, cap2, rfl, _⟩ := id hs.open
  have hvs : oneCell (.slice p S.length cap) = true := rfl
  have hvf : oneCell (.slice q F.length cap2) = true := rfl
  have g0 := (Grown.refl f).push (.cells [.slice p S.length cap, .slice q F.length cap2, .int .i64 x.m, .int .i64 x.d, .int .i64 x.f] 25 w.next 0 0)
  have gw := g0.push (.cells [.int .i64 kd, .int .i64 a, .int .i64 b] 29 (w.next + 1) 0 0)
  have g := gw.push (.cells [.int .i64 0, .int .i64 0] 27 (w.next + 1 + 1) 0 0)
  have hO := ((Own.new f 25 [.slice p S.length cap, .slice q F.length cap2, .int .i64 x.m, .int .i64 x.d, .int .i64 x.f]).push (.cells [.int .i64 kd, .int .i64 a, .int .i64 b] 29 (w.next + 1) 0 0)).push (.cells [.int .i64 0, .int .i64 0] 27 (w.next + 1 + 1) 0 0)
  have hW0 := Own.new g0.2 29 [.int .i64 kd, .int .i64 a, .int .i64 b]
  rw [AW.next_push] at hW0
  have hW := hW0.push (.cells [.int .i64 0, .int .i64 0] 27 (w.next + 1 + 1) 0 0)
  have hR := Own.new gw.2 27 [.int .i64 0, .int .i64 0]
  simp only [AW.next_push] at hR
  have c0 := (hO).cell (o := 0) rfl hvs
  have c1 := (hO).cell (o := 1) rfl hvf
  have c2 := (hO).cell (o := 2) rfl rfl
  have c3 := (hO).cell (o := 3) rfl rfl
  have c4 := (hO).cell (o := 4) rfl rfl
  refine callT_code rfl Try.func19 rfl Try.s19_eq rfl ?_
  unfold Try.s19
  simp -dsimp -implicitDefEqProofs (maxSteps := 2000000) (disch := first | assumption | omega | (simp only [AW.next_push, AW.next_put]; omega) | ((repeat refine Fresh.push ?_ _); assumption) | (simp only [same_int, same_bool, same_ptr, same_slice, same_sliceP, same_nil, same_agg2, same_string]; done) | (simp [oneCell, AW.next_push]; done) | fail) only [go_sem, Nat.reduceEqDiff, reduceIte, Nat.reduceAdd, Int.toNat_natCast, Nat.add_zero, Owes_true, Try.results19, Nat.zero_add, c0, c1, c2, c3, c4]
  apply callV_of (e := rfl)
  · exact CheckMarket_ok x S F _ _ _ g.2 (hS.grown g) (hs.grown g)
  rintro _ w1 ⟨rfl, hg1⟩
  have g1 := g.trans hg1
  have hO1 := hO.keep hg1.1
  have hW1 := hW.keep hg1.1
  have hR1 := hR.keep hg1.1
  have put : ∀ (w' : AW) (h : Own w' (w.next + 1 + 1) 27 [.int .i64 0, .int .i64 0]) (gg : Grown w w') (y z : Int), ∃ w2, storeV w' true 2 (.pointer (some ⟨w.next + 1 + 1, 0, none⟩)) (.agg #[.int .i64 y, .int .i64 z]) = some w2 ∧ Own w2 (w.next + 1 + 1) 27 [.int .i64 y, .int .i64 z] ∧ Grown w w2 := by
    intro w' h gg y z
    have h1 := storeV_own (o := 0) (l := [.int .i64 y, .int .i64 z]) (size := 2) h rfl (by omega) (by simp) (by rfl)
    exact ⟨_, h1, h.put _, ⟨gg.1.put (by omega) _, gg.2.put h.lt _⟩⟩
  cases hm : markB x S F with
  | false =>
    have hE : markE x S F = 20 := markE_bad hm
    have hE2 : valE x S F kd a b = 20 := by rw [valE, if_pos hm]
    have h200 : ¬ (20 : Int) = 0 := by decide
    obtain ⟨w2, k2, hR2, g2⟩ := put w1 hR1 g1 0 0
    have r0 := (hR2).cell (o := 0) rfl rfl
    have r1 := (hR2).cell (o := 1) rfl rfl
    simp -dsimp -implicitDefEqProofs (maxSteps := 2000000) (disch := first | assumption | omega | (simp only [AW.next_push, AW.next_put]; omega) | ((repeat refine Fresh.push ?_ _); assumption) | (simp only [same_int, same_bool, same_ptr, same_slice, same_sliceP, same_nil, same_agg2, same_string]; done) | (simp [oneCell, AW.next_push]; done) | fail) only [go_sem, Nat.reduceEqDiff, reduceIte, Nat.reduceAdd, Int.toNat_natCast, Nat.add_zero, Owes_true, Try.results19, hE, h200, bldQ_zero, k2, r0, r1, Nat.zero_add]
    exact ⟨by rw [valMn, valMx, hE2]; rfl, g2⟩
  | true =>
  have hE : markE x S F = 0 := by rw [markE, hm]; rfl
  have c0 := (hO1).cell (o := 0) rfl hvs
  have c1 := (hO1).cell (o := 1) rfl hvf
  have c2 := (hO1).cell (o := 2) rfl rfl
  have c3 := (hO1).cell (o := 3) rfl rfl
  have c4 := (hO1).cell (o := 4) rfl rfl
  have u0 := hW1.cell (o := 0) rfl rfl
  simp -dsimp -implicitDefEqProofs (maxSteps := 2000000) (disch := first | assumption | omega | (simp only [AW.next_push, AW.next_put]; omega) | ((repeat refine Fresh.push ?_ _); assumption) | (simp only [same_int, same_bool, same_ptr, same_slice, same_sliceP, same_nil, same_agg2, same_string]; done) | (simp [oneCell, AW.next_push]; done) | fail) only [go_sem, Nat.reduceEqDiff, reduceIte, Nat.reduceAdd, Int.toNat_natCast, Nat.add_zero, Owes_true, Try.results19, hE, Nat.zero_add, c0, c1, c2, c3, c4, u0, ne_eq, not_true]
  apply callV_of (e := rfl)
  · exact isKind_ok x F _ _ kd _ g1.2 hvs (hs.grown g1)
  rintro _ w2 ⟨rfl, hg2⟩
  have g2 := g1.trans hg2
  have hO2 := hO1.keep hg2.1
  have hW2 := hW1.keep hg2.1
  have hR2 := hR1.keep hg2.1
  cases hk : inR 0 kd ((F.length : Int) - 1) with
  | false =>
    have hE2 : valE x S F kd a b = 21 := by rw [valE, if_neg (by rw [hm]; simp), if_pos (by rw [hk]; rfl)]
    obtain ⟨w3, k3, hR3, g3⟩ := put w2 hR2 g2 0 0
    have r0 := (hR3).cell (o := 0) rfl rfl
    have r1 := (hR3).cell (o := 1) rfl rfl
    simp -dsimp -implicitDefEqProofs (maxSteps := 2000000) (disch := first | assumption | omega | (simp only [AW.next_push, AW.next_put]; omega) | ((repeat refine Fresh.push ?_ _); assumption) | (simp only [same_int, same_bool, same_ptr, same_slice, same_sliceP, same_nil, same_agg2, same_string]; done) | (simp [oneCell, AW.next_push]; done) | fail) only [go_sem, Nat.reduceEqDiff, reduceIte, Nat.reduceAdd, Int.toNat_natCast, Nat.add_zero, Owes_true, Try.results19, bldQ_zero, k3, r0, r1, Nat.zero_add]
    exact ⟨by rw [valMn, valMx, hE2]; rfl, g3⟩
  | true =>
  have u1 := hW2.cell (o := 1) rfl rfl
  have u2 := hW2.cell (o := 2) rfl rfl
  simp -dsimp -implicitDefEqProofs (maxSteps := 2000000) (disch := first | assumption | omega | (simp only [AW.next_push, AW.next_put]; omega) | ((repeat refine Fresh.push ?_ _); assumption) | (simp only [same_int, same_bool, same_ptr, same_slice, same_sliceP, same_nil, same_agg2, same_string]; done) | (simp [oneCell, AW.next_push]; done) | fail) only [go_sem, Nat.reduceEqDiff, reduceIte, Nat.reduceAdd, Int.toNat_natCast, Nat.add_zero, Owes_true, Try.results19, Nat.zero_add, u1, u2]
  apply callV_of (e := rfl)
  · exact isSpan_ok a b 1000 _ g2.2
  rintro _ w3 ⟨rfl, hg3⟩
  have g3 := g2.trans hg3
  have hO3 := hO2.keep hg3.1
  have hW3 := hW2.keep hg3.1
  have hR3 := hR2.keep hg3.1
  cases hsp : spanB a b 1000 with
  | false =>
    have hE2 : valE x S F kd a b = 21 := by rw [valE, if_neg (by rw [hm]; simp), if_pos (by rw [hk, hsp]; rfl)]
    obtain ⟨w4, k4, hR4, g4⟩ := put w3 hR3 g3 0 0
    have r0 := (hR4).cell (o := 0) rfl rfl
    have r1 := (hR4).cell (o := 1) rfl rfl
    simp -dsimp -implicitDefEqProofs (maxSteps := 2000000) (disch := first | assumption | omega | (simp only [AW.next_push, AW.next_put]; omega) | ((repeat refine Fresh.push ?_ _); assumption) | (simp only [same_int, same_bool, same_ptr, same_slice, same_sliceP, same_nil, same_agg2, same_string]; done) | (simp [oneCell, AW.next_push]; done) | fail) only [go_sem, Nat.reduceEqDiff, reduceIte, Nat.reduceAdd, Int.toNat_natCast, Nat.add_zero, Owes_true, Try.results19, bldQ_zero, k4, r0, r1, Nat.zero_add]
    exact ⟨by rw [valMn, valMx, hE2]; rfl, g4⟩
  | true =>
  have hE3 : valE x S F kd a b = if ((craftsL x S F kd).length : Int) < x.f then 4 else 0 := by rw [valE, if_neg (by rw [hm]; simp), if_neg (by rw [hk, hsp]; simp)]
  have c0 := (hO3).cell (o := 0) rfl hvs
  have c1 := (hO3).cell (o := 1) rfl hvf
  have c2 := (hO3).cell (o := 2) rfl rfl
  have c3 := (hO3).cell (o := 3) rfl rfl
  have c4 := (hO3).cell (o := 4) rfl rfl
  have u0 := hW3.cell (o := 0) rfl rfl
  simp -dsimp -implicitDefEqProofs (maxSteps := 2000000) (disch := first | assumption | omega | (simp only [AW.next_push, AW.next_put]; omega) | ((repeat refine Fresh.push ?_ _); assumption) | (simp only [same_int, same_bool, same_ptr, same_slice, same_sliceP, same_nil, same_agg2, same_string]; done) | (simp [oneCell, AW.next_push]; done) | fail) only [go_sem, Nat.reduceEqDiff, reduceIte, Nat.reduceAdd, Int.toNat_natCast, Nat.add_zero, Owes_true, Try.results19, Nat.zero_add, c0, c1, c2, c3, c4, u0]
  apply callV_of (e := rfl)
  · exact crafts_ok x S F _ _ kd _ g3.2 (hS.grown g3) (hs.grown g3) (markB_in hm) hk
  rintro r w4 ⟨hr, hg4⟩
  have g4 := g3.trans hg4
  have hO4 := hO3.keep hg4.1
  have hW4 := hW3.keep hg4.1
  have hR4 := hR3.keep hg4.1
  obtain ⟨rp, rc, rfl, _, _, hat⟩ := id hr.open
  have c0 := (hO4).cell (o := 0) rfl hvs
  have c1 := (hO4).cell (o := 1) rfl hvf
  have c2 := (hO4).cell (o := 2) rfl rfl
  have c3 := (hO4).cell (o := 3) rfl rfl
  have c4 := (hO4).cell (o := 4) rfl rfl
  by_cases hn : ((craftsL x S F kd).length : Int) < x.f
  · rw [if_pos hn] at hE3
    obtain ⟨w5, k5, hR5, g5⟩ := put w4 hR4 g4 0 0
    have r0 := (hR5).cell (o := 0) rfl rfl
    have r1 := (hR5).cell (o := 1) rfl rfl
    simp -dsimp -implicitDefEqProofs (maxSteps := 2000000) (disch := first | assumption | omega | (simp only [AW.next_push, AW.next_put]; omega) | ((repeat refine Fresh.push ?_ _); assumption) | (simp only [same_int, same_bool, same_ptr, same_slice, same_sliceP, same_nil, same_agg2, same_string]; done) | (simp [oneCell, AW.next_push]; done) | fail) only [go_sem, Nat.reduceEqDiff, reduceIte, Nat.reduceAdd, Int.toNat_natCast, Nat.add_zero, Owes_true, Try.results19, Nat.zero_add, c4, hn, bldQ_zero, k5, r0, r1]
    exact ⟨by rw [valMn, valMx, hE3]; rfl, g5⟩
  rw [if_neg hn] at hE3
  have hmi := markB_in hm
  have hf1 := hmi.f
  have hin := craftsL_in hmi hk
  have hll := craftsL_len x S F kd
  have hml := hmi.len
  generalize hL : craftsL x S F kd = L at *
  have hlq : ((L.length : Int) - 1).tdiv 4 = (((L.length - 1) / 4 : Nat) : Int) := by
    rw [Int.tdiv_eq_ediv_of_nonneg (by omega)]; omega
  have hn4 : ¬ (4 : Int) = 0 := by decide
  have hq1 : (L.length - 1) / 4 < L.length := by omega
  have hq2 : L.length - 1 - (L.length - 1) / 4 < L.length := by omega
  obtain ⟨b1, o1, rfl, hb1, hcell⟩ := hat _ hq1
  obtain ⟨b2, o2, hp2, hb2, hcell2⟩ := hat _ hq2
  injection hp2 with hp2
  injection hp2 with hp3 hp4 hp5
  subst hp3 hp4
  have a0 := hcell _ (.refl _ _) 0 _ rfl
  have d0 := hcell2 _ (.refl _ _) 0 _ rfl
  rw [Nat.add_zero] at a0 d0
  have i1 := hin _ (List.getElem_mem hq1)
  have i2 := hin _ (List.getElem_mem hq2)
  have l1 : (((L.length - 1) / 4 : Nat) : Int) < (L.length : Int) := by omega
  have l2 : ((L.length - 1 - (L.length - 1) / 4 : Nat) : Int) < (L.length : Int) := by omega
  have e2 : (L.length : Int) - 1 - (((L.length - 1) / 4 : Nat) : Int) = ((L.length - 1 - (L.length - 1) / 4 : Nat) : Int) := by omega
  have gd1 : L.getD ((L.length - 1) / 4) 0 = L[(L.length - 1) / 4] := getD_at hq1
  have gd2 : L.getD (L.length - 1 - (L.length - 1) / 4) 0 = L[L.length - 1 - (L.length - 1) / 4] := getD_at hq2
  simp only [spanB, Bool.and_eq_true, decide_eq_true_eq] at hsp
  have hmm := hmi.m
  have m1 : x.m * a ≤ 100000 * 1000 := Int.mul_le_mul hmm.2 (by omega) (by omega) (by omega)
  have m2 : 0 ≤ x.m * a := Int.mul_nonneg hmm.1 (by omega)
  have m3 : x.m * b ≤ 100000 * 1000 := Int.mul_le_mul hmm.2 (by omega) (by omega) (by omega)
  have m4 : 0 ≤ x.m * b := Int.mul_nonneg hmm.1 (by omega)
  have u1 := hW4.cell (o := 1) rfl rfl
  have u2 := hW4.cell (o := 2) rfl rfl
  obtain ⟨w5, k5, hR5, g5⟩ := put w4 hR4 g4 (L[(L.length - 1) / 4] + x.m * a) (L[L.length - 1 - (L.length - 1) / 4] + x.m * b)
  have r0 := (hR5).cell (o := 0) rfl rfl
  have r1 := (hR5).cell (o := 1) rfl rfl
  have hvn : valMn x S F kd a b = L[(L.length - 1) / 4] + x.m * a := by rw [valMn, if_pos hE3, hL, gd1]
  have hvx : valMx x S F kd a b = L[L.length - 1 - (L.length - 1) / 4] + x.m * b := by rw [valMx, if_pos hE3, hL, gd2]
  generalize L[(L.length - 1) / 4] = y1 at *
  generalize L[L.length - 1 - (L.length - 1) / 4] = y2 at *
  generalize hQ : (L.length - 1) / 4 = Q at *
  generalize hQ2 : L.length - 1 - Q = Q2 at *
  simp -dsimp -implicitDefEqProofs (maxSteps := 2000000) (disch := first | assumption | omega | (simp only [AW.next_push, AW.next_put]; omega) | ((repeat refine Fresh.push ?_ _); assumption) | (simp only [same_int, same_bool, same_ptr, same_slice, same_sliceP, same_nil, same_agg2, same_string]; done) | (simp [oneCell, AW.next_push]; done) | fail) only [go_sem, Nat.reduceEqDiff, reduceIte, Nat.reduceAdd, Int.toNat_natCast, Nat.add_zero, Owes_true, Try.results19, Nat.zero_add, c2, c4, hn, hlq, hn4, indexV_eq, l1, l2, e2, a0, d0, u1, u2, k5, r0, r1]
  exact ⟨by rw [hvn, hvx, hE3], g5⟩
end Go.Proofs
