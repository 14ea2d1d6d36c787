/- This program: its code, contracts, numbers, part 7. -/
import Derived.Test.YthnpnooiidnbeaaGreatPaf
import Derived.Test.YthnpnooiidnbeaaGreatNd
import Derived.Test.YthnpnooiidnbeaaGreatNc
import Derived.Test.YthnpnooiidnbeaaGreatPae
import Derived.Test.YthnpnooiidnbeaaGreatRows
import Derived.ProofKit
import Derived.SizedLaws
set_option linter.unusedVariables false
set_option linter.unusedSimpArgs false
namespace Go.Proofs
open Go Go.RowKit Go.Sim
set_option maxRecDepth 100000
theorem chooseR_sub {l : List DealN} {sum : Int} {m : Nat} : ∀ (L ch : List Nat), ∀ x ∈ chooseR l sum m ch L, x ∈ ch ∨ x ∈ L
  | [], ch, x, h => .inl h
  | y :: L, ch, x, h => by
    unfold chooseR at h
    split at h
    · exact .inl h
    · split at h
      · rcases chooseR_sub L (ch ++ [y]) x h with q | q
        · rw [List.mem_append, List.mem_singleton] at q
          rcases q with z | rfl
          · exact .inl z
          · exact .inr (by simp)
        · exact .inr (List.mem_cons_of_mem _ q)
      · rcases chooseR_sub L ch x h with q | q
        · exact .inl q
        · exact .inr (List.mem_cons_of_mem _ q)
set_option maxHeartbeats 16000000 in
theorem ReasonsR_ok (l : List DealN) (L : List (Int × Int)) (W : WatchN) (v0 v1 : Value) (k : Int) (w : AW) (f : Fresh w) (hs : ArrOf w 3 dcells v0 l) (hL : ArrOf w 2 lcells v1 L) :
    CallT Tryz.prog Tryz.T1 (.fn (.func 33) #[]) #[v0, v1, .agg #[.int .i64 W.days, .int .i64 W.sum, .int .i64 W.small, .int .i64 W.more], .int .i64 k] w (fun r w' => ReasIs l L W k r w' ∧ Grown w w') := by
  obtain ⟨p0, c0, rfl, _⟩ := id hs.open
  obtain ⟨p1, c1, rfl, _⟩ := id hL.open
  have gw := (Grown.refl f).push (.cells [.int .i64 W.days, .int .i64 W.sum, .int .i64 W.small, .int .i64 W.more] 46 w.next 0 0)
  have o1 := Own.new f 46 [.int .i64 W.days, .int .i64 W.sum, .int .i64 W.small, .int .i64 W.more]
  have hlo := watch_load o1
  have hs4 := same_agg4 W.days W.sum W.small W.more
  refine callT_code rfl Tryz.func33 rfl Tryz.s33_eq rfl ?_
  unfold Tryz.s33
  simp -dsimp -implicitDefEqProofs (maxSteps := 2000000) (disch := first | assumption | omega | (simp only [nx]; omega) | ((repeat refine Fresh.push ?_ _); assumption) | (simp only [smA]; done) | (simp [oneCell, AW.next_push]; done) | fail) only [go_sem, Nat.reduceEqDiff, reduceIte, Nat.reduceAdd, Int.toNat_natCast, Nat.add_zero, Owes_true, Tryz.results33, hlo, hs4]
  clear hlo
  generalize hwb : w.push (.cells [.int .i64 W.days, .int .i64 W.sum, .int .i64 W.small, .int .i64 W.more] 46 w.next 0 0) = wb at *
  apply callV_of (e := rfl)
  · exact reportR_ok l L W _ _ wb gw.2 (hs.grown gw) (hL.grown gw)
  rintro _ wc ⟨rfl, gc⟩
  have gwc := gw.trans gc
  have oc := o1.keep gc.1
  cases hb : reportB l L W with
  | false =>
    simp -dsimp -implicitDefEqProofs (maxSteps := 2000000) (disch := first | assumption | omega | (simp only [nx]; omega) | ((repeat refine Fresh.push ?_ _); assumption) | (simp only [smA]; done) | (simp [oneCell, AW.next_push]; done) | fail) only [go_sem, Nat.reduceEqDiff, reduceIte, Nat.reduceAdd, Int.toNat_natCast, Nat.add_zero, Owes_true, Tryz.results33, hb]
    exact ⟨Or.inl ⟨hb, rfl⟩, gwc⟩
  | true =>
  have hb' := hb
  simp only [reportB, Bool.and_eq_true] at hb'
  obtain ⟨⟨hd, hlk⟩, hW⟩ := hb'
  have hW' := hW
  simp only [watchB, Bool.and_eq_true, inR_iff] at hW'
  simp only [dealsB, Bool.and_eq_true, decide_eq_true_eq] at hd
  obtain ⟨⟨hl64, hdall⟩, hord⟩ := hd
  have hdd : ∀ d ∈ l, dealB d = true := fun d hd => List.all_eq_true.mp hdall d hd
  simp -dsimp -implicitDefEqProofs (maxSteps := 2000000) (disch := first | assumption | omega | (simp only [nx]; omega) | ((repeat refine Fresh.push ?_ _); assumption) | (simp only [smA]; done) | (simp [oneCell, AW.next_push]; done) | fail) only [go_sem, Nat.reduceEqDiff, reduceIte, Nat.reduceAdd, Int.toNat_natCast, Nat.add_zero, Owes_true, Tryz.results33, hb]
  apply callV_of (e := rfl)
  · exact FromV_ok _ _ _ _
  rintro _ _ ⟨rfl, rfl⟩
  cases hin : inR 0 k ((l.length : Int) - 1) with
  | false =>
    simp -dsimp -implicitDefEqProofs (maxSteps := 2000000) (disch := first | assumption | omega | (simp only [nx]; omega) | ((repeat refine Fresh.push ?_ _); assumption) | (simp only [smA]; done) | (simp [oneCell, AW.next_push]; done) | fail) only [go_sem, Nat.reduceEqDiff, reduceIte, Nat.reduceAdd, Int.toNat_natCast, Nat.add_zero, Owes_true, Tryz.results33, hin]
    exact ⟨Or.inr (.inl ⟨hb, hin, rfl⟩), gwc⟩
  | true =>
  have hki := (inR_iff _ _ _).1 hin
  obtain ⟨n, rfl⟩ : ∃ n : Nat, k = (n : Int) := ⟨k.toNat, by omega⟩
  have hn : n < l.length := by omega
  have hlc := watch_load oc
  simp -dsimp -implicitDefEqProofs (maxSteps := 2000000) (disch := first | assumption | omega | (simp only [nx]; omega) | ((repeat refine Fresh.push ?_ _); assumption) | (simp only [smA]; done) | (simp [oneCell, AW.next_push]; done) | fail) only [go_sem, Nat.reduceEqDiff, reduceIte, Nat.reduceAdd, Int.toNat_natCast, Nat.add_zero, Owes_true, Tryz.results33, hin, hlc, hs4]
  apply callV_of (e := rfl)
  · exact linkedR_ok L _ wc gwc.2 (hL.grown gwc) (links_all hlk)
  rintro _ w1 ⟨⟨A, b, hA, rfl, hR⟩, g1⟩
  have gw1 := gwc.trans g1
  have ow1 := oc.keep g1.1
  have hAl := hA.len
  have hle1 := g1.1.wle gwc.2
  simp -dsimp -implicitDefEqProofs (maxSteps := 2000000) (disch := first | assumption | omega | (simp only [nx]; omega) | ((repeat refine Fresh.push ?_ _); assumption) | (simp only [smA]; done) | (simp [oneCell, AW.next_push]; done) | fail) only [go_sem, Nat.reduceEqDiff, reduceIte, Nat.reduceAdd, Int.toNat_natCast, Nat.add_zero, Owes_true, Tryz.results33, hle1]
  apply callV_of (e := rfl)
  · exact windowR_ok l W A hAl n hn hl64 b _ w1 gw1.2 (hs.grown gw1) hdd hW hR
  rintro _ w5 ⟨⟨p5, n5, c5, rfl, hR5⟩, g5⟩
  have gw5 := gw1.trans g5
  have o5 := ow1.keep g5.1
  have hl5 := watch_load o5
  have hwlen : (winOf W A l n).length ≤ 64 := by have := winTo_len W A l n (n + 1); unfold winOf; omega
  have hwlt : ∀ x ∈ winOf W A l n, x < l.length := fun x hx => by have := winOf_lt x hx; omega
  simp -dsimp -implicitDefEqProofs (maxSteps := 2000000) (disch := first | assumption | omega | (simp only [nx]; omega) | ((repeat refine Fresh.push ?_ _); assumption) | (simp only [smA]; done) | (simp [oneCell, AW.next_push]; done) | fail) only [go_sem, Nat.reduceEqDiff, reduceIte, Nat.reduceAdd, Int.toNat_natCast, Nat.add_zero, Owes_true, Tryz.results33, hl5, hs4]
  apply callV_of (e := rfl)
  · exact reportedR_ok l W (winOf W A l n) hwlt hwlen hl64 _ _ w5 gw5.2 (hs.grown gw5) (hR5.arr hwlen) hdd hW
  rintro _ w6 ⟨rfl, g6⟩
  have gw6 := gw5.trans g6
  have hR6 := hR5.grown g6
  have o6 := o5.keep g6.1
  have c1 := o6.cell (o := 1) rfl rfl
  by_cases hsum : sumW l (winOf W A l n) ≥ W.sum
  · have hsd : decide (sumW l (winOf W A l n) ≥ W.sum) = true := decide_eq_true hsum
    rw [hsd, Bool.true_or]
    simp -dsimp -implicitDefEqProofs (maxSteps := 2000000) (disch := first | assumption | omega | (simp only [nx]; omega) | ((repeat refine Fresh.push ?_ _); assumption) | (simp only [smA]; done) | (simp [oneCell, AW.next_push]; done) | fail) only [go_sem, Nat.reduceEqDiff, reduceIte, Nat.reduceAdd, Int.toNat_natCast, Nat.add_zero, Owes_true, Tryz.results33, Nat.zero_add, c1]
    apply callV_of (e := rfl)
    · exact totalR_ok l (winOf W A l n) hwlt hwlen hl64 _ _ w6 gw6.2 (hs.grown gw6) (hR6.arr hwlen) hdd
    rintro _ _ ⟨rfl, rfl⟩
    have hle6 := WLe.refl w6
    simp -dsimp -implicitDefEqProofs (maxSteps := 2000000) (disch := first | assumption | omega | (simp only [nx]; omega) | ((repeat refine Fresh.push ?_ _); assumption) | (simp only [smA]; done) | (simp [oneCell, AW.next_push]; done) | fail) only [go_sem, Nat.reduceEqDiff, reduceIte, Nat.reduceAdd, Int.toNat_natCast, Nat.add_zero, Owes_true, Tryz.results33, hle6, hsd, Nat.zero_add, c1]
    apply callV_of (e := rfl)
    · exact leastR_ok l _ hl64 hdd (winOf W A l n) hwlt hwlen _ w6 gw6.2 (hs.grown gw6) (PartN.row hR6 hwlen) W.sum (by omega) (by omega) hsum
    rintro _ w7 ⟨m, p7, n7, c7, hF, rfl, hR7, g7⟩
    simp -dsimp -implicitDefEqProofs (maxSteps := 2000000) (disch := first | assumption | omega | (simp only [nx]; omega) | ((repeat refine Fresh.push ?_ _); assumption) | (simp only [smA]; done) | (simp [oneCell, AW.next_push]; done) | fail) only [go_sem, Nat.reduceEqDiff, reduceIte, Nat.reduceAdd, Int.toNat_natCast, Nat.add_zero, Owes_true, Tryz.results33]
    exact ⟨.inr (.inr ⟨hb, n, A, rfl, hn, hA, .inl ⟨hsum, m, p7, n7, c7, hF, rfl, hR7, fun x hx => (chooseR_sub _ _ x hx).resolve_left (by simp)⟩⟩), gw6.trans g7⟩
  have hsd : decide (sumW l (winOf W A l n) ≥ W.sum) = false := decide_eq_false hsum
  rw [hsd, Bool.false_or]
  by_cases hmore : ((smalls W l (winOf W A l n)).length : Int) ≥ W.more
  case neg =>
    have hdm : decide (((smalls W l (winOf W A l n)).length : Int) ≥ W.more) = false := decide_eq_false hmore
    simp -dsimp -implicitDefEqProofs (maxSteps := 2000000) (disch := first | assumption | omega | (simp only [nx]; omega) | ((repeat refine Fresh.push ?_ _); assumption) | (simp only [smA]; done) | (simp [oneCell, AW.next_push]; done) | fail) only [go_sem, Nat.reduceEqDiff, reduceIte, Nat.reduceAdd, Int.toNat_natCast, Nat.add_zero, Owes_true, Tryz.results33, hdm]
    exact ⟨.inr (.inr ⟨hb, n, A, rfl, hn, hA, .inr (.inr ⟨by omega, by omega, rfl⟩)⟩), gw6⟩
  have hdm : decide (((smalls W l (winOf W A l n)).length : Int) ≥ W.more) = true := decide_eq_true hmore
  simp -dsimp -implicitDefEqProofs (maxSteps := 2000000) (disch := first | assumption | omega | (simp only [nx]; omega) | ((repeat refine Fresh.push ?_ _); assumption) | (simp only [smA]; done) | (simp [oneCell, AW.next_push]; done) | fail) only [go_sem, Nat.reduceEqDiff, reduceIte, Nat.reduceAdd, Int.toNat_natCast, Nat.add_zero, Owes_true, Tryz.results33, hdm, Nat.zero_add, c1]
  apply callV_of (e := rfl)
  · exact totalR_ok l (winOf W A l n) hwlt hwlen hl64 _ _ w6 gw6.2 (hs.grown gw6) (hR6.arr hwlen) hdd
  rintro _ _ ⟨rfl, rfl⟩
  have hle6 := WLe.refl w6
  have hl6 := watch_load o6
  have c3 := o6.cell (o := 3) rfl rfl
  obtain ⟨M, hM⟩ : ∃ M : Nat, W.more = (M : Int) := ⟨W.more.toNat, by omega⟩
  simp -dsimp -implicitDefEqProofs (maxSteps := 2000000) (disch := first | assumption | omega | (simp only [nx]; omega) | ((repeat refine Fresh.push ?_ _); assumption) | (simp only [smA]; done) | (simp [oneCell, AW.next_push]; done) | fail) only [go_sem, Nat.reduceEqDiff, reduceIte, Nat.reduceAdd, Int.toNat_natCast, Nat.add_zero, Owes_true, Tryz.results33, hle6, hsd, hl6, hs4, Nat.zero_add, c3]
  apply callV_of (e := rfl)
  · exact smallR_ok l W (winOf W A l n) hwlt hwlen hl64 _ _ w6 gw6.2 (hs.grown gw6) (hR6.arr hwlen) hW
  rintro _ w7 ⟨⟨p7, n7, c7, rfl, hR7⟩, g7⟩
  obtain rfl := hR7.len
  have hle7 := g7.1.wle gw6.2
  have hsl2 := smalls_len W l (winOf W A l n)
  obtain ⟨bs, ebs, hsl, hAs⟩ := row_take (a := M) hR7 (by omega) (by omega) (by omega)
  injection ebs with eb1 eb2 eb3
  subst eb1 eb3
  rw [← hM] at hsl
  simp -dsimp -implicitDefEqProofs (maxSteps := 2000000) (disch := first | assumption | omega | (simp only [nx]; omega) | ((repeat refine Fresh.push ?_ _); assumption) | (simp only [smA]; done) | (simp [oneCell, AW.next_push]; done) | fail) only [go_sem, Nat.reduceEqDiff, reduceIte, Nat.reduceAdd, Int.toNat_natCast, Nat.add_zero, Owes_true, Tryz.results33, hle7, hsl]
  refine ⟨.inr (.inr ⟨hb, n, A, rfl, hn, hA, .inr (.inl ⟨by omega, by omega, _, _, _, rfl, ?_⟩)⟩), gw6.trans g7⟩
  rw [hM, Int.toNat_natCast]; exact hAs
end Go.Proofs

namespace Go.Proofs
open Go Go.RowKit Go.Sim
set_option maxRecDepth 100000
theorem takeT_eq {L M : List Int} {i : Nat} (h : L.take i = M.take i) (a : i < L.length) (b : i < M.length) : (L.take (i + 1) = M.take (i + 1)) ↔ L[i] = M[i] := by
  rw [List.take_succ_eq_append_getElem a, List.take_succ_eq_append_getElem b, h]
  exact ⟨fun e => by have := List.append_cancel_left e; injection this, fun e => by rw [e]⟩
set_option maxHeartbeats 4000000 in
theorem SameT_ok (L M : List Int) (u v : Value) (w : AW) (hL : ArrOf w 1 icells u L) (hM : ArrOf w 1 icells v M) :
    CallT Tryz.prog Tryz.T1 (.fn (.func 16) #[]) #[u, v] w (Ret (.bool (decide (L = M))) fun w' => w = w') := by
  obtain ⟨p, cap, rfl, _, _, hatC⟩ := id hL.open
  obtain ⟨q, cq, rfl, _, _, hatH⟩ := id hM.open
  refine callT_code rfl Tryz.func16 rfl Tryz.s16_eq rfl ?_
  unfold Tryz.s16
  by_cases hl : (L.length : Int) = (M.length : Int)
  case neg =>
    have hd : decide ((L.length : Int) = (M.length : Int)) = false := decide_eq_false hl
    have hE : decide (L = M) = false := decide_eq_false fun e => hl (by rw [e])
    simp -dsimp -implicitDefEqProofs (maxSteps := 2000000) (disch := first | assumption | omega | (simp only [nx]; omega) | ((repeat refine Fresh.push ?_ _); assumption) | (simp only [smA]; done) | (simp [oneCell, AW.next_push]; done) | fail) only [go_sem, Nat.reduceEqDiff, reduceIte, Nat.reduceAdd, Int.toNat_natCast, Nat.add_zero, Owes_true, Tryz.results16, hd]
    refine loopR (fun k t ds w1 => ∃ i : Nat, i ≤ 0 ∧ k = 0 - i ∧ ds = [] ∧ ev t (.tmp 5) = .bool false ∧ w = w1) (0) ?_ ?_
    · refine ⟨0, by omega, by omega, rfl, ?_, rfl⟩ <;> simp -dsimp -implicitDefEqProofs (maxSteps := 2000000) (disch := first | assumption | omega | (simp only [nx]; omega) | ((repeat refine Fresh.push ?_ _); assumption) | (simp only [smA]; done) | (simp [oneCell, AW.next_push]; done) | fail) only [go_sem, Nat.reduceEqDiff, reduceIte, Nat.reduceAdd, Int.toNat_natCast, Nat.add_zero, Owes_true] <;> rfl
    rintro k t ds w1 ⟨i, hii, rfl, rfl, e5, hw⟩
    subst hw
    simp -dsimp -implicitDefEqProofs (maxSteps := 2000000) (disch := first | assumption | omega | (simp only [nx]; omega) | ((repeat refine Fresh.push ?_ _); assumption) | (simp only [smA]; done) | (simp [oneCell, AW.next_push]; done) | fail) only [go_sem, Nat.reduceEqDiff, reduceIte, Nat.reduceAdd, Int.toNat_natCast, Nat.add_zero, Owes_true, Tryz.results16, e5]
    exact ⟨by rw [hE], rfl⟩
  have hd : decide ((L.length : Int) = (M.length : Int)) = true := decide_eq_true hl
  simp -dsimp -implicitDefEqProofs (maxSteps := 2000000) (disch := first | assumption | omega | (simp only [nx]; omega) | ((repeat refine Fresh.push ?_ _); assumption) | (simp only [smA]; done) | (simp [oneCell, AW.next_push]; done) | fail) only [go_sem, Nat.reduceEqDiff, reduceIte, Nat.reduceAdd, Int.toNat_natCast, Nat.add_zero, Owes_true, Tryz.results16, hd]
  refine loopR (fun k t ds w1 => ∃ i : Nat, i ≤ L.length ∧ k = L.length - i ∧ ds = [] ∧ ev t (.tmp 0) = .slice p L.length cap ∧ ev t (.tmp 1) = .slice q M.length cq ∧ ev t (.tmp 6) = .int .i64 (i : Int) ∧ w = w1 ∧ ∃ B, ev t (.tmp 5) = .bool B ∧ (B = true → L.take i = M.take i) ∧ (B = false → L ≠ M)) (L.length) ?_ ?_
  · refine ⟨0, by omega, by omega, rfl, ?_, ?_, ?_, rfl, ⟨true, (by simp -dsimp -implicitDefEqProofs (maxSteps := 2000000) (disch := first | assumption | omega | (simp only [nx]; omega) | ((repeat refine Fresh.push ?_ _); assumption) | (simp only [smA]; done) | (simp [oneCell, AW.next_push]; done) | fail) only [go_sem, Nat.reduceEqDiff, reduceIte, Nat.reduceAdd, Int.toNat_natCast, Nat.add_zero, Owes_true]; try rfl), (fun _ => rfl), fun h => by cases h⟩⟩ <;> simp -dsimp -implicitDefEqProofs (maxSteps := 2000000) (disch := first | assumption | omega | (simp only [nx]; omega) | ((repeat refine Fresh.push ?_ _); assumption) | (simp only [smA]; done) | (simp [oneCell, AW.next_push]; done) | fail) only [go_sem, Nat.reduceEqDiff, reduceIte, Nat.reduceAdd, Int.toNat_natCast, Nat.add_zero, Owes_true] <;> rfl
  rintro k t ds w1 ⟨i, hii, rfl, rfl, e0, e1, e6, hw, hB⟩
  subst hw
  obtain ⟨B, e5, hB1, hB2⟩ := hB
  cases B with
  | false =>
    simp -dsimp -implicitDefEqProofs (maxSteps := 2000000) (disch := first | assumption | omega | (simp only [nx]; omega) | ((repeat refine Fresh.push ?_ _); assumption) | (simp only [smA]; done) | (simp [oneCell, AW.next_push]; done) | fail) only [go_sem, Nat.reduceEqDiff, reduceIte, Nat.reduceAdd, Int.toNat_natCast, Nat.add_zero, Owes_true, Tryz.results16, e5]
    exact ⟨by rw [decide_eq_false (hB2 rfl)], rfl⟩
  | true =>
  have ha := hB1 rfl
  by_cases hlt : (i : Int) < (L.length : Int)
  case neg =>
    obtain rfl : i = L.length := by omega
    have hE : L = M := by rw [List.take_of_length_le (Nat.le_refl _), List.take_of_length_le (by omega)] at ha; exact ha
    simp -dsimp -implicitDefEqProofs (maxSteps := 2000000) (disch := first | assumption | omega | (simp only [nx]; omega) | ((repeat refine Fresh.push ?_ _); assumption) | (simp only [smA]; done) | (simp [oneCell, AW.next_push]; done) | fail) only [go_sem, Nat.reduceEqDiff, reduceIte, Nat.reduceAdd, Int.toNat_natCast, Nat.add_zero, Owes_true, Tryz.results16, e0, e1, e5, e6, hlt]
    exact ⟨by rw [decide_eq_true hE], rfl⟩
  have hlt' : i < L.length := by omega
  have hltM : i < M.length := by omega
  have hltM' : (i : Int) < (M.length : Int) := by omega
  have hte := takeT_eq ha hlt' hltM
  obtain ⟨b1, o1, rfl, hb1, hc1⟩ := hatC i hlt'
  obtain ⟨b2, o2, rfl, hb2, hc2⟩ := hatH i hltM
  have aC := hc1 _ (Keep.refl _ _) 0 _ rfl
  have aH := hc2 _ (Keep.refl _ _) 0 _ rfl
  simp only [Nat.add_zero] at aC aH
  by_cases hq : L[i] = M[i]
  · have hqd : decide (L[i] = M[i]) = true := decide_eq_true hq
    simp -dsimp -implicitDefEqProofs (maxSteps := 2000000) (disch := first | assumption | omega | (simp only [nx]; omega) | ((repeat refine Fresh.push ?_ _); assumption) | (simp only [smA]; done) | (simp [oneCell, AW.next_push]; done) | fail) only [go_sem, Nat.reduceEqDiff, reduceIte, Nat.reduceAdd, Int.toNat_natCast, Nat.add_zero, Owes_true, Tryz.results16, e0, e1, e5, e6, hlt, hltM', indexV_eq, aC, aH, hqd]
    refine ⟨_, by omega, i + 1, by omega, rfl, rfl, by (simp -dsimp -implicitDefEqProofs (maxSteps := 2000000) (disch := first | assumption | omega | (simp only [nx]; omega) | ((repeat refine Fresh.push ?_ _); assumption) | (simp only [smA]; done) | (simp [oneCell, AW.next_push]; done) | fail) only [go_sem, Nat.reduceEqDiff, reduceIte, Nat.reduceAdd, Int.toNat_natCast, Nat.add_zero, Owes_true, e0]; try rfl), by (simp -dsimp -implicitDefEqProofs (maxSteps := 2000000) (disch := first | assumption | omega | (simp only [nx]; omega) | ((repeat refine Fresh.push ?_ _); assumption) | (simp only [smA]; done) | (simp [oneCell, AW.next_push]; done) | fail) only [go_sem, Nat.reduceEqDiff, reduceIte, Nat.reduceAdd, Int.toNat_natCast, Nat.add_zero, Owes_true, e1]; try rfl), by (simp -dsimp -implicitDefEqProofs (maxSteps := 2000000) (disch := first | assumption | omega | (simp only [nx]; omega) | ((repeat refine Fresh.push ?_ _); assumption) | (simp only [smA]; done) | (simp [oneCell, AW.next_push]; done) | fail) only [go_sem, Nat.reduceEqDiff, reduceIte, Nat.reduceAdd, Int.toNat_natCast, Nat.add_zero, Owes_true, e6]; try rfl), rfl, ⟨true, (by simp -dsimp -implicitDefEqProofs (maxSteps := 2000000) (disch := first | assumption | omega | (simp only [nx]; omega) | ((repeat refine Fresh.push ?_ _); assumption) | (simp only [smA]; done) | (simp [oneCell, AW.next_push]; done) | fail) only [go_sem, Nat.reduceEqDiff, reduceIte, Nat.reduceAdd, Int.toNat_natCast, Nat.add_zero, Owes_true]; try rfl), (fun _ => hte.2 hq), fun h => by cases h⟩⟩
  · have hqd : decide (L[i] = M[i]) = false := decide_eq_false hq
    simp -dsimp -implicitDefEqProofs (maxSteps := 2000000) (disch := first | assumption | omega | (simp only [nx]; omega) | ((repeat refine Fresh.push ?_ _); assumption) | (simp only [smA]; done) | (simp [oneCell, AW.next_push]; done) | fail) only [go_sem, Nat.reduceEqDiff, reduceIte, Nat.reduceAdd, Int.toNat_natCast, Nat.add_zero, Owes_true, Tryz.results16, e0, e1, e5, e6, hlt, hltM', indexV_eq, aC, aH, hqd]
    refine ⟨_, by omega, i + 1, by omega, rfl, rfl, by (simp -dsimp -implicitDefEqProofs (maxSteps := 2000000) (disch := first | assumption | omega | (simp only [nx]; omega) | ((repeat refine Fresh.push ?_ _); assumption) | (simp only [smA]; done) | (simp [oneCell, AW.next_push]; done) | fail) only [go_sem, Nat.reduceEqDiff, reduceIte, Nat.reduceAdd, Int.toNat_natCast, Nat.add_zero, Owes_true, e0]; try rfl), by (simp -dsimp -implicitDefEqProofs (maxSteps := 2000000) (disch := first | assumption | omega | (simp only [nx]; omega) | ((repeat refine Fresh.push ?_ _); assumption) | (simp only [smA]; done) | (simp [oneCell, AW.next_push]; done) | fail) only [go_sem, Nat.reduceEqDiff, reduceIte, Nat.reduceAdd, Int.toNat_natCast, Nat.add_zero, Owes_true, e1]; try rfl), by (simp -dsimp -implicitDefEqProofs (maxSteps := 2000000) (disch := first | assumption | omega | (simp only [nx]; omega) | ((repeat refine Fresh.push ?_ _); assumption) | (simp only [smA]; done) | (simp [oneCell, AW.next_push]; done) | fail) only [go_sem, Nat.reduceEqDiff, reduceIte, Nat.reduceAdd, Int.toNat_natCast, Nat.add_zero, Owes_true, e6]; try rfl), rfl, ⟨false, (by simp -dsimp -implicitDefEqProofs (maxSteps := 2000000) (disch := first | assumption | omega | (simp only [nx]; omega) | ((repeat refine Fresh.push ?_ _); assumption) | (simp only [smA]; done) | (simp [oneCell, AW.next_push]; done) | fail) only [go_sem, Nat.reduceEqDiff, reduceIte, Nat.reduceAdd, Int.toNat_natCast, Nat.add_zero, Owes_true]; try rfl), (fun h => by cases h), fun _ e => hq (hte.1 (by rw [e]))⟩⟩
theorem choose_len {l : List DealN} {sum : Int} {m : Nat} : ∀ (L ch : List Nat), (chooseR l sum m ch L).length ≤ ch.length + L.length
  | [], ch => by unfold chooseR; simp
  | y :: L, ch => by
    unfold chooseR
    split
    · simp
    · split
      · have := choose_len (l := l) (sum := sum) (m := m) L (ch ++ [y])
        rw [List.length_append] at this; simp at this ⊢; omega
      · have := choose_len (l := l) (sum := sum) (m := m) L ch
        simp at this ⊢; omega
theorem Tryz.un3a : Tryz.prog.underlying 3 = some (.int .i64) := by kernel_rfl
theorem Tryz.agg3a : prun Tryz.prog (isAgg 3) = some false := by kernel_rfl
theorem Tryz.un54 : Tryz.prog.underlying 54 = some (.struct #[{ name := "Person", type := 3, offset := 0, embedded := false, tag := "", pkgPath := "", byteOffset := 0 }, { name := "Dealing", type := 3, offset := 1, embedded := false, tag := "", pkgPath := "", byteOffset := 8 }, { name := "Sum", type := 3, offset := 2, embedded := false, tag := "", pkgPath := "", byteOffset := 16 }]) := by kernel_rfl
theorem Tryz.nq54 (a b c : Int) : eqQ Tryz.prog .neq 54 (.agg #[.int .i64 a, .int .i64 b, .int .i64 c]) (.agg #[.int .i64 a, .int .i64 b, .int .i64 c]) = some (.bool false) := by
  have h := eqQ_neq (P := Tryz.prog) (ty := 54) (xs := #[.int .i64 a, .int .i64 b, .int .i64 c]) (ys := #[.int .i64 a, .int .i64 b, .int .i64 c]) (b := [a == a, b == b, c == c].all id) (by kernel_rfl) rfl (eqStruct Tryz.un54 (by kernel_rfl) (n := 9999) (.cons (eqF_int (k := .i64) (by decide) Tryz.un3a Tryz.agg3a rfl rfl) (.cons (eqF_int (k := .i64) (by decide) Tryz.un3a Tryz.agg3a rfl rfl) (.cons (eqF_int (k := .i64) (by decide) Tryz.un3a Tryz.agg3a rfl rfl) .nil))))
  rw [h]; simp
attribute [go_sem] Tryz.nq54
theorem own_arr {w : AW} {b n : Nat} {e : TypeId} {A : List Int} (O : Own w b e (icl A)) (hA : A.length = n) (hn : n ≤ 64) : ArrOf w 1 icells (.slice (some ⟨b, 0, none⟩) n n) A := by
  refine ⟨_, n, n, rfl, by rw [List.length_map]; exact hA, Nat.le_refl _, by omega, fun _ => ⟨b, 0, rfl, O.lt, fun i j r x hi hx => ?_⟩⟩
  rw [List.getElem?_map] at hi
  obtain ⟨y, hy, rfl⟩ := Option.map_eq_some_iff.mp hi
  have hj : j = 0 := by
    rcases Nat.eq_zero_or_pos j with q | q
    · exact q
    · rw [List.getElem?_eq_none (by simp [icells]; omega)] at hx; cases hx
  subst hj
  simp only [icells, List.getElem?_cons_zero, Option.some.injEq] at hx
  subst hx
  have := O.cell (o := i) (v := .int .i64 y) (by unfold icl; rw [List.getElem?_map, hy]; rfl) rfl
  simpa using this
def LinkKey (L : List (Int × Int)) (X : List Int) (e : Int) : Prop := (linksB L = false ∧ X = [] ∧ e = 83) ∨ (linksB L = true ∧ Labs L X ∧ e = 0)
theorem LinkKey.one {L : List (Int × Int)} {X Y : List Int} {e f : Int} (h : LinkKey L X e) (k : LinkKey L Y f) : X = Y ∧ e = f := by
  rcases h with ⟨h1, rfl, rfl⟩ | ⟨h1, h2, rfl⟩ <;> rcases k with ⟨k1, rfl, rfl⟩ | ⟨k1, k2, rfl⟩
  · exact ⟨rfl, rfl⟩
  · rw [h1] at k1; cases k1
  · rw [h1] at k1; cases k1
  · exact ⟨h2.one k2, rfl⟩
def AlKey (l : List DealN) (L : List (Int × Int)) (W : WatchN) (X : List AlN) (e : Int) : Prop := (reportB l L W = false ∧ X = [] ∧ e = 83) ∨ (reportB l L W = true ∧ ∃ A, Labs L A ∧ X = alarmsTo l W A 24 ∧ e = 0)
theorem AlKey.one {l : List DealN} {L : List (Int × Int)} {W : WatchN} {X Y : List AlN} {e f : Int} (h : AlKey l L W X e) (k : AlKey l L W Y f) : X = Y ∧ e = f := by
  rcases h with ⟨h1, rfl, rfl⟩ | ⟨h1, A, hA, rfl, rfl⟩ <;> rcases k with ⟨k1, rfl, rfl⟩ | ⟨k1, B, hB, rfl, rfl⟩
  · exact ⟨rfl, rfl⟩
  · rw [h1] at k1; cases k1
  · rw [h1] at k1; cases k1
  · rw [hA.one hB]; exact ⟨rfl, rfl⟩
theorem al_key {l : List DealN} {L : List (Int × Int)} {W : WatchN} {r : Value} {w : AW} (h : AlarmsIs l L W r w) : ∃ (X : List AlN) (e : Int) (p : Option Addr) (c : Nat), r = .tuple #[.slice p X.length c, .int .i64 e] ∧ ArrOf w 3 alcells (.slice p X.length c) X ∧ AlKey l L W X e := by
  rcases h with ⟨h1, rfl⟩ | ⟨h1, A, p, n, c, hA, rfl, hR⟩
  · exact ⟨[], 83, none, 0, rfl, .nil _ _ _, .inl ⟨h1, rfl, rfl⟩⟩
  · obtain ⟨_, _, ea, _⟩ := hR.open
    injection ea with ea1 ea2 ea3
    subst ea2
    exact ⟨_, 0, p, c, rfl, hR, .inr ⟨h1, A, hA, rfl, rfl⟩⟩
def ReKey (l : List DealN) (L : List (Int × Int)) (W : WatchN) (k : Int) (X : List Int) (e : Int) : Prop :=
  (reportB l L W = false ∧ X = [] ∧ e = 83) ∨ (reportB l L W = true ∧ inR 0 k ((l.length : Int) - 1) = false ∧ X = [] ∧ e = 7) ∨
  (reportB l L W = true ∧ ∃ (n : Nat) (A : List Int), k = (n : Int) ∧ n < l.length ∧ Labs L A ∧
    ((W.sum ≤ sumW l (winOf W A l n) ∧ ∃ m, FewM ((winOf W A l n).map (sumAt l)) W.sum m ∧ X = toI (chooseR l W.sum m [] (winOf W A l n)) ∧ e = 0) ∨
     (sumW l (winOf W A l n) < W.sum ∧ W.more ≤ ((smalls W l (winOf W A l n)).length : Int) ∧ X = toI ((smalls W l (winOf W A l n)).take W.more.toNat) ∧ e = 0) ∨
     (sumW l (winOf W A l n) < W.sum ∧ ((smalls W l (winOf W A l n)).length : Int) < W.more ∧ X = [] ∧ e = 4)))
theorem ReKey.one {l : List DealN} {L : List (Int × Int)} {W : WatchN} {k : Int} {X Y : List Int} {e f : Int} (h : ReKey l L W k X e) (g : ReKey l L W k Y f) : X = Y ∧ e = f := by
  rcases h with ⟨h1, rfl, rfl⟩ | ⟨h1, h2, rfl, rfl⟩ | ⟨h1, n, A, hk, hn, hA, h⟩ <;> rcases g with ⟨g1, rfl, rfl⟩ | ⟨g1, g2, rfl, rfl⟩ | ⟨g1, m, B, gk, gn, gB, g⟩
  · exact ⟨rfl, rfl⟩
  · rw [h1] at g1; cases g1
  · rw [h1] at g1; cases g1
  · rw [h1] at g1; cases g1
  · exact ⟨rfl, rfl⟩
  · rw [(inR_iff _ _ _).2 ⟨by omega, by omega⟩] at h2; cases h2
  · rw [h1] at g1; cases g1
  · rw [(inR_iff _ _ _).2 ⟨by omega, by omega⟩] at g2; cases g2
  · obtain rfl : n = m := by omega
    obtain rfl := hA.one gB
    rcases h with ⟨a1, m, a2, rfl, rfl⟩ | ⟨a1, a2, rfl, rfl⟩ | ⟨a1, a2, rfl, rfl⟩ <;> rcases g with ⟨b1, m', b2, rfl, rfl⟩ | ⟨b1, b2, rfl, rfl⟩ | ⟨b1, b2, rfl, rfl⟩
    · rw [a2.one b2]; exact ⟨rfl, rfl⟩
    all_goals first | exact ⟨rfl, rfl⟩ | (exfalso; omega)
theorem re_key {l : List DealN} {L : List (Int × Int)} {W : WatchN} {k : Int} {r : Value} {w : AW} (h : ReasIs l L W k r w) (hl : reportB l L W = true → l.length ≤ 64) : ∃ (X : List Int) (e : Int) (p : Option Addr) (c : Nat), r = .tuple #[.slice p X.length c, .int .i64 e] ∧ ArrOf w 1 icells (.slice p X.length c) X ∧ ReKey l L W k X e := by
  rcases h with ⟨h, rfl⟩ | ⟨hb, h, rfl⟩ | ⟨hb, n, A, hk, hn, hA, h⟩
  · exact ⟨[], 83, none, 0, rfl, .nil _ _ _, .inl ⟨h, rfl, rfl⟩⟩
  · exact ⟨[], 7, none, 0, rfl, .nil _ _ _, .inr (.inl ⟨hb, h, rfl, rfl⟩)⟩
  · have hl64 := hl hb
    rcases h with ⟨h1, m, p, a, c, hF, rfl, hR, hsub⟩ | ⟨h1, h2, p, a, c, rfl, hR⟩ | ⟨h1, h2, rfl⟩
    · have hR' : ArrOf w 1 icells (.slice p a c) (toI (chooseR l W.sum m [] (winOf W A l n))) := by
        refine hR.arr ?_
        have := choose_len (l := l) (sum := W.sum) (m := m) (winOf W A l n) []
        have := winTo_len W A l n (n + 1)
        simp only [List.length_nil] at *
        unfold winOf at *; omega
      obtain ⟨_, _, ea, _⟩ := hR'.open
      injection ea with ea1 ea2 ea3
      subst ea2
      exact ⟨_, 0, p, c, rfl, hR', .inr (.inr ⟨hb, n, A, hk, hn, hA, .inl ⟨h1, m, hF, rfl, rfl⟩⟩)⟩
    · obtain ⟨_, _, ea, _⟩ := hR.open
      injection ea with ea1 ea2 ea3
      subst ea2
      exact ⟨_, 0, p, c, rfl, hR, .inr (.inr ⟨hb, n, A, hk, hn, hA, .inr (.inl ⟨h1, h2, rfl, rfl⟩)⟩)⟩
    · exact ⟨[], 4, none, 0, rfl, .nil _ _ _, .inr (.inr ⟨hb, n, A, hk, hn, hA, .inr (.inr ⟨h1, h2, rfl, rfl⟩)⟩)⟩
end Go.Proofs

namespace Go.Proofs
open Go Go.RowKit Go.Sim
set_option maxRecDepth 100000
theorem link_key {L : List (Int × Int)} {r : Value} {w : AW} (h : (linksB L = false ∧ r = .tuple #[.slice none 0 0, .int .i64 83]) ∨ (linksB L = true ∧ ∃ A b, Labs L A ∧ r = .tuple #[.slice (some ⟨b, 0, none⟩) 24 24, .int .i64 0] ∧ Own w b 115 (icl A))) : ∃ (X : List Int) (e : Int) (p : Option Addr) (c : Nat), r = .tuple #[.slice p X.length c, .int .i64 e] ∧ ArrOf w 1 icells (.slice p X.length c) X ∧ LinkKey L X e := by
  rcases h with ⟨h1, rfl⟩ | ⟨h1, A, b, hA, rfl, O⟩
  · exact ⟨[], 83, none, 0, rfl, .nil _ _ _, .inl ⟨h1, rfl, rfl⟩⟩
  · exact ⟨A, 0, some ⟨b, 0, none⟩, 24, by rw [hA.len], by rw [hA.len]; exact own_arr O hA.len (by decide), .inr ⟨h1, hA, rfl⟩⟩
theorem link_keyR {L : List (Int × Int)} {r : Value} {w : AW} (h : (linksB L = false ∧ r = .tuple #[.slice none 0 0, .int .i64 83]) ∨ (linksB L = true ∧ ∃ A b, Labs L A ∧ r = .tuple #[.slice (some ⟨b, 0, none⟩) 24 24, .int .i64 0] ∧ ArrOf w 1 icells (.slice (some ⟨b, 0, none⟩) 24 24) A)) : ∃ (X : List Int) (e : Int) (p : Option Addr) (c : Nat), r = .tuple #[.slice p X.length c, .int .i64 e] ∧ ArrOf w 1 icells (.slice p X.length c) X ∧ LinkKey L X e := by
  rcases h with ⟨h1, rfl⟩ | ⟨h1, A, b, hA, rfl, O⟩
  · exact ⟨[], 83, none, 0, rfl, .nil _ _ _, .inl ⟨h1, rfl, rfl⟩⟩
  · exact ⟨A, 0, some ⟨b, 0, none⟩, 24, by rw [hA.len], by rw [hA.len]; exact O, .inr ⟨h1, hA, rfl⟩⟩
set_option maxHeartbeats 32000000 in
theorem alarms_law (w : AW) (xs : List Value) (f : Fresh w) (h : HdAll Tryz.prog w [48, 3] xs) : CallT Tryz.prog Tryz.T1 (.fn (.func 5) #[]) xs.toArray w fun v _ => v = .bool true := by
  cases h with
  | cons n1 h1 h =>
  cases h with
  | cons n2 h2 h =>
  cases h
  rename_i x1 x2
  obtain ⟨v0, v1, W, rfl, ⟨l, hs⟩, L, hL⟩ := given_report h1
  obtain ⟨K, rfl, hK0, hK1⟩ := given_num h2
  clear h1 h2
  obtain ⟨p0, cp0, rfl, _⟩ := id hs.open
  obtain ⟨p1, cp1, rfl, _⟩ := id hL.open
  show CallT Tryz.prog Tryz.T1 (.fn (.func 5) #[]) #[.agg #[.slice p0 l.length cp0, .slice p1 L.length cp1, .int .i64 W.days, .int .i64 W.sum, .int .i64 W.small, .int .i64 W.more], .int .i64 K] w _
  have g2 := (Grown.refl f).push (.cells [.slice p0 l.length cp0, .slice p1 L.length cp1, .int .i64 W.days, .int .i64 W.sum, .int .i64 W.small, .int .i64 W.more] 48 w.next 0 0)
  have O2 := Own.new f 48 [.slice p0 l.length cp0, .slice p1 L.length cp1, .int .i64 W.days, .int .i64 W.sum, .int .i64 W.small, .int .i64 W.more]
  have c0 := (O2).cell (o := 0) rfl rfl
  have c1 := (O2).cell (o := 1) rfl rfl
  have c2 := (O2).cell (o := 2) rfl rfl
  have c3 := (O2).cell (o := 3) rfl rfl
  have c4 := (O2).cell (o := 4) rfl rfl
  have c5 := (O2).cell (o := 5) rfl rfl
  have hs4 := same_agg4 W.days W.sum W.small W.more
  refine callT_code rfl Tryz.func5 rfl Tryz.s5_eq rfl ?_
  unfold Tryz.s5
  simp -dsimp -implicitDefEqProofs (maxSteps := 2000000) (disch := first | assumption | omega | (simp only [nx]; omega) | ((repeat refine Fresh.push ?_ _); assumption) | (simp only [smA]; done) | (simp [oneCell, AW.next_push]; done) | fail) only [go_sem, Nat.reduceEqDiff, reduceIte, Nat.reduceAdd, Int.toNat_natCast, Nat.add_zero, Owes_true, Tryz.results5, Nat.zero_add, c0, c1, c2, c3, c4, c5]
  generalize w.push (.cells [.slice p0 l.length cp0, .slice p1 L.length cp1, .int .i64 W.days, .int .i64 W.sum, .int .i64 W.small, .int .i64 W.more] 48 w.next 0 0) = w2 at *
  apply callV_of (e := rfl)
  · exact Linked_ok L _ w2 g2.2 (hL.grown g2)
  rintro _ w3 ⟨hk3, g3⟩
  obtain ⟨X, e, px, cx, rfl, hX, hXk⟩ := link_key hk3
  have gw3 := g2.trans g3
  have O3 := O2.keep g3.1
  clear c0 c1 c2 c3 c4 c5
  have c0 := (O3).cell (o := 0) rfl rfl
  have c1 := (O3).cell (o := 1) rfl rfl
  have c2 := (O3).cell (o := 2) rfl rfl
  have c3 := (O3).cell (o := 3) rfl rfl
  have c4 := (O3).cell (o := 4) rfl rfl
  have c5 := (O3).cell (o := 5) rfl rfl
  simp -dsimp -implicitDefEqProofs (maxSteps := 2000000) (disch := first | assumption | omega | (simp only [nx]; omega) | ((repeat refine Fresh.push ?_ _); assumption) | (simp only [smA]; done) | (simp [oneCell, AW.next_push]; done) | fail) only [go_sem, Nat.reduceEqDiff, reduceIte, Nat.reduceAdd, Int.toNat_natCast, Nat.add_zero, Owes_true, Tryz.results5, Nat.zero_add, c0, c1, c2, c3, c4, c5]
  apply callV_of (e := rfl)
  · exact LinkedR_ok L _ w3 gw3.2 (hL.grown gw3)
  rintro _ w4 ⟨hk4, g4⟩
  obtain ⟨Y, e', py, cy, rfl, hY, hYk⟩ := link_keyR hk4
  obtain ⟨rfl, rfl⟩ := hXk.one hYk
  have gw4 := gw3.trans g4
  have O4 := O3.keep g4.1
  clear c0 c1 c2 c3 c4 c5
  have c0 := (O4).cell (o := 0) rfl rfl
  have c1 := (O4).cell (o := 1) rfl rfl
  have c2 := (O4).cell (o := 2) rfl rfl
  have c3 := (O4).cell (o := 3) rfl rfl
  have c4 := (O4).cell (o := 4) rfl rfl
  have c5 := (O4).cell (o := 5) rfl rfl
  have hXX : decide (X = X) = true := decide_eq_true rfl
  have hee : decide (e = e) = true := decide_eq_true rfl
  simp -dsimp -implicitDefEqProofs (maxSteps := 2000000) (disch := first | assumption | omega | (simp only [nx]; omega) | ((repeat refine Fresh.push ?_ _); assumption) | (simp only [smA]; done) | (simp [oneCell, AW.next_push]; done) | fail) only [go_sem, Nat.reduceEqDiff, reduceIte, Nat.reduceAdd, Int.toNat_natCast, Nat.add_zero, Owes_true, Tryz.results5, Nat.zero_add, c0, c1, c2, c3, c4, c5]
  apply callV_of (e := rfl)
  · exact SameT_ok X X _ _ w4 (hX.grown g4) hY
  rintro _ _ ⟨rfl, rfl⟩
  simp -dsimp -implicitDefEqProofs (maxSteps := 2000000) (disch := first | assumption | omega | (simp only [nx]; omega) | ((repeat refine Fresh.push ?_ _); assumption) | (simp only [smA]; done) | (simp [oneCell, AW.next_push]; done) | fail) only [go_sem, Nat.reduceEqDiff, reduceIte, Nat.reduceAdd, Int.toNat_natCast, Nat.add_zero, Owes_true, Tryz.results5, hXX, hee, hs4, Nat.zero_add, c0, c1, c2, c3, c4, c5]
  apply callV_of (e := rfl)
  · exact Alarms_ok l L W _ _ w4 gw4.2 (hs.grown gw4) (hL.grown gw4)
  rintro _ w5 ⟨ha5, g5⟩
  obtain ⟨U, e2, pu, cu, rfl, hU, hUk⟩ := al_key ha5
  have gw5 := gw4.trans g5
  have O5 := O4.keep g5.1
  clear c0 c1 c2 c3 c4 c5
  have c0 := (O5).cell (o := 0) rfl rfl
  have c1 := (O5).cell (o := 1) rfl rfl
  have c2 := (O5).cell (o := 2) rfl rfl
  have c3 := (O5).cell (o := 3) rfl rfl
  have c4 := (O5).cell (o := 4) rfl rfl
  have c5 := (O5).cell (o := 5) rfl rfl
  simp -dsimp -implicitDefEqProofs (maxSteps := 2000000) (disch := first | assumption | omega | (simp only [nx]; omega) | ((repeat refine Fresh.push ?_ _); assumption) | (simp only [smA]; done) | (simp [oneCell, AW.next_push]; done) | fail) only [go_sem, Nat.reduceEqDiff, reduceIte, Nat.reduceAdd, Int.toNat_natCast, Nat.add_zero, Owes_true, Tryz.results5, hs4, Nat.zero_add, c0, c1, c2, c3, c4, c5]
  apply callV_of (e := rfl)
  · exact AlarmsR_ok l L W _ _ w5 gw5.2 (hs.grown gw5) (hL.grown gw5)
  rintro _ w6 ⟨ha6, g6⟩
  obtain ⟨V, e3, pv, cv, rfl, hV, hVk⟩ := al_key ha6
  obtain ⟨rfl, rfl⟩ := hUk.one hVk
  have gw6 := gw5.trans g6
  have O6 := O5.keep g6.1
  have hU6 := hU.grown g6
  have hee2 : decide (e2 = e2) = true := decide_eq_true rfl
  have huu : decide ((U.length : Int) = (U.length : Int)) = true := decide_eq_true rfl
  simp -dsimp -implicitDefEqProofs (maxSteps := 2000000) (disch := first | assumption | omega | (simp only [nx]; omega) | ((repeat refine Fresh.push ?_ _); assumption) | (simp only [smA]; done) | (simp [oneCell, AW.next_push]; done) | fail) only [go_sem, Nat.reduceEqDiff, reduceIte, Nat.reduceAdd, Int.toNat_natCast, Nat.add_zero, Owes_true, Tryz.results5, hee2, huu]
  refine loopR (fun k t ds w7 => ∃ i : Nat, i ≤ U.length ∧ k = U.length - i ∧ ds = [] ∧ ev t (.tmp 1) = .int .i64 K ∧ ev t (.tmp 2) = .pointer (some ⟨w.next, 0, none⟩) ∧ ev t (.tmp 9) = .slice pu U.length cu ∧ ev t (.tmp 10) = .slice pv U.length cv ∧ ev t (.tmp 11) = .int .i64 (i : Int) ∧ w7 = w6) (U.length) ?_ ?_
  · refine ⟨0, by omega, by omega, rfl, ?_, ?_, ?_, ?_, ?_, rfl⟩ <;> simp -dsimp -implicitDefEqProofs (maxSteps := 2000000) (disch := first | assumption | omega | (simp only [nx]; omega) | ((repeat refine Fresh.push ?_ _); assumption) | (simp only [smA]; done) | (simp [oneCell, AW.next_push]; done) | fail) only [go_sem, Nat.reduceEqDiff, reduceIte, Nat.reduceAdd, Int.toNat_natCast, Nat.add_zero, Owes_true] <;> rfl
  rintro k t ds w7 ⟨i, hii, rfl, rfl, e1, e2, e9, e10, e11, hw⟩
  subst hw
  by_cases hlt : (i : Int) < (U.length : Int)
  · have hlt' : i < U.length := by omega
    obtain ⟨_, _, eu, _, _, hatU⟩ := hU6.open
    obtain ⟨_, _, ev', _, _, hatV⟩ := hV.open
    injection eu with eu1 _ eu3
    injection ev' with ev1 _ ev3
    subst eu1 eu3 ev1 ev3
    obtain ⟨b1, o1, rfl, hb1, hc1⟩ := hatU i hlt'
    obtain ⟨b2, o2, rfl, hb2, hc2⟩ := hatV i hlt'
    have a0 := hc1 _ (Keep.refl _ _) 0 _ rfl
    have a1 := hc1 _ (Keep.refl _ _) 1 _ rfl
    have a2 := hc1 _ (Keep.refl _ _) 2 _ rfl
    have d0 := hc2 _ (Keep.refl _ _) 0 _ rfl
    have d1 := hc2 _ (Keep.refl _ _) 1 _ rfl
    have d2 := hc2 _ (Keep.refl _ _) 2 _ rfl
    simp only [Nat.add_zero] at a0 d0
    generalize U[i] = u at *
    have hs3 := same_agg3 u.who u.deal u.sum
    simp -dsimp -implicitDefEqProofs (maxSteps := 2000000) (disch := first | assumption | omega | (simp only [nx]; omega) | ((repeat refine Fresh.push ?_ _); assumption) | (simp only [smA]; done) | (simp [oneCell, AW.next_push]; done) | fail) only [go_sem, Nat.reduceEqDiff, reduceIte, Nat.reduceAdd, Int.toNat_natCast, Nat.add_zero, Owes_true, Tryz.results5, e9, e10, e11, hlt, indexV_eq, a0, a1, a2, d0, d1, d2, hs3]
    refine ⟨_, by omega, i + 1, by omega, rfl, rfl, by (simp -dsimp -implicitDefEqProofs (maxSteps := 2000000) (disch := first | assumption | omega | (simp only [nx]; omega) | ((repeat refine Fresh.push ?_ _); assumption) | (simp only [smA]; done) | (simp [oneCell, AW.next_push]; done) | fail) only [go_sem, Nat.reduceEqDiff, reduceIte, Nat.reduceAdd, Int.toNat_natCast, Nat.add_zero, Owes_true, e1]; try rfl), by (simp -dsimp -implicitDefEqProofs (maxSteps := 2000000) (disch := first | assumption | omega | (simp only [nx]; omega) | ((repeat refine Fresh.push ?_ _); assumption) | (simp only [smA]; done) | (simp [oneCell, AW.next_push]; done) | fail) only [go_sem, Nat.reduceEqDiff, reduceIte, Nat.reduceAdd, Int.toNat_natCast, Nat.add_zero, Owes_true, e2]; try rfl), by (simp -dsimp -implicitDefEqProofs (maxSteps := 2000000) (disch := first | assumption | omega | (simp only [nx]; omega) | ((repeat refine Fresh.push ?_ _); assumption) | (simp only [smA]; done) | (simp [oneCell, AW.next_push]; done) | fail) only [go_sem, Nat.reduceEqDiff, reduceIte, Nat.reduceAdd, Int.toNat_natCast, Nat.add_zero, Owes_true, e9]; try rfl), by (simp -dsimp -implicitDefEqProofs (maxSteps := 2000000) (disch := first | assumption | omega | (simp only [nx]; omega) | ((repeat refine Fresh.push ?_ _); assumption) | (simp only [smA]; done) | (simp [oneCell, AW.next_push]; done) | fail) only [go_sem, Nat.reduceEqDiff, reduceIte, Nat.reduceAdd, Int.toNat_natCast, Nat.add_zero, Owes_true, e10]; try rfl), by (simp -dsimp -implicitDefEqProofs (maxSteps := 2000000) (disch := first | assumption | omega | (simp only [nx]; omega) | ((repeat refine Fresh.push ?_ _); assumption) | (simp only [smA]; done) | (simp [oneCell, AW.next_push]; done) | fail) only [go_sem, Nat.reduceEqDiff, reduceIte, Nat.reduceAdd, Int.toNat_natCast, Nat.add_zero, Owes_true, e11]; try rfl), rfl⟩
  clear c0 c1 c2 c3 c4 c5
  have c0 := (O6).cell (o := 0) rfl rfl
  have c1 := (O6).cell (o := 1) rfl rfl
  have c2 := (O6).cell (o := 2) rfl rfl
  have c3 := (O6).cell (o := 3) rfl rfl
  have c4 := (O6).cell (o := 4) rfl rfl
  have c5 := (O6).cell (o := 5) rfl rfl
  simp -dsimp -implicitDefEqProofs (maxSteps := 2000000) (disch := first | assumption | omega | (simp only [nx]; omega) | ((repeat refine Fresh.push ?_ _); assumption) | (simp only [smA]; done) | (simp [oneCell, AW.next_push]; done) | fail) only [go_sem, Nat.reduceEqDiff, reduceIte, Nat.reduceAdd, Int.toNat_natCast, Nat.add_zero, Owes_true, Tryz.results5, e1, e2, e9, e10, e11, hlt, hs4, Nat.zero_add, c0, c1, c2, c3, c4, c5]
  apply callV_of (e := rfl)
  · exact Reasons_ok l L W _ _ K w7 gw6.2 (hs.grown gw6) (hL.grown gw6)
  rintro _ w8 ⟨hr8, g8⟩
  obtain ⟨R, e4, pr, cr, rfl, hR, hRk⟩ := re_key hr8 (fun q => (reportB_iff q).1)
  have gw8 := gw6.trans g8
  have O8 := O6.keep g8.1
  clear c0 c1 c2 c3 c4 c5
  have c0 := (O8).cell (o := 0) rfl rfl
  have c1 := (O8).cell (o := 1) rfl rfl
  have c2 := (O8).cell (o := 2) rfl rfl
  have c3 := (O8).cell (o := 3) rfl rfl
  have c4 := (O8).cell (o := 4) rfl rfl
  have c5 := (O8).cell (o := 5) rfl rfl
  simp -dsimp -implicitDefEqProofs (maxSteps := 2000000) (disch := first | assumption | omega | (simp only [nx]; omega) | ((repeat refine Fresh.push ?_ _); assumption) | (simp only [smA]; done) | (simp [oneCell, AW.next_push]; done) | fail) only [go_sem, Nat.reduceEqDiff, reduceIte, Nat.reduceAdd, Int.toNat_natCast, Nat.add_zero, Owes_true, Tryz.results5, e1, e2, hs4, Nat.zero_add, c0, c1, c2, c3, c4, c5]
  apply callV_of (e := rfl)
  · exact ReasonsR_ok l L W _ _ K w8 gw8.2 (hs.grown gw8) (hL.grown gw8)
  rintro _ w9 ⟨hr9, g9⟩
  obtain ⟨T, e5, pt, ct, rfl, hT, hTk⟩ := re_key hr9 (fun q => (reportB_iff q).1)
  obtain ⟨rfl, rfl⟩ := hRk.one hTk
  have hRR : decide (R = R) = true := decide_eq_true rfl
  have hee4 : decide (e4 = e4) = true := decide_eq_true rfl
  simp -dsimp -implicitDefEqProofs (maxSteps := 2000000) (disch := first | assumption | omega | (simp only [nx]; omega) | ((repeat refine Fresh.push ?_ _); assumption) | (simp only [smA]; done) | (simp [oneCell, AW.next_push]; done) | fail) only [go_sem, Nat.reduceEqDiff, reduceIte, Nat.reduceAdd, Int.toNat_natCast, Nat.add_zero, Owes_true, Tryz.results5]
  apply callV_of (e := rfl)
  · exact SameT_ok R R _ _ w9 (hR.grown g9) hT
  rintro _ _ ⟨rfl, rfl⟩
  simp -dsimp -implicitDefEqProofs (maxSteps := 2000000) (disch := first | assumption | omega | (simp only [nx]; omega) | ((repeat refine Fresh.push ?_ _); assumption) | (simp only [smA]; done) | (simp [oneCell, AW.next_push]; done) | fail) only [go_sem, Nat.reduceEqDiff, reduceIte, Nat.reduceAdd, Int.toNat_natCast, Nat.add_zero, Owes_true, Tryz.results5, hRR, hee4]
  apply callV_of (e := rfl)
  · exact callT_told (Q := fun v w' => v = .bool true ∧ w9 = w') (v := .bool true) (w' := w9) rfl ⟨rfl, rfl⟩
  rintro _ _ ⟨rfl, rfl⟩
  simp -dsimp -implicitDefEqProofs (maxSteps := 2000000) (disch := first | assumption | omega | (simp only [nx]; omega) | ((repeat refine Fresh.push ?_ _); assumption) | (simp only [smA]; done) | (simp [oneCell, AW.next_push]; done) | fail) only [go_sem, Nat.reduceEqDiff, reduceIte, Nat.reduceAdd, Int.toNat_natCast, Nat.add_zero, Owes_true, Tryz.results5]
end Go.Proofs

namespace Go.Proofs
open Go Go.RowKit Go.Sim Go.ChangeShapes Go.WideShapes Go.ChangeAt
set_option maxRecDepth 100000
theorem Tryz.own : ownKnob Tryz.prog.godebug = none := by kernel_rfl
theorem Tryz.laidOut : laidOutB Tryz.prog = true := by kernel_rfl
end Go.Proofs
