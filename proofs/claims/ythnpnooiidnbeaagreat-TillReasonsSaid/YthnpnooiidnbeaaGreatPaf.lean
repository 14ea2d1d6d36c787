/- This program: its code, contracts, numbers, part 6. -/
import Derived.Test.YthnpnooiidnbeaaGreatPae
import Derived.Test.YthnpnooiidnbeaaGreatNc
import Derived.Test.YthnpnooiidnbeaaGreatRows
import Derived.ProofKit
import Derived.SizedLaws
set_option linter.unusedVariables false
set_option linter.unusedSimpArgs false
namespace Go.Proofs
open Go Go.RowKit Go.Sim
set_option maxRecDepth 100000
theorem sumW_mono {l : List DealN} (hd : ∀ d ∈ l, dealB d = true) {U V : List Nat} (h : U.Sublist V) (hV : ∀ n ∈ V, n < l.length) : sumW l U ≤ sumW l V := by
  induction h with
  | slnil => exact Int.le_refl _
  | cons a _ ih =>
    have := ih fun n hn => hV n (List.mem_cons_of_mem _ hn)
    have ha := sumAt_in hd (hV a List.mem_cons_self)
    simp only [sumW, List.map_cons, List.sum_cons] at this ⊢; omega
  | cons_cons a _ ih =>
    have := ih fun n hn => hV n (List.mem_cons_of_mem _ hn)
    simp only [sumW, List.map_cons, List.sum_cons] at this ⊢; omega
theorem toI_inj {U V : List Nat} (h : toI U = toI V) : U = V := by
  refine List.ext_getElem (by have := congrArg List.length h; rwa [toI_len, toI_len] at this) fun i h1 h2 => ?_
  have : (toI U)[i]'(by rw [toI_len]; exact h1) = (toI V)[i]'(by rw [toI_len]; exact h2) := by congr 1
  rw [toI_at h1, toI_at h2] at this
  omega
theorem reas_good {l : List DealN} {L : List (Int × Int)} {W : WatchN} {k : Int} {r : Value} {w : AW} (h : ReasIs l L W k r w) (hdW : reportB l L W = true → l.length ≤ 64) :
    (∃ e : Int, e ≠ 0 ∧ r = .tuple #[.slice none 0 0, .int .i64 e]) ∨
    (∃ (p : Option Addr) (c n : Nat) (A : List Int) (U : List Nat), r = .tuple #[.slice p U.length c, .int .i64 0] ∧ reportB l L W = true ∧ k = (n : Int) ∧ n < l.length ∧ Labs L A ∧ RepP l W A n ∧ ArrOf w 1 icells (.slice p U.length c) (toI U) ∧ U.Sublist (winOf W A l n) ∧ 1 ≤ U.length ∧
      ((W.sum ≤ sumW l U ∧ ∀ T : List Nat, T.Sublist (winOf W A l n) → W.sum ≤ sumW l T → U.length ≤ T.length ∧ (T.length = U.length → aheadB (toI T) (toI U) = false)) ∨
       (sumW l U < W.sum ∧ (∀ x ∈ U, smallB W l x = true) ∧ (U.length : Int) = W.more))) := by
  rcases h with ⟨h, rfl⟩ | ⟨_, h, rfl⟩ | ⟨hb, m, B, hkm, hm, hB, h⟩
  · exact .inl ⟨83, by decide, rfl⟩
  · exact .inl ⟨7, by decide, rfl⟩
  · have hl64 := hdW hb
    obtain ⟨_, hdd, _, _⟩ := reportB_iff hb
    have hW : watchB W = true := by simp only [reportB, Bool.and_eq_true] at hb; exact hb.2
    simp only [watchB, Bool.and_eq_true, inR_iff] at hW
    have hwl := winOf_len W B l m
    rcases h with ⟨h1, mm, p, a, c, hF, rfl, hR, _⟩ | ⟨h1, h2, p, a, c, rfl, hA⟩ | ⟨h1, h2, rfl⟩
    · obtain ⟨c1, c2, c3, c4, c5⟩ := chosen_is (winOf_pw W B l m) hW.1.1.2.1 hF
      obtain rfl := hR.len
      refine .inr ⟨p, c, m, B, _, rfl, hb, hkm, hm, hB, .inl h1, hR.arr (by have := c1.length_le; omega), c1, by rw [c2]; exact hF.pos, .inl ⟨c3, fun T t1 t2 => ⟨by rw [c2]; exact c4 T t1 t2, fun t3 => c5 T t1 (by rw [t3, c2]) t2⟩⟩⟩
    · obtain ⟨M, hM⟩ : ∃ M : Nat, W.more = (M : Int) := ⟨W.more.toNat, by omega⟩
      rw [hM, Int.toNat_natCast] at hA
      have hUl : ((smalls W l (winOf W B l m)).take M).length = M := by rw [List.length_take]; omega
      obtain ⟨_, _, ea, _⟩ := hA.open
      injection ea with ea1 ea2 ea3
      rw [toI_len] at ea2
      subst ea2
      have hsub : ((smalls W l (winOf W B l m)).take M).Sublist (winOf W B l m) := (List.take_sublist _ _).trans (List.filter_sublist ..)
      refine .inr ⟨p, c, m, B, _, rfl, hb, hkm, hm, hB, .inr h2, hA, hsub, by omega, .inr ⟨?_, fun x hx => ?_, by rw [hUl, hM]⟩⟩
      · have := sumW_mono hdd hsub fun n hn => by have := (mem_win.mp hn).1; omega
        omega
      · exact (List.mem_filter.mp (List.mem_of_mem_take hx)).2
    · exact .inl ⟨4, by decide, rfl⟩
set_option maxHeartbeats 32000000 in
theorem reasons_law (w : AW) (xs : List Value) (f : Fresh w) (h : HdAll Tryz.prog w [48, 3, 22] xs) : CallT Tryz.prog Tryz.T1 (.fn (.func 11) #[]) xs.toArray w fun v _ => v = .bool true := by
  cases h with
  | cons n1 h1 h =>
  cases h with
  | cons n2 h2 h =>
  cases h with
  | cons n3 h3 h =>
  cases h
  rename_i x1 x2 x3
  obtain ⟨v0, v1, W, rfl, ⟨l, hs⟩, L, hL⟩ := given_report h1
  obtain ⟨K, rfl, hK0, hK1⟩ := given_num h2
  obtain ⟨X, hX⟩ := given_intsV h3
  clear h1 h2 h3
  obtain ⟨p0, cp0, rfl, _⟩ := id hs.open
  obtain ⟨p1, cp1, rfl, _⟩ := id hL.open
  obtain ⟨px, cx, rfl, _⟩ := id hX.open
  show CallT Tryz.prog Tryz.T1 (.fn (.func 11) #[]) #[.agg #[.slice p0 l.length cp0, .slice p1 L.length cp1, .int .i64 W.days, .int .i64 W.sum, .int .i64 W.small, .int .i64 W.more], .int .i64 K, .slice px X.length cx] w _
  have g2 := (Grown.refl f).push (.cells [.slice p0 l.length cp0, .slice p1 L.length cp1, .int .i64 W.days, .int .i64 W.sum, .int .i64 W.small, .int .i64 W.more] 48 w.next 0 0)
  have O2 := Own.new f 48 [.slice p0 l.length cp0, .slice p1 L.length cp1, .int .i64 W.days, .int .i64 W.sum, .int .i64 W.small, .int .i64 W.more]
  have c0 := (O2).cell (o := 0) rfl rfl
  have c1 := (O2).cell (o := 1) rfl rfl
  have c2 := (O2).cell (o := 2) rfl rfl
  have c3 := (O2).cell (o := 3) rfl rfl
  have c4 := (O2).cell (o := 4) rfl rfl
  have c5 := (O2).cell (o := 5) rfl rfl
  refine callT_code rfl Tryz.func11 rfl Tryz.s11L_eq rfl ?_
  unfold Tryz.s11L
  simp -dsimp -implicitDefEqProofs (maxSteps := 2000000) (disch := first | assumption | omega | (simp only [nx]; omega) | ((repeat refine Fresh.push ?_ _); assumption) | (simp only [smA]; done) | (simp [oneCell, AW.next_push]; done) | fail) only [go_sem, Nat.reduceEqDiff, reduceIte, Nat.reduceAdd, Int.toNat_natCast, Nat.add_zero, Owes_true, Tryz.results11, Nat.zero_add, c0, c1, c2, c3, c4, c5]
  generalize w.push (.cells [.slice p0 l.length cp0, .slice p1 L.length cp1, .int .i64 W.days, .int .i64 W.sum, .int .i64 W.small, .int .i64 W.more] 48 w.next 0 0) = w2 at *
  clear c0 c1 c2 c3 c4 c5
  apply callV_of (e := rfl)
  · exact Reasons_ok l L W _ _ K w2 g2.2 (hs.grown g2) (hL.grown g2)
  rintro _ w3 ⟨hR, g3⟩
  have gw3 := g2.trans g3
  have h00 : decide (((0 : Nat) : Int) = 0) = true := rfl
  rcases reas_good hR (fun q => (reportB_iff q).1) with ⟨e, he, rfl⟩ | ⟨p, c, n, A, U, rfl, hb, rfl, hn, hA, hRep, hU, hUs, hU1, hgood⟩
  · simp -dsimp -implicitDefEqProofs (maxSteps := 2000000) (disch := first | assumption | omega | (simp only [nx]; omega) | ((repeat refine Fresh.push ?_ _); assumption) | (simp only [smA]; done) | (simp [oneCell, AW.next_push]; done) | fail) only [go_sem, Nat.reduceEqDiff, reduceIte, Nat.reduceAdd, Int.toNat_natCast, Nat.add_zero, Owes_true, Tryz.results11, he, h00]
    apply callV_of (e := rfl)
    · exact callT_told (Q := fun v w' => v = .bool true ∧ w3 = w') (v := .bool true) (w' := w3) rfl ⟨rfl, rfl⟩
    rintro _ _ ⟨rfl, rfl⟩
    simp -dsimp -implicitDefEqProofs (maxSteps := 2000000) (disch := first | assumption | omega | (simp only [nx]; omega) | ((repeat refine Fresh.push ?_ _); assumption) | (simp only [smA]; done) | (simp [oneCell, AW.next_push]; done) | fail) only [go_sem, Nat.reduceEqDiff, reduceIte, Nat.reduceAdd, Int.toNat_natCast, Nat.add_zero, Owes_true, Tryz.results11]
  obtain ⟨hl64, hdd, hL64, hla⟩ := reportB_iff hb
  have hAl := hA.len
  have hLb : linksB L = true := by
    simp only [reportB, Bool.and_eq_true] at hb; exact hb.1.2
  have hW : watchB W = true := by simp only [reportB, Bool.and_eq_true] at hb; exact hb.2
  have hW' := hW
  simp only [watchB, Bool.and_eq_true, inR_iff] at hW'
  have O3 := O2.keep g3.1
  have c0 := (O3).cell (o := 0) rfl rfl
  have c1 := (O3).cell (o := 1) rfl rfl
  have c2 := (O3).cell (o := 2) rfl rfl
  have c3 := (O3).cell (o := 3) rfl rfl
  have c4 := (O3).cell (o := 4) rfl rfl
  have c5 := (O3).cell (o := 5) rfl rfl
  simp -dsimp -implicitDefEqProofs (maxSteps := 2000000) (disch := first | assumption | omega | (simp only [nx]; omega) | ((repeat refine Fresh.push ?_ _); assumption) | (simp only [smA]; done) | (simp [oneCell, AW.next_push]; done) | fail) only [go_sem, Nat.reduceEqDiff, reduceIte, Nat.reduceAdd, Int.toNat_natCast, Nat.add_zero, Owes_true, Tryz.results11, Nat.zero_add, c1]
  apply callV_of (e := rfl)
  · exact Linked_ok L _ w3 gw3.2 (hL.grown gw3)
  rintro _ w5 ⟨hk5, g5⟩
  rcases hk5 with ⟨q, _⟩ | ⟨_, A5, b5, hA5, rfl, oA5⟩
  · rw [hLb] at q; cases q
  obtain rfl := hA.one hA5
  have gw5 := gw3.trans g5
  have O5 := O3.keep g5.1
  clear c0 c1 c2 c3 c4 c5
  have c0 := (O5).cell (o := 0) rfl rfl
  have c1 := (O5).cell (o := 1) rfl rfl
  have c2 := (O5).cell (o := 2) rfl rfl
  have c3 := (O5).cell (o := 3) rfl rfl
  have c4 := (O5).cell (o := 4) rfl rfl
  have c5 := (O5).cell (o := 5) rfl rfl
  have hc24 : ((24 : Nat) : Int) = 24 := rfl
  have h24 : decide ((24 : Int) = 24) = true := rfl
  simp -dsimp -implicitDefEqProofs (maxSteps := 2000000) (disch := first | assumption | omega | (simp only [nx]; omega) | ((repeat refine Fresh.push ?_ _); assumption) | (simp only [smA]; done) | (simp [oneCell, AW.next_push]; done) | fail) only [go_sem, Nat.reduceEqDiff, reduceIte, Nat.reduceAdd, Int.toNat_natCast, Nat.add_zero, Owes_true, Tryz.results11, Nat.zero_add, c0, hc24, h24]
  apply callV_of (e := rfl)
  · exact FromV_ok _ _ _ _
  rintro _ _ ⟨rfl, rfl⟩
  have hin : inR 0 (n : Int) ((l.length : Int) - 1) = true := (inR_iff _ _ _).2 ⟨by omega, by omega⟩
  simp -dsimp -implicitDefEqProofs (maxSteps := 2000000) (disch := first | assumption | omega | (simp only [nx]; omega) | ((repeat refine Fresh.push ?_ _); assumption) | (simp only [smA]; done) | (simp [oneCell, AW.next_push]; done) | fail) only [go_sem, Nat.reduceEqDiff, reduceIte, Nat.reduceAdd, Int.toNat_natCast, Nat.add_zero, Owes_true, Tryz.results11, Nat.zero_add, hin, c0, c1, c2, c3, c4, c5]
  apply callV_of (e := rfl)
  · exact inside_ok l W A _ p1 L.length cp1 n (toI U) _ b5 w5 gw5.2 (hs.grown gw5) (hU.grown g5) hAl oA5 hn hl64 hdd hW
  rintro _ w6 ⟨⟨s, b, rfl, hyes, hall⟩, g6⟩
  obtain rfl := hall U rfl hUs
  obtain ⟨U', hU', _, rfl⟩ := hyes rfl
  obtain rfl := toI_inj hU'
  have gw6 := gw5.trans g6
  have O6 := O5.keep g6.1
  have oA6 := oA5.keep g6.1
  clear c0 c1 c2 c3 c4 c5
  have c0 := (O6).cell (o := 0) rfl rfl
  have c1 := (O6).cell (o := 1) rfl rfl
  have c2 := (O6).cell (o := 2) rfl rfl
  have c3 := (O6).cell (o := 3) rfl rfl
  have c4 := (O6).cell (o := 4) rfl rfl
  have c5 := (O6).cell (o := 5) rfl rfl
  have hU0 : decide ((U.length : Int) = 0) = false := decide_eq_false (by omega)
  rcases hgood with ⟨hge, hbest⟩ | ⟨hlt, hsm, hmany⟩
  · have hged : decide (sumW l U ≥ W.sum) = true := decide_eq_true hge
    simp -dsimp -implicitDefEqProofs (maxSteps := 2000000) (disch := first | assumption | omega | (simp only [nx]; omega) | ((repeat refine Fresh.push ?_ _); assumption) | (simp only [smA]; done) | (simp [oneCell, AW.next_push]; done) | fail) only [go_sem, Nat.reduceEqDiff, reduceIte, Nat.reduceAdd, Int.toNat_natCast, Nat.add_zero, Owes_true, Tryz.results11, Nat.zero_add, hU0, c0, c1, c2, c3, c4, c5, hged]
    apply callV_of (e := rfl)
    · exact inside_ok l W A _ p1 L.length cp1 n X _ b5 w6 gw6.2 (hs.grown gw6) (hX.grown gw6) hAl oA6 hn hl64 hdd hW
    rintro _ w7 ⟨⟨s, b, rfl, hyes2, _⟩, g7⟩
    have gw7 := gw6.trans g7
    have O7 := O6.keep g7.1
    have oA7 := oA6.keep g7.1
    clear c0 c1 c2 c3 c4 c5
    have c0 := (O7).cell (o := 0) rfl rfl
    have c1 := (O7).cell (o := 1) rfl rfl
    have c2 := (O7).cell (o := 2) rfl rfl
    have c3 := (O7).cell (o := 3) rfl rfl
    have c4 := (O7).cell (o := 4) rfl rfl
    have c5 := (O7).cell (o := 5) rfl rfl
    cases b with
    | false =>
      simp -dsimp -implicitDefEqProofs (maxSteps := 2000000) (disch := first | assumption | omega | (simp only [nx]; omega) | ((repeat refine Fresh.push ?_ _); assumption) | (simp only [smA]; done) | (simp [oneCell, AW.next_push]; done) | fail) only [go_sem, Nat.reduceEqDiff, reduceIte, Nat.reduceAdd, Int.toNat_natCast, Nat.add_zero, Owes_true, Tryz.results11, Nat.zero_add]
      exact restR_ok l L W p0 p1 cp0 cp1 n A w hs hL hb hA hn hRep w.next b5 _ w7 gw7 O7 oA7 (by simp -dsimp -implicitDefEqProofs (maxSteps := 2000000) (disch := first | assumption | omega | (simp only [nx]; omega) | ((repeat refine Fresh.push ?_ _); assumption) | (simp only [smA]; done) | (simp [oneCell, AW.next_push]; done) | fail) only [go_sem, Nat.reduceEqDiff, reduceIte, Nat.reduceAdd, Int.toNat_natCast, Nat.add_zero, Owes_true]; try rfl) (by simp -dsimp -implicitDefEqProofs (maxSteps := 2000000) (disch := first | assumption | omega | (simp only [nx]; omega) | ((repeat refine Fresh.push ?_ _); assumption) | (simp only [smA]; done) | (simp [oneCell, AW.next_push]; done) | fail) only [go_sem, Nat.reduceEqDiff, reduceIte, Nat.reduceAdd, Int.toNat_natCast, Nat.add_zero, Owes_true]; try rfl) (by simp -dsimp -implicitDefEqProofs (maxSteps := 2000000) (disch := first | assumption | omega | (simp only [nx]; omega) | ((repeat refine Fresh.push ?_ _); assumption) | (simp only [smA]; done) | (simp [oneCell, AW.next_push]; done) | fail) only [go_sem, Nat.reduceEqDiff, reduceIte, Nat.reduceAdd, Int.toNat_natCast, Nat.add_zero, Owes_true]; try rfl)
    | true =>
    obtain ⟨V, hV, hVs, rfl⟩ := hyes2 rfl
    by_cases hsv : sumW l V ≥ W.sum
    case neg =>
      have hsd : decide (sumW l V ≥ W.sum) = false := decide_eq_false hsv
      simp -dsimp -implicitDefEqProofs (maxSteps := 2000000) (disch := first | assumption | omega | (simp only [nx]; omega) | ((repeat refine Fresh.push ?_ _); assumption) | (simp only [smA]; done) | (simp [oneCell, AW.next_push]; done) | fail) only [go_sem, Nat.reduceEqDiff, reduceIte, Nat.reduceAdd, Int.toNat_natCast, Nat.add_zero, Owes_true, Tryz.results11, Nat.zero_add, c3, hsd]
      exact restR_ok l L W p0 p1 cp0 cp1 n A w hs hL hb hA hn hRep w.next b5 _ w7 gw7 O7 oA7 (by simp -dsimp -implicitDefEqProofs (maxSteps := 2000000) (disch := first | assumption | omega | (simp only [nx]; omega) | ((repeat refine Fresh.push ?_ _); assumption) | (simp only [smA]; done) | (simp [oneCell, AW.next_push]; done) | fail) only [go_sem, Nat.reduceEqDiff, reduceIte, Nat.reduceAdd, Int.toNat_natCast, Nat.add_zero, Owes_true]; try rfl) (by simp -dsimp -implicitDefEqProofs (maxSteps := 2000000) (disch := first | assumption | omega | (simp only [nx]; omega) | ((repeat refine Fresh.push ?_ _); assumption) | (simp only [smA]; done) | (simp [oneCell, AW.next_push]; done) | fail) only [go_sem, Nat.reduceEqDiff, reduceIte, Nat.reduceAdd, Int.toNat_natCast, Nat.add_zero, Owes_true]; try rfl) (by simp -dsimp -implicitDefEqProofs (maxSteps := 2000000) (disch := first | assumption | omega | (simp only [nx]; omega) | ((repeat refine Fresh.push ?_ _); assumption) | (simp only [smA]; done) | (simp [oneCell, AW.next_push]; done) | fail) only [go_sem, Nat.reduceEqDiff, reduceIte, Nat.reduceAdd, Int.toNat_natCast, Nat.add_zero, Owes_true]; try rfl)
    have hsd : decide (sumW l V ≥ W.sum) = true := decide_eq_true hsv
    obtain ⟨hbl, hba⟩ := hbest V hVs hsv
    have hXl : X.length = V.length := by rw [hV, toI_len]
    have hlt : decide ((X.length : Int) < (U.length : Int)) = false := decide_eq_false (by omega)
    by_cases heq : (X.length : Int) = (U.length : Int)
    · have heqd : decide ((X.length : Int) = (U.length : Int)) = true := decide_eq_true heq
      have hah := hba (by omega)
      rw [← hV] at hah
      simp -dsimp -implicitDefEqProofs (maxSteps := 2000000) (disch := first | assumption | omega | (simp only [nx]; omega) | ((repeat refine Fresh.push ?_ _); assumption) | (simp only [smA]; done) | (simp [oneCell, AW.next_push]; done) | fail) only [go_sem, Nat.reduceEqDiff, reduceIte, Nat.reduceAdd, Int.toNat_natCast, Nat.add_zero, Owes_true, Tryz.results11, Nat.zero_add, c3, hsd, hlt, heqd]
      apply callV_of (e := rfl)
      · exact Ahead_ok X (toI U) _ _ w7 (hX.grown gw7) (((hU.grown g5).grown g6).grown g7)
      rintro _ _ ⟨rfl, rfl⟩
      simp -dsimp -implicitDefEqProofs (maxSteps := 2000000) (disch := first | assumption | omega | (simp only [nx]; omega) | ((repeat refine Fresh.push ?_ _); assumption) | (simp only [smA]; done) | (simp [oneCell, AW.next_push]; done) | fail) only [go_sem, Nat.reduceEqDiff, reduceIte, Nat.reduceAdd, Int.toNat_natCast, Nat.add_zero, Owes_true, Tryz.results11, hah]
      exact restR_ok l L W p0 p1 cp0 cp1 n A w hs hL hb hA hn hRep w.next b5 _ w7 gw7 O7 oA7 (by simp -dsimp -implicitDefEqProofs (maxSteps := 2000000) (disch := first | assumption | omega | (simp only [nx]; omega) | ((repeat refine Fresh.push ?_ _); assumption) | (simp only [smA]; done) | (simp [oneCell, AW.next_push]; done) | fail) only [go_sem, Nat.reduceEqDiff, reduceIte, Nat.reduceAdd, Int.toNat_natCast, Nat.add_zero, Owes_true]; try rfl) (by simp -dsimp -implicitDefEqProofs (maxSteps := 2000000) (disch := first | assumption | omega | (simp only [nx]; omega) | ((repeat refine Fresh.push ?_ _); assumption) | (simp only [smA]; done) | (simp [oneCell, AW.next_push]; done) | fail) only [go_sem, Nat.reduceEqDiff, reduceIte, Nat.reduceAdd, Int.toNat_natCast, Nat.add_zero, Owes_true]; try rfl) (by simp -dsimp -implicitDefEqProofs (maxSteps := 2000000) (disch := first | assumption | omega | (simp only [nx]; omega) | ((repeat refine Fresh.push ?_ _); assumption) | (simp only [smA]; done) | (simp [oneCell, AW.next_push]; done) | fail) only [go_sem, Nat.reduceEqDiff, reduceIte, Nat.reduceAdd, Int.toNat_natCast, Nat.add_zero, Owes_true]; try rfl)
    · have heqd : decide ((X.length : Int) = (U.length : Int)) = false := decide_eq_false heq
      simp -dsimp -implicitDefEqProofs (maxSteps := 2000000) (disch := first | assumption | omega | (simp only [nx]; omega) | ((repeat refine Fresh.push ?_ _); assumption) | (simp only [smA]; done) | (simp [oneCell, AW.next_push]; done) | fail) only [go_sem, Nat.reduceEqDiff, reduceIte, Nat.reduceAdd, Int.toNat_natCast, Nat.add_zero, Owes_true, Tryz.results11, Nat.zero_add, c3, hsd, hlt, heqd]
      exact restR_ok l L W p0 p1 cp0 cp1 n A w hs hL hb hA hn hRep w.next b5 _ w7 gw7 O7 oA7 (by simp -dsimp -implicitDefEqProofs (maxSteps := 2000000) (disch := first | assumption | omega | (simp only [nx]; omega) | ((repeat refine Fresh.push ?_ _); assumption) | (simp only [smA]; done) | (simp [oneCell, AW.next_push]; done) | fail) only [go_sem, Nat.reduceEqDiff, reduceIte, Nat.reduceAdd, Int.toNat_natCast, Nat.add_zero, Owes_true]; try rfl) (by simp -dsimp -implicitDefEqProofs (maxSteps := 2000000) (disch := first | assumption | omega | (simp only [nx]; omega) | ((repeat refine Fresh.push ?_ _); assumption) | (simp only [smA]; done) | (simp [oneCell, AW.next_push]; done) | fail) only [go_sem, Nat.reduceEqDiff, reduceIte, Nat.reduceAdd, Int.toNat_natCast, Nat.add_zero, Owes_true]; try rfl) (by simp -dsimp -implicitDefEqProofs (maxSteps := 2000000) (disch := first | assumption | omega | (simp only [nx]; omega) | ((repeat refine Fresh.push ?_ _); assumption) | (simp only [smA]; done) | (simp [oneCell, AW.next_push]; done) | fail) only [go_sem, Nat.reduceEqDiff, reduceIte, Nat.reduceAdd, Int.toNat_natCast, Nat.add_zero, Owes_true]; try rfl)
  · have hged : decide (sumW l U ≥ W.sum) = false := decide_eq_false (by omega)
    have hU6 := (hU.grown g5).grown g6
    obtain ⟨pu, cu, eu, _, _, hatU⟩ := openN hU6
    injection eu with eu1 _ eu3
    subst eu1 eu3
    obtain ⟨pl, cl, el, _, _, hatl⟩ := (hs.grown gw6).open
    injection el with el1 _ el3
    subst el1 el3
    simp -dsimp -implicitDefEqProofs (maxSteps := 2000000) (disch := first | assumption | omega | (simp only [nx]; omega) | ((repeat refine Fresh.push ?_ _); assumption) | (simp only [smA]; done) | (simp [oneCell, AW.next_push]; done) | fail) only [go_sem, Nat.reduceEqDiff, reduceIte, Nat.reduceAdd, Int.toNat_natCast, Nat.add_zero, Owes_true, Tryz.results11, Nat.zero_add, hU0, c3, hged]
    refine loopR (fun k t ds w7 => ∃ i : Nat, i ≤ U.length ∧ k = U.length - i ∧ ds = [] ∧ ev t (.tmp 1) = .int .i64 (n : Int) ∧ ev t (.tmp 3) = .pointer (some ⟨w.next, 0, none⟩) ∧ ev t (.tmp 7) = .slice p U.length c ∧ ev t (.tmp 9) = .slice (some ⟨b5, 0, none⟩) 24 24 ∧ ev t (.tmp 15) = .int .i64 (i : Int) ∧ w7 = w6) (U.length) ?_ ?_
    · refine ⟨0, by omega, by omega, rfl, ?_, ?_, ?_, ?_, ?_, rfl⟩ <;> simp -dsimp -implicitDefEqProofs (maxSteps := 2000000) (disch := first | assumption | omega | (simp only [nx]; omega) | ((repeat refine Fresh.push ?_ _); assumption) | (simp only [smA]; done) | (simp [oneCell, AW.next_push]; done) | fail) only [go_sem, Nat.reduceEqDiff, reduceIte, Nat.reduceAdd, Int.toNat_natCast, Nat.add_zero, Owes_true] <;> rfl
    rintro k t ds w7 ⟨i, hii, rfl, rfl, e1, e3, e7, e9, e15, hw7⟩
    subst hw7
    by_cases hlt2 : (i : Int) < (U.length : Int)
    case neg =>
      have hmd : decide ((U.length : Int) = W.more) = true := decide_eq_true hmany
      simp -dsimp -implicitDefEqProofs (maxSteps := 2000000) (disch := first | assumption | omega | (simp only [nx]; omega) | ((repeat refine Fresh.push ?_ _); assumption) | (simp only [smA]; done) | (simp [oneCell, AW.next_push]; done) | fail) only [go_sem, Nat.reduceEqDiff, reduceIte, Nat.reduceAdd, Int.toNat_natCast, Nat.add_zero, Owes_true, Tryz.results11, Nat.zero_add, e1, e3, e7, e9, e15, hlt2, c5, hmd]
      exact restR_ok l L W p0 p1 cp0 cp1 n A w hs hL hb hA hn hRep w.next b5 _ w7 gw6 O6 oA6 (by simp -dsimp -implicitDefEqProofs (maxSteps := 2000000) (disch := first | assumption | omega | (simp only [nx]; omega) | ((repeat refine Fresh.push ?_ _); assumption) | (simp only [smA]; done) | (simp [oneCell, AW.next_push]; done) | fail) only [go_sem, Nat.reduceEqDiff, reduceIte, Nat.reduceAdd, Int.toNat_natCast, Nat.add_zero, Owes_true, e1]; try rfl) (by simp -dsimp -implicitDefEqProofs (maxSteps := 2000000) (disch := first | assumption | omega | (simp only [nx]; omega) | ((repeat refine Fresh.push ?_ _); assumption) | (simp only [smA]; done) | (simp [oneCell, AW.next_push]; done) | fail) only [go_sem, Nat.reduceEqDiff, reduceIte, Nat.reduceAdd, Int.toNat_natCast, Nat.add_zero, Owes_true, e3]; try rfl) (by simp -dsimp -implicitDefEqProofs (maxSteps := 2000000) (disch := first | assumption | omega | (simp only [nx]; omega) | ((repeat refine Fresh.push ?_ _); assumption) | (simp only [smA]; done) | (simp [oneCell, AW.next_push]; done) | fail) only [go_sem, Nat.reduceEqDiff, reduceIte, Nat.reduceAdd, Int.toNat_natCast, Nat.add_zero, Owes_true, e9]; try rfl)
    have hi' : i < U.length := by omega
    obtain ⟨bu, ou, rfl, _, hcu⟩ := hatU i hi'
    have x0 := hcu w7 (.refl _ _)
    have hmem := List.getElem_mem hi'
    have hsmi := hsm _ hmem
    have hui := (mem_win.mp (hUs.subset hmem)).1
    have hul : U[i] < l.length := by omega
    have hul2 : ((U[i] : Nat) : Int) < (l.length : Int) := by omega
    obtain ⟨bl, ol, rfl, _, hcl⟩ := hatl U[i] hul
    have y2 := hcl w7 (.refl _ _) 2 _ rfl
    unfold smallB at hsmi
    rw [sumAt_eq hul] at hsmi
    simp -dsimp -implicitDefEqProofs (maxSteps := 2000000) (disch := first | assumption | omega | (simp only [nx]; omega) | ((repeat refine Fresh.push ?_ _); assumption) | (simp only [smA]; done) | (simp [oneCell, AW.next_push]; done) | fail) only [go_sem, Nat.reduceEqDiff, reduceIte, Nat.reduceAdd, Int.toNat_natCast, Nat.add_zero, Owes_true, Tryz.results11, e1, e3, e7, e9, e15, hlt2, Nat.zero_add, c0, c3, c4, indexV_eq, x0, hul2, y2]
    apply callV_of (e := rfl)
    · exact FromV_ok _ _ _ _
    rintro _ _ ⟨rfl, rfl⟩
    simp -dsimp -implicitDefEqProofs (maxSteps := 2000000) (disch := first | assumption | omega | (simp only [nx]; omega) | ((repeat refine Fresh.push ?_ _); assumption) | (simp only [smA]; done) | (simp [oneCell, AW.next_push]; done) | fail) only [go_sem, Nat.reduceEqDiff, reduceIte, Nat.reduceAdd, Int.toNat_natCast, Nat.add_zero, Owes_true, Tryz.results11, e1, e3, e7, e9, e15, hsmi]
    refine ⟨_, by omega, i + 1, by omega, rfl, rfl, by (simp -dsimp -implicitDefEqProofs (maxSteps := 2000000) (disch := first | assumption | omega | (simp only [nx]; omega) | ((repeat refine Fresh.push ?_ _); assumption) | (simp only [smA]; done) | (simp [oneCell, AW.next_push]; done) | fail) only [go_sem, Nat.reduceEqDiff, reduceIte, Nat.reduceAdd, Int.toNat_natCast, Nat.add_zero, Owes_true, e1]; try rfl), by (simp -dsimp -implicitDefEqProofs (maxSteps := 2000000) (disch := first | assumption | omega | (simp only [nx]; omega) | ((repeat refine Fresh.push ?_ _); assumption) | (simp only [smA]; done) | (simp [oneCell, AW.next_push]; done) | fail) only [go_sem, Nat.reduceEqDiff, reduceIte, Nat.reduceAdd, Int.toNat_natCast, Nat.add_zero, Owes_true, e3]; try rfl), by (simp -dsimp -implicitDefEqProofs (maxSteps := 2000000) (disch := first | assumption | omega | (simp only [nx]; omega) | ((repeat refine Fresh.push ?_ _); assumption) | (simp only [smA]; done) | (simp [oneCell, AW.next_push]; done) | fail) only [go_sem, Nat.reduceEqDiff, reduceIte, Nat.reduceAdd, Int.toNat_natCast, Nat.add_zero, Owes_true, e7]; try rfl), by (simp -dsimp -implicitDefEqProofs (maxSteps := 2000000) (disch := first | assumption | omega | (simp only [nx]; omega) | ((repeat refine Fresh.push ?_ _); assumption) | (simp only [smA]; done) | (simp [oneCell, AW.next_push]; done) | fail) only [go_sem, Nat.reduceEqDiff, reduceIte, Nat.reduceAdd, Int.toNat_natCast, Nat.add_zero, Owes_true, e9]; try rfl), by (simp -dsimp -implicitDefEqProofs (maxSteps := 2000000) (disch := first | assumption | omega | (simp only [nx]; omega) | ((repeat refine Fresh.push ?_ _); assumption) | (simp only [smA]; done) | (simp [oneCell, AW.next_push]; done) | fail) only [go_sem, Nat.reduceEqDiff, reduceIte, Nat.reduceAdd, Int.toNat_natCast, Nat.add_zero, Owes_true, e15]; try rfl), rfl⟩
end Go.Proofs

namespace Go.Proofs
open Go Go.RowKit Go.Sim Go.ChangeShapes Go.WideShapes Go.ChangeAt
set_option maxRecDepth 100000
theorem Tryz.own : ownKnob Tryz.prog.godebug = none := by kernel_rfl
theorem Tryz.laidOut : laidOutB Tryz.prog = true := by kernel_rfl
end Go.Proofs
