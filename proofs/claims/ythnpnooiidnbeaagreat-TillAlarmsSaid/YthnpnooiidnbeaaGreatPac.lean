/- This program: its code, contracts, numbers, part 3. -/
import Derived.Test.YthnpnooiidnbeaaGreatPab
import Derived.Test.YthnpnooiidnbeaaGreatPaa
import Derived.Test.YthnpnooiidnbeaaGreatSf
import Derived.Test.YthnpnooiidnbeaaGreatNc
import Derived.Test.YthnpnooiidnbeaaGreatChecked
import Derived.Test.YthnpnooiidnbeaaGreatNa
set_option linter.unusedVariables false
set_option linter.unusedSimpArgs false
namespace Go.Proofs
open Go Go.RowKit Go.Sim
set_option maxRecDepth 100000
def lcells (p : Int × Int) : List Value := [.int .i64 p.1, .int .i64 p.2]
theorem isPerson_ok (n : Int) (w : AW) : CallT Tryz.prog Tryz.T1 (.fn (.func 138) #[]) #[.int .i64 n] w (Ret (.bool (inR 0 n 23)) fun w' => w = w') := by
  refine callT_code rfl Tryz.func138 rfl Tryz.s138_eq rfl ?_
  unfold Tryz.s138
  simp -dsimp -implicitDefEqProofs (maxSteps := 2000000) (disch := first | assumption | omega | (simp only [nx]; omega) | ((repeat refine Fresh.push ?_ _); assumption) | (simp only [smA]; done) | (simp [oneCell, AW.next_push]; done) | fail) only [go_sem, Nat.reduceEqDiff, reduceIte, Nat.reduceAdd, Int.toNat_natCast, Nat.add_zero, Owes_true, Tryz.results138]
  apply callV_of (e := rfl)
  · exact within_ok _ _ _ _
  rintro _ _ ⟨rfl, rfl⟩
  simp -dsimp -implicitDefEqProofs (maxSteps := 2000000) (disch := first | assumption | omega | (simp only [nx]; omega) | ((repeat refine Fresh.push ?_ _); assumption) | (simp only [smA]; done) | (simp [oneCell, AW.next_push]; done) | fail) only [go_sem, Nat.reduceEqDiff, reduceIte, Nat.reduceAdd, Int.toNat_natCast, Nat.add_zero, Owes_true, Tryz.results138]
  exact ⟨rfl, rfl⟩
theorem isSum_ok (n : Int) (w : AW) : CallT Tryz.prog Tryz.T1 (.fn (.func 122) #[]) #[.int .i64 n] w (Ret (.bool (inR 1 n 1073741824)) fun w' => w = w') := by
  refine callT_code rfl Tryz.func122 rfl Tryz.s122_eq rfl ?_
  unfold Tryz.s122
  simp -dsimp -implicitDefEqProofs (maxSteps := 2000000) (disch := first | assumption | omega | (simp only [nx]; omega) | ((repeat refine Fresh.push ?_ _); assumption) | (simp only [smA]; done) | (simp [oneCell, AW.next_push]; done) | fail) only [go_sem, Nat.reduceEqDiff, reduceIte, Nat.reduceAdd, Int.toNat_natCast, Nat.add_zero, Owes_true, Tryz.results122]
  apply callV_of (e := rfl)
  · exact within_ok _ _ _ _
  rintro _ _ ⟨rfl, rfl⟩
  simp -dsimp -implicitDefEqProofs (maxSteps := 2000000) (disch := first | assumption | omega | (simp only [nx]; omega) | ((repeat refine Fresh.push ?_ _); assumption) | (simp only [smA]; done) | (simp [oneCell, AW.next_push]; done) | fail) only [go_sem, Nat.reduceEqDiff, reduceIte, Nat.reduceAdd, Int.toNat_natCast, Nat.add_zero, Owes_true, Tryz.results122]
  exact ⟨rfl, rfl⟩
def linkB (p : Int × Int) : Bool := inR 0 p.1 23 && inR 0 p.2 23 && !decide (p.1 = p.2)
theorem isLink_ok (a b : Int) (w : AW) (f : Fresh w) : CallT Tryz.prog Tryz.T1 (.fn (.func 111) #[]) #[.agg #[.int .i64 a, .int .i64 b]] w (Ret (.bool (linkB (a, b))) (Grown w)) := by
  have g := (Grown.refl f).push (.cells [.int .i64 a, .int .i64 b] 25 w.next 0 0)
  have hO := Own.new f 25 [.int .i64 a, .int .i64 b]
  have c0 := hO.cell (o := 0) rfl rfl
  have c1 := hO.cell (o := 1) rfl rfl
  unfold linkB
  refine callT_code rfl Tryz.func111 rfl Tryz.s111_eq rfl ?_
  unfold Tryz.s111
  simp -dsimp -implicitDefEqProofs (maxSteps := 2000000) (disch := first | assumption | omega | (simp only [nx]; omega) | ((repeat refine Fresh.push ?_ _); assumption) | (simp only [smA]; done) | (simp [oneCell, AW.next_push]; done) | fail) only [go_sem, Nat.reduceEqDiff, reduceIte, Nat.reduceAdd, Int.toNat_natCast, Nat.add_zero, Owes_true, Tryz.results111, Nat.zero_add, c0, c1]
  apply callV_of (e := rfl)
  · exact isPerson_ok _ _
  rintro _ _ ⟨rfl, rfl⟩
  cases h1 : inR 0 a 23 with
  | false =>
    simp -dsimp -implicitDefEqProofs (maxSteps := 2000000) (disch := first | assumption | omega | (simp only [nx]; omega) | ((repeat refine Fresh.push ?_ _); assumption) | (simp only [smA]; done) | (simp [oneCell, AW.next_push]; done) | fail) only [go_sem, Nat.reduceEqDiff, reduceIte, Nat.reduceAdd, Int.toNat_natCast, Nat.add_zero, Owes_true, Tryz.results111, h1]
    exact ⟨by simp [h1], g⟩
  | true =>
  simp -dsimp -implicitDefEqProofs (maxSteps := 2000000) (disch := first | assumption | omega | (simp only [nx]; omega) | ((repeat refine Fresh.push ?_ _); assumption) | (simp only [smA]; done) | (simp [oneCell, AW.next_push]; done) | fail) only [go_sem, Nat.reduceEqDiff, reduceIte, Nat.reduceAdd, Int.toNat_natCast, Nat.add_zero, Owes_true, Tryz.results111, h1, Nat.zero_add, c0, c1]
  apply callV_of (e := rfl)
  · exact isPerson_ok _ _
  rintro _ _ ⟨rfl, rfl⟩
  cases h2 : inR 0 b 23 with
  | false =>
    simp -dsimp -implicitDefEqProofs (maxSteps := 2000000) (disch := first | assumption | omega | (simp only [nx]; omega) | ((repeat refine Fresh.push ?_ _); assumption) | (simp only [smA]; done) | (simp [oneCell, AW.next_push]; done) | fail) only [go_sem, Nat.reduceEqDiff, reduceIte, Nat.reduceAdd, Int.toNat_natCast, Nat.add_zero, Owes_true, Tryz.results111, h2]
    exact ⟨by simp [h1, h2], g⟩
  | true =>
  by_cases h3 : a = b
  · have hd : decide (a = b) = true := decide_eq_true h3
    simp -dsimp -implicitDefEqProofs (maxSteps := 2000000) (disch := first | assumption | omega | (simp only [nx]; omega) | ((repeat refine Fresh.push ?_ _); assumption) | (simp only [smA]; done) | (simp [oneCell, AW.next_push]; done) | fail) only [go_sem, Nat.reduceEqDiff, reduceIte, Nat.reduceAdd, Int.toNat_natCast, Nat.add_zero, Owes_true, Tryz.results111, h2, Nat.zero_add, c0, c1, hd]
    exact ⟨by simp only [h1, h2, hd]; try rfl, g⟩
  · have hd : decide (a = b) = false := decide_eq_false h3
    simp -dsimp -implicitDefEqProofs (maxSteps := 2000000) (disch := first | assumption | omega | (simp only [nx]; omega) | ((repeat refine Fresh.push ?_ _); assumption) | (simp only [smA]; done) | (simp [oneCell, AW.next_push]; done) | fail) only [go_sem, Nat.reduceEqDiff, reduceIte, Nat.reduceAdd, Int.toNat_natCast, Nat.add_zero, Owes_true, Tryz.results111, h2, Nat.zero_add, c0, c1, hd]
    exact ⟨by simp only [h1, h2, hd]; try rfl, g⟩
theorem allL1_ok (p q : Int) (b : Nat) (w : AW) (f : Fresh w) (h : Own w b 164 [.func (.func 111) #[] #[]]) : CallT Tryz.prog Tryz.T1 (.fn (.func 137) #[.pointer (some ⟨b, 0, none⟩)]) #[.agg #[.int .i64 p, .int .i64 q]] w (Ret (.bool (!linkB (p, q))) (Grown w)) := by
  have g := (Grown.refl f).push (.cells [.int .i64 p, .int .i64 q] 25 w.next 0 0)
  have hO := Own.new f 25 [.int .i64 p, .int .i64 q]
  have c0 := hO.cell (o := 0) rfl rfl
  have c1 := hO.cell (o := 1) rfl rfl
  have a0 := (h.keep g.1).cell (o := 0) rfl rfl
  have hs := same_fn0 111
  refine callT_code rfl Tryz.func137 rfl Tryz.s137_eq rfl ?_
  unfold Tryz.s137
  simp -dsimp -implicitDefEqProofs (maxSteps := 2000000) (disch := first | assumption | omega | (simp only [nx]; omega) | ((repeat refine Fresh.push ?_ _); assumption) | (simp only [smA]; done) | (simp [oneCell, AW.next_push]; done) | fail) only [go_sem, Nat.reduceEqDiff, reduceIte, Nat.reduceAdd, Int.toNat_natCast, Nat.add_zero, Owes_true, Tryz.results137, c0, c1, a0, Nat.zero_add, hs]
  apply callV_of (e := rfl)
  · exact isLink_ok _ _ _ g.2
  rintro _ w1 ⟨rfl, g1⟩
  simp -dsimp -implicitDefEqProofs (maxSteps := 2000000) (disch := first | assumption | omega | (simp only [nx]; omega) | ((repeat refine Fresh.push ?_ _); assumption) | (simp only [smA]; done) | (simp [oneCell, AW.next_push]; done) | fail) only [go_sem, Nat.reduceEqDiff, reduceIte, Nat.reduceAdd, Int.toNat_natCast, Nat.add_zero, Owes_true, Tryz.results137]
  exact ⟨rfl, g.trans g1⟩
theorem indexL_ok (l : List (Int × Int)) (v : Value) (b : Nat) (w : AW) (f : Fresh w) (hs : ArrOf w 2 lcells v l) (h : Own w b 164 [.func (.func 111) #[] #[]]) :
    CallT Tryz.prog Tryz.T1 (.fn (.func 156) #[]) #[v, .func (.func 137) #[] #[.pointer (some ⟨b, 0, none⟩)]] w (fun r w' => Grown w w' ∧ ∃ n : Int, r = .int .i64 n ∧ decide (n ≥ 0) = !l.all linkB) := by
  obtain ⟨p, cap, rfl, _, _, hat⟩ := hs.open
  have hfn := same_fn 137 b
  refine callT_code rfl Tryz.func156 rfl Tryz.s156_eq rfl ?_
  unfold Tryz.s156
  simp -dsimp -implicitDefEqProofs (maxSteps := 2000000) (disch := first | assumption | omega | (simp only [nx]; omega) | ((repeat refine Fresh.push ?_ _); assumption) | (simp only [smA]; done) | (simp [oneCell, AW.next_push]; done) | fail) only [go_sem, Nat.reduceEqDiff, reduceIte, Nat.reduceAdd, Int.toNat_natCast, Nat.add_zero, Owes_true, Tryz.results156]
  refine loopR (fun k t ds w1 => ∃ i : Nat, i ≤ l.length ∧ k = l.length - i ∧ ds = [] ∧ ev t (.tmp 0) = .slice p l.length cap ∧ ev t (.tmp 1) = .func (.func 137) #[] #[.pointer (some ⟨b, 0, none⟩)] ∧ ev t (.tmp 6) = .slice p l.length cap ∧ ev t (.tmp 7) = .int .i64 (l.length : Int) ∧ ev t (.tmp 8) = .int .i64 (i : Int) ∧ Grown w w1 ∧ (l.take i).all linkB = true) (l.length) ?_ ?_
  · refine ⟨0, by omega, by omega, rfl, ?_, ?_, ?_, ?_, ?_, Grown.refl f, rfl⟩ <;> simp -dsimp -implicitDefEqProofs (maxSteps := 2000000) (disch := first | assumption | omega | (simp only [nx]; omega) | ((repeat refine Fresh.push ?_ _); assumption) | (simp only [smA]; done) | (simp [oneCell, AW.next_push]; done) | fail) only [go_sem, Nat.reduceEqDiff, reduceIte, Nat.reduceAdd, Int.toNat_natCast, Nat.add_zero, Owes_true] <;> rfl
  rintro k t ds w1 ⟨i, hii, rfl, rfl, e0, e1, e6, e7, e8, g1, ha⟩
  by_cases hlt : (i : Int) < (l.length : Int)
  case neg =>
    obtain rfl : i = l.length := by omega
    rw [List.take_of_length_le (Nat.le_refl _)] at ha
    simp -dsimp -implicitDefEqProofs (maxSteps := 2000000) (disch := first | assumption | omega | (simp only [nx]; omega) | ((repeat refine Fresh.push ?_ _); assumption) | (simp only [smA]; done) | (simp [oneCell, AW.next_push]; done) | fail) only [go_sem, Nat.reduceEqDiff, reduceIte, Nat.reduceAdd, Int.toNat_natCast, Nat.add_zero, Owes_true, Tryz.results156, e0, e1, e6, e7, e8, hlt]
    exact ⟨g1, -1, rfl, by rw [ha]; rfl⟩
  have hlt' : i < l.length := by omega
  obtain ⟨b1, o1, rfl, hb1, hcell⟩ := hat i hlt'
  have a0 := hcell w1 g1.1 0 _ rfl
  have a1 := hcell w1 g1.1 1 _ rfl
  simp only [Nat.add_zero] at a0 a1
  have hone := allL1_ok l[i].1 l[i].2 b w1 g1.2 (h.keep g1.1)
  generalize hli : linkB (l[i].1, l[i].2) = B at *
  simp -dsimp -implicitDefEqProofs (maxSteps := 2000000) (disch := first | assumption | omega | (simp only [nx]; omega) | ((repeat refine Fresh.push ?_ _); assumption) | (simp only [smA]; done) | (simp [oneCell, AW.next_push]; done) | fail) only [go_sem, Nat.reduceEqDiff, reduceIte, Nat.reduceAdd, Int.toNat_natCast, Nat.add_zero, Owes_true, Tryz.results156, e0, e1, e6, e7, e8, hlt, indexV_eq, a0, a1, hfn]
  apply callV_of (e := rfl)
  · exact hone
  rintro _ w2 ⟨rfl, g2⟩
  cases B with
  | true =>
    simp -dsimp -implicitDefEqProofs (maxSteps := 2000000) (disch := first | assumption | omega | (simp only [nx]; omega) | ((repeat refine Fresh.push ?_ _); assumption) | (simp only [smA]; done) | (simp [oneCell, AW.next_push]; done) | fail) only [go_sem, Nat.reduceEqDiff, reduceIte, Nat.reduceAdd, Int.toNat_natCast, Nat.add_zero, Owes_true, Tryz.results156, e0, e1, e6, e7, e8]
    refine ⟨_, by omega, i + 1, by omega, rfl, rfl, by (simp -dsimp -implicitDefEqProofs (maxSteps := 2000000) (disch := first | assumption | omega | (simp only [nx]; omega) | ((repeat refine Fresh.push ?_ _); assumption) | (simp only [smA]; done) | (simp [oneCell, AW.next_push]; done) | fail) only [go_sem, Nat.reduceEqDiff, reduceIte, Nat.reduceAdd, Int.toNat_natCast, Nat.add_zero, Owes_true, e0]; try rfl), by (simp -dsimp -implicitDefEqProofs (maxSteps := 2000000) (disch := first | assumption | omega | (simp only [nx]; omega) | ((repeat refine Fresh.push ?_ _); assumption) | (simp only [smA]; done) | (simp [oneCell, AW.next_push]; done) | fail) only [go_sem, Nat.reduceEqDiff, reduceIte, Nat.reduceAdd, Int.toNat_natCast, Nat.add_zero, Owes_true, e1]; try rfl), by (simp -dsimp -implicitDefEqProofs (maxSteps := 2000000) (disch := first | assumption | omega | (simp only [nx]; omega) | ((repeat refine Fresh.push ?_ _); assumption) | (simp only [smA]; done) | (simp [oneCell, AW.next_push]; done) | fail) only [go_sem, Nat.reduceEqDiff, reduceIte, Nat.reduceAdd, Int.toNat_natCast, Nat.add_zero, Owes_true, e6]; try rfl), by (simp -dsimp -implicitDefEqProofs (maxSteps := 2000000) (disch := first | assumption | omega | (simp only [nx]; omega) | ((repeat refine Fresh.push ?_ _); assumption) | (simp only [smA]; done) | (simp [oneCell, AW.next_push]; done) | fail) only [go_sem, Nat.reduceEqDiff, reduceIte, Nat.reduceAdd, Int.toNat_natCast, Nat.add_zero, Owes_true, e7]; try rfl), by (simp -dsimp -implicitDefEqProofs (maxSteps := 2000000) (disch := first | assumption | omega | (simp only [nx]; omega) | ((repeat refine Fresh.push ?_ _); assumption) | (simp only [smA]; done) | (simp [oneCell, AW.next_push]; done) | fail) only [go_sem, Nat.reduceEqDiff, reduceIte, Nat.reduceAdd, Int.toNat_natCast, Nat.add_zero, Owes_true, e8]; try rfl), g1.trans g2, by rw [List.take_succ_eq_append_getElem hlt', List.all_append, ha]; simpa using hli⟩
  | false =>
    simp -dsimp -implicitDefEqProofs (maxSteps := 2000000) (disch := first | assumption | omega | (simp only [nx]; omega) | ((repeat refine Fresh.push ?_ _); assumption) | (simp only [smA]; done) | (simp [oneCell, AW.next_push]; done) | fail) only [go_sem, Nat.reduceEqDiff, reduceIte, Nat.reduceAdd, Int.toNat_natCast, Nat.add_zero, Owes_true, Tryz.results156, e0, e1, e6, e7, e8]
    refine ⟨g1.trans g2, (i : Int), rfl, ?_⟩
    have h1 : l.all linkB = false := by
      rw [List.all_eq_false]; exact ⟨l[i], List.getElem_mem hlt', by rw [show linkB l[i] = false from hli]; simp⟩
    rw [h1]; simp
theorem containsL_ok (l : List (Int × Int)) (v : Value) (b : Nat) (w : AW) (f : Fresh w) (hs : ArrOf w 2 lcells v l) (h : Own w b 164 [.func (.func 111) #[] #[]]) :
    CallT Tryz.prog Tryz.T1 (.fn (.func 136) #[]) #[v, .func (.func 137) #[] #[.pointer (some ⟨b, 0, none⟩)]] w (Ret (.bool (!l.all linkB)) (Grown w)) := by
  obtain ⟨p, cap, rfl, _⟩ := id hs.open
  have hfn := same_fn 137 b
  refine callT_code rfl Tryz.func136 rfl Tryz.s136_eq rfl ?_
  unfold Tryz.s136
  simp -dsimp -implicitDefEqProofs (maxSteps := 2000000) (disch := first | assumption | omega | (simp only [nx]; omega) | ((repeat refine Fresh.push ?_ _); assumption) | (simp only [smA]; done) | (simp [oneCell, AW.next_push]; done) | fail) only [go_sem, Nat.reduceEqDiff, reduceIte, Nat.reduceAdd, Int.toNat_natCast, Nat.add_zero, Owes_true, Tryz.results136, hfn]
  apply callV_of (e := rfl)
  · exact indexL_ok l _ b w f hs h
  rintro _ w1 ⟨g1, n, rfl, hn⟩
  simp -dsimp -implicitDefEqProofs (maxSteps := 2000000) (disch := first | assumption | omega | (simp only [nx]; omega) | ((repeat refine Fresh.push ?_ _); assumption) | (simp only [smA]; done) | (simp [oneCell, AW.next_push]; done) | fail) only [go_sem, Nat.reduceEqDiff, reduceIte, Nat.reduceAdd, Int.toNat_natCast, Nat.add_zero, Owes_true, Tryz.results136, hn]
  exact ⟨rfl, g1⟩
theorem allL_ok (l : List (Int × Int)) (v : Value) (w : AW) (f : Fresh w) (hs : ArrOf w 2 lcells v l) :
    CallT Tryz.prog Tryz.T1 (.fn (.func 110) #[]) #[v, .func (.func 111) #[] #[]] w (Ret (.bool (l.all linkB)) (Grown w)) := by
  obtain ⟨p, cap, rfl, _⟩ := id hs.open
  have hfn := same_fn 137 w.next
  have hs0 := same_fn0 111
  have g := (Grown.refl f).push (.cells [.func (.func 111) #[] #[]] 164 w.next 0 0)
  have hO := Own.new f 164 [.func (.func 111) #[] #[]]
  refine callT_code rfl Tryz.func110 rfl Tryz.s110_eq rfl ?_
  unfold Tryz.s110
  simp -dsimp -implicitDefEqProofs (maxSteps := 2000000) (disch := first | assumption | omega | (simp only [nx]; omega) | ((repeat refine Fresh.push ?_ _); assumption) | (simp only [smA]; done) | (simp [oneCell, AW.next_push]; done) | fail) only [go_sem, Nat.reduceEqDiff, reduceIte, Nat.reduceAdd, Int.toNat_natCast, Nat.add_zero, Owes_true, Tryz.results110, hfn, hs0]
  apply callV_of (e := rfl)
  · exact containsL_ok l _ w.next _ g.2 (hs.grown g) hO
  rintro _ w1 ⟨rfl, g1⟩
  simp -dsimp -implicitDefEqProofs (maxSteps := 2000000) (disch := first | assumption | omega | (simp only [nx]; omega) | ((repeat refine Fresh.push ?_ _); assumption) | (simp only [smA]; done) | (simp [oneCell, AW.next_push]; done) | fail) only [go_sem, Nat.reduceEqDiff, reduceIte, Nat.reduceAdd, Int.toNat_natCast, Nat.add_zero, Owes_true, Tryz.results110]
  exact ⟨by rw [Bool.not_not], g.trans g1⟩
def linksB (l : List (Int × Int)) : Bool := decide (l.length ≤ 64) && l.all linkB
theorem areLinks_ok (l : List (Int × Int)) (v : Value) (w : AW) (f : Fresh w) (hs : ArrOf w 2 lcells v l) :
    CallT Tryz.prog Tryz.T1 (.fn (.func 68) #[]) #[v] w (Ret (.bool (linksB l)) (Grown w)) := by
  obtain ⟨p, cap, rfl, _⟩ := id hs.open
  have hs0 := same_fn0 111
  refine callT_code rfl Tryz.func68 rfl Tryz.s68_eq rfl ?_
  unfold Tryz.s68
  unfold linksB
  by_cases h : (l.length : Int) ≤ 64
  · simp -dsimp -implicitDefEqProofs (maxSteps := 2000000) (disch := first | assumption | omega | (simp only [nx]; omega) | ((repeat refine Fresh.push ?_ _); assumption) | (simp only [smA]; done) | (simp [oneCell, AW.next_push]; done) | fail) only [go_sem, Nat.reduceEqDiff, reduceIte, Nat.reduceAdd, Int.toNat_natCast, Nat.add_zero, Owes_true, Tryz.results68, h, hs0]
    apply callV_of (e := rfl)
    · exact allL_ok l _ _ f hs
    rintro _ w1 ⟨rfl, g1⟩
    simp -dsimp -implicitDefEqProofs (maxSteps := 2000000) (disch := first | assumption | omega | (simp only [nx]; omega) | ((repeat refine Fresh.push ?_ _); assumption) | (simp only [smA]; done) | (simp [oneCell, AW.next_push]; done) | fail) only [go_sem, Nat.reduceEqDiff, reduceIte, Nat.reduceAdd, Int.toNat_natCast, Nat.add_zero, Owes_true, Tryz.results68]
    exact ⟨by rw [decide_eq_true (by omega : l.length ≤ 64), Bool.true_and], g1⟩
  · simp -dsimp -implicitDefEqProofs (maxSteps := 2000000) (disch := first | assumption | omega | (simp only [nx]; omega) | ((repeat refine Fresh.push ?_ _); assumption) | (simp only [smA]; done) | (simp [oneCell, AW.next_push]; done) | fail) only [go_sem, Nat.reduceEqDiff, reduceIte, Nat.reduceAdd, Int.toNat_natCast, Nat.add_zero, Owes_true, Tryz.results68, h, hs0]
    exact ⟨by rw [decide_eq_false (by omega : ¬ l.length ≤ 64), Bool.false_and], Grown.refl f⟩
end Go.Proofs

namespace Go.Proofs
open Go Go.RowKit Go.Sim
set_option maxRecDepth 100000
theorem Tryz.ia115 (t : Tmps) (w : AW) (x y : Operand) : fast (prg Tryz.prog) t w (.indexAddr 115 x y) = indexA 1 24 (ev t x) (ev t y) := fast_indexAddrA Tryz.ty115 Tryz.ty3
attribute [go_sem] Tryz.ia115
theorem same_fnL (f a b c : Nat) : same 12 (.func (.func f) #[] #[.pointer (some ⟨a, 0, none⟩), .pointer (some ⟨b, 0, none⟩), .pointer (some ⟨c, 0, none⟩)]) (.func (.func f) #[] #[.pointer (some ⟨a, 0, none⟩), .pointer (some ⟨b, 0, none⟩), .pointer (some ⟨c, 0, none⟩)]) = true := by simp [same, same.all]
def icl (A : List Int) : List Value := A.map fun x => Value.int .i64 x
theorem icl_len (A : List Int) : (icl A).length = A.length := List.length_map ..
theorem icl_at {A : List Int} {u : Nat} (h : u < A.length) : (icl A)[u]? = some (.int .i64 (lb A u)) := by
  rw [lb_at h]; simp [icl, h]
theorem icl_set (A : List Int) (p : Nat) (x : Int) : setL (icl A) p (.int .i64 x) = icl (A.set p x) := by
  rw [setL_eq, icl, icl, List.map_set]
structure LkAt (w0 w : AW) (v : Value) (bl bk br : Nat) (A : List Int) : Prop where
  ar : Own w bl 115 (icl A)
  li : Own w bk 44 [v]
  re : Own w br 165 [.func (.func 112) #[] #[.pointer (some ⟨bl, 0, none⟩), .pointer (some ⟨bk, 0, none⟩), .pointer (some ⟨br, 0, none⟩)]]
  ne : bl ≠ bk ∧ bl ≠ br
  lo : w0.next ≤ bl
  k0 : Keep w0.next w0 w
  f : Fresh w
theorem LkAt.put {w0 w : AW} {v : Value} {bl bk br : Nat} {A : List Int} (S : LkAt w0 w v bl bk br A) (B : List Int) : LkAt w0 (w.put bl (.cells (icl B) 115 bl 0 0)) v bl bk br B := by
  have m := MutS.put (S := fun j => j = bl) S.f rfl S.ar.lt (.cells (icl B) 115 bl 0 0)
  exact ⟨S.ar.put _, m.own S.li (fun q => S.ne.1 q.symm), m.own S.re (fun q => S.ne.2 q.symm), S.ne, S.lo, S.k0.trans (m.keep (fun j q => by have := S.lo; omega) S.k0.next), m.fresh⟩
theorem LkAt.grown {w0 w w' : AW} {v : Value} {bl bk br : Nat} {A : List Int} (S : LkAt w0 w v bl bk br A) (g : Grown w w') : LkAt w0 w' v bl bk br A :=
  ⟨S.ar.keep g.1, S.li.keep g.1, S.re.keep g.1, S.ne, S.lo, S.k0.trans (g.1.mono S.k0.next), g.2⟩
def ReachP (w0 : AW) (L : List (Int × Int)) (v : Value) (bl bk br : Nat) (n : Nat) : Prop :=
  ∀ (A : List Int) (p : Nat) (ld : Int) (w : AW), free A < n → A.length = 24 → p < 24 → ld ≠ -1 → LkAt w0 w v bl bk br A →
    CallT Tryz.prog Tryz.T1 (.fn (.func 112) #[.pointer (some ⟨bl, 0, none⟩), .pointer (some ⟨bk, 0, none⟩), .pointer (some ⟨br, 0, none⟩)]) #[.int .i64 (p : Int), .int .i64 ld] w
      (fun rv w' => rv = .tuple #[] ∧ ∃ B, Reach L A B p ld ∧ LkAt w0 w' v bl bk br B ∧ MutS (fun j => j = bl) w w')
theorem idx24 (b p : Nat) (h : p < 24) : indexA 1 24 (.pointer (some ⟨b, 0, none⟩)) (.int .i64 (p : Int)) = some (.pointer (some ⟨b, p, none⟩)) := by
  rw [indexA_eq h]; simp
set_option maxHeartbeats 16000000 in
theorem reach_ok (L : List (Int × Int)) (v : Value) (w0 : AW) (hs : ArrOf w0 2 lcells v L) (hl : ∀ x ∈ L, linkB x = true) (bl bk br : Nat) : ∀ n, ReachP w0 L v bl bk br n := by
  intro n
  induction n with
  | zero => exact fun A p ld w h => absurd h (by omega)
  | succ n ih =>
  intro A p ld w hfr hlen hp hld S
  obtain ⟨pL, cL, rfl, _, _, hat⟩ := id hs.open
  have hs1 := same_fnL 112 bl bk br
  have cp := S.ar.cell (o := p) (icl_at (by omega)) rfl
  have ip := idx24 bl p hp
  refine callT_code rfl Tryz.func112 rfl Tryz.s112_eq rfl ?_
  unfold Tryz.s112
  by_cases h0 : lb A p = -1
  case neg =>
    simp -dsimp -implicitDefEqProofs (maxSteps := 2000000) (disch := first | assumption | omega | (simp only [nx]; omega) | ((repeat refine Fresh.push ?_ _); assumption) | (simp only [smA]; done) | (simp [oneCell, AW.next_push]; done) | fail) only [go_sem, Nat.reduceEqDiff, reduceIte, Nat.reduceAdd, Int.toNat_natCast, Nat.add_zero, Owes_true, Tryz.results112, ip, cp, h0]
    exact ⟨trivial, A, .here h0, S, .refl S.f⟩
  have hst := storeV_own1 (o := p) (v := .int .i64 ld) S.ar (by rw [icl_len]; omega) rfl
  rw [icl_set] at hst
  have hf1 := free_set (A := A) (p := p) (x := ld) (by omega) h0 hld
  have S1 := S.put (A.set p ld)
  have m1 := MutS.put (S := fun j => j = bl) S.f rfl S.ar.lt (.cells (icl (A.set p ld)) 115 bl 0 0)
  generalize hw1 : w.put bl (.cells (icl (A.set p ld)) 115 bl 0 0) = wp at *
  have kc := S1.li.cell (o := 0) rfl rfl
  simp -dsimp -implicitDefEqProofs (maxSteps := 2000000) (disch := first | assumption | omega | (simp only [nx]; omega) | ((repeat refine Fresh.push ?_ _); assumption) | (simp only [smA]; done) | (simp [oneCell, AW.next_push]; done) | fail) only [go_sem, Nat.reduceEqDiff, reduceIte, Nat.reduceAdd, Int.toNat_natCast, Nat.add_zero, Owes_true, Tryz.results112, ip, cp, h0, hst, kc]
  refine loopR (fun k t ds w1 => ∃ i : Nat, i ≤ L.length ∧ k = L.length - i ∧ ds = [] ∧ ev t (.tmp 0) = .int .i64 (p : Int) ∧ ev t (.tmp 1) = .int .i64 ld ∧ ev t (.tmp 2) = .pointer (some ⟨bl, 0, none⟩) ∧ ev t (.tmp 3) = .pointer (some ⟨bk, 0, none⟩) ∧ ev t (.tmp 4) = .pointer (some ⟨br, 0, none⟩) ∧ ev t (.tmp 16) = .slice pL L.length cL ∧ ev t (.tmp 17) = .int .i64 (L.length : Int) ∧ ev t (.tmp 18) = .int .i64 (i : Int) ∧ ∃ B, Going L (A.set p ld) B p ld i ∧ LkAt w0 w1 (.slice pL L.length cL) bl bk br B ∧ MutS (fun j => j = bl) w w1) (L.length) ?_ ?_
  · refine ⟨0, by omega, by omega, rfl, ?_, ?_, ?_, ?_, ?_, ?_, ?_, ?_, A.set p ld, Going.start, S1, m1⟩ <;> simp -dsimp -implicitDefEqProofs (maxSteps := 2000000) (disch := first | assumption | omega | (simp only [nx]; omega) | ((repeat refine Fresh.push ?_ _); assumption) | (simp only [smA]; done) | (simp [oneCell, AW.next_push]; done) | fail) only [go_sem, Nat.reduceEqDiff, reduceIte, Nat.reduceAdd, Int.toNat_natCast, Nat.add_zero, Owes_true] <;> rfl
  rintro k t ds w1 ⟨i, hii, rfl, rfl, e0, e1, e2, e3, e4, e16, e17, e18, B, hG, S1, hM⟩
  by_cases hlt : (i : Int) < (L.length : Int)
  case neg =>
    obtain rfl : i = L.length := by omega
    simp -dsimp -implicitDefEqProofs (maxSteps := 2000000) (disch := first | assumption | omega | (simp only [nx]; omega) | ((repeat refine Fresh.push ?_ _); assumption) | (simp only [smA]; done) | (simp [oneCell, AW.next_push]; done) | fail) only [go_sem, Nat.reduceEqDiff, reduceIte, Nat.reduceAdd, Int.toNat_natCast, Nat.add_zero, Owes_true, Tryz.results112, e0, e1, e2, e3, e4, e16, e17, e18, hlt]
    exact ⟨trivial, B, hG.done (by omega) h0 hld, S1, hM⟩
  have hi' : i < L.length := by omega
  obtain ⟨b1, o1, rfl, hb1, hcell⟩ := hat i hi'
  have a0 := hcell w1 S1.k0 0 _ rfl
  have a1 := hcell w1 S1.k0 1 _ rfl
  simp only [Nat.add_zero] at a0 a1
  have hli := hl _ (List.getElem_mem hi')
  simp only [linkB, Bool.and_eq_true, Bool.not_eq_true', decide_eq_false_iff_not, inR_iff] at hli
  have hLi : L[i] = (L[i].1, L[i].2) := rfl
  have hsk := hG.skip hi'
  have hfg := hG.free
  generalize L[i].1 = x at *
  generalize L[i].2 = y at *
  obtain ⟨X, rfl⟩ : ∃ X : Nat, x = (X : Int) := ⟨x.toNat, by omega⟩
  obtain ⟨Y, rfl⟩ : ∃ Y : Nat, y = (Y : Int) := ⟨y.toNat, by omega⟩
  have gN := (Grown.refl S1.f).push (.cells [.int .i64 0, .int .i64 0] 25 w1.next 0 0)
  have ON := Own.new S1.f 25 [.int .i64 0, .int .i64 0]
  have hst3 := storeV_own (o := 0) (l := [.int .i64 (X : Int), .int .i64 (Y : Int)]) (size := 2) ON rfl (by omega) (by simp) (by rfl)
  simp only [setsL, setL] at hst3
  have mN := MutS.put (S := fun j => j = w1.next) gN.2 rfl ON.lt (.cells [.int .i64 (X : Int), .int .i64 (Y : Int)] 25 w1.next 0 0)
  have ON2 := ON.put [.int .i64 (X : Int), .int .i64 (Y : Int)]
  have hGN : Grown w1 _ := ⟨gN.1.put (b := w1.next) (by omega) (.cells [.int .i64 (X : Int), .int .i64 (Y : Int)] 25 w1.next 0 0), mN.fresh⟩
  have SN := S1.grown hGN
  have hMN : MutS (fun j => j = bl) w1 _ := .of hGN
  have n0 := ON2.cell (o := 0) rfl rfl
  have n1 := ON2.cell (o := 1) rfl rfl
  have rc := SN.re.cell (o := 0) rfl rfl
  by_cases h1 : p = X
  · subst h1
    have hc0 : decide ((p : Int) = (p : Int)) = true := decide_eq_true rfl
    have hc1 : True := trivial
    have hih := ih B Y ld _ (by omega) (by rw [hG.len]; simpa using hlen) (by omega) hld SN
    simp -dsimp -implicitDefEqProofs (maxSteps := 2000000) (disch := first | assumption | omega | (simp only [nx]; omega) | ((repeat refine Fresh.push ?_ _); assumption) | (simp only [smA]; done) | (simp [oneCell, AW.next_push]; done) | fail) only [go_sem, Nat.reduceEqDiff, reduceIte, Nat.reduceAdd, Int.toNat_natCast, Nat.add_zero, Owes_true, Tryz.results112, e0, e1, e2, e3, e4, e16, e17, e18, hlt, indexV_eq, a0, a1, hst3, n0, n1, rc, hs1, Nat.zero_add, hc0, hc1]
    apply callV_of (e := rfl)
    · exact hih
    rintro _ w2 ⟨rfl, C, hC, S2, hM2⟩
    simp -dsimp -implicitDefEqProofs (maxSteps := 2000000) (disch := first | assumption | omega | (simp only [nx]; omega) | ((repeat refine Fresh.push ?_ _); assumption) | (simp only [smA]; done) | (simp [oneCell, AW.next_push]; done) | fail) only [go_sem, Nat.reduceEqDiff, reduceIte, Nat.reduceAdd, Int.toNat_natCast, Nat.add_zero, Owes_true, Tryz.results112, e0, e1, e2, e3, e4, e16, e17, e18]
    refine ⟨_, by omega, i + 1, by omega, rfl, rfl, by (simp -dsimp -implicitDefEqProofs (maxSteps := 2000000) (disch := first | assumption | omega | (simp only [nx]; omega) | ((repeat refine Fresh.push ?_ _); assumption) | (simp only [smA]; done) | (simp [oneCell, AW.next_push]; done) | fail) only [go_sem, Nat.reduceEqDiff, reduceIte, Nat.reduceAdd, Int.toNat_natCast, Nat.add_zero, Owes_true, e0]; try rfl), by (simp -dsimp -implicitDefEqProofs (maxSteps := 2000000) (disch := first | assumption | omega | (simp only [nx]; omega) | ((repeat refine Fresh.push ?_ _); assumption) | (simp only [smA]; done) | (simp [oneCell, AW.next_push]; done) | fail) only [go_sem, Nat.reduceEqDiff, reduceIte, Nat.reduceAdd, Int.toNat_natCast, Nat.add_zero, Owes_true, e1]; try rfl), by (simp -dsimp -implicitDefEqProofs (maxSteps := 2000000) (disch := first | assumption | omega | (simp only [nx]; omega) | ((repeat refine Fresh.push ?_ _); assumption) | (simp only [smA]; done) | (simp [oneCell, AW.next_push]; done) | fail) only [go_sem, Nat.reduceEqDiff, reduceIte, Nat.reduceAdd, Int.toNat_natCast, Nat.add_zero, Owes_true, e2]; try rfl), by (simp -dsimp -implicitDefEqProofs (maxSteps := 2000000) (disch := first | assumption | omega | (simp only [nx]; omega) | ((repeat refine Fresh.push ?_ _); assumption) | (simp only [smA]; done) | (simp [oneCell, AW.next_push]; done) | fail) only [go_sem, Nat.reduceEqDiff, reduceIte, Nat.reduceAdd, Int.toNat_natCast, Nat.add_zero, Owes_true, e3]; try rfl), by (simp -dsimp -implicitDefEqProofs (maxSteps := 2000000) (disch := first | assumption | omega | (simp only [nx]; omega) | ((repeat refine Fresh.push ?_ _); assumption) | (simp only [smA]; done) | (simp [oneCell, AW.next_push]; done) | fail) only [go_sem, Nat.reduceEqDiff, reduceIte, Nat.reduceAdd, Int.toNat_natCast, Nat.add_zero, Owes_true, e4]; try rfl), by (simp -dsimp -implicitDefEqProofs (maxSteps := 2000000) (disch := first | assumption | omega | (simp only [nx]; omega) | ((repeat refine Fresh.push ?_ _); assumption) | (simp only [smA]; done) | (simp [oneCell, AW.next_push]; done) | fail) only [go_sem, Nat.reduceEqDiff, reduceIte, Nat.reduceAdd, Int.toNat_natCast, Nat.add_zero, Owes_true, e16]; try rfl), by (simp -dsimp -implicitDefEqProofs (maxSteps := 2000000) (disch := first | assumption | omega | (simp only [nx]; omega) | ((repeat refine Fresh.push ?_ _); assumption) | (simp only [smA]; done) | (simp [oneCell, AW.next_push]; done) | fail) only [go_sem, Nat.reduceEqDiff, reduceIte, Nat.reduceAdd, Int.toNat_natCast, Nat.add_zero, Owes_true, e17]; try rfl), by (simp -dsimp -implicitDefEqProofs (maxSteps := 2000000) (disch := first | assumption | omega | (simp only [nx]; omega) | ((repeat refine Fresh.push ?_ _); assumption) | (simp only [smA]; done) | (simp [oneCell, AW.next_push]; done) | fail) only [go_sem, Nat.reduceEqDiff, reduceIte, Nat.reduceAdd, Int.toNat_natCast, Nat.add_zero, Owes_true, e18]; try rfl), C, hG.call hi' (.inl hLi) (by omega) hC, S2, (hM.trans hMN (Within.refl _ _)).trans hM2 (Within.refl _ _)⟩
  · have hc0 : decide ((p : Int) = (X : Int)) = false := decide_eq_false (by omega)
    by_cases h2 : p = Y
    · subst h2
      have hc1 : decide ((p : Int) = (p : Int)) = true := decide_eq_true rfl
      have hih := ih B X ld _ (by omega) (by rw [hG.len]; simpa using hlen) (by omega) hld SN
      simp -dsimp -implicitDefEqProofs (maxSteps := 2000000) (disch := first | assumption | omega | (simp only [nx]; omega) | ((repeat refine Fresh.push ?_ _); assumption) | (simp only [smA]; done) | (simp [oneCell, AW.next_push]; done) | fail) only [go_sem, Nat.reduceEqDiff, reduceIte, Nat.reduceAdd, Int.toNat_natCast, Nat.add_zero, Owes_true, Tryz.results112, e0, e1, e2, e3, e4, e16, e17, e18, hlt, indexV_eq, a0, a1, hst3, n0, n1, rc, hs1, Nat.zero_add, hc0, hc1]
      apply callV_of (e := rfl)
      · exact hih
      rintro _ w2 ⟨rfl, C, hC, S2, hM2⟩
      simp -dsimp -implicitDefEqProofs (maxSteps := 2000000) (disch := first | assumption | omega | (simp only [nx]; omega) | ((repeat refine Fresh.push ?_ _); assumption) | (simp only [smA]; done) | (simp [oneCell, AW.next_push]; done) | fail) only [go_sem, Nat.reduceEqDiff, reduceIte, Nat.reduceAdd, Int.toNat_natCast, Nat.add_zero, Owes_true, Tryz.results112, e0, e1, e2, e3, e4, e16, e17, e18]
      refine ⟨_, by omega, i + 1, by omega, rfl, rfl, by (simp -dsimp -implicitDefEqProofs (maxSteps := 2000000) (disch := first | assumption | omega | (simp only [nx]; omega) | ((repeat refine Fresh.push ?_ _); assumption) | (simp only [smA]; done) | (simp [oneCell, AW.next_push]; done) | fail) only [go_sem, Nat.reduceEqDiff, reduceIte, Nat.reduceAdd, Int.toNat_natCast, Nat.add_zero, Owes_true, e0]; try rfl), by (simp -dsimp -implicitDefEqProofs (maxSteps := 2000000) (disch := first | assumption | omega | (simp only [nx]; omega) | ((repeat refine Fresh.push ?_ _); assumption) | (simp only [smA]; done) | (simp [oneCell, AW.next_push]; done) | fail) only [go_sem, Nat.reduceEqDiff, reduceIte, Nat.reduceAdd, Int.toNat_natCast, Nat.add_zero, Owes_true, e1]; try rfl), by (simp -dsimp -implicitDefEqProofs (maxSteps := 2000000) (disch := first | assumption | omega | (simp only [nx]; omega) | ((repeat refine Fresh.push ?_ _); assumption) | (simp only [smA]; done) | (simp [oneCell, AW.next_push]; done) | fail) only [go_sem, Nat.reduceEqDiff, reduceIte, Nat.reduceAdd, Int.toNat_natCast, Nat.add_zero, Owes_true, e2]; try rfl), by (simp -dsimp -implicitDefEqProofs (maxSteps := 2000000) (disch := first | assumption | omega | (simp only [nx]; omega) | ((repeat refine Fresh.push ?_ _); assumption) | (simp only [smA]; done) | (simp [oneCell, AW.next_push]; done) | fail) only [go_sem, Nat.reduceEqDiff, reduceIte, Nat.reduceAdd, Int.toNat_natCast, Nat.add_zero, Owes_true, e3]; try rfl), by (simp -dsimp -implicitDefEqProofs (maxSteps := 2000000) (disch := first | assumption | omega | (simp only [nx]; omega) | ((repeat refine Fresh.push ?_ _); assumption) | (simp only [smA]; done) | (simp [oneCell, AW.next_push]; done) | fail) only [go_sem, Nat.reduceEqDiff, reduceIte, Nat.reduceAdd, Int.toNat_natCast, Nat.add_zero, Owes_true, e4]; try rfl), by (simp -dsimp -implicitDefEqProofs (maxSteps := 2000000) (disch := first | assumption | omega | (simp only [nx]; omega) | ((repeat refine Fresh.push ?_ _); assumption) | (simp only [smA]; done) | (simp [oneCell, AW.next_push]; done) | fail) only [go_sem, Nat.reduceEqDiff, reduceIte, Nat.reduceAdd, Int.toNat_natCast, Nat.add_zero, Owes_true, e16]; try rfl), by (simp -dsimp -implicitDefEqProofs (maxSteps := 2000000) (disch := first | assumption | omega | (simp only [nx]; omega) | ((repeat refine Fresh.push ?_ _); assumption) | (simp only [smA]; done) | (simp [oneCell, AW.next_push]; done) | fail) only [go_sem, Nat.reduceEqDiff, reduceIte, Nat.reduceAdd, Int.toNat_natCast, Nat.add_zero, Owes_true, e17]; try rfl), by (simp -dsimp -implicitDefEqProofs (maxSteps := 2000000) (disch := first | assumption | omega | (simp only [nx]; omega) | ((repeat refine Fresh.push ?_ _); assumption) | (simp only [smA]; done) | (simp [oneCell, AW.next_push]; done) | fail) only [go_sem, Nat.reduceEqDiff, reduceIte, Nat.reduceAdd, Int.toNat_natCast, Nat.add_zero, Owes_true, e18]; try rfl), C, hG.call hi' (.inr hLi) (by omega) hC, S2, (hM.trans hMN (Within.refl _ _)).trans hM2 (Within.refl _ _)⟩
    · have hc1 : decide ((p : Int) = (Y : Int)) = false := decide_eq_false (by omega)
      simp -dsimp -implicitDefEqProofs (maxSteps := 2000000) (disch := first | assumption | omega | (simp only [nx]; omega) | ((repeat refine Fresh.push ?_ _); assumption) | (simp only [smA]; done) | (simp [oneCell, AW.next_push]; done) | fail) only [go_sem, Nat.reduceEqDiff, reduceIte, Nat.reduceAdd, Int.toNat_natCast, Nat.add_zero, Owes_true, Tryz.results112, e0, e1, e2, e3, e4, e16, e17, e18, hlt, indexV_eq, a0, a1, hst3, n0, n1, Nat.zero_add, hc0, hc1]
      refine ⟨_, by omega, i + 1, by omega, rfl, rfl, by (simp -dsimp -implicitDefEqProofs (maxSteps := 2000000) (disch := first | assumption | omega | (simp only [nx]; omega) | ((repeat refine Fresh.push ?_ _); assumption) | (simp only [smA]; done) | (simp [oneCell, AW.next_push]; done) | fail) only [go_sem, Nat.reduceEqDiff, reduceIte, Nat.reduceAdd, Int.toNat_natCast, Nat.add_zero, Owes_true, e0]; try rfl), by (simp -dsimp -implicitDefEqProofs (maxSteps := 2000000) (disch := first | assumption | omega | (simp only [nx]; omega) | ((repeat refine Fresh.push ?_ _); assumption) | (simp only [smA]; done) | (simp [oneCell, AW.next_push]; done) | fail) only [go_sem, Nat.reduceEqDiff, reduceIte, Nat.reduceAdd, Int.toNat_natCast, Nat.add_zero, Owes_true, e1]; try rfl), by (simp -dsimp -implicitDefEqProofs (maxSteps := 2000000) (disch := first | assumption | omega | (simp only [nx]; omega) | ((repeat refine Fresh.push ?_ _); assumption) | (simp only [smA]; done) | (simp [oneCell, AW.next_push]; done) | fail) only [go_sem, Nat.reduceEqDiff, reduceIte, Nat.reduceAdd, Int.toNat_natCast, Nat.add_zero, Owes_true, e2]; try rfl), by (simp -dsimp -implicitDefEqProofs (maxSteps := 2000000) (disch := first | assumption | omega | (simp only [nx]; omega) | ((repeat refine Fresh.push ?_ _); assumption) | (simp only [smA]; done) | (simp [oneCell, AW.next_push]; done) | fail) only [go_sem, Nat.reduceEqDiff, reduceIte, Nat.reduceAdd, Int.toNat_natCast, Nat.add_zero, Owes_true, e3]; try rfl), by (simp -dsimp -implicitDefEqProofs (maxSteps := 2000000) (disch := first | assumption | omega | (simp only [nx]; omega) | ((repeat refine Fresh.push ?_ _); assumption) | (simp only [smA]; done) | (simp [oneCell, AW.next_push]; done) | fail) only [go_sem, Nat.reduceEqDiff, reduceIte, Nat.reduceAdd, Int.toNat_natCast, Nat.add_zero, Owes_true, e4]; try rfl), by (simp -dsimp -implicitDefEqProofs (maxSteps := 2000000) (disch := first | assumption | omega | (simp only [nx]; omega) | ((repeat refine Fresh.push ?_ _); assumption) | (simp only [smA]; done) | (simp [oneCell, AW.next_push]; done) | fail) only [go_sem, Nat.reduceEqDiff, reduceIte, Nat.reduceAdd, Int.toNat_natCast, Nat.add_zero, Owes_true, e16]; try rfl), by (simp -dsimp -implicitDefEqProofs (maxSteps := 2000000) (disch := first | assumption | omega | (simp only [nx]; omega) | ((repeat refine Fresh.push ?_ _); assumption) | (simp only [smA]; done) | (simp [oneCell, AW.next_push]; done) | fail) only [go_sem, Nat.reduceEqDiff, reduceIte, Nat.reduceAdd, Int.toNat_natCast, Nat.add_zero, Owes_true, e17]; try rfl), by (simp -dsimp -implicitDefEqProofs (maxSteps := 2000000) (disch := first | assumption | omega | (simp only [nx]; omega) | ((repeat refine Fresh.push ?_ _); assumption) | (simp only [smA]; done) | (simp [oneCell, AW.next_push]; done) | fail) only [go_sem, Nat.reduceEqDiff, reduceIte, Nat.reduceAdd, Int.toNat_natCast, Nat.add_zero, Owes_true, e18]; try rfl), B, hsk (by omega) (by omega), SN, hM.trans hMN (Within.refl _ _)⟩
end Go.Proofs

namespace Go.Proofs
open Go Go.RowKit Go.Sim
set_option maxRecDepth 100000
theorem loadAll {w : AW} {b n : Nat} {e : TypeId} {c : List Value} (h : Own w b e c) (hn : c.length = n) (h1 : ∀ v ∈ c, oneCell v = true) : loadV w true n (.pointer (some ⟨b, 0, none⟩)) = some (.agg c.toArray) := by
  subst hn
  rw [loadV_row, aCells_of c 0 fun i v hv => by rw [Nat.zero_add]; exact h.cell hv (h1 v (List.mem_of_getElem? hv))]
theorem icl_one (A : List Int) : ∀ v ∈ icl A, oneCell v = true := fun v hv => by
  obtain ⟨x, _, rfl⟩ := List.mem_map.mp hv; rfl
theorem icl_all (A : List Int) : (icl A).all oneCell = true := List.all_eq_true.mpr (icl_one A)
theorem setsL_icl (A B : List Int) (h : A.length = B.length) : setsL (icl B) 0 (icl A) = icl A := by
  have := setsL_zero (icl A) (icl B) [] (by rw [icl_len, icl_len, h])
  rwa [List.append_nil, List.append_nil] at this
theorem z24 : icl (List.replicate 24 0) = [.int .i64 0, .int .i64 0, .int .i64 0, .int .i64 0, .int .i64 0, .int .i64 0, .int .i64 0, .int .i64 0, .int .i64 0, .int .i64 0, .int .i64 0, .int .i64 0, .int .i64 0, .int .i64 0, .int .i64 0, .int .i64 0, .int .i64 0, .int .i64 0, .int .i64 0, .int .i64 0, .int .i64 0, .int .i64 0, .int .i64 0, .int .i64 0] := rfl
theorem lb_all {A : List Int} (hA : A.length = 24) (h : ∀ u, u < 24 → lb A u = -1) : A = List.replicate 24 (-1) := by
  refine List.ext_getElem (by rw [hA, List.length_replicate]) fun i h1 h2 => ?_
  rw [List.getElem_replicate, ← lb_at h1]
  exact h i (by omega)
set_option maxHeartbeats 16000000 in
theorem linked_ok (L : List (Int × Int)) (v : Value) (w : AW) (f : Fresh w) (hs : ArrOf w 2 lcells v L) (hl : ∀ x ∈ L, linkB x = true) :
    CallT Tryz.prog Tryz.T1 (.fn (.func 69) #[]) #[v] w (fun rv w' => ∃ A, rv = .agg (icl A).toArray ∧ Labs L A ∧ Grown w w') := by
  obtain ⟨pL, cL, rfl, _⟩ := id hs.open
  have g1 := (Grown.refl f).push (.cells [.slice pL L.length cL] 44 w.next 0 0)
  have O1 := Own.new f 44 [.slice pL L.length cL]
  have g2 := g1.push (.cells [.int .i64 0, .int .i64 0, .int .i64 0, .int .i64 0, .int .i64 0, .int .i64 0, .int .i64 0, .int .i64 0, .int .i64 0, .int .i64 0, .int .i64 0, .int .i64 0, .int .i64 0, .int .i64 0, .int .i64 0, .int .i64 0, .int .i64 0, .int .i64 0, .int .i64 0, .int .i64 0, .int .i64 0, .int .i64 0, .int .i64 0, .int .i64 0] 115 (w.next + 1) 0 0)
  have O2 := Own.new g1.2 115 [.int .i64 0, .int .i64 0, .int .i64 0, .int .i64 0, .int .i64 0, .int .i64 0, .int .i64 0, .int .i64 0, .int .i64 0, .int .i64 0, .int .i64 0, .int .i64 0, .int .i64 0, .int .i64 0, .int .i64 0, .int .i64 0, .int .i64 0, .int .i64 0, .int .i64 0, .int .i64 0, .int .i64 0, .int .i64 0, .int .i64 0, .int .i64 0]
  rw [AW.next_push] at O2
  have g3 := g2.push (.cells [.int .i64 0, .int .i64 0, .int .i64 0, .int .i64 0, .int .i64 0, .int .i64 0, .int .i64 0, .int .i64 0, .int .i64 0, .int .i64 0, .int .i64 0, .int .i64 0, .int .i64 0, .int .i64 0, .int .i64 0, .int .i64 0, .int .i64 0, .int .i64 0, .int .i64 0, .int .i64 0, .int .i64 0, .int .i64 0, .int .i64 0, .int .i64 0] 115 (w.next + 1 + 1) 0 0)
  have O3 := Own.new g2.2 115 [.int .i64 0, .int .i64 0, .int .i64 0, .int .i64 0, .int .i64 0, .int .i64 0, .int .i64 0, .int .i64 0, .int .i64 0, .int .i64 0, .int .i64 0, .int .i64 0, .int .i64 0, .int .i64 0, .int .i64 0, .int .i64 0, .int .i64 0, .int .i64 0, .int .i64 0, .int .i64 0, .int .i64 0, .int .i64 0, .int .i64 0, .int .i64 0]
  rw [AW.next_push, AW.next_push] at O3
  have O1c := (O1.push (.cells [.int .i64 0, .int .i64 0, .int .i64 0, .int .i64 0, .int .i64 0, .int .i64 0, .int .i64 0, .int .i64 0, .int .i64 0, .int .i64 0, .int .i64 0, .int .i64 0, .int .i64 0, .int .i64 0, .int .i64 0, .int .i64 0, .int .i64 0, .int .i64 0, .int .i64 0, .int .i64 0, .int .i64 0, .int .i64 0, .int .i64 0, .int .i64 0] 115 (w.next + 1) 0 0)).push (.cells [.int .i64 0, .int .i64 0, .int .i64 0, .int .i64 0, .int .i64 0, .int .i64 0, .int .i64 0, .int .i64 0, .int .i64 0, .int .i64 0, .int .i64 0, .int .i64 0, .int .i64 0, .int .i64 0, .int .i64 0, .int .i64 0, .int .i64 0, .int .i64 0, .int .i64 0, .int .i64 0, .int .i64 0, .int .i64 0, .int .i64 0, .int .i64 0] 115 (w.next + 1 + 1) 0 0)
  have O2c := O2.push (.cells [.int .i64 0, .int .i64 0, .int .i64 0, .int .i64 0, .int .i64 0, .int .i64 0, .int .i64 0, .int .i64 0, .int .i64 0, .int .i64 0, .int .i64 0, .int .i64 0, .int .i64 0, .int .i64 0, .int .i64 0, .int .i64 0, .int .i64 0, .int .i64 0, .int .i64 0, .int .i64 0, .int .i64 0, .int .i64 0, .int .i64 0, .int .i64 0] 115 (w.next + 1 + 1) 0 0)
  have hn3 : (((w.push (.cells [.slice pL L.length cL] 44 w.next 0 0)).push (.cells [.int .i64 0, .int .i64 0, .int .i64 0, .int .i64 0, .int .i64 0, .int .i64 0, .int .i64 0, .int .i64 0, .int .i64 0, .int .i64 0, .int .i64 0, .int .i64 0, .int .i64 0, .int .i64 0, .int .i64 0, .int .i64 0, .int .i64 0, .int .i64 0, .int .i64 0, .int .i64 0, .int .i64 0, .int .i64 0, .int .i64 0, .int .i64 0] 115 (w.next + 1) 0 0)).push (.cells [.int .i64 0, .int .i64 0, .int .i64 0, .int .i64 0, .int .i64 0, .int .i64 0, .int .i64 0, .int .i64 0, .int .i64 0, .int .i64 0, .int .i64 0, .int .i64 0, .int .i64 0, .int .i64 0, .int .i64 0, .int .i64 0, .int .i64 0, .int .i64 0, .int .i64 0, .int .i64 0, .int .i64 0, .int .i64 0, .int .i64 0, .int .i64 0] 115 (w.next + 1 + 1) 0 0)).next = w.next + 1 + 1 + 1 := by rw [AW.next_push, AW.next_push, AW.next_push]
  refine callT_code rfl Tryz.func69 rfl Tryz.s69_eq rfl ?_
  unfold Tryz.s69
  simp -dsimp -implicitDefEqProofs (maxSteps := 2000000) (disch := first | assumption | omega | (simp only [nx]; omega) | ((repeat refine Fresh.push ?_ _); assumption) | (simp only [smA]; done) | (simp [oneCell, AW.next_push]; done) | fail) only [go_sem, Nat.reduceEqDiff, reduceIte, Nat.reduceAdd, Int.toNat_natCast, Nat.add_zero, Owes_true, Tryz.results69]
  generalize hw3 : (((w.push (.cells [.slice pL L.length cL] 44 w.next 0 0)).push (.cells [.int .i64 0, .int .i64 0, .int .i64 0, .int .i64 0, .int .i64 0, .int .i64 0, .int .i64 0, .int .i64 0, .int .i64 0, .int .i64 0, .int .i64 0, .int .i64 0, .int .i64 0, .int .i64 0, .int .i64 0, .int .i64 0, .int .i64 0, .int .i64 0, .int .i64 0, .int .i64 0, .int .i64 0, .int .i64 0, .int .i64 0, .int .i64 0] 115 (w.next + 1) 0 0)).push (.cells [.int .i64 0, .int .i64 0, .int .i64 0, .int .i64 0, .int .i64 0, .int .i64 0, .int .i64 0, .int .i64 0, .int .i64 0, .int .i64 0, .int .i64 0, .int .i64 0, .int .i64 0, .int .i64 0, .int .i64 0, .int .i64 0, .int .i64 0, .int .i64 0, .int .i64 0, .int .i64 0, .int .i64 0, .int .i64 0, .int .i64 0, .int .i64 0] 115 (w.next + 1 + 1) 0 0)) = w3 at *
  rw [← z24] at O3 O2c
  refine loopR (fun k t ds w1 => ∃ i : Nat, i ≤ 24 ∧ k = 24 - i ∧ ds = [] ∧ ev t (.tmp 1) = .pointer (some ⟨w.next, 0, none⟩) ∧ ev t (.tmp 2) = .pointer (some ⟨w.next + 1, 0, none⟩) ∧ ev t (.tmp 3) = .pointer (some ⟨w.next + 1 + 1, 0, none⟩) ∧ ev t (.tmp 7) = .int .i64 (i : Int) ∧ ∃ A, A.length = 24 ∧ (∀ u, u < i → lb A u = -1) ∧ Own w1 w.next 44 [.slice pL L.length cL] ∧ Own w1 (w.next + 1) 115 (icl (List.replicate 24 0)) ∧ Own w1 (w.next + 1 + 1) 115 (icl A) ∧ Grown w w1 ∧ w1.next = w.next + 1 + 1 + 1) (24) ?_ ?_
  · refine ⟨0, by omega, by omega, rfl, ?_, ?_, ?_, ?_, List.replicate 24 0, rfl, (fun u hu => absurd hu (by omega)), O1c, O2c, O3, g3, hn3⟩ <;> simp -dsimp -implicitDefEqProofs (maxSteps := 2000000) (disch := first | assumption | omega | (simp only [nx]; omega) | ((repeat refine Fresh.push ?_ _); assumption) | (simp only [smA]; done) | (simp [oneCell, AW.next_push]; done) | fail) only [go_sem, Nat.reduceEqDiff, reduceIte, Nat.reduceAdd, Int.toNat_natCast, Nat.add_zero, Owes_true] <;> rfl
  rintro k t ds w1 ⟨i, hii, rfl, rfl, e1, e2, e3, e7, A, hA, hneg, P1, P2, P3, hgw, hnx⟩
  by_cases hlt : (i : Int) < 24
  · have hst := storeV_own1 (o := i) (v := .int .i64 (-1)) P3 (by rw [icl_len]; omega) rfl
    rw [icl_set] at hst
    have ip := idx24 (w.next + 1 + 1) i (by omega)
    have m := MutS.put (S := fun j => j = w.next + 1 + 1) hgw.2 rfl P3.lt (.cells (icl (A.set i (-1))) 115 (w.next + 1 + 1) 0 0)
    simp -dsimp -implicitDefEqProofs (maxSteps := 2000000) (disch := first | assumption | omega | (simp only [nx]; omega) | ((repeat refine Fresh.push ?_ _); assumption) | (simp only [smA]; done) | (simp [oneCell, AW.next_push]; done) | fail) only [go_sem, Nat.reduceEqDiff, reduceIte, Nat.reduceAdd, Int.toNat_natCast, Nat.add_zero, Owes_true, Tryz.results69, e1, e2, e3, e7, hlt, ip, hst]
    refine ⟨_, by omega, i + 1, by omega, rfl, rfl, by (simp -dsimp -implicitDefEqProofs (maxSteps := 2000000) (disch := first | assumption | omega | (simp only [nx]; omega) | ((repeat refine Fresh.push ?_ _); assumption) | (simp only [smA]; done) | (simp [oneCell, AW.next_push]; done) | fail) only [go_sem, Nat.reduceEqDiff, reduceIte, Nat.reduceAdd, Int.toNat_natCast, Nat.add_zero, Owes_true, e1]; try rfl), by (simp -dsimp -implicitDefEqProofs (maxSteps := 2000000) (disch := first | assumption | omega | (simp only [nx]; omega) | ((repeat refine Fresh.push ?_ _); assumption) | (simp only [smA]; done) | (simp [oneCell, AW.next_push]; done) | fail) only [go_sem, Nat.reduceEqDiff, reduceIte, Nat.reduceAdd, Int.toNat_natCast, Nat.add_zero, Owes_true, e2]; try rfl), by (simp -dsimp -implicitDefEqProofs (maxSteps := 2000000) (disch := first | assumption | omega | (simp only [nx]; omega) | ((repeat refine Fresh.push ?_ _); assumption) | (simp only [smA]; done) | (simp [oneCell, AW.next_push]; done) | fail) only [go_sem, Nat.reduceEqDiff, reduceIte, Nat.reduceAdd, Int.toNat_natCast, Nat.add_zero, Owes_true, e3]; try rfl), by (simp -dsimp -implicitDefEqProofs (maxSteps := 2000000) (disch := first | assumption | omega | (simp only [nx]; omega) | ((repeat refine Fresh.push ?_ _); assumption) | (simp only [smA]; done) | (simp [oneCell, AW.next_push]; done) | fail) only [go_sem, Nat.reduceEqDiff, reduceIte, Nat.reduceAdd, Int.toNat_natCast, Nat.add_zero, Owes_true, e7]; try rfl), A.set i (-1), (by rw [List.length_set]; exact hA), (fun u hu => by rw [lb_set (by omega)]; split; rfl; exact hneg u (by omega)), m.own P1 (by omega), m.own P2 (by omega), P3.put _, ⟨hgw.1.trans (m.keep (fun j q => by omega) (by omega)), m.fresh⟩, (by rw [AW.next_put]; exact hnx)⟩
  obtain rfl : i = 24 := by omega
  have hAr := lb_all hA hneg
  subst hAr
  have gp := hgw.push (.cells [.nilFunc] 165 (w.next + 1 + 1 + 1) 0 0)
  have O4 := Own.new hgw.2 165 [.nilFunc]
  rw [hnx] at O4
  have s4 := storeV_own1 (o := 0) (v := .func (.func 112) #[] #[.pointer (some ⟨w.next + 1 + 1, 0, none⟩), .pointer (some ⟨w.next, 0, none⟩), .pointer (some ⟨w.next + 1 + 1 + 1, 0, none⟩)]) O4 (by simp) rfl
  simp only [setL] at s4
  have m4 := MutS.put (S := fun j => j = w.next + 1 + 1 + 1) gp.2 rfl O4.lt (.cells [.func (.func 112) #[] #[.pointer (some ⟨w.next + 1 + 1, 0, none⟩), .pointer (some ⟨w.next, 0, none⟩), .pointer (some ⟨w.next + 1 + 1 + 1, 0, none⟩)]] 165 (w.next + 1 + 1 + 1) 0 0)
  have Q1 := m4.own (P1.push (.cells [.nilFunc] 165 (w.next + 1 + 1 + 1) 0 0)) (by omega)
  have Q2 := m4.own (P2.push (.cells [.nilFunc] 165 (w.next + 1 + 1 + 1) 0 0)) (by omega)
  have Q3 := m4.own (P3.push (.cells [.nilFunc] 165 (w.next + 1 + 1 + 1) 0 0)) (by omega)
  have Q4 := O4.put [.func (.func 112) #[] #[.pointer (some ⟨w.next + 1 + 1, 0, none⟩), .pointer (some ⟨w.next, 0, none⟩), .pointer (some ⟨w.next + 1 + 1 + 1, 0, none⟩)]]
  have k4 : Keep w.next w _ := gp.1.trans (m4.keep (fun j q => by omega) gp.1.next)
  have S4 : LkAt w _ (.slice pL L.length cL) (w.next + 1 + 1) w.next (w.next + 1 + 1 + 1) (List.replicate 24 (-1)) := ⟨Q3, Q1, Q4, ⟨by omega, by omega⟩, by omega, k4, m4.fresh⟩
  have hs3 := same_fnL 112 (w.next + 1 + 1) w.next (w.next + 1 + 1 + 1)
  simp -dsimp -implicitDefEqProofs (maxSteps := 2000000) (disch := first | assumption | omega | (simp only [nx]; omega) | ((repeat refine Fresh.push ?_ _); assumption) | (simp only [smA]; done) | (simp [oneCell, AW.next_push]; done) | fail) only [go_sem, Nat.reduceEqDiff, reduceIte, Nat.reduceAdd, Int.toNat_natCast, Nat.add_zero, Owes_true, Tryz.results69, e1, e2, e3, e7, hlt, hnx, s4]
  refine loopR (fun k t ds w5 => ∃ i : Nat, i ≤ 24 ∧ k = 24 - i ∧ ds = [] ∧ ev t (.tmp 1) = .pointer (some ⟨w.next, 0, none⟩) ∧ ev t (.tmp 2) = .pointer (some ⟨w.next + 1, 0, none⟩) ∧ ev t (.tmp 3) = .pointer (some ⟨w.next + 1 + 1, 0, none⟩) ∧ ev t (.tmp 5) = .pointer (some ⟨w.next + 1 + 1 + 1, 0, none⟩) ∧ ev t (.tmp 14) = .int .i64 (i : Int) ∧ ∃ A, Labd L A i ∧ LkAt w w5 (.slice pL L.length cL) (w.next + 1 + 1) w.next (w.next + 1 + 1 + 1) A ∧ Own w5 (w.next + 1) 115 (icl (List.replicate 24 0))) (24) ?_ ?_
  · refine ⟨0, by omega, by omega, rfl, ?_, ?_, ?_, ?_, ?_, List.replicate 24 (-1), .start L, S4, Q2⟩ <;> simp -dsimp -implicitDefEqProofs (maxSteps := 2000000) (disch := first | assumption | omega | (simp only [nx]; omega) | ((repeat refine Fresh.push ?_ _); assumption) | (simp only [smA]; done) | (simp [oneCell, AW.next_push]; done) | fail) only [go_sem, Nat.reduceEqDiff, reduceIte, Nat.reduceAdd, Int.toNat_natCast, Nat.add_zero, Owes_true, e1, e2, e3, hnx] <;> rfl
  rintro k t ds w5 ⟨i, hii, rfl, rfl, e1, e2, e3, e5, e14, A, hA, S5, P5⟩
  by_cases hlt : (i : Int) < 24
  · have hr := reach_ok L _ w hs hl (w.next + 1 + 1) w.next (w.next + 1 + 1 + 1) 25 A i (i : Int) w5 (by have := List.countP_le_length (p := fun x => decide (x = -1)) (l := A); have := hA.len; unfold free; omega) hA.len (by omega) (by omega) S5
    have rc := S5.re.cell (o := 0) rfl rfl
    simp -dsimp -implicitDefEqProofs (maxSteps := 2000000) (disch := first | assumption | omega | (simp only [nx]; omega) | ((repeat refine Fresh.push ?_ _); assumption) | (simp only [smA]; done) | (simp [oneCell, AW.next_push]; done) | fail) only [go_sem, Nat.reduceEqDiff, reduceIte, Nat.reduceAdd, Int.toNat_natCast, Nat.add_zero, Owes_true, Tryz.results69, e1, e2, e3, e5, e14, hlt, rc, hs3]
    apply callV_of (e := rfl)
    · exact hr
    rintro _ w6 ⟨rfl, B, hB, S6, hM⟩
    simp -dsimp -implicitDefEqProofs (maxSteps := 2000000) (disch := first | assumption | omega | (simp only [nx]; omega) | ((repeat refine Fresh.push ?_ _); assumption) | (simp only [smA]; done) | (simp [oneCell, AW.next_push]; done) | fail) only [go_sem, Nat.reduceEqDiff, reduceIte, Nat.reduceAdd, Int.toNat_natCast, Nat.add_zero, Owes_true, Tryz.results69, e1, e2, e3, e5, e14]
    refine ⟨_, by omega, i + 1, by omega, rfl, rfl, by (simp -dsimp -implicitDefEqProofs (maxSteps := 2000000) (disch := first | assumption | omega | (simp only [nx]; omega) | ((repeat refine Fresh.push ?_ _); assumption) | (simp only [smA]; done) | (simp [oneCell, AW.next_push]; done) | fail) only [go_sem, Nat.reduceEqDiff, reduceIte, Nat.reduceAdd, Int.toNat_natCast, Nat.add_zero, Owes_true, e1]; try rfl), by (simp -dsimp -implicitDefEqProofs (maxSteps := 2000000) (disch := first | assumption | omega | (simp only [nx]; omega) | ((repeat refine Fresh.push ?_ _); assumption) | (simp only [smA]; done) | (simp [oneCell, AW.next_push]; done) | fail) only [go_sem, Nat.reduceEqDiff, reduceIte, Nat.reduceAdd, Int.toNat_natCast, Nat.add_zero, Owes_true, e2]; try rfl), by (simp -dsimp -implicitDefEqProofs (maxSteps := 2000000) (disch := first | assumption | omega | (simp only [nx]; omega) | ((repeat refine Fresh.push ?_ _); assumption) | (simp only [smA]; done) | (simp [oneCell, AW.next_push]; done) | fail) only [go_sem, Nat.reduceEqDiff, reduceIte, Nat.reduceAdd, Int.toNat_natCast, Nat.add_zero, Owes_true, e3]; try rfl), by (simp -dsimp -implicitDefEqProofs (maxSteps := 2000000) (disch := first | assumption | omega | (simp only [nx]; omega) | ((repeat refine Fresh.push ?_ _); assumption) | (simp only [smA]; done) | (simp [oneCell, AW.next_push]; done) | fail) only [go_sem, Nat.reduceEqDiff, reduceIte, Nat.reduceAdd, Int.toNat_natCast, Nat.add_zero, Owes_true, e5]; try rfl), by (simp -dsimp -implicitDefEqProofs (maxSteps := 2000000) (disch := first | assumption | omega | (simp only [nx]; omega) | ((repeat refine Fresh.push ?_ _); assumption) | (simp only [smA]; done) | (simp [oneCell, AW.next_push]; done) | fail) only [go_sem, Nat.reduceEqDiff, reduceIte, Nat.reduceAdd, Int.toNat_natCast, Nat.add_zero, Owes_true, e14]; try rfl), B, hA.next hB, S6, hM.own P5 (by omega)⟩
  obtain rfl : i = 24 := by omega
  have hlen := hA.len
  have hload := loadAll S5.ar (n := 24) (by rw [icl_len]; exact hlen) (icl_one A)
  have hst := storeV_own (o := 0) (l := icl A) (size := 24) P5 (by rw [icl_len]; exact hlen) (by omega) (by rw [icl_len, List.length_replicate]; omega) (icl_all A)
  rw [setsL_icl _ _ (by rw [hlen, List.length_replicate])] at hst
  have P6 := P5.put (icl A)
  have hload2 := loadAll P6 (n := 24) (by rw [icl_len]; exact hlen) (icl_one A)
  have m6 := MutS.put (S := fun j => j = w.next + 1) S5.f rfl P5.lt (.cells (icl A) 115 (w.next + 1) 0 0)
  simp -dsimp -implicitDefEqProofs (maxSteps := 2000000) (disch := first | assumption | omega | (simp only [nx]; omega) | ((repeat refine Fresh.push ?_ _); assumption) | (simp only [smA]; done) | (simp [oneCell, AW.next_push]; done) | fail) only [go_sem, Nat.reduceEqDiff, reduceIte, Nat.reduceAdd, Int.toNat_natCast, Nat.add_zero, Owes_true, Tryz.results69, e1, e2, e3, e5, e14, hlt, hload, hst, hload2]
  exact ⟨A, rfl, hA.labs, ⟨S5.k0.trans (m6.keep (fun j q => by omega) S5.k0.next), m6.fresh⟩⟩
end Go.Proofs

namespace Go.Proofs
open Go Go.RowKit Go.Sim
set_option maxRecDepth 100000
theorem Tryz.ty119 : (prg Tryz.prog).ty 119 = some ⟨true, (.struct #[{ name := "Watch", type := 46, offset := 0, embedded := true, tag := "", pkgPath := "", byteOffset := 0 }, { name := "dealings", type := 43, offset := 4, embedded := false, tag := "", pkgPath := "lombard/till", byteOffset := 32 }, { name := "least", type := 115, offset := 5, embedded := false, tag := "", pkgPath := "lombard/till", byteOffset := 56 }]), 29, 248, .agg #[.int .i64 0, .int .i64 0, .int .i64 0, .int .i64 0, .slice none 0 0, .int .i64 0, .int .i64 0, .int .i64 0, .int .i64 0, .int .i64 0, .int .i64 0, .int .i64 0, .int .i64 0, .int .i64 0, .int .i64 0, .int .i64 0, .int .i64 0, .int .i64 0, .int .i64 0, .int .i64 0, .int .i64 0, .int .i64 0, .int .i64 0, .int .i64 0, .int .i64 0, .int .i64 0, .int .i64 0, .int .i64 0, .int .i64 0]⟩ := by kernel_rfl
attribute [go_sem] Tryz.ty119
theorem Tryz.ty123 : (prg Tryz.prog).ty 123 = some ⟨true, (.struct #[{ name := "all", type := 22, offset := 0, embedded := false, tag := "", pkgPath := "lombard/till", byteOffset := 0 }, { name := "small", type := 22, offset := 1, embedded := false, tag := "", pkgPath := "lombard/till", byteOffset := 24 }, { name := "sum", type := 3, offset := 2, embedded := false, tag := "", pkgPath := "lombard/till", byteOffset := 48 }]), 3, 56, .agg #[.slice none 0 0, .slice none 0 0, .int .i64 0]⟩ := by kernel_rfl
attribute [go_sem] Tryz.ty123
theorem Tryz.ty50 : (prg Tryz.prog).ty 50 = some ⟨false, (.slice 54), 1, 24, .slice none 0 0⟩ := by kernel_rfl
attribute [go_sem] Tryz.ty50
theorem Tryz.ty54 : (prg Tryz.prog).ty 54 = some ⟨true, (.struct #[{ name := "Person", type := 3, offset := 0, embedded := false, tag := "", pkgPath := "", byteOffset := 0 }, { name := "Dealing", type := 3, offset := 1, embedded := false, tag := "", pkgPath := "", byteOffset := 8 }, { name := "Sum", type := 3, offset := 2, embedded := false, tag := "", pkgPath := "", byteOffset := 16 }]), 3, 24, .agg #[.int .i64 0, .int .i64 0, .int .i64 0]⟩ := by kernel_rfl
attribute [go_sem] Tryz.ty54
theorem Tryz.ty48 : (prg Tryz.prog).ty 48 = some ⟨true, (.struct #[{ name := "L", type := 43, offset := 0, embedded := false, tag := "", pkgPath := "", byteOffset := 0 }, { name := "Links", type := 44, offset := 1, embedded := false, tag := "", pkgPath := "", byteOffset := 24 }, { name := "W", type := 46, offset := 2, embedded := false, tag := "", pkgPath := "", byteOffset := 48 }]), 6, 80, .agg #[.slice none 0 0, .slice none 0 0, .int .i64 0, .int .i64 0, .int .i64 0, .int .i64 0]⟩ := by kernel_rfl
attribute [go_sem] Tryz.ty48
theorem Tryz.bd119 (t : Tmps) (w : AW) (l : List (Nat × Operand)) : fast (prg Tryz.prog) t w (.build 119 ⟨l⟩) = bldQ [(0, 4), (4, 1), (5, 24)] [.int .i64 0, .int .i64 0, .int .i64 0, .int .i64 0, .slice none 0 0, .int .i64 0, .int .i64 0, .int .i64 0, .int .i64 0, .int .i64 0, .int .i64 0, .int .i64 0, .int .i64 0, .int .i64 0, .int .i64 0, .int .i64 0, .int .i64 0, .int .i64 0, .int .i64 0, .int .i64 0, .int .i64 0, .int .i64 0, .int .i64 0, .int .i64 0, .int .i64 0, .int .i64 0, .int .i64 0, .int .i64 0, .int .i64 0] (l.map fun p => (p.1, ev t p.2)) := fast_build (zs := [.int .i64 0, .int .i64 0, .int .i64 0, .int .i64 0, .slice none 0 0, .int .i64 0, .int .i64 0, .int .i64 0, .int .i64 0, .int .i64 0, .int .i64 0, .int .i64 0, .int .i64 0, .int .i64 0, .int .i64 0, .int .i64 0, .int .i64 0, .int .i64 0, .int .i64 0, .int .i64 0, .int .i64 0, .int .i64 0, .int .i64 0, .int .i64 0, .int .i64 0, .int .i64 0, .int .i64 0, .int .i64 0, .int .i64 0]) Tryz.ty119 (by kernel_rfl)
attribute [go_sem] Tryz.bd119
theorem Tryz.fa119x0 (t : Tmps) (w : AW) (x : Operand) : fast (prg Tryz.prog) t w (.fieldAddr 119 x 0) = fieldOff (ev t x) 0 := fast_fieldAddr (fd := { name := "Watch", type := 46, offset := 0, embedded := true, tag := "", pkgPath := "", byteOffset := 0 }) Tryz.ty119 rfl Tryz.ty46 rfl
attribute [go_sem] Tryz.fa119x0
theorem Tryz.fa119x1 (t : Tmps) (w : AW) (x : Operand) : fast (prg Tryz.prog) t w (.fieldAddr 119 x 1) = fieldOff (ev t x) 4 := fast_fieldAddr (fd := { name := "dealings", type := 43, offset := 4, embedded := false, tag := "", pkgPath := "lombard/till", byteOffset := 32 }) Tryz.ty119 rfl Tryz.ty43 rfl
attribute [go_sem] Tryz.fa119x1
theorem Tryz.fa119x2 (t : Tmps) (w : AW) (x : Operand) : fast (prg Tryz.prog) t w (.fieldAddr 119 x 2) = fieldOff (ev t x) 5 := fast_fieldAddr (fd := { name := "least", type := 115, offset := 5, embedded := false, tag := "", pkgPath := "lombard/till", byteOffset := 56 }) Tryz.ty119 rfl Tryz.ty115 rfl
attribute [go_sem] Tryz.fa119x2
theorem Tryz.fa123x0 (t : Tmps) (w : AW) (x : Operand) : fast (prg Tryz.prog) t w (.fieldAddr 123 x 0) = fieldOff (ev t x) 0 := fast_fieldAddr (fd := { name := "all", type := 22, offset := 0, embedded := false, tag := "", pkgPath := "lombard/till", byteOffset := 0 }) Tryz.ty123 rfl Tryz.ty22 rfl
attribute [go_sem] Tryz.fa123x0
theorem Tryz.fa123x1 (t : Tmps) (w : AW) (x : Operand) : fast (prg Tryz.prog) t w (.fieldAddr 123 x 1) = fieldOff (ev t x) 1 := fast_fieldAddr (fd := { name := "small", type := 22, offset := 1, embedded := false, tag := "", pkgPath := "lombard/till", byteOffset := 24 }) Tryz.ty123 rfl Tryz.ty22 rfl
attribute [go_sem] Tryz.fa123x1
theorem Tryz.fa123x2 (t : Tmps) (w : AW) (x : Operand) : fast (prg Tryz.prog) t w (.fieldAddr 123 x 2) = fieldOff (ev t x) 2 := fast_fieldAddr (fd := { name := "sum", type := 3, offset := 2, embedded := false, tag := "", pkgPath := "lombard/till", byteOffset := 48 }) Tryz.ty123 rfl Tryz.ty3 rfl
attribute [go_sem] Tryz.fa123x2
theorem Tryz.ia50 (t : Tmps) (w : AW) (x y : Operand) : fast (prg Tryz.prog) t w (.indexAddr 50 x y) = indexV 3 (ev t x) (ev t y) := fast_indexAddr Tryz.ty50 Tryz.ty54
attribute [go_sem] Tryz.ia50
theorem Tryz.ln50 (t : Tmps) (w : AW) (x : Operand) : fast (prg Tryz.prog) t w (.call ⟨.builtin .len, ⟨[x]⟩, ⟨[50]⟩⟩) = lenV (ev t x) := fast_len Tryz.ty50
attribute [go_sem] Tryz.ln50
theorem Tryz.bd54 (t : Tmps) (w : AW) (l : List (Nat × Operand)) : fast (prg Tryz.prog) t w (.build 54 ⟨l⟩) = bldQ [(0, 1), (1, 1), (2, 1)] [.int .i64 0, .int .i64 0, .int .i64 0] (l.map fun p => (p.1, ev t p.2)) := fast_build (zs := [.int .i64 0, .int .i64 0, .int .i64 0]) Tryz.ty54 (by kernel_rfl)
attribute [go_sem] Tryz.bd54
theorem Tryz.fa48x0 (t : Tmps) (w : AW) (x : Operand) : fast (prg Tryz.prog) t w (.fieldAddr 48 x 0) = fieldOff (ev t x) 0 := fast_fieldAddr (fd := { name := "L", type := 43, offset := 0, embedded := false, tag := "", pkgPath := "", byteOffset := 0 }) Tryz.ty48 rfl Tryz.ty43 rfl
attribute [go_sem] Tryz.fa48x0
theorem Tryz.fa48x1 (t : Tmps) (w : AW) (x : Operand) : fast (prg Tryz.prog) t w (.fieldAddr 48 x 1) = fieldOff (ev t x) 1 := fast_fieldAddr (fd := { name := "Links", type := 44, offset := 1, embedded := false, tag := "", pkgPath := "", byteOffset := 24 }) Tryz.ty48 rfl Tryz.ty44 rfl
attribute [go_sem] Tryz.fa48x1
theorem Tryz.fa48x2 (t : Tmps) (w : AW) (x : Operand) : fast (prg Tryz.prog) t w (.fieldAddr 48 x 2) = fieldOff (ev t x) 2 := fast_fieldAddr (fd := { name := "W", type := 46, offset := 2, embedded := false, tag := "", pkgPath := "", byteOffset := 48 }) Tryz.ty48 rfl Tryz.ty46 rfl
attribute [go_sem] Tryz.fa48x2
end Go.Proofs

namespace Go.Proofs
open Go Go.RowKit Go.Sim
set_option maxRecDepth 100000
def Tryz.s144 : SC := (.seq (.ops false [⟨⟨(some 6),.load 3 (.tmp 1),3,"",⟨[]⟩,none⟩,none,false⟩,⟨⟨(some 7),.binOp .add 3 (.tmp 6) (.const (.int .i64 1)) 3,3,"",⟨[]⟩,none⟩,none,false⟩,⟨⟨(some 8),.move (.const (.int .i64 0)),3,"",⟨[]⟩,none⟩,none,false⟩]) (.block 0 (.loop (.seq (.ops false [⟨⟨(some 9),.binOp .lss 3 (.tmp 8) (.tmp 7) 3,4,"",⟨[]⟩,none⟩,none,false⟩]) (.seq (.cond (.tmp 9) .skip (.exit 0)) (.seq (.block 1 (.seq (.ops false [⟨⟨(some 10),.move (.tmp 8),3,"",⟨[]⟩,none⟩,none,false⟩,⟨⟨(some 4),.assign (.tmp 10),3,"",⟨[]⟩,none⟩,none,false⟩]) (.seq (.ops true [⟨⟨(some 11),.fieldAddr 119 (.tmp 2) 1,0,"",⟨[]⟩,none⟩,none,true⟩,⟨⟨(some 12),.load 43 (.tmp 11),43,"",⟨[]⟩,none⟩,none,true⟩,⟨⟨(some 13),.move (.tmp 4),3,"",⟨[]⟩,none⟩,none,true⟩,⟨⟨(some 14),.indexAddr 43 (.tmp 12) (.tmp 13),0,"",⟨[]⟩,none⟩,none,true⟩,⟨⟨(some 15),.fieldAddr 76 (.tmp 14) 0,0,"",⟨[]⟩,none⟩,none,true⟩,⟨⟨(some 16),.load 3 (.tmp 15),3,"",⟨[]⟩,none⟩,none,true⟩,⟨⟨(some 17),.fieldAddr 119 (.tmp 2) 1,0,"",⟨[]⟩,none⟩,none,true⟩,⟨⟨(some 18),.load 43 (.tmp 17),43,"",⟨[]⟩,none⟩,none,true⟩,⟨⟨(some 19),.load 3 (.tmp 1),3,"",⟨[]⟩,none⟩,none,true⟩,⟨⟨(some 20),.indexAddr 43 (.tmp 18) (.tmp 19),0,"",⟨[]⟩,none⟩,none,true⟩,⟨⟨(some 21),.fieldAddr 76 (.tmp 20) 0,0,"",⟨[]⟩,none⟩,none,true⟩,⟨⟨(some 22),.load 3 (.tmp 21),3,"",⟨[]⟩,none⟩,none,true⟩,⟨⟨(some 23),.fieldAddr 119 (.tmp 2) 0,0,"",⟨[]⟩,none⟩,none,true⟩,⟨⟨(some 24),.fieldAddr 46 (.tmp 23) 0,0,"",⟨[]⟩,none⟩,none,true⟩,⟨⟨(some 25),.load 3 (.tmp 24),3,"",⟨[]⟩,none⟩,none,true⟩,⟨⟨(some 26),.binOp .sub 3 (.tmp 22) (.tmp 25) 3,3,"",⟨[]⟩,none⟩,none,true⟩,⟨⟨(some 27),.binOp .gtr 3 (.tmp 16) (.tmp 26) 3,4,"",⟨[]⟩,none⟩,none,true⟩,⟨⟨(some 5),.assign (.tmp 27),4,"",⟨[]⟩,none⟩,none,true⟩]) (.seq (.ops true [⟨⟨(some 28),.move (.tmp 5),4,"",⟨[]⟩,none⟩,none,true⟩,⟨⟨(some 29),.move (.tmp 28),4,"",⟨[]⟩,none⟩,none,true⟩,⟨⟨(some 30),.load 119 (.tmp 2),119,"",⟨[]⟩,none⟩,some ((some 29),true),true⟩,⟨⟨(some 31),.move (.tmp 4),3,"",⟨[]⟩,none⟩,some ((some 29),true),true⟩,⟨⟨(some 33),.load 119 (.tmp 2),119,"",⟨[]⟩,none⟩,some ((some 29),true),true⟩,⟨⟨(some 34),.load 3 (.tmp 1),3,"",⟨[]⟩,none⟩,some ((some 29),true),true⟩,⟨⟨(some 32),.call ⟨.value (.func 73),⟨[(.tmp 30),(.tmp 31)]⟩,⟨[119,3]⟩⟩,3,"",⟨[]⟩,none⟩,some ((some 29),true),true⟩,⟨⟨(some 35),.call ⟨.value (.func 73),⟨[(.tmp 33),(.tmp 34)]⟩,⟨[119,3]⟩⟩,3,"",⟨[]⟩,none⟩,some ((some 29),true),false⟩,⟨⟨(some 36),.binOp .eql 3 (.tmp 32) (.tmp 35) 3,4,"",⟨[]⟩,none⟩,some ((some 29),true),true⟩,⟨⟨(some 37),.pick (.tmp 29) (.tmp 36) (.const (.bool false)),4,"",⟨[]⟩,none⟩,none,true⟩,⟨⟨(some 38),.move (.tmp 37),4,"",⟨[]⟩,none⟩,none,true⟩,⟨⟨(some 39),.move (.tmp 0),98,"",⟨[]⟩,none⟩,some ((some 38),true),true⟩,⟨⟨(some 40),.move (.tmp 4),3,"",⟨[]⟩,none⟩,some ((some 38),true),true⟩,⟨⟨(some 41),.call ⟨.value (.tmp 39),⟨[(.tmp 40)]⟩,⟨[3]⟩⟩,4,"",⟨[]⟩,none⟩,some ((some 38),true),false⟩,⟨⟨(some 42),.unOp .not 4 (.tmp 41),4,"",⟨[]⟩,none⟩,some ((some 38),true),true⟩,⟨⟨(some 43),.pick (.tmp 38) (.tmp 42) (.const (.bool false)),4,"",⟨[]⟩,none⟩,none,true⟩]) (.cond (.tmp 43) .ret .skip))))) (.ops false [⟨⟨(some 44),.binOp .add 3 (.tmp 8) (.const (.int .i64 1)) 3,3,"",⟨[]⟩,none⟩,none,false⟩,⟨⟨(some 8),.move (.tmp 44),3,"",⟨[]⟩,none⟩,none,false⟩])))))))
def Tryz.s145 : SC := (.seq (.ops false [⟨⟨(some 4),.assign (.const (.slice none 0 0)),22,"",⟨[]⟩,none⟩,none,false⟩]) (.seq (.ops false [⟨⟨(some 8),.move (.tmp 0),22,"",⟨[]⟩,none⟩,none,false⟩,⟨⟨(some 9),.call ⟨.builtin .len,⟨[(.tmp 8)]⟩,⟨[22]⟩⟩,3,"",⟨[]⟩,none⟩,none,false⟩,⟨⟨(some 10),.makeSlice 22 (.const (.int .i64 0)) (.tmp 9),22,"",⟨[]⟩,none⟩,none,false⟩,⟨⟨(some 5),.assign (.tmp 10),22,"",⟨[]⟩,none⟩,none,false⟩]) (.seq (.seq (.ops false [⟨⟨(some 11),.move (.tmp 0),22,"",⟨[]⟩,none⟩,none,false⟩,⟨⟨(some 12),.call ⟨.builtin .len,⟨[(.tmp 11)]⟩,⟨[22]⟩⟩,3,"",⟨[]⟩,none⟩,none,false⟩,⟨⟨(some 13),.move (.const (.int .i64 0)),3,"",⟨[]⟩,none⟩,none,false⟩]) (.block 0 (.loop (.seq (.ops false [⟨⟨(some 14),.binOp .lss 3 (.tmp 13) (.tmp 12) 3,0,"",⟨[]⟩,none⟩,none,false⟩]) (.seq (.cond (.tmp 14) .skip (.exit 0)) (.seq (.block 1 (.seq (.ops false [⟨⟨(some 15),.indexAddr 22 (.tmp 11) (.tmp 13),0,"",⟨[]⟩,none⟩,none,false⟩,⟨⟨(some 16),.load 3 (.tmp 15),3,"",⟨[]⟩,none⟩,none,false⟩,⟨⟨(some 7),.assign (.tmp 16),3,"",⟨[]⟩,none⟩,none,false⟩]) (.ops false [⟨⟨(some 17),.move (.tmp 5),22,"",⟨[]⟩,none⟩,none,false⟩,⟨⟨(some 18),.move (.tmp 1),41,"",⟨[]⟩,none⟩,none,false⟩,⟨⟨(some 19),.move (.tmp 7),3,"",⟨[]⟩,none⟩,none,false⟩,⟨⟨(some 20),.call ⟨.value (.tmp 18),⟨[(.tmp 19)]⟩,⟨[3]⟩⟩,3,"",⟨[]⟩,none⟩,none,false⟩,⟨⟨(some 21),.buildSlice 22 1 ⟨[(0,(.tmp 20))]⟩,22,"",⟨[]⟩,none⟩,none,false⟩,⟨⟨(some 22),.call ⟨.builtin .append,⟨[(.tmp 17),(.tmp 21)]⟩,⟨[22,22]⟩⟩,22,"",⟨[]⟩,none⟩,none,false⟩,⟨⟨(some 5),.assign (.tmp 22),22,"",⟨[]⟩,none⟩,none,false⟩]))) (.ops false [⟨⟨(some 23),.binOp .add 3 (.tmp 13) (.const (.int .i64 1)) 3,3,"",⟨[]⟩,none⟩,none,false⟩,⟨⟨(some 13),.move (.tmp 23),3,"",⟨[]⟩,none⟩,none,false⟩]))))))) (.seq (.ops false [⟨⟨(some 24),.move (.tmp 5),22,"",⟨[]⟩,none⟩,none,false⟩,⟨⟨(some 4),.assign (.tmp 24),22,"",⟨[]⟩,none⟩,none,false⟩]) .ret))))
theorem Tryz.s144_eq : Tryz.f144.body.map sOf = some Tryz.s144 := by kernel_rfl
theorem Tryz.s145_eq : Tryz.f145.body.map sOf = some Tryz.s145 := by kernel_rfl
end Go.Proofs

namespace Go.Proofs
open Go Go.RowKit Go.Sim
set_option maxRecDepth 100000
def Tryz.s140 : SC := (.seq (.ops false [⟨⟨(some 4),.assign (.const (.int .i64 0)),3,"",⟨[]⟩,none⟩,none,false⟩]) (.seq (.ops false [⟨⟨(some 7),.move (.tmp 0),3,"",⟨[]⟩,none⟩,none,false⟩,⟨⟨(some 8),.call ⟨.value (.func 157),⟨[(.tmp 7)]⟩,⟨[3]⟩⟩,4,"",⟨[]⟩,none⟩,none,false⟩,⟨⟨(some 5),.assign (.tmp 8),4,"",⟨[]⟩,none⟩,none,false⟩]) (.seq (.ops false [⟨⟨(some 9),.move (.tmp 1),3,"",⟨[]⟩,none⟩,none,false⟩,⟨⟨(some 10),.call ⟨.value (.func 157),⟨[(.tmp 9)]⟩,⟨[3]⟩⟩,4,"",⟨[]⟩,none⟩,none,false⟩,⟨⟨(some 6),.assign (.tmp 10),4,"",⟨[]⟩,none⟩,none,false⟩]) (.seq (.seq (.ops false [⟨⟨(some 11),.move (.tmp 5),4,"",⟨[]⟩,none⟩,none,false⟩]) (.cond (.tmp 11) (.seq (.seq (.ops false [⟨⟨(some 12),.move (.tmp 6),4,"",⟨[]⟩,none⟩,none,false⟩]) (.cond (.tmp 12) (.seq (.ops false [⟨⟨(some 4),.assign (.const (.int .i64 0)),3,"",⟨[]⟩,none⟩,none,false⟩]) .ret) .skip)) (.seq (.ops false [⟨⟨(some 4),.assign (.const (.int .i64 (-1))),3,"",⟨[]⟩,none⟩,none,false⟩]) .ret)) .skip)) (.seq (.seq (.ops false [⟨⟨(some 13),.move (.tmp 6),4,"",⟨[]⟩,none⟩,none,false⟩]) (.cond (.tmp 13) (.seq (.ops false [⟨⟨(some 4),.assign (.const (.int .i64 1)),3,"",⟨[]⟩,none⟩,none,false⟩]) .ret) .skip)) (.seq (.seq (.ops false [⟨⟨(some 14),.move (.tmp 0),3,"",⟨[]⟩,none⟩,none,false⟩,⟨⟨(some 15),.move (.tmp 1),3,"",⟨[]⟩,none⟩,none,false⟩,⟨⟨(some 16),.binOp .lss 3 (.tmp 14) (.tmp 15) 3,4,"",⟨[]⟩,none⟩,none,false⟩]) (.cond (.tmp 16) (.seq (.ops false [⟨⟨(some 4),.assign (.const (.int .i64 (-1))),3,"",⟨[]⟩,none⟩,none,false⟩]) .ret) .skip)) (.seq (.seq (.ops false [⟨⟨(some 17),.move (.tmp 0),3,"",⟨[]⟩,none⟩,none,false⟩,⟨⟨(some 18),.move (.tmp 1),3,"",⟨[]⟩,none⟩,none,false⟩,⟨⟨(some 19),.binOp .gtr 3 (.tmp 17) (.tmp 18) 3,4,"",⟨[]⟩,none⟩,none,false⟩]) (.cond (.tmp 19) (.seq (.ops false [⟨⟨(some 4),.assign (.const (.int .i64 1)),3,"",⟨[]⟩,none⟩,none,false⟩]) .ret) .skip)) (.seq (.ops false [⟨⟨(some 4),.assign (.const (.int .i64 0)),3,"",⟨[]⟩,none⟩,none,false⟩]) .ret))))))))
def Tryz.s157 : SC := (.seq (.ops false [⟨⟨(some 2),.assign (.const (.bool false)),4,"",⟨[]⟩,none⟩,none,false⟩]) (.seq (.ops false [⟨⟨(some 3),.move (.tmp 0),3,"",⟨[]⟩,none⟩,none,false⟩,⟨⟨(some 4),.move (.tmp 0),3,"",⟨[]⟩,none⟩,none,false⟩,⟨⟨(some 5),.binOp .neq 3 (.tmp 3) (.tmp 4) 3,4,"",⟨[]⟩,none⟩,none,false⟩,⟨⟨(some 2),.assign (.tmp 5),4,"",⟨[]⟩,none⟩,none,false⟩]) .ret))
def Tryz.s158 : SC := (.seq (.ops false [⟨⟨(some 4),.assign (.const (.bool false)),4,"",⟨[]⟩,none⟩,none,false⟩]) (.seq (.ops false [⟨⟨(some 5),.move (.tmp 0),43,"",⟨[]⟩,none⟩,none,false⟩,⟨⟨(some 6),.move (.tmp 1),185,"",⟨[]⟩,none⟩,none,false⟩,⟨⟨(some 7),.call ⟨.value (.func 165),⟨[(.tmp 5),(.tmp 6)]⟩,⟨[43,185]⟩⟩,3,"",⟨[]⟩,none⟩,none,false⟩,⟨⟨(some 8),.binOp .geq 3 (.tmp 7) (.const (.int .i64 0)) 3,4,"",⟨[]⟩,none⟩,none,false⟩,⟨⟨(some 4),.assign (.tmp 8),4,"",⟨[]⟩,none⟩,none,false⟩]) .ret))
def Tryz.s159 : SC := (.seq (.ops false [⟨⟨(some 2),.box 76 (.tmp 0),0,"",⟨[]⟩,none⟩,none,false⟩,⟨⟨(some 3),.assign (.const (.bool false)),4,"",⟨[]⟩,none⟩,none,false⟩]) (.seq (.ops false [⟨⟨(some 4),.load 185 (.tmp 1),185,"",⟨[]⟩,none⟩,none,false⟩,⟨⟨(some 5),.load 76 (.tmp 2),76,"",⟨[]⟩,none⟩,none,false⟩,⟨⟨(some 6),.call ⟨.value (.tmp 4),⟨[(.tmp 5)]⟩,⟨[76]⟩⟩,4,"",⟨[]⟩,none⟩,none,false⟩,⟨⟨(some 7),.unOp .not 4 (.tmp 6),4,"",⟨[]⟩,none⟩,none,false⟩,⟨⟨(some 3),.assign (.tmp 7),4,"",⟨[]⟩,none⟩,none,false⟩]) .ret))
def Tryz.s165 : SC := (.seq (.ops false [⟨⟨(some 4),.assign (.const (.int .i64 0)),3,"",⟨[]⟩,none⟩,none,false⟩]) (.seq (.seq (.ops false [⟨⟨(some 6),.move (.tmp 0),43,"",⟨[]⟩,none⟩,none,false⟩,⟨⟨(some 7),.call ⟨.builtin .len,⟨[(.tmp 6)]⟩,⟨[43]⟩⟩,3,"",⟨[]⟩,none⟩,none,false⟩,⟨⟨(some 8),.move (.const (.int .i64 0)),3,"",⟨[]⟩,none⟩,none,false⟩]) (.block 0 (.loop (.seq (.ops false [⟨⟨(some 9),.binOp .lss 3 (.tmp 8) (.tmp 7) 3,0,"",⟨[]⟩,none⟩,none,false⟩]) (.seq (.cond (.tmp 9) .skip (.exit 0)) (.seq (.block 1 (.seq (.ops false [⟨⟨(some 10),.move (.tmp 8),3,"",⟨[]⟩,none⟩,none,false⟩,⟨⟨(some 5),.assign (.tmp 10),3,"",⟨[]⟩,none⟩,none,false⟩]) (.seq (.ops false [⟨⟨(some 11),.move (.tmp 1),185,"",⟨[]⟩,none⟩,none,false⟩,⟨⟨(some 12),.move (.tmp 0),43,"",⟨[]⟩,none⟩,none,false⟩,⟨⟨(some 13),.move (.tmp 5),3,"",⟨[]⟩,none⟩,none,false⟩,⟨⟨(some 14),.indexAddr 43 (.tmp 12) (.tmp 13),0,"",⟨[]⟩,none⟩,none,false⟩,⟨⟨(some 15),.load 76 (.tmp 14),76,"",⟨[]⟩,none⟩,none,false⟩,⟨⟨(some 16),.call ⟨.value (.tmp 11),⟨[(.tmp 15)]⟩,⟨[76]⟩⟩,4,"",⟨[]⟩,none⟩,none,false⟩]) (.cond (.tmp 16) (.seq (.ops false [⟨⟨(some 17),.move (.tmp 5),3,"",⟨[]⟩,none⟩,none,false⟩,⟨⟨(some 4),.assign (.tmp 17),3,"",⟨[]⟩,none⟩,none,false⟩]) .ret) .skip)))) (.ops false [⟨⟨(some 18),.binOp .add 3 (.tmp 8) (.const (.int .i64 1)) 3,3,"",⟨[]⟩,none⟩,none,false⟩,⟨⟨(some 8),.move (.tmp 18),3,"",⟨[]⟩,none⟩,none,false⟩]))))))) (.seq (.ops false [⟨⟨(some 4),.assign (.const (.int .i64 (-1))),3,"",⟨[]⟩,none⟩,none,false⟩]) .ret)))
theorem Tryz.s140_eq : Tryz.f140.body.map sOf = some Tryz.s140 := by kernel_rfl
theorem Tryz.s157_eq : Tryz.f157.body.map sOf = some Tryz.s157 := by kernel_rfl
theorem Tryz.s158_eq : Tryz.f158.body.map sOf = some Tryz.s158 := by kernel_rfl
theorem Tryz.s159_eq : Tryz.f159.body.map sOf = some Tryz.s159 := by kernel_rfl
theorem Tryz.s165_eq : Tryz.f165.body.map sOf = some Tryz.s165 := by kernel_rfl
end Go.Proofs

namespace Go.Proofs
open Go Go.RowKit Go.Sim
set_option maxRecDepth 100000
structure DealN where
  day : Int
  who : Int
  sum : Int
def dcells (d : DealN) : List Value := [.int .i64 d.day, .int .i64 d.who, .int .i64 d.sum]
def dealB (d : DealN) : Bool := inR 0 d.day 36500 && inR 0 d.who 23 && inR 1 d.sum 1073741824
theorem isDealing_ok (d : DealN) (w : AW) (f : Fresh w) : CallT Tryz.prog Tryz.T1 (.fn (.func 142) #[]) #[.agg #[.int .i64 d.day, .int .i64 d.who, .int .i64 d.sum]] w (Ret (.bool (dealB d)) (Grown w)) := by
  have g := (Grown.refl f).push (.cells [.int .i64 d.day, .int .i64 d.who, .int .i64 d.sum] 76 w.next 0 0)
  have hO := Own.new f 76 [.int .i64 d.day, .int .i64 d.who, .int .i64 d.sum]
  have c0 := hO.cell (o := 0) rfl rfl
  have c1 := hO.cell (o := 1) rfl rfl
  have c2 := hO.cell (o := 2) rfl rfl
  unfold dealB
  refine callT_code rfl Tryz.func142 rfl Tryz.s142_eq rfl ?_
  unfold Tryz.s142
  simp -dsimp -implicitDefEqProofs (maxSteps := 2000000) (disch := first | assumption | omega | (simp only [nx]; omega) | ((repeat refine Fresh.push ?_ _); assumption) | (simp only [smA]; done) | (simp [oneCell, AW.next_push]; done) | fail) only [go_sem, Nat.reduceEqDiff, reduceIte, Nat.reduceAdd, Int.toNat_natCast, Nat.add_zero, Owes_true, Tryz.results142, Nat.zero_add, c0, c1, c2]
  apply callV_of (e := rfl)
  · exact within_ok _ _ _ _
  rintro _ _ ⟨rfl, rfl⟩
  cases h1 : inR 0 d.day 36500 with
  | false =>
    simp -dsimp -implicitDefEqProofs (maxSteps := 2000000) (disch := first | assumption | omega | (simp only [nx]; omega) | ((repeat refine Fresh.push ?_ _); assumption) | (simp only [smA]; done) | (simp [oneCell, AW.next_push]; done) | fail) only [go_sem, Nat.reduceEqDiff, reduceIte, Nat.reduceAdd, Int.toNat_natCast, Nat.add_zero, Owes_true, Tryz.results142, h1]
    exact ⟨by simp, g⟩
  | true =>
  simp -dsimp -implicitDefEqProofs (maxSteps := 2000000) (disch := first | assumption | omega | (simp only [nx]; omega) | ((repeat refine Fresh.push ?_ _); assumption) | (simp only [smA]; done) | (simp [oneCell, AW.next_push]; done) | fail) only [go_sem, Nat.reduceEqDiff, reduceIte, Nat.reduceAdd, Int.toNat_natCast, Nat.add_zero, Owes_true, Tryz.results142, h1, Nat.zero_add, c0, c1, c2]
  apply callV_of (e := rfl)
  · exact isPerson_ok _ _
  rintro _ _ ⟨rfl, rfl⟩
  cases h2 : inR 0 d.who 23 with
  | false =>
    simp -dsimp -implicitDefEqProofs (maxSteps := 2000000) (disch := first | assumption | omega | (simp only [nx]; omega) | ((repeat refine Fresh.push ?_ _); assumption) | (simp only [smA]; done) | (simp [oneCell, AW.next_push]; done) | fail) only [go_sem, Nat.reduceEqDiff, reduceIte, Nat.reduceAdd, Int.toNat_natCast, Nat.add_zero, Owes_true, Tryz.results142, h2]
    exact ⟨by simp, g⟩
  | true =>
  simp -dsimp -implicitDefEqProofs (maxSteps := 2000000) (disch := first | assumption | omega | (simp only [nx]; omega) | ((repeat refine Fresh.push ?_ _); assumption) | (simp only [smA]; done) | (simp [oneCell, AW.next_push]; done) | fail) only [go_sem, Nat.reduceEqDiff, reduceIte, Nat.reduceAdd, Int.toNat_natCast, Nat.add_zero, Owes_true, Tryz.results142, h2, Nat.zero_add, c0, c1, c2]
  apply callV_of (e := rfl)
  · exact isSum_ok _ _
  rintro _ _ ⟨rfl, rfl⟩
  simp -dsimp -implicitDefEqProofs (maxSteps := 2000000) (disch := first | assumption | omega | (simp only [nx]; omega) | ((repeat refine Fresh.push ?_ _); assumption) | (simp only [smA]; done) | (simp [oneCell, AW.next_push]; done) | fail) only [go_sem, Nat.reduceEqDiff, reduceIte, Nat.reduceAdd, Int.toNat_natCast, Nat.add_zero, Owes_true, Tryz.results142]
  exact ⟨by simp, g⟩
theorem isNaN_ok (n : Int) (w : AW) : CallT Tryz.prog Tryz.T1 (.fn (.func 157) #[]) #[.int .i64 n] w (Ret (.bool false) fun w' => w = w') := by
  refine callT_code rfl Tryz.func157 rfl Tryz.s157_eq rfl ?_
  unfold Tryz.s157
  simp -dsimp -implicitDefEqProofs (maxSteps := 2000000) (disch := first | assumption | omega | (simp only [nx]; omega) | ((repeat refine Fresh.push ?_ _); assumption) | (simp only [smA]; done) | (simp [oneCell, AW.next_push]; done) | fail) only [go_sem, Nat.reduceEqDiff, reduceIte, Nat.reduceAdd, Int.toNat_natCast, Nat.add_zero, Owes_true, Tryz.results157]
  exact ⟨rfl, rfl⟩
def cmpI (a b : Int) : Int := if a < b then -1 else if b < a then 1 else 0
theorem cmp_ok (a b : Int) (w : AW) : CallT Tryz.prog Tryz.T1 (.fn (.func 140) #[]) #[.int .i64 a, .int .i64 b] w (Ret (.int .i64 (cmpI a b)) fun w' => w = w') := by
  unfold cmpI
  refine callT_code rfl Tryz.func140 rfl Tryz.s140_eq rfl ?_
  unfold Tryz.s140
  simp -dsimp -implicitDefEqProofs (maxSteps := 2000000) (disch := first | assumption | omega | (simp only [nx]; omega) | ((repeat refine Fresh.push ?_ _); assumption) | (simp only [smA]; done) | (simp [oneCell, AW.next_push]; done) | fail) only [go_sem, Nat.reduceEqDiff, reduceIte, Nat.reduceAdd, Int.toNat_natCast, Nat.add_zero, Owes_true, Tryz.results140]
  apply callV_of (e := rfl)
  · exact isNaN_ok _ _
  rintro _ _ ⟨rfl, rfl⟩
  simp -dsimp -implicitDefEqProofs (maxSteps := 2000000) (disch := first | assumption | omega | (simp only [nx]; omega) | ((repeat refine Fresh.push ?_ _); assumption) | (simp only [smA]; done) | (simp [oneCell, AW.next_push]; done) | fail) only [go_sem, Nat.reduceEqDiff, reduceIte, Nat.reduceAdd, Int.toNat_natCast, Nat.add_zero, Owes_true, Tryz.results140]
  apply callV_of (e := rfl)
  · exact isNaN_ok _ _
  rintro _ _ ⟨rfl, rfl⟩
  by_cases h1 : a < b
  · simp -dsimp -implicitDefEqProofs (maxSteps := 2000000) (disch := first | assumption | omega | (simp only [nx]; omega) | ((repeat refine Fresh.push ?_ _); assumption) | (simp only [smA]; done) | (simp [oneCell, AW.next_push]; done) | fail) only [go_sem, Nat.reduceEqDiff, reduceIte, Nat.reduceAdd, Int.toNat_natCast, Nat.add_zero, Owes_true, Tryz.results140, h1]
    exact ⟨by simp, rfl⟩
  · by_cases h2 : b < a
    · simp -dsimp -implicitDefEqProofs (maxSteps := 2000000) (disch := first | assumption | omega | (simp only [nx]; omega) | ((repeat refine Fresh.push ?_ _); assumption) | (simp only [smA]; done) | (simp [oneCell, AW.next_push]; done) | fail) only [go_sem, Nat.reduceEqDiff, reduceIte, Nat.reduceAdd, Int.toNat_natCast, Nat.add_zero, Owes_true, Tryz.results140, h1, h2]
      exact ⟨by simp, rfl⟩
    · simp -dsimp -implicitDefEqProofs (maxSteps := 2000000) (disch := first | assumption | omega | (simp only [nx]; omega) | ((repeat refine Fresh.push ?_ _); assumption) | (simp only [smA]; done) | (simp [oneCell, AW.next_push]; done) | fail) only [go_sem, Nat.reduceEqDiff, reduceIte, Nat.reduceAdd, Int.toNat_natCast, Nat.add_zero, Owes_true, Tryz.results140, h1, h2]
      exact ⟨by simp, rfl⟩
theorem byDay_ok (d e : DealN) (w : AW) (f : Fresh w) : CallT Tryz.prog Tryz.T1 (.fn (.func 139) #[]) #[.agg #[.int .i64 d.day, .int .i64 d.who, .int .i64 d.sum], .agg #[.int .i64 e.day, .int .i64 e.who, .int .i64 e.sum]] w (Ret (.int .i64 (cmpI d.day e.day)) (Grown w)) := by
  have g1 := (Grown.refl f).push (.cells [.int .i64 d.day, .int .i64 d.who, .int .i64 d.sum] 76 w.next 0 0)
  have O1 := Own.new f 76 [.int .i64 d.day, .int .i64 d.who, .int .i64 d.sum]
  have hn1 := AW.next_push w (.cells [.int .i64 d.day, .int .i64 d.who, .int .i64 d.sum] 76 w.next 0 0)
  have g2 := g1.push (.cells [.int .i64 e.day, .int .i64 e.who, .int .i64 e.sum] 76 (w.push (.cells [.int .i64 d.day, .int .i64 d.who, .int .i64 d.sum] 76 w.next 0 0)).next 0 0)
  have O2 := Own.new g1.2 76 [.int .i64 e.day, .int .i64 e.who, .int .i64 e.sum]
  have c0 := (O1.keep ((Grown.refl g1.2).push (.cells [.int .i64 e.day, .int .i64 e.who, .int .i64 e.sum] 76 (w.push (.cells [.int .i64 d.day, .int .i64 d.who, .int .i64 d.sum] 76 w.next 0 0)).next 0 0)).1).cell (o := 0) rfl rfl
  have m0 := O2.cell (o := 0) rfl rfl
  rw [hn1] at g2 c0 m0
  refine callT_code rfl Tryz.func139 rfl Tryz.s139_eq rfl ?_
  unfold Tryz.s139
  simp -dsimp -implicitDefEqProofs (maxSteps := 2000000) (disch := first | assumption | omega | (simp only [nx]; omega) | ((repeat refine Fresh.push ?_ _); assumption) | (simp only [smA]; done) | (simp [oneCell, AW.next_push]; done) | fail) only [go_sem, Nat.reduceEqDiff, reduceIte, Nat.reduceAdd, Int.toNat_natCast, Nat.add_zero, Owes_true, Tryz.results139, Nat.zero_add, hn1, c0, m0]
  apply callV_of (e := rfl)
  · exact cmp_ok _ _ _
  rintro _ _ ⟨rfl, rfl⟩
  simp -dsimp -implicitDefEqProofs (maxSteps := 2000000) (disch := first | assumption | omega | (simp only [nx]; omega) | ((repeat refine Fresh.push ?_ _); assumption) | (simp only [smA]; done) | (simp [oneCell, AW.next_push]; done) | fail) only [go_sem, Nat.reduceEqDiff, reduceIte, Nat.reduceAdd, Int.toNat_natCast, Nat.add_zero, Owes_true, Tryz.results139]
  exact ⟨rfl, g2⟩
end Go.Proofs

namespace Go.Proofs
open Go Go.RowKit Go.Sim
set_option maxRecDepth 100000
theorem same_agg3 (a b c : Int) : same 12 (.agg #[.int .i64 a, .int .i64 b, .int .i64 c]) (.agg #[.int .i64 a, .int .i64 b, .int .i64 c]) = true := by simp [same, same.all, intEq_eq]
theorem allD1_ok (d : DealN) (b : Nat) (w : AW) (f : Fresh w) (h : Own w b 185 [.func (.func 142) #[] #[]]) : CallT Tryz.prog Tryz.T1 (.fn (.func 159) #[.pointer (some ⟨b, 0, none⟩)]) #[.agg #[.int .i64 d.day, .int .i64 d.who, .int .i64 d.sum]] w (Ret (.bool (!dealB d)) (Grown w)) := by
  have g := (Grown.refl f).push (.cells [.int .i64 d.day, .int .i64 d.who, .int .i64 d.sum] 76 w.next 0 0)
  have hO := Own.new f 76 [.int .i64 d.day, .int .i64 d.who, .int .i64 d.sum]
  have c0 := hO.cell (o := 0) rfl rfl
  have c1 := hO.cell (o := 1) rfl rfl
  have c2 := hO.cell (o := 2) rfl rfl
  have a0 := (h.keep g.1).cell (o := 0) rfl rfl
  have hs := same_fn0 142
  refine callT_code rfl Tryz.func159 rfl Tryz.s159_eq rfl ?_
  unfold Tryz.s159
  simp -dsimp -implicitDefEqProofs (maxSteps := 2000000) (disch := first | assumption | omega | (simp only [nx]; omega) | ((repeat refine Fresh.push ?_ _); assumption) | (simp only [smA]; done) | (simp [oneCell, AW.next_push]; done) | fail) only [go_sem, Nat.reduceEqDiff, reduceIte, Nat.reduceAdd, Int.toNat_natCast, Nat.add_zero, Owes_true, Tryz.results159, c0, c1, c2, a0, Nat.zero_add, hs]
  apply callV_of (e := rfl)
  · exact isDealing_ok d _ g.2
  rintro _ w1 ⟨rfl, g1⟩
  simp -dsimp -implicitDefEqProofs (maxSteps := 2000000) (disch := first | assumption | omega | (simp only [nx]; omega) | ((repeat refine Fresh.push ?_ _); assumption) | (simp only [smA]; done) | (simp [oneCell, AW.next_push]; done) | fail) only [go_sem, Nat.reduceEqDiff, reduceIte, Nat.reduceAdd, Int.toNat_natCast, Nat.add_zero, Owes_true, Tryz.results159]
  exact ⟨rfl, g.trans g1⟩
theorem indexD_ok (l : List DealN) (v : Value) (b : Nat) (w : AW) (f : Fresh w) (hs : ArrOf w 3 dcells v l) (h : Own w b 185 [.func (.func 142) #[] #[]]) :
    CallT Tryz.prog Tryz.T1 (.fn (.func 165) #[]) #[v, .func (.func 159) #[] #[.pointer (some ⟨b, 0, none⟩)]] w (fun r w' => Grown w w' ∧ ∃ n : Int, r = .int .i64 n ∧ decide (n ≥ 0) = !l.all dealB) := by
  obtain ⟨p, cap, rfl, _, _, hat⟩ := hs.open
  have hfn := same_fn 159 b
  refine callT_code rfl Tryz.func165 rfl Tryz.s165_eq rfl ?_
  unfold Tryz.s165
  simp -dsimp -implicitDefEqProofs (maxSteps := 2000000) (disch := first | assumption | omega | (simp only [nx]; omega) | ((repeat refine Fresh.push ?_ _); assumption) | (simp only [smA]; done) | (simp [oneCell, AW.next_push]; done) | fail) only [go_sem, Nat.reduceEqDiff, reduceIte, Nat.reduceAdd, Int.toNat_natCast, Nat.add_zero, Owes_true, Tryz.results165]
  refine loopR (fun k t ds w1 => ∃ i : Nat, i ≤ l.length ∧ k = l.length - i ∧ ds = [] ∧ ev t (.tmp 0) = .slice p l.length cap ∧ ev t (.tmp 1) = .func (.func 159) #[] #[.pointer (some ⟨b, 0, none⟩)] ∧ ev t (.tmp 6) = .slice p l.length cap ∧ ev t (.tmp 7) = .int .i64 (l.length : Int) ∧ ev t (.tmp 8) = .int .i64 (i : Int) ∧ Grown w w1 ∧ (l.take i).all dealB = true) (l.length) ?_ ?_
  · refine ⟨0, by omega, by omega, rfl, ?_, ?_, ?_, ?_, ?_, Grown.refl f, rfl⟩ <;> simp -dsimp -implicitDefEqProofs (maxSteps := 2000000) (disch := first | assumption | omega | (simp only [nx]; omega) | ((repeat refine Fresh.push ?_ _); assumption) | (simp only [smA]; done) | (simp [oneCell, AW.next_push]; done) | fail) only [go_sem, Nat.reduceEqDiff, reduceIte, Nat.reduceAdd, Int.toNat_natCast, Nat.add_zero, Owes_true] <;> rfl
  rintro k t ds w1 ⟨i, hii, rfl, rfl, e0, e1, e6, e7, e8, g1, ha⟩
  by_cases hlt : (i : Int) < (l.length : Int)
  case neg =>
    obtain rfl : i = l.length := by omega
    rw [List.take_of_length_le (Nat.le_refl _)] at ha
    simp -dsimp -implicitDefEqProofs (maxSteps := 2000000) (disch := first | assumption | omega | (simp only [nx]; omega) | ((repeat refine Fresh.push ?_ _); assumption) | (simp only [smA]; done) | (simp [oneCell, AW.next_push]; done) | fail) only [go_sem, Nat.reduceEqDiff, reduceIte, Nat.reduceAdd, Int.toNat_natCast, Nat.add_zero, Owes_true, Tryz.results165, e0, e1, e6, e7, e8, hlt]
    exact ⟨g1, -1, rfl, by rw [ha]; rfl⟩
  have hlt' : i < l.length := by omega
  obtain ⟨b1, o1, rfl, hb1, hcell⟩ := hat i hlt'
  have a0 := hcell w1 g1.1 0 _ rfl
  have a1 := hcell w1 g1.1 1 _ rfl
  have a2 := hcell w1 g1.1 2 _ rfl
  simp only [Nat.add_zero] at a0 a1 a2
  have hone := allD1_ok l[i] b w1 g1.2 (h.keep g1.1)
  generalize hli : dealB l[i] = B at *
  simp -dsimp -implicitDefEqProofs (maxSteps := 2000000) (disch := first | assumption | omega | (simp only [nx]; omega) | ((repeat refine Fresh.push ?_ _); assumption) | (simp only [smA]; done) | (simp [oneCell, AW.next_push]; done) | fail) only [go_sem, Nat.reduceEqDiff, reduceIte, Nat.reduceAdd, Int.toNat_natCast, Nat.add_zero, Owes_true, Tryz.results165, e0, e1, e6, e7, e8, hlt, indexV_eq, a0, a1, a2, hfn]
  apply callV_of (e := rfl)
  · exact hone
  rintro _ w2 ⟨rfl, g2⟩
  cases B with
  | true =>
    simp -dsimp -implicitDefEqProofs (maxSteps := 2000000) (disch := first | assumption | omega | (simp only [nx]; omega) | ((repeat refine Fresh.push ?_ _); assumption) | (simp only [smA]; done) | (simp [oneCell, AW.next_push]; done) | fail) only [go_sem, Nat.reduceEqDiff, reduceIte, Nat.reduceAdd, Int.toNat_natCast, Nat.add_zero, Owes_true, Tryz.results165, e0, e1, e6, e7, e8]
    refine ⟨_, by omega, i + 1, by omega, rfl, rfl, by (simp -dsimp -implicitDefEqProofs (maxSteps := 2000000) (disch := first | assumption | omega | (simp only [nx]; omega) | ((repeat refine Fresh.push ?_ _); assumption) | (simp only [smA]; done) | (simp [oneCell, AW.next_push]; done) | fail) only [go_sem, Nat.reduceEqDiff, reduceIte, Nat.reduceAdd, Int.toNat_natCast, Nat.add_zero, Owes_true, e0]; try rfl), by (simp -dsimp -implicitDefEqProofs (maxSteps := 2000000) (disch := first | assumption | omega | (simp only [nx]; omega) | ((repeat refine Fresh.push ?_ _); assumption) | (simp only [smA]; done) | (simp [oneCell, AW.next_push]; done) | fail) only [go_sem, Nat.reduceEqDiff, reduceIte, Nat.reduceAdd, Int.toNat_natCast, Nat.add_zero, Owes_true, e1]; try rfl), by (simp -dsimp -implicitDefEqProofs (maxSteps := 2000000) (disch := first | assumption | omega | (simp only [nx]; omega) | ((repeat refine Fresh.push ?_ _); assumption) | (simp only [smA]; done) | (simp [oneCell, AW.next_push]; done) | fail) only [go_sem, Nat.reduceEqDiff, reduceIte, Nat.reduceAdd, Int.toNat_natCast, Nat.add_zero, Owes_true, e6]; try rfl), by (simp -dsimp -implicitDefEqProofs (maxSteps := 2000000) (disch := first | assumption | omega | (simp only [nx]; omega) | ((repeat refine Fresh.push ?_ _); assumption) | (simp only [smA]; done) | (simp [oneCell, AW.next_push]; done) | fail) only [go_sem, Nat.reduceEqDiff, reduceIte, Nat.reduceAdd, Int.toNat_natCast, Nat.add_zero, Owes_true, e7]; try rfl), by (simp -dsimp -implicitDefEqProofs (maxSteps := 2000000) (disch := first | assumption | omega | (simp only [nx]; omega) | ((repeat refine Fresh.push ?_ _); assumption) | (simp only [smA]; done) | (simp [oneCell, AW.next_push]; done) | fail) only [go_sem, Nat.reduceEqDiff, reduceIte, Nat.reduceAdd, Int.toNat_natCast, Nat.add_zero, Owes_true, e8]; try rfl), g1.trans g2, by rw [List.take_succ_eq_append_getElem hlt', List.all_append, ha]; simp [hli]⟩
  | false =>
    simp -dsimp -implicitDefEqProofs (maxSteps := 2000000) (disch := first | assumption | omega | (simp only [nx]; omega) | ((repeat refine Fresh.push ?_ _); assumption) | (simp only [smA]; done) | (simp [oneCell, AW.next_push]; done) | fail) only [go_sem, Nat.reduceEqDiff, reduceIte, Nat.reduceAdd, Int.toNat_natCast, Nat.add_zero, Owes_true, Tryz.results165, e0, e1, e6, e7, e8]
    refine ⟨g1.trans g2, (i : Int), rfl, ?_⟩
    have h1 : l.all dealB = false := by
      rw [List.all_eq_false]; exact ⟨l[i], List.getElem_mem hlt', by rw [hli]; simp⟩
    rw [h1]; simp
theorem containsD_ok (l : List DealN) (v : Value) (b : Nat) (w : AW) (f : Fresh w) (hs : ArrOf w 3 dcells v l) (h : Own w b 185 [.func (.func 142) #[] #[]]) :
    CallT Tryz.prog Tryz.T1 (.fn (.func 158) #[]) #[v, .func (.func 159) #[] #[.pointer (some ⟨b, 0, none⟩)]] w (Ret (.bool (!l.all dealB)) (Grown w)) := by
  obtain ⟨p, cap, rfl, _⟩ := id hs.open
  have hfn := same_fn 159 b
  refine callT_code rfl Tryz.func158 rfl Tryz.s158_eq rfl ?_
  unfold Tryz.s158
  simp -dsimp -implicitDefEqProofs (maxSteps := 2000000) (disch := first | assumption | omega | (simp only [nx]; omega) | ((repeat refine Fresh.push ?_ _); assumption) | (simp only [smA]; done) | (simp [oneCell, AW.next_push]; done) | fail) only [go_sem, Nat.reduceEqDiff, reduceIte, Nat.reduceAdd, Int.toNat_natCast, Nat.add_zero, Owes_true, Tryz.results158, hfn]
  apply callV_of (e := rfl)
  · exact indexD_ok l _ b w f hs h
  rintro _ w1 ⟨g1, n, rfl, hn⟩
  simp -dsimp -implicitDefEqProofs (maxSteps := 2000000) (disch := first | assumption | omega | (simp only [nx]; omega) | ((repeat refine Fresh.push ?_ _); assumption) | (simp only [smA]; done) | (simp [oneCell, AW.next_push]; done) | fail) only [go_sem, Nat.reduceEqDiff, reduceIte, Nat.reduceAdd, Int.toNat_natCast, Nat.add_zero, Owes_true, Tryz.results158, hn]
  exact ⟨rfl, g1⟩
theorem allD_ok (l : List DealN) (v : Value) (w : AW) (f : Fresh w) (hs : ArrOf w 3 dcells v l) :
    CallT Tryz.prog Tryz.T1 (.fn (.func 141) #[]) #[v, .func (.func 142) #[] #[]] w (Ret (.bool (l.all dealB)) (Grown w)) := by
  obtain ⟨p, cap, rfl, _⟩ := id hs.open
  have hfn := same_fn 159 w.next
  have hs0 := same_fn0 142
  have g := (Grown.refl f).push (.cells [.func (.func 142) #[] #[]] 185 w.next 0 0)
  have hO := Own.new f 185 [.func (.func 142) #[] #[]]
  refine callT_code rfl Tryz.func141 rfl Tryz.s141_eq rfl ?_
  unfold Tryz.s141
  simp -dsimp -implicitDefEqProofs (maxSteps := 2000000) (disch := first | assumption | omega | (simp only [nx]; omega) | ((repeat refine Fresh.push ?_ _); assumption) | (simp only [smA]; done) | (simp [oneCell, AW.next_push]; done) | fail) only [go_sem, Nat.reduceEqDiff, reduceIte, Nat.reduceAdd, Int.toNat_natCast, Nat.add_zero, Owes_true, Tryz.results141, hfn, hs0]
  apply callV_of (e := rfl)
  · exact containsD_ok l _ w.next _ g.2 (hs.grown g) hO
  rintro _ w1 ⟨rfl, g1⟩
  simp -dsimp -implicitDefEqProofs (maxSteps := 2000000) (disch := first | assumption | omega | (simp only [nx]; omega) | ((repeat refine Fresh.push ?_ _); assumption) | (simp only [smA]; done) | (simp [oneCell, AW.next_push]; done) | fail) only [go_sem, Nat.reduceEqDiff, reduceIte, Nat.reduceAdd, Int.toNat_natCast, Nat.add_zero, Owes_true, Tryz.results141]
  exact ⟨by rw [Bool.not_not], g.trans g1⟩
def ordAt (l : List DealN) (i : Nat) : Bool := match l[i]?, l[i + 1]? with
  | some a, some b => decide (a.day ≤ b.day)
  | _, _ => true
def ordB (l : List DealN) : Bool := (List.range (l.length - 1)).all (ordAt l)
set_option maxHeartbeats 4000000 in
theorem sorted_ok (l : List DealN) (v : Value) (w : AW) (f : Fresh w) (hs : ArrOf w 3 dcells v l) :
    CallT Tryz.prog Tryz.T1 (.fn (.func 143) #[]) #[v, .func (.func 139) #[] #[]] w (Ret (.bool (ordB l)) (Grown w)) := by
  obtain ⟨p, cap, rfl, _, _, hat⟩ := hs.open
  have hs0 := same_fn0 139
  have hz : (l.length : Int) - 1 - ((0 : Nat) : Int) = (l.length : Int) - 1 := by omega
  refine callT_code rfl Tryz.func143 rfl Tryz.s143_eq rfl ?_
  unfold Tryz.s143
  simp -dsimp -implicitDefEqProofs (maxSteps := 2000000) (disch := first | assumption | omega | (simp only [nx]; omega) | ((repeat refine Fresh.push ?_ _); assumption) | (simp only [smA]; done) | (simp [oneCell, AW.next_push]; done) | fail) only [go_sem, Nat.reduceEqDiff, reduceIte, Nat.reduceAdd, Int.toNat_natCast, Nat.add_zero, Owes_true, Tryz.results143]
  refine loopR (fun k t ds w1 => ∃ m : Nat, m ≤ l.length - 1 ∧ k = l.length - 1 - m ∧ ds = [] ∧ ev t (.tmp 0) = .slice p l.length cap ∧ ev t (.tmp 1) = .func (.func 139) #[] #[] ∧ ev t (.tmp 5) = .int .i64 ((l.length : Int) - 1 - (m : Int)) ∧ Grown w w1 ∧ (∀ i, l.length - 1 - m ≤ i → i < l.length - 1 → ordAt l i = true)) (l.length - 1) ?_ ?_
  · refine ⟨0, by omega, by omega, rfl, ?_, ?_, ?_, Grown.refl f, (fun i h1 h2 => by omega)⟩ <;> simp -dsimp -implicitDefEqProofs (maxSteps := 2000000) (disch := first | assumption | omega | (simp only [nx]; omega) | ((repeat refine Fresh.push ?_ _); assumption) | (simp only [smA]; done) | (simp [oneCell, AW.next_push]; done) | fail) only [go_sem, Nat.reduceEqDiff, reduceIte, Nat.reduceAdd, Int.toNat_natCast, Nat.add_zero, Owes_true, hz] <;> rfl
  rintro k t ds w1 ⟨m, him, rfl, rfl, e0, e1, e5, g1, ha⟩
  by_cases hlt : (0 : Int) < (l.length : Int) - 1 - (m : Int)
  case neg =>
    have hall : ordB l = true := by
      unfold ordB; rw [List.all_eq_true]
      exact fun i hi => ha i (by omega) (List.mem_range.1 hi)
    simp -dsimp -implicitDefEqProofs (maxSteps := 2000000) (disch := first | assumption | omega | (simp only [nx]; omega) | ((repeat refine Fresh.push ?_ _); assumption) | (simp only [smA]; done) | (simp [oneCell, AW.next_push]; done) | fail) only [go_sem, Nat.reduceEqDiff, reduceIte, Nat.reduceAdd, Int.toNat_natCast, Nat.add_zero, Owes_true, Tryz.results143, e0, e1, e5, hlt]
    exact ⟨by rw [hall], g1⟩
  obtain ⟨i, hi⟩ : ∃ i : Nat, (l.length : Int) - 1 - (m : Int) = ((i + 1 : Nat) : Int) := ⟨l.length - 1 - m - 1, by omega⟩
  have hi1 : i + 1 < l.length := by omega
  have hi0 : i < l.length := by omega
  have hi1' : ((i + 1 : Nat) : Int) < (l.length : Int) := by omega
  have hi0' : (i : Int) < (l.length : Int) := by omega
  have hms : ((i + 1 : Nat) : Int) - 1 = (i : Int) := by omega
  have hnx : (l.length : Int) - 1 - ((m : Int) + 1) = (i : Int) := by omega
  have hnx' : (l.length : Int) - 1 - ((m + 1 : Nat) : Int) = (i : Int) := by omega
  obtain ⟨b1, o1, rfl, hb1, hcell⟩ := hat (i + 1) hi1
  obtain ⟨b2, o2, e2, hb2, hcell2⟩ := hat i hi0
  injection e2 with e2
  injection e2 with e2a e2b
  subst e2a e2b
  have a0 := hcell w1 g1.1 0 _ rfl
  have a1 := hcell w1 g1.1 1 _ rfl
  have a2 := hcell w1 g1.1 2 _ rfl
  have x0 := hcell2 w1 g1.1 0 _ rfl
  have x1 := hcell2 w1 g1.1 1 _ rfl
  have x2 := hcell2 w1 g1.1 2 _ rfl
  simp only [Nat.add_zero] at a0 a1 a2 x0 x1 x2
  have hat1 : ordAt l i = decide (l[i].day ≤ l[i + 1].day) := by
    unfold ordAt; rw [List.getElem?_eq_getElem hi0, List.getElem?_eq_getElem hi1]
  have hcall := byDay_ok l[i + 1] l[i] w1 g1.2
  rw [hi] at e5 hlt
  generalize l[i + 1] = y at *
  generalize l[i] = x at *
  generalize hj : i + 1 = j at *
  have hf1 := g1.2
  have hsy : same 12 (Value.agg #[.int .i64 y.day, .int .i64 y.who, .int .i64 y.sum]) (Value.agg #[.int .i64 y.day, .int .i64 y.who, .int .i64 y.sum]) = true := same_agg3 _ _ _
  have hsx : same 12 (Value.agg #[.int .i64 x.day, .int .i64 x.who, .int .i64 x.sum]) (Value.agg #[.int .i64 x.day, .int .i64 x.who, .int .i64 x.sum]) = true := same_agg3 _ _ _
  simp -dsimp -implicitDefEqProofs (maxSteps := 2000000) (disch := first | assumption | omega | (simp only [nx]; omega) | ((repeat refine Fresh.push ?_ _); assumption) | (simp only [smA]; done) | (simp [oneCell, AW.next_push]; done) | fail) only [go_sem, Nat.reduceEqDiff, reduceIte, Nat.reduceAdd, Int.toNat_natCast, Nat.add_zero, Owes_true, e0, e1, e5, hlt, hms, hi1', hi0', indexV_eq, a0, a1, a2, x0, x1, x2, hs0, hsy, hsx]
  apply callV_of (e := rfl)
  · exact hcall
  rintro _ w2 ⟨rfl, g2⟩
  have hle := g2.1.wle g1.2
  have gg := g1.trans g2
  by_cases hd : y.day < x.day
  · have hc : cmpI y.day x.day = -1 := by unfold cmpI; rw [if_pos hd]
    have hbad : ordB l = false := by
      unfold ordB; rw [List.all_eq_false]
      exact ⟨i, List.mem_range.2 (by omega), by rw [hat1, decide_eq_false (by omega)]; simp⟩
    have hm1 : decide ((-1 : Int) < 0) = true := rfl
    rw [hc]
    simp -dsimp -implicitDefEqProofs (maxSteps := 2000000) (disch := first | assumption | omega | (simp only [nx]; omega) | ((repeat refine Fresh.push ?_ _); assumption) | (simp only [smA]; done) | (simp [oneCell, AW.next_push]; done) | fail) only [go_sem, Nat.reduceEqDiff, reduceIte, Nat.reduceAdd, Int.toNat_natCast, Nat.add_zero, Owes_true, Tryz.results143, hm1]
    exact ⟨by rw [hbad], gg⟩
  · have hc : ¬ cmpI y.day x.day < 0 := by unfold cmpI; rw [if_neg hd]; split <;> omega
    have hnext : ∀ q, l.length - 1 - (m + 1) ≤ q → q < l.length - 1 → ordAt l q = true := fun q h1 h2 => by
      by_cases hq : q = i
      · subst hq; rw [hat1]; exact decide_eq_true (by omega)
      · exact ha q (by omega) h2
    generalize cmpI y.day x.day = c at *
    simp -dsimp -implicitDefEqProofs (maxSteps := 2000000) (disch := first | assumption | omega | (simp only [nx]; omega) | ((repeat refine Fresh.push ?_ _); assumption) | (simp only [smA]; done) | (simp [oneCell, AW.next_push]; done) | fail) only [go_sem, Nat.reduceEqDiff, reduceIte, Nat.reduceAdd, Int.toNat_natCast, Nat.add_zero, Owes_true, Tryz.results143, hc, e0, e1, e5]
    refine ⟨_, by omega, m + 1, by omega, rfl, rfl, by (simp -dsimp -implicitDefEqProofs (maxSteps := 2000000) (disch := first | assumption | omega | (simp only [nx]; omega) | ((repeat refine Fresh.push ?_ _); assumption) | (simp only [smA]; done) | (simp [oneCell, AW.next_push]; done) | fail) only [go_sem, Nat.reduceEqDiff, reduceIte, Nat.reduceAdd, Int.toNat_natCast, Nat.add_zero, Owes_true, e0, hms, hnx, hnx']; try rfl), by (simp -dsimp -implicitDefEqProofs (maxSteps := 2000000) (disch := first | assumption | omega | (simp only [nx]; omega) | ((repeat refine Fresh.push ?_ _); assumption) | (simp only [smA]; done) | (simp [oneCell, AW.next_push]; done) | fail) only [go_sem, Nat.reduceEqDiff, reduceIte, Nat.reduceAdd, Int.toNat_natCast, Nat.add_zero, Owes_true, e1, hms, hnx, hnx']; try rfl), by (simp -dsimp -implicitDefEqProofs (maxSteps := 2000000) (disch := first | assumption | omega | (simp only [nx]; omega) | ((repeat refine Fresh.push ?_ _); assumption) | (simp only [smA]; done) | (simp [oneCell, AW.next_push]; done) | fail) only [go_sem, Nat.reduceEqDiff, reduceIte, Nat.reduceAdd, Int.toNat_natCast, Nat.add_zero, Owes_true, e5, hms, hnx, hnx']; try rfl), gg, hnext⟩
def dealsB (l : List DealN) : Bool := decide (l.length ≤ 64) && l.all dealB && ordB l
theorem areDealings_ok (l : List DealN) (v : Value) (w : AW) (f : Fresh w) (hs : ArrOf w 3 dcells v l) :
    CallT Tryz.prog Tryz.T1 (.fn (.func 113) #[]) #[v] w (Ret (.bool (dealsB l)) (Grown w)) := by
  obtain ⟨p, cap, rfl, _⟩ := id hs.open
  have hs0 := same_fn0 142
  have hs1 := same_fn0 139
  refine callT_code rfl Tryz.func113 rfl Tryz.s113_eq rfl ?_
  unfold Tryz.s113
  unfold dealsB
  by_cases h : (l.length : Int) ≤ 64
  case neg =>
    simp -dsimp -implicitDefEqProofs (maxSteps := 2000000) (disch := first | assumption | omega | (simp only [nx]; omega) | ((repeat refine Fresh.push ?_ _); assumption) | (simp only [smA]; done) | (simp [oneCell, AW.next_push]; done) | fail) only [go_sem, Nat.reduceEqDiff, reduceIte, Nat.reduceAdd, Int.toNat_natCast, Nat.add_zero, Owes_true, Tryz.results113, h, hs0, hs1]
    exact ⟨by rw [decide_eq_false (by omega : ¬ l.length ≤ 64), Bool.false_and, Bool.false_and], Grown.refl f⟩
  simp -dsimp -implicitDefEqProofs (maxSteps := 2000000) (disch := first | assumption | omega | (simp only [nx]; omega) | ((repeat refine Fresh.push ?_ _); assumption) | (simp only [smA]; done) | (simp [oneCell, AW.next_push]; done) | fail) only [go_sem, Nat.reduceEqDiff, reduceIte, Nat.reduceAdd, Int.toNat_natCast, Nat.add_zero, Owes_true, Tryz.results113, h, hs0, hs1]
  apply callV_of (e := rfl)
  · exact allD_ok l _ _ f hs
  rintro _ w1 ⟨rfl, g1⟩
  rw [decide_eq_true (by omega : l.length ≤ 64), Bool.true_and]
  cases hq : l.all dealB with
  | false =>
    simp -dsimp -implicitDefEqProofs (maxSteps := 2000000) (disch := first | assumption | omega | (simp only [nx]; omega) | ((repeat refine Fresh.push ?_ _); assumption) | (simp only [smA]; done) | (simp [oneCell, AW.next_push]; done) | fail) only [go_sem, Nat.reduceEqDiff, reduceIte, Nat.reduceAdd, Int.toNat_natCast, Nat.add_zero, Owes_true, Tryz.results113, hq]
    exact ⟨rfl, g1⟩
  | true =>
    simp -dsimp -implicitDefEqProofs (maxSteps := 2000000) (disch := first | assumption | omega | (simp only [nx]; omega) | ((repeat refine Fresh.push ?_ _); assumption) | (simp only [smA]; done) | (simp [oneCell, AW.next_push]; done) | fail) only [go_sem, Nat.reduceEqDiff, reduceIte, Nat.reduceAdd, Int.toNat_natCast, Nat.add_zero, Owes_true, Tryz.results113, hq, hs1]
    apply callV_of (e := rfl)
    · exact sorted_ok l _ _ g1.2 (hs.grown g1)
    rintro _ w2 ⟨rfl, g2⟩
    simp -dsimp -implicitDefEqProofs (maxSteps := 2000000) (disch := first | assumption | omega | (simp only [nx]; omega) | ((repeat refine Fresh.push ?_ _); assumption) | (simp only [smA]; done) | (simp [oneCell, AW.next_push]; done) | fail) only [go_sem, Nat.reduceEqDiff, reduceIte, Nat.reduceAdd, Int.toNat_natCast, Nat.add_zero, Owes_true, Tryz.results113]
    exact ⟨rfl, g1.trans g2⟩
end Go.Proofs

namespace Go.Proofs
open Go Go.RowKit Go.Sim
set_option maxRecDepth 100000
structure WatchN where
  days : Int
  sum : Int
  small : Int
  more : Int
def watchB (d : WatchN) : Bool := inR 1 d.days 366 && inR 1 d.sum 1073741824 && inR 1 d.small d.sum && inR 1 d.more 64
theorem isWatch_ok (d : WatchN) (w : AW) (f : Fresh w) : CallT Tryz.prog Tryz.T1 (.fn (.func 114) #[]) #[.agg #[.int .i64 d.days, .int .i64 d.sum, .int .i64 d.small, .int .i64 d.more]] w (Ret (.bool (watchB d)) (Grown w)) := by
  have g := (Grown.refl f).push (.cells [.int .i64 d.days, .int .i64 d.sum, .int .i64 d.small, .int .i64 d.more] 46 w.next 0 0)
  have hO := Own.new f 46 [.int .i64 d.days, .int .i64 d.sum, .int .i64 d.small, .int .i64 d.more]
  have c0 := hO.cell (o := 0) rfl rfl
  have c1 := hO.cell (o := 1) rfl rfl
  have c2 := hO.cell (o := 2) rfl rfl
  have c3 := hO.cell (o := 3) rfl rfl
  unfold watchB
  refine callT_code rfl Tryz.func114 rfl Tryz.s114_eq rfl ?_
  unfold Tryz.s114
  simp -dsimp -implicitDefEqProofs (maxSteps := 2000000) (disch := first | assumption | omega | (simp only [nx]; omega) | ((repeat refine Fresh.push ?_ _); assumption) | (simp only [smA]; done) | (simp [oneCell, AW.next_push]; done) | fail) only [go_sem, Nat.reduceEqDiff, reduceIte, Nat.reduceAdd, Int.toNat_natCast, Nat.add_zero, Owes_true, Tryz.results114, Nat.zero_add, c0, c1, c2, c3]
  apply callV_of (e := rfl)
  · exact within_ok _ _ _ _
  rintro _ _ ⟨rfl, rfl⟩
  cases h1 : inR 1 d.days 366 with
  | false =>
    simp -dsimp -implicitDefEqProofs (maxSteps := 2000000) (disch := first | assumption | omega | (simp only [nx]; omega) | ((repeat refine Fresh.push ?_ _); assumption) | (simp only [smA]; done) | (simp [oneCell, AW.next_push]; done) | fail) only [go_sem, Nat.reduceEqDiff, reduceIte, Nat.reduceAdd, Int.toNat_natCast, Nat.add_zero, Owes_true, Tryz.results114, h1]
    exact ⟨by simp, g⟩
  | true =>
  simp -dsimp -implicitDefEqProofs (maxSteps := 2000000) (disch := first | assumption | omega | (simp only [nx]; omega) | ((repeat refine Fresh.push ?_ _); assumption) | (simp only [smA]; done) | (simp [oneCell, AW.next_push]; done) | fail) only [go_sem, Nat.reduceEqDiff, reduceIte, Nat.reduceAdd, Int.toNat_natCast, Nat.add_zero, Owes_true, Tryz.results114, h1, Nat.zero_add, c0, c1, c2, c3]
  apply callV_of (e := rfl)
  · exact isSum_ok _ _
  rintro _ _ ⟨rfl, rfl⟩
  cases h2 : inR 1 d.sum 1073741824 with
  | false =>
    simp -dsimp -implicitDefEqProofs (maxSteps := 2000000) (disch := first | assumption | omega | (simp only [nx]; omega) | ((repeat refine Fresh.push ?_ _); assumption) | (simp only [smA]; done) | (simp [oneCell, AW.next_push]; done) | fail) only [go_sem, Nat.reduceEqDiff, reduceIte, Nat.reduceAdd, Int.toNat_natCast, Nat.add_zero, Owes_true, Tryz.results114, h2]
    exact ⟨by simp, g⟩
  | true =>
  simp -dsimp -implicitDefEqProofs (maxSteps := 2000000) (disch := first | assumption | omega | (simp only [nx]; omega) | ((repeat refine Fresh.push ?_ _); assumption) | (simp only [smA]; done) | (simp [oneCell, AW.next_push]; done) | fail) only [go_sem, Nat.reduceEqDiff, reduceIte, Nat.reduceAdd, Int.toNat_natCast, Nat.add_zero, Owes_true, Tryz.results114, h2, Nat.zero_add, c0, c1, c2, c3]
  apply callV_of (e := rfl)
  · exact within_ok _ _ _ _
  rintro _ _ ⟨rfl, rfl⟩
  cases h3 : inR 1 d.small d.sum with
  | false =>
    simp -dsimp -implicitDefEqProofs (maxSteps := 2000000) (disch := first | assumption | omega | (simp only [nx]; omega) | ((repeat refine Fresh.push ?_ _); assumption) | (simp only [smA]; done) | (simp [oneCell, AW.next_push]; done) | fail) only [go_sem, Nat.reduceEqDiff, reduceIte, Nat.reduceAdd, Int.toNat_natCast, Nat.add_zero, Owes_true, Tryz.results114, h3]
    exact ⟨by simp, g⟩
  | true =>
  simp -dsimp -implicitDefEqProofs (maxSteps := 2000000) (disch := first | assumption | omega | (simp only [nx]; omega) | ((repeat refine Fresh.push ?_ _); assumption) | (simp only [smA]; done) | (simp [oneCell, AW.next_push]; done) | fail) only [go_sem, Nat.reduceEqDiff, reduceIte, Nat.reduceAdd, Int.toNat_natCast, Nat.add_zero, Owes_true, Tryz.results114, h3, Nat.zero_add, c0, c1, c2, c3]
  apply callV_of (e := rfl)
  · exact within_ok _ _ _ _
  rintro _ _ ⟨rfl, rfl⟩
  simp -dsimp -implicitDefEqProofs (maxSteps := 2000000) (disch := first | assumption | omega | (simp only [nx]; omega) | ((repeat refine Fresh.push ?_ _); assumption) | (simp only [smA]; done) | (simp [oneCell, AW.next_push]; done) | fail) only [go_sem, Nat.reduceEqDiff, reduceIte, Nat.reduceAdd, Int.toNat_natCast, Nat.add_zero, Owes_true, Tryz.results114]
  exact ⟨by simp, g⟩
end Go.Proofs

namespace Go.Proofs
open Go Go.RowKit Go.Sim
set_option maxRecDepth 100000
def deskL (W : WatchN) (v : Value) (A : List Int) : List Value := .int .i64 W.days :: .int .i64 W.sum :: .int .i64 W.small :: .int .i64 W.more :: v :: icl A
theorem deskL_len (W : WatchN) (v : Value) {A : List Int} (h : A.length = 24) : (deskL W v A).length = 29 := by simp [deskL, icl_len, h]
theorem deskL_one (W : WatchN) (p : Option Addr) (n c : Nat) (A : List Int) : ∀ x ∈ deskL W (.slice p n c) A, oneCell x = true := by
  intro x hx
  simp only [deskL, List.mem_cons] at hx
  rcases hx with rfl | rfl | rfl | rfl | rfl | hx
  · rfl
  · rfl
  · rfl
  · rfl
  · rfl
  · exact icl_one A x hx
theorem same_iclN (n : Nat) : ∀ (A : List Int), same.all (n + 1) (icl A) (icl A) = true
  | [] => rfl
  | a :: A => by
    have ih := same_iclN n A
    have hi : intEq a a = true := by rw [intEq_eq]; simp
    show (same (n + 1) (.int .i64 a) (.int .i64 a) && same.all (n + 1) (icl A) (icl A)) = true
    rw [ih, Bool.and_true]
    exact hi
theorem same_desk (W : WatchN) (p : Option Addr) (n c : Nat) (A : List Int) : same 12 (.agg (deskL W (.slice p n c) A).toArray) (.agg (deskL W (.slice p n c) A).toArray) = true := by
  have h1 : ∀ x : Int, same 11 (.int .i64 x) (.int .i64 x) = true := fun x => by
    show intEq x x = true
    rw [intEq_eq]; simp
  have h2 : same 11 (.slice p n c) (.slice p n c) = true := by
    have := same_sliceP p n c
    cases p with
    | none => exact this
    | some a => obtain ⟨b, o, s⟩ := a; cases s <;> exact this
  show same.all 11 (deskL W (.slice p n c) A).toArray.toList (deskL W (.slice p n c) A).toArray.toList = true
  simp only [List.toList_toArray, deskL, same.all, h1, h2, Bool.true_and]
  exact same_iclN 10 A
section
variable {w : AW} {b : Nat} {W : WatchN} {p : Option Addr} {n c : Nat} {A : List Int}
theorem desk_load (h : Own w b 119 (deskL W (.slice p n c) A)) (hA : A.length = 24) : loadV w true 29 (.pointer (some ⟨b, 0, none⟩)) = some (.agg (deskL W (.slice p n c) A).toArray) :=
  loadAll h (deskL_len _ _ hA) (deskL_one _ _ _ _ _)
theorem desk_lab (h : Own w b 119 (deskL W (.slice p n c) A)) {u : Nat} (hu : u < A.length) : w.cell? ⟨b, 5 + u, none⟩ = some (.int .i64 (lb A u)) :=
  h.cell (by rw [deskL, show 5 + u = u + 1 + 1 + 1 + 1 + 1 from by omega]; simp only [List.getElem?_cons_succ]; exact icl_at hu) rfl
end
theorem idx24b (b p : Nat) (h : p < 24) : indexA 1 24 (.pointer (some ⟨b, 5, none⟩)) (.int .i64 (p : Int)) = some (.pointer (some ⟨b, 5 + p, none⟩)) := by
  rw [indexA_eq h]; simp
def leadAt (A : List Int) (l : List DealN) (k : Nat) : Int := match l[k]? with
  | some d => lb A d.who.toNat
  | none => 0
def sumAt (l : List DealN) (k : Nat) : Int := match l[k]? with
  | some d => d.sum
  | none => 0
def dayAt (l : List DealN) (k : Nat) : Int := match l[k]? with
  | some d => d.day
  | none => 0
theorem leadAt_eq {A : List Int} {l : List DealN} {k : Nat} (h : k < l.length) : leadAt A l k = lb A l[k].who.toNat := by simp [leadAt, h]
theorem sumAt_eq {l : List DealN} {k : Nat} (h : k < l.length) : sumAt l k = l[k].sum := by simp [sumAt, h]
theorem dayAt_eq {l : List DealN} {k : Nat} (h : k < l.length) : dayAt l k = l[k].day := by simp [dayAt, h]
theorem dealB_iff (d : DealN) : dealB d = true ↔ (0 ≤ d.day ∧ d.day ≤ 36500) ∧ (0 ≤ d.who ∧ d.who ≤ 23) ∧ (1 ≤ d.sum ∧ d.sum ≤ 1073741824) := by
  simp [dealB, inR_iff, and_assoc]
theorem leader_ok (W : WatchN) (v : Value) (l : List DealN) (A : List Int) (k : Nat) (hk : k < l.length) (w : AW) (f : Fresh w) (hs : ArrOf w 3 dcells v l) (hd : ∀ d ∈ l, dealB d = true) (hA : A.length = 24) :
    CallT Tryz.prog Tryz.T1 (.fn (.func 73) #[]) #[.agg (deskL W v A).toArray, .int .i64 (k : Int)] w (Ret (.int .i64 (leadAt A l k)) (Grown w)) := by
  obtain ⟨p, c, rfl, _, _, hat⟩ := id hs.open
  have gD := (Grown.refl f).push (.cells (deskL W (.slice p l.length c) A) 119 w.next 0 0)
  have oD := Own.new f 119 (deskL W (.slice p l.length c) A)
  have d0 := oD.cell (o := 0) rfl rfl
  have d1 := oD.cell (o := 1) rfl rfl
  have d2 := oD.cell (o := 2) rfl rfl
  have d3 := oD.cell (o := 3) rfl rfl
  have d4 := oD.cell (o := 4) rfl rfl
  obtain ⟨b1, o1, rfl, hb1, hcell⟩ := hat k hk
  have a1 := hcell _ gD.1 1 _ rfl
  have hlt : (k : Int) < (l.length : Int) := by omega
  have hdk := (dealB_iff _).1 (hd _ (List.getElem_mem hk))
  rw [leadAt_eq hk]
  generalize l[k].who = x at *
  obtain ⟨X, rfl⟩ : ∃ X : Nat, x = (X : Int) := ⟨x.toNat, by omega⟩
  have hlab := desk_lab oD (u := X) (by omega)
  have ip := idx24b w.next X (by omega)
  rw [Int.toNat_natCast]
  refine callT_code rfl Tryz.func73 rfl Tryz.s73_eq rfl ?_
  unfold Tryz.s73
  simp -dsimp -implicitDefEqProofs (maxSteps := 2000000) (disch := first | assumption | omega | (simp only [nx]; omega) | ((repeat refine Fresh.push ?_ _); assumption) | (simp only [smA]; done) | (simp [oneCell, AW.next_push]; done) | fail) only [go_sem, Nat.reduceEqDiff, reduceIte, Nat.reduceAdd, Int.toNat_natCast, Nat.add_zero, Owes_true, Tryz.results73, Nat.zero_add, d4, indexV_eq, a1, ip, hlab]
  exact ⟨rfl, gD⟩
theorem sumOf_ok (W : WatchN) (v : Value) (l : List DealN) (A : List Int) (k : Nat) (hk : k < l.length) (w : AW) (f : Fresh w) (hs : ArrOf w 3 dcells v l) :
    CallT Tryz.prog Tryz.T1 (.fn (.func 117) #[]) #[.agg (deskL W v A).toArray, .int .i64 (k : Int)] w (Ret (.int .i64 (sumAt l k)) (Grown w)) := by
  obtain ⟨p, c, rfl, _, _, hat⟩ := id hs.open
  have gD := (Grown.refl f).push (.cells (deskL W (.slice p l.length c) A) 119 w.next 0 0)
  have oD := Own.new f 119 (deskL W (.slice p l.length c) A)
  have d0 := oD.cell (o := 0) rfl rfl
  have d1 := oD.cell (o := 1) rfl rfl
  have d2 := oD.cell (o := 2) rfl rfl
  have d3 := oD.cell (o := 3) rfl rfl
  have d4 := oD.cell (o := 4) rfl rfl
  obtain ⟨b1, o1, rfl, hb1, hcell⟩ := hat k hk
  have a2 := hcell _ gD.1 2 _ rfl
  have hlt : (k : Int) < (l.length : Int) := by omega
  rw [sumAt_eq hk]
  generalize l[k].sum = x at *
  refine callT_code rfl Tryz.func117 rfl Tryz.s117_eq rfl ?_
  unfold Tryz.s117
  simp -dsimp -implicitDefEqProofs (maxSteps := 2000000) (disch := first | assumption | omega | (simp only [nx]; omega) | ((repeat refine Fresh.push ?_ _); assumption) | (simp only [smA]; done) | (simp [oneCell, AW.next_push]; done) | fail) only [go_sem, Nat.reduceEqDiff, reduceIte, Nat.reduceAdd, Int.toNat_natCast, Nat.add_zero, Owes_true, Tryz.results117, Nat.zero_add, d4, indexV_eq, a2]
  exact ⟨rfl, gD⟩
def smallB (W : WatchN) (l : List DealN) (k : Nat) : Bool := inR W.small (sumAt l k) (W.sum - 1)
theorem isSmall_ok (W : WatchN) (v : Value) (l : List DealN) (A : List Int) (k : Nat) (hk : k < l.length) (w : AW) (f : Fresh w) (hs : ArrOf w 3 dcells v l) (hA : A.length = 24) (hW : watchB W = true) :
    CallT Tryz.prog Tryz.T1 (.fn (.func 116) #[]) #[.agg (deskL W v A).toArray, .int .i64 (k : Int)] w (Ret (.bool (smallB W l k)) (Grown w)) := by
  obtain ⟨p, c, rfl, _⟩ := id hs.open
  have gD := (Grown.refl f).push (.cells (deskL W (.slice p l.length c) A) 119 w.next 0 0)
  have oD := Own.new f 119 (deskL W (.slice p l.length c) A)
  have d0 := oD.cell (o := 0) rfl rfl
  have d1 := oD.cell (o := 1) rfl rfl
  have d2 := oD.cell (o := 2) rfl rfl
  have d3 := oD.cell (o := 3) rfl rfl
  have d4 := oD.cell (o := 4) rfl rfl
  have hld := desk_load oD hA
  have hsm := same_desk W p l.length c A
  simp only [watchB, Bool.and_eq_true, inR_iff] at hW
  unfold smallB
  refine callT_code rfl Tryz.func116 rfl Tryz.s116_eq rfl ?_
  unfold Tryz.s116
  simp -dsimp -implicitDefEqProofs (maxSteps := 2000000) (disch := first | assumption | omega | (simp only [nx]; omega) | ((repeat refine Fresh.push ?_ _); assumption) | (simp only [smA]; done) | (simp [oneCell, AW.next_push]; done) | fail) only [go_sem, Nat.reduceEqDiff, reduceIte, Nat.reduceAdd, Int.toNat_natCast, Nat.add_zero, Owes_true, Tryz.results116, Nat.zero_add, d1, d2, hld, hsm]
  apply callV_of (e := rfl)
  · exact sumOf_ok W _ l A k hk _ gD.2 (hs.grown gD)
  rintro _ w1 ⟨rfl, g1⟩
  have hle := g1.1.wle gD.2
  simp -dsimp -implicitDefEqProofs (maxSteps := 2000000) (disch := first | assumption | omega | (simp only [nx]; omega) | ((repeat refine Fresh.push ?_ _); assumption) | (simp only [smA]; done) | (simp [oneCell, AW.next_push]; done) | fail) only [go_sem, Nat.reduceEqDiff, reduceIte, Nat.reduceAdd, Int.toNat_natCast, Nat.add_zero, Owes_true, Tryz.results116, hle]
  apply callV_of (e := rfl)
  · exact within_ok _ _ _ _
  rintro _ _ ⟨rfl, rfl⟩
  simp -dsimp -implicitDefEqProofs (maxSteps := 2000000) (disch := first | assumption | omega | (simp only [nx]; omega) | ((repeat refine Fresh.push ?_ _); assumption) | (simp only [smA]; done) | (simp [oneCell, AW.next_push]; done) | fail) only [go_sem, Nat.reduceEqDiff, reduceIte, Nat.reduceAdd, Int.toNat_natCast, Nat.add_zero, Owes_true, Tryz.results116]
  exact ⟨rfl, gD.trans g1⟩
theorem window_ok (W : WatchN) (v : Value) (A : List Int) (k : Nat) (w : AW) (f : Fresh w) :
    CallT Tryz.prog Tryz.T1 (.fn (.func 115) #[]) #[.agg (deskL W v A).toArray, .int .i64 (k : Int)] w (fun r w' => r = .func (.func 144) #[] #[.pointer (some ⟨w.next + 1, 0, none⟩), .pointer (some ⟨w.next, 0, none⟩)] ∧ Own w' w.next 119 (deskL W v A) ∧ Own w' (w.next + 1) 3 [.int .i64 (k : Int)] ∧ Grown w w' ∧ w'.next = w.next + 1 + 1) := by
  have gD := ((Grown.refl f).push (.cells (deskL W v A) 119 w.next 0 0)).push (.cells [.int .i64 (k : Int)] 3 (w.next + 1) 0 0)
  have oD := (Own.new f 119 (deskL W v A)).push (.cells [.int .i64 (k : Int)] 3 (w.next + 1) 0 0)
  have oK := Own.new (f.push (.cells (deskL W v A) 119 w.next 0 0)) 3 [.int .i64 (k : Int)]
  rw [AW.next_push] at oK
  refine callT_code rfl Tryz.func115 rfl Tryz.s115_eq rfl ?_
  unfold Tryz.s115
  simp -dsimp -implicitDefEqProofs (maxSteps := 2000000) (disch := first | assumption | omega | (simp only [nx]; omega) | ((repeat refine Fresh.push ?_ _); assumption) | (simp only [smA]; done) | (simp [oneCell, AW.next_push]; done) | fail) only [go_sem, Nat.reduceEqDiff, reduceIte, Nat.reduceAdd, Int.toNat_natCast, Nat.add_zero, Owes_true, Tryz.results115]
  exact ⟨trivial, oD, oK, gD, by simp only [AW.next_push]⟩
end Go.Proofs

namespace Go.Sim
open Go
def rfOf : Code → Option (Code × Code)
  | .rangeFunc _ _ a b => some (a, b)
  | .seq a b => match rfOf a with
    | some x => some x
    | none => rfOf b
  | .cond _ a b => match rfOf a with
    | some x => some x
    | none => rfOf b
  | .block _ b => rfOf b
  | .loop b => rfOf b
  | .scope b => rfOf b
  | _ => none
def codeA (f : Func) : Code :=
  match f.body with
  | some c => match rfOf c with
    | some (a, _) => a
    | none => .skip
  | none => .skip
def codeB (f : Func) : Code :=
  match f.body with
  | some c => match rfOf c with
    | some (_, b) => b
    | none => .skip
  | none => .skip
end Go.Sim

namespace Go.Proofs
open Go Go.RowKit Go.Sim
set_option maxRecDepth 100000
noncomputable def Tryz.s74 : SC :=
 (.seq
  (.ops false [
    ⟨⟨(some 2), .box 119 (.tmp 0), 0, "", ⟨[]⟩, none⟩, none, false⟩,
    ⟨⟨(some 4), .alloc 123, 0, "", ⟨[]⟩, none⟩, none, false⟩])
  (.seq
   (.ops false [
     ⟨⟨(some 5), .alloc 123, 0, "", ⟨[]⟩, none⟩, none, false⟩])
   (.seq
    (.seq
     (.ops false [
       ⟨⟨(some 7), .load 119 (.tmp 2), 119, "", ⟨[]⟩, none⟩, none, false⟩,
       ⟨⟨(some 8), .move (.tmp 1), 3, "", ⟨[]⟩, none⟩, none, false⟩,
       ⟨⟨(some 9), .call ⟨.value (.func 115), ⟨[(.tmp 7), (.tmp 8)]⟩, ⟨[119, 3]⟩⟩, 169, "", ⟨[]⟩, none⟩, none, false⟩])
     (.block 0
      (.raw (.rangeFunc (.tmp 9) ⟨[10]⟩ (codeA Tryz.f74) (codeB Tryz.f74)))))
    (.seq
     (.ops false [
       ⟨⟨(some 26), .fieldAddr 123 (.tmp 5) 0, 0, "", ⟨[]⟩, none⟩, none, false⟩,
       ⟨⟨(some 27), .load 22 (.tmp 26), 22, "", ⟨[]⟩, none⟩, none, false⟩,
       ⟨⟨(some 28), .load 119 (.tmp 2), 119, "", ⟨[]⟩, none⟩, none, false⟩,
       ⟨⟨(some 29), .makeFunc (.func 117) ⟨[(.tmp 28)]⟩ ⟨[]⟩, 41, "", ⟨[]⟩, none⟩, none, false⟩,
       ⟨⟨(some 30), .call ⟨.value (.func 99), ⟨[(.tmp 27), (.tmp 29)]⟩, ⟨[22, 41]⟩⟩, 3, "", ⟨[]⟩, none⟩, none, false⟩,
       ⟨⟨(some 31), .fieldAddr 123 (.tmp 5) 2, 0, "", ⟨[]⟩, none⟩, none, false⟩,
       ⟨⟨none, .store 3 (.tmp 31) (.tmp 30), 0, "", ⟨[]⟩, none⟩, none, false⟩])
     (.seq
      (.ops false [
        ⟨⟨(some 32), .load 123 (.tmp 5), 123, "", ⟨[]⟩, none⟩, none, false⟩,
        ⟨⟨none, .store 123 (.tmp 4) (.tmp 32), 0, "", ⟨[]⟩, none⟩, none, false⟩])
      .ret)))))
noncomputable def Tryz.ra74 : SC :=
 (.ops false [
   ⟨⟨(some 6), .assign (.tmp 10), 3, "", ⟨[]⟩, none⟩, none, false⟩])
noncomputable def Tryz.rb74 : SC :=
 (.block 1
  (.seq
   (.ops false [
     ⟨⟨(some 11), .fieldAddr 123 (.tmp 5) 0, 0, "", ⟨[]⟩, none⟩, none, false⟩,
     ⟨⟨(some 12), .load 22 (.tmp 11), 22, "", ⟨[]⟩, none⟩, none, false⟩,
     ⟨⟨(some 13), .move (.tmp 6), 3, "", ⟨[]⟩, none⟩, none, false⟩,
     ⟨⟨(some 14), .buildSlice 22 1 ⟨[(0, (.tmp 13))]⟩, 22, "", ⟨[]⟩, none⟩, none, false⟩,
     ⟨⟨(some 15), .call ⟨.builtin .append, ⟨[(.tmp 12), (.tmp 14)]⟩, ⟨[22, 22]⟩⟩, 22, "", ⟨[]⟩, none⟩, none, false⟩,
     ⟨⟨(some 16), .fieldAddr 123 (.tmp 5) 0, 0, "", ⟨[]⟩, none⟩, none, false⟩,
     ⟨⟨none, .store 22 (.tmp 16) (.tmp 15), 0, "", ⟨[]⟩, none⟩, none, false⟩])
   (.seq
    (.ops false [
      ⟨⟨(some 17), .load 119 (.tmp 2), 119, "", ⟨[]⟩, none⟩, none, false⟩,
      ⟨⟨(some 18), .move (.tmp 6), 3, "", ⟨[]⟩, none⟩, none, false⟩,
      ⟨⟨(some 19), .call ⟨.value (.func 116), ⟨[(.tmp 17), (.tmp 18)]⟩, ⟨[119, 3]⟩⟩, 4, "", ⟨[]⟩, none⟩, none, false⟩])
    (.cond (.tmp 19)
     (.ops false [
       ⟨⟨(some 20), .fieldAddr 123 (.tmp 5) 1, 0, "", ⟨[]⟩, none⟩, none, false⟩,
       ⟨⟨(some 21), .load 22 (.tmp 20), 22, "", ⟨[]⟩, none⟩, none, false⟩,
       ⟨⟨(some 22), .move (.tmp 6), 3, "", ⟨[]⟩, none⟩, none, false⟩,
       ⟨⟨(some 23), .buildSlice 22 1 ⟨[(0, (.tmp 22))]⟩, 22, "", ⟨[]⟩, none⟩, none, false⟩,
       ⟨⟨(some 24), .call ⟨.builtin .append, ⟨[(.tmp 21), (.tmp 23)]⟩, ⟨[22, 22]⟩⟩, 22, "", ⟨[]⟩, none⟩, none, false⟩,
       ⟨⟨(some 25), .fieldAddr 123 (.tmp 5) 1, 0, "", ⟨[]⟩, none⟩, none, false⟩,
       ⟨⟨none, .store 22 (.tmp 25) (.tmp 24), 0, "", ⟨[]⟩, none⟩, none, false⟩])
     .skip))))
theorem Tryz.s74_eq : Tryz.f74.body.map sOf = some Tryz.s74 := by kernel_rfl
theorem Tryz.ra74_eq : sOf (codeA Tryz.f74) = Tryz.ra74 := by kernel_rfl
theorem Tryz.rb74_eq : sOf (codeB Tryz.f74) = Tryz.rb74 := by kernel_rfl
end Go.Proofs
