/- This program: its code, contracts, numbers, part 2. -/
import Derived.Test.YthnpnooiidnbeaaGreatPaa
import Derived.Test.YthnpnooiidnbeaaGreatNa
import Derived.Test.YthnpnooiidnbeaaGreatSh
import Derived.Test.YthnpnooiidnbeaaGreatNc
import Derived.Test.YthnpnooiidnbeaaGreatSf
import Derived.Test.YthnpnooiidnbeaaGreatChecked
set_option linter.unusedVariables false
set_option linter.unusedSimpArgs false
namespace Go.Proofs
open Go Go.RowKit Go.Sim
set_option maxRecDepth 100000
def Tryz.s80 : SC := (.seq (.ops false [⟨⟨(some 6),.assign (.const (.bool false)),4,"",⟨[]⟩,none⟩,none,false⟩]) (.seq (.ops false [⟨⟨(some 7),.move (.tmp 1),3,"",⟨[]⟩,none⟩,none,false⟩,⟨⟨(some 8),.move (.tmp 0),3,"",⟨[]⟩,none⟩,none,false⟩,⟨⟨(some 9),.binOp .leq 3 (.tmp 7) (.tmp 8) 3,4,"",⟨[]⟩,none⟩,none,false⟩,⟨⟨(some 10),.move (.tmp 9),4,"",⟨[]⟩,none⟩,none,false⟩,⟨⟨(some 11),.move (.tmp 0),3,"",⟨[]⟩,none⟩,some ((some 10),true),false⟩,⟨⟨(some 12),.move (.tmp 2),3,"",⟨[]⟩,none⟩,some ((some 10),true),false⟩,⟨⟨(some 13),.binOp .leq 3 (.tmp 11) (.tmp 12) 3,4,"",⟨[]⟩,none⟩,some ((some 10),true),false⟩,⟨⟨(some 14),.pick (.tmp 10) (.tmp 13) (.const (.bool false)),4,"",⟨[]⟩,none⟩,none,false⟩,⟨⟨(some 6),.assign (.tmp 14),4,"",⟨[]⟩,none⟩,none,false⟩]) .ret))
def Tryz.s40 : SC := (.seq (.ops false [⟨⟨(some 6),.assign (.const (.bool false)),4,"",⟨[]⟩,none⟩,none,false⟩]) (.seq (.ops false [⟨⟨(some 7),.move (.tmp 0),3,"",⟨[]⟩,none⟩,none,false⟩,⟨⟨(some 8),.move (.tmp 1),3,"",⟨[]⟩,none⟩,none,false⟩,⟨⟨(some 9),.binOp .leq 3 (.tmp 7) (.tmp 8) 3,4,"",⟨[]⟩,none⟩,none,false⟩,⟨⟨(some 10),.move (.tmp 9),4,"",⟨[]⟩,none⟩,none,false⟩,⟨⟨(some 11),.move (.tmp 1),3,"",⟨[]⟩,none⟩,some ((some 10),true),false⟩,⟨⟨(some 12),.move (.tmp 2),3,"",⟨[]⟩,none⟩,some ((some 10),true),false⟩,⟨⟨(some 13),.binOp .leq 3 (.tmp 11) (.tmp 12) 3,4,"",⟨[]⟩,none⟩,some ((some 10),true),false⟩,⟨⟨(some 14),.pick (.tmp 10) (.tmp 13) (.const (.bool false)),4,"",⟨[]⟩,none⟩,none,false⟩,⟨⟨(some 6),.assign (.tmp 14),4,"",⟨[]⟩,none⟩,none,false⟩]) .ret))
theorem Tryz.s80_eq : Tryz.f80.body.map sOf = some Tryz.s80 := by kernel_rfl
theorem Tryz.s40_eq : Tryz.f40.body.map sOf = some Tryz.s40 := by kernel_rfl
end Go.Proofs

namespace Go.Proofs
open Go Go.RowKit Go.Sim
set_option maxRecDepth 100000
theorem same_fn (f b : Nat) : same 12 (.func (.func f) #[] #[.pointer (some ⟨b, 0, none⟩)]) (.func (.func f) #[] #[.pointer (some ⟨b, 0, none⟩)]) = true := by simp [same, same.all]
theorem same_fn0 (f : Nat) : same 12 (.func (.func f) #[] #[]) (.func (.func f) #[] #[]) = true := by simp [same, same.all]
theorem within_ok (n a b : Int) (w : AW) : CallT Tryz.prog Tryz.T1 (.fn (.func 80) #[]) #[.int .i64 n, .int .i64 a, .int .i64 b] w (Ret (.bool (inR a n b)) fun w' => w = w') := by
  refine callT_code rfl Tryz.func80 rfl Tryz.s80_eq rfl ?_
  unfold Tryz.s80
  by_cases h : a ≤ n
  all_goals
    simp -dsimp -implicitDefEqProofs (maxSteps := 2000000) (disch := first | assumption | omega | (simp only [nx]; omega) | ((repeat refine Fresh.push ?_ _); assumption) | (simp only [smA]; done) | (simp [oneCell, AW.next_push]; done) | fail) only [go_sem, Nat.reduceEqDiff, reduceIte, Nat.reduceAdd, Int.toNat_natCast, Nat.add_zero, Owes_true, Tryz.results80, h]
    exact ⟨by simp [inR, h], rfl⟩
end Go.Proofs

namespace Go.Proofs
open Go Go.RowKit Go.Sim
set_option maxRecDepth 100000
def lcells (p : Int × Int) : List Value := [.int .i64 p.1, .int .i64 p.2]
theorem isPerson_ok (n : Int) (w : AW) : CallT Tryz.prog Tryz.T1 (.fn (.func 138) #[]) #[.int .i64 n] w (Ret (.bool (inR 0 n 23)) fun w' => w = w') := by
  refine callT_code rfl Tryz.func138 rfl Tryz.s138_eq rfl ?_
  unfold Tryz.s138
  simp -dsimp -implicitDefEqProofs (maxSteps := 2000000) (disch := first | assumption | omega | (simp only [nx]; omega) | ((repeat refine Fresh.push ?_ _); assumption) | (simp only [smA]; done) | (simp [oneCell, AW.next_push]; done) | fail) only [go_sem, Nat.reduceEqDiff, reduceIte, Nat.reduceAdd, Int.toNat_natCast, Nat.add_zero, Owes_true, Tryz.results138]
  apply callV_of (e := rfl)
  · exact within_ok _ _ _ _
  rintro _ _ ⟨rfl, rfl⟩
  simp -dsimp -implicitDefEqProofs (maxSteps := 2000000) (disch := first | assumption | omega | (simp only [nx]; omega) | ((repeat refine Fresh.push ?_ _); assumption) | (simp only [smA]; done) | (simp [oneCell, AW.next_push]; done) | fail) only [go_sem, Nat.reduceEqDiff, reduceIte, Nat.reduceAdd, Int.toNat_natCast, Nat.add_zero, Owes_true, Tryz.results138]
  exact ⟨rfl, rfl⟩
theorem isSum_ok (n : Int) (w : AW) : CallT Tryz.prog Tryz.T1 (.fn (.func 122) #[]) #[.int .i64 n] w (Ret (.bool (inR 1 n 1073741824)) fun w' => w = w') := by
  refine callT_code rfl Tryz.func122 rfl Tryz.s122_eq rfl ?_
  unfold Tryz.s122
  simp -dsimp -implicitDefEqProofs (maxSteps := 2000000) (disch := first | assumption | omega | (simp only [nx]; omega) | ((repeat refine Fresh.push ?_ _); assumption) | (simp only [smA]; done) | (simp [oneCell, AW.next_push]; done) | fail) only [go_sem, Nat.reduceEqDiff, reduceIte, Nat.reduceAdd, Int.toNat_natCast, Nat.add_zero, Owes_true, Tryz.results122]
  apply callV_of (e := rfl)
  · exact within_ok _ _ _ _
  rintro _ _ ⟨rfl, rfl⟩
  simp -dsimp -implicitDefEqProofs (maxSteps := 2000000) (disch := first | assumption | omega | (simp only [nx]; omega) | ((repeat refine Fresh.push ?_ _); assumption) | (simp only [smA]; done) | (simp [oneCell, AW.next_push]; done) | fail) only [go_sem, Nat.reduceEqDiff, reduceIte, Nat.reduceAdd, Int.toNat_natCast, Nat.add_zero, Owes_true, Tryz.results122]
  exact ⟨rfl, rfl⟩
def linkB (p : Int × Int) : Bool := inR 0 p.1 23 && inR 0 p.2 23 && !decide (p.1 = p.2)
theorem isLink_ok (a b : Int) (w : AW) (f : Fresh w) : CallT Tryz.prog Tryz.T1 (.fn (.func 111) #[]) #[.agg #[.int .i64 a, .int .i64 b]] w (Ret (.bool (linkB (a, b))) (Grown w)) := by
  have g := (Grown.refl f).push (.cells [.int .i64 a, .int .i64 b] 25 w.next 0 0)
  have hO := Own.new f 25 [.int .i64 a, .int .i64 b]
  have c0 := hO.cell (o := 0) rfl rfl
  have c1 := hO.cell (o := 1) rfl rfl
  unfold linkB
  refine callT_code rfl Tryz.func111 rfl Tryz.s111_eq rfl ?_
  unfold Tryz.s111
  simp -dsimp -implicitDefEqProofs (maxSteps := 2000000) (disch := first | assumption | omega | (simp only [nx]; omega) | ((repeat refine Fresh.push ?_ _); assumption) | (simp only [smA]; done) | (simp [oneCell, AW.next_push]; done) | fail) only [go_sem, Nat.reduceEqDiff, reduceIte, Nat.reduceAdd, Int.toNat_natCast, Nat.add_zero, Owes_true, Tryz.results111, Nat.zero_add, c0, c1]
  apply callV_of (e := rfl)
  · exact isPerson_ok _ _
  rintro _ _ ⟨rfl, rfl⟩
  cases h1 : inR 0 a 23 with
  | false =>
    simp -dsimp -implicitDefEqProofs (maxSteps := 2000000) (disch := first | assumption | omega | (simp only [nx]; omega) | ((repeat refine Fresh.push ?_ _); assumption) | (simp only [smA]; done) | (simp [oneCell, AW.next_push]; done) | fail) only [go_sem, Nat.reduceEqDiff, reduceIte, Nat.reduceAdd, Int.toNat_natCast, Nat.add_zero, Owes_true, Tryz.results111, h1]
    exact ⟨by simp [h1], g⟩
  | true =>
  simp -dsimp -implicitDefEqProofs (maxSteps := 2000000) (disch := first | assumption | omega | (simp only [nx]; omega) | ((repeat refine Fresh.push ?_ _); assumption) | (simp only [smA]; done) | (simp [oneCell, AW.next_push]; done) | fail) only [go_sem, Nat.reduceEqDiff, reduceIte, Nat.reduceAdd, Int.toNat_natCast, Nat.add_zero, Owes_true, Tryz.results111, h1, Nat.zero_add, c0, c1]
  apply callV_of (e := rfl)
  · exact isPerson_ok _ _
  rintro _ _ ⟨rfl, rfl⟩
  cases h2 : inR 0 b 23 with
  | false =>
    simp -dsimp -implicitDefEqProofs (maxSteps := 2000000) (disch := first | assumption | omega | (simp only [nx]; omega) | ((repeat refine Fresh.push ?_ _); assumption) | (simp only [smA]; done) | (simp [oneCell, AW.next_push]; done) | fail) only [go_sem, Nat.reduceEqDiff, reduceIte, Nat.reduceAdd, Int.toNat_natCast, Nat.add_zero, Owes_true, Tryz.results111, h2]
    exact ⟨by simp [h1, h2], g⟩
  | true =>
  by_cases h3 : a = b
  · have hd : decide (a = b) = true := decide_eq_true h3
    simp -dsimp -implicitDefEqProofs (maxSteps := 2000000) (disch := first | assumption | omega | (simp only [nx]; omega) | ((repeat refine Fresh.push ?_ _); assumption) | (simp only [smA]; done) | (simp [oneCell, AW.next_push]; done) | fail) only [go_sem, Nat.reduceEqDiff, reduceIte, Nat.reduceAdd, Int.toNat_natCast, Nat.add_zero, Owes_true, Tryz.results111, h2, Nat.zero_add, c0, c1, hd]
    exact ⟨by simp only [h1, h2, hd]; try rfl, g⟩
  · have hd : decide (a = b) = false := decide_eq_false h3
    simp -dsimp -implicitDefEqProofs (maxSteps := 2000000) (disch := first | assumption | omega | (simp only [nx]; omega) | ((repeat refine Fresh.push ?_ _); assumption) | (simp only [smA]; done) | (simp [oneCell, AW.next_push]; done) | fail) only [go_sem, Nat.reduceEqDiff, reduceIte, Nat.reduceAdd, Int.toNat_natCast, Nat.add_zero, Owes_true, Tryz.results111, h2, Nat.zero_add, c0, c1, hd]
    exact ⟨by simp only [h1, h2, hd]; try rfl, g⟩
theorem allL1_ok (p q : Int) (b : Nat) (w : AW) (f : Fresh w) (h : Own w b 164 [.func (.func 111) #[] #[]]) : CallT Tryz.prog Tryz.T1 (.fn (.func 137) #[.pointer (some ⟨b, 0, none⟩)]) #[.agg #[.int .i64 p, .int .i64 q]] w (Ret (.bool (!linkB (p, q))) (Grown w)) := by
  have g := (Grown.refl f).push (.cells [.int .i64 p, .int .i64 q] 25 w.next 0 0)
  have hO := Own.new f 25 [.int .i64 p, .int .i64 q]
  have c0 := hO.cell (o := 0) rfl rfl
  have c1 := hO.cell (o := 1) rfl rfl
  have a0 := (h.keep g.1).cell (o := 0) rfl rfl
  have hs := same_fn0 111
  refine callT_code rfl Tryz.func137 rfl Tryz.s137_eq rfl ?_
  unfold Tryz.s137
  simp -dsimp -implicitDefEqProofs (maxSteps := 2000000) (disch := first | assumption | omega | (simp only [nx]; omega) | ((repeat refine Fresh.push ?_ _); assumption) | (simp only [smA]; done) | (simp [oneCell, AW.next_push]; done) | fail) only [go_sem, Nat.reduceEqDiff, reduceIte, Nat.reduceAdd, Int.toNat_natCast, Nat.add_zero, Owes_true, Tryz.results137, c0, c1, a0, Nat.zero_add, hs]
  apply callV_of (e := rfl)
  · exact isLink_ok _ _ _ g.2
  rintro _ w1 ⟨rfl, g1⟩
  simp -dsimp -implicitDefEqProofs (maxSteps := 2000000) (disch := first | assumption | omega | (simp only [nx]; omega) | ((repeat refine Fresh.push ?_ _); assumption) | (simp only [smA]; done) | (simp [oneCell, AW.next_push]; done) | fail) only [go_sem, Nat.reduceEqDiff, reduceIte, Nat.reduceAdd, Int.toNat_natCast, Nat.add_zero, Owes_true, Tryz.results137]
  exact ⟨rfl, g.trans g1⟩
theorem indexL_ok (l : List (Int × Int)) (v : Value) (b : Nat) (w : AW) (f : Fresh w) (hs : ArrOf w 2 lcells v l) (h : Own w b 164 [.func (.func 111) #[] #[]]) :
    CallT Tryz.prog Tryz.T1 (.fn (.func 156) #[]) #[v, .func (.func 137) #[] #[.pointer (some ⟨b, 0, none⟩)]] w (fun r w' => Grown w w' ∧ ∃ n : Int, r = .int .i64 n ∧ decide (n ≥ 0) = !l.all linkB) := by
  obtain ⟨p, cap, rfl, _, _, hat⟩ := hs.open
  have hfn := same_fn 137 b
  refine callT_code rfl Tryz.func156 rfl Tryz.s156_eq rfl ?_
  unfold Tryz.s156
  simp -dsimp -implicitDefEqProofs (maxSteps := 2000000) (disch := first | assumption | omega | (simp only [nx]; omega) | ((repeat refine Fresh.push ?_ _); assumption) | (simp only [smA]; done) | (simp [oneCell, AW.next_push]; done) | fail) only [go_sem, Nat.reduceEqDiff, reduceIte, Nat.reduceAdd, Int.toNat_natCast, Nat.add_zero, Owes_true, Tryz.results156]
  refine loopR (fun k t ds w1 => ∃ i : Nat, i ≤ l.length ∧ k = l.length - i ∧ ds = [] ∧ ev t (.tmp 0) = .slice p l.length cap ∧ ev t (.tmp 1) = .func (.func 137) #[] #[.pointer (some ⟨b, 0, none⟩)] ∧ ev t (.tmp 6) = .slice p l.length cap ∧ ev t (.tmp 7) = .int .i64 (l.length : Int) ∧ ev t (.tmp 8) = .int .i64 (i : Int) ∧ Grown w w1 ∧ (l.take i).all linkB = true) (l.length) ?_ ?_
  · refine ⟨0, by omega, by omega, rfl, ?_, ?_, ?_, ?_, ?_, Grown.refl f, rfl⟩ <;> simp -dsimp -implicitDefEqProofs (maxSteps := 2000000) (disch := first | assumption | omega | (simp only [nx]; omega) | ((repeat refine Fresh.push ?_ _); assumption) | (simp only [smA]; done) | (simp [oneCell, AW.next_push]; done) | fail) only [go_sem, Nat.reduceEqDiff, reduceIte, Nat.reduceAdd, Int.toNat_natCast, Nat.add_zero, Owes_true] <;> rfl
  rintro k t ds w1 ⟨i, hii, rfl, rfl, e0, e1, e6, e7, e8, g1, ha⟩
  by_cases hlt : (i : Int) < (l.length : Int)
  case neg =>
    obtain rfl : i = l.length := by omega
    rw [List.take_of_length_le (Nat.le_refl _)] at ha
    simp -dsimp -implicitDefEqProofs (maxSteps := 2000000) (disch := first | assumption | omega | (simp only [nx]; omega) | ((repeat refine Fresh.push ?_ _); assumption) | (simp only [smA]; done) | (simp [oneCell, AW.next_push]; done) | fail) only [go_sem, Nat.reduceEqDiff, reduceIte, Nat.reduceAdd, Int.toNat_natCast, Nat.add_zero, Owes_true, Tryz.results156, e0, e1, e6, e7, e8, hlt]
    exact ⟨g1, -1, rfl, by rw [ha]; rfl⟩
  have hlt' : i < l.length := by omega
  obtain ⟨b1, o1, rfl, hb1, hcell⟩ := hat i hlt'
  have a0 := hcell w1 g1.1 0 _ rfl
  have a1 := hcell w1 g1.1 1 _ rfl
  simp only [Nat.add_zero] at a0 a1
  have hone := allL1_ok l[i].1 l[i].2 b w1 g1.2 (h.keep g1.1)
  generalize hli : linkB (l[i].1, l[i].2) = B at *
  simp -dsimp -implicitDefEqProofs (maxSteps := 2000000) (disch := first | assumption | omega | (simp only [nx]; omega) | ((repeat refine Fresh.push ?_ _); assumption) | (simp only [smA]; done) | (simp [oneCell, AW.next_push]; done) | fail) only [go_sem, Nat.reduceEqDiff, reduceIte, Nat.reduceAdd, Int.toNat_natCast, Nat.add_zero, Owes_true, Tryz.results156, e0, e1, e6, e7, e8, hlt, indexV_eq, a0, a1, hfn]
  apply callV_of (e := rfl)
  · exact hone
  rintro _ w2 ⟨rfl, g2⟩
  cases B with
  | true =>
    simp -dsimp -implicitDefEqProofs (maxSteps := 2000000) (disch := first | assumption | omega | (simp only [nx]; omega) | ((repeat refine Fresh.push ?_ _); assumption) | (simp only [smA]; done) | (simp [oneCell, AW.next_push]; done) | fail) only [go_sem, Nat.reduceEqDiff, reduceIte, Nat.reduceAdd, Int.toNat_natCast, Nat.add_zero, Owes_true, Tryz.results156, e0, e1, e6, e7, e8]
    refine ⟨_, by omega, i + 1, by omega, rfl, rfl, by (simp -dsimp -implicitDefEqProofs (maxSteps := 2000000) (disch := first | assumption | omega | (simp only [nx]; omega) | ((repeat refine Fresh.push ?_ _); assumption) | (simp only [smA]; done) | (simp [oneCell, AW.next_push]; done) | fail) only [go_sem, Nat.reduceEqDiff, reduceIte, Nat.reduceAdd, Int.toNat_natCast, Nat.add_zero, Owes_true, e0]; try rfl), by (simp -dsimp -implicitDefEqProofs (maxSteps := 2000000) (disch := first | assumption | omega | (simp only [nx]; omega) | ((repeat refine Fresh.push ?_ _); assumption) | (simp only [smA]; done) | (simp [oneCell, AW.next_push]; done) | fail) only [go_sem, Nat.reduceEqDiff, reduceIte, Nat.reduceAdd, Int.toNat_natCast, Nat.add_zero, Owes_true, e1]; try rfl), by (simp -dsimp -implicitDefEqProofs (maxSteps := 2000000) (disch := first | assumption | omega | (simp only [nx]; omega) | ((repeat refine Fresh.push ?_ _); assumption) | (simp only [smA]; done) | (simp [oneCell, AW.next_push]; done) | fail) only [go_sem, Nat.reduceEqDiff, reduceIte, Nat.reduceAdd, Int.toNat_natCast, Nat.add_zero, Owes_true, e6]; try rfl), by (simp -dsimp -implicitDefEqProofs (maxSteps := 2000000) (disch := first | assumption | omega | (simp only [nx]; omega) | ((repeat refine Fresh.push ?_ _); assumption) | (simp only [smA]; done) | (simp [oneCell, AW.next_push]; done) | fail) only [go_sem, Nat.reduceEqDiff, reduceIte, Nat.reduceAdd, Int.toNat_natCast, Nat.add_zero, Owes_true, e7]; try rfl), by (simp -dsimp -implicitDefEqProofs (maxSteps := 2000000) (disch := first | assumption | omega | (simp only [nx]; omega) | ((repeat refine Fresh.push ?_ _); assumption) | (simp only [smA]; done) | (simp [oneCell, AW.next_push]; done) | fail) only [go_sem, Nat.reduceEqDiff, reduceIte, Nat.reduceAdd, Int.toNat_natCast, Nat.add_zero, Owes_true, e8]; try rfl), g1.trans g2, by rw [List.take_succ_eq_append_getElem hlt', List.all_append, ha]; simpa using hli⟩
  | false =>
    simp -dsimp -implicitDefEqProofs (maxSteps := 2000000) (disch := first | assumption | omega | (simp only [nx]; omega) | ((repeat refine Fresh.push ?_ _); assumption) | (simp only [smA]; done) | (simp [oneCell, AW.next_push]; done) | fail) only [go_sem, Nat.reduceEqDiff, reduceIte, Nat.reduceAdd, Int.toNat_natCast, Nat.add_zero, Owes_true, Tryz.results156, e0, e1, e6, e7, e8]
    refine ⟨g1.trans g2, (i : Int), rfl, ?_⟩
    have h1 : l.all linkB = false := by
      rw [List.all_eq_false]; exact ⟨l[i], List.getElem_mem hlt', by rw [show linkB l[i] = false from hli]; simp⟩
    rw [h1]; simp
theorem containsL_ok (l : List (Int × Int)) (v : Value) (b : Nat) (w : AW) (f : Fresh w) (hs : ArrOf w 2 lcells v l) (h : Own w b 164 [.func (.func 111) #[] #[]]) :
    CallT Tryz.prog Tryz.T1 (.fn (.func 136) #[]) #[v, .func (.func 137) #[] #[.pointer (some ⟨b, 0, none⟩)]] w (Ret (.bool (!l.all linkB)) (Grown w)) := by
  obtain ⟨p, cap, rfl, _⟩ := id hs.open
  have hfn := same_fn 137 b
  refine callT_code rfl Tryz.func136 rfl Tryz.s136_eq rfl ?_
  unfold Tryz.s136
  simp -dsimp -implicitDefEqProofs (maxSteps := 2000000) (disch := first | assumption | omega | (simp only [nx]; omega) | ((repeat refine Fresh.push ?_ _); assumption) | (simp only [smA]; done) | (simp [oneCell, AW.next_push]; done) | fail) only [go_sem, Nat.reduceEqDiff, reduceIte, Nat.reduceAdd, Int.toNat_natCast, Nat.add_zero, Owes_true, Tryz.results136, hfn]
  apply callV_of (e := rfl)
  · exact indexL_ok l _ b w f hs h
  rintro _ w1 ⟨g1, n, rfl, hn⟩
  simp -dsimp -implicitDefEqProofs (maxSteps := 2000000) (disch := first | assumption | omega | (simp only [nx]; omega) | ((repeat refine Fresh.push ?_ _); assumption) | (simp only [smA]; done) | (simp [oneCell, AW.next_push]; done) | fail) only [go_sem, Nat.reduceEqDiff, reduceIte, Nat.reduceAdd, Int.toNat_natCast, Nat.add_zero, Owes_true, Tryz.results136, hn]
  exact ⟨rfl, g1⟩
theorem allL_ok (l : List (Int × Int)) (v : Value) (w : AW) (f : Fresh w) (hs : ArrOf w 2 lcells v l) :
    CallT Tryz.prog Tryz.T1 (.fn (.func 110) #[]) #[v, .func (.func 111) #[] #[]] w (Ret (.bool (l.all linkB)) (Grown w)) := by
  obtain ⟨p, cap, rfl, _⟩ := id hs.open
  have hfn := same_fn 137 w.next
  have hs0 := same_fn0 111
  have g := (Grown.refl f).push (.cells [.func (.func 111) #[] #[]] 164 w.next 0 0)
  have hO := Own.new f 164 [.func (.func 111) #[] #[]]
  refine callT_code rfl Tryz.func110 rfl Tryz.s110_eq rfl ?_
  unfold Tryz.s110
  simp -dsimp -implicitDefEqProofs (maxSteps := 2000000) (disch := first | assumption | omega | (simp only [nx]; omega) | ((repeat refine Fresh.push ?_ _); assumption) | (simp only [smA]; done) | (simp [oneCell, AW.next_push]; done) | fail) only [go_sem, Nat.reduceEqDiff, reduceIte, Nat.reduceAdd, Int.toNat_natCast, Nat.add_zero, Owes_true, Tryz.results110, hfn, hs0]
  apply callV_of (e := rfl)
  · exact containsL_ok l _ w.next _ g.2 (hs.grown g) hO
  rintro _ w1 ⟨rfl, g1⟩
  simp -dsimp -implicitDefEqProofs (maxSteps := 2000000) (disch := first | assumption | omega | (simp only [nx]; omega) | ((repeat refine Fresh.push ?_ _); assumption) | (simp only [smA]; done) | (simp [oneCell, AW.next_push]; done) | fail) only [go_sem, Nat.reduceEqDiff, reduceIte, Nat.reduceAdd, Int.toNat_natCast, Nat.add_zero, Owes_true, Tryz.results110]
  exact ⟨by rw [Bool.not_not], g.trans g1⟩
def linksB (l : List (Int × Int)) : Bool := decide (l.length ≤ 64) && l.all linkB
theorem areLinks_ok (l : List (Int × Int)) (v : Value) (w : AW) (f : Fresh w) (hs : ArrOf w 2 lcells v l) :
    CallT Tryz.prog Tryz.T1 (.fn (.func 68) #[]) #[v] w (Ret (.bool (linksB l)) (Grown w)) := by
  obtain ⟨p, cap, rfl, _⟩ := id hs.open
  have hs0 := same_fn0 111
  refine callT_code rfl Tryz.func68 rfl Tryz.s68_eq rfl ?_
  unfold Tryz.s68
  unfold linksB
  by_cases h : (l.length : Int) ≤ 64
  · simp -dsimp -implicitDefEqProofs (maxSteps := 2000000) (disch := first | assumption | omega | (simp only [nx]; omega) | ((repeat refine Fresh.push ?_ _); assumption) | (simp only [smA]; done) | (simp [oneCell, AW.next_push]; done) | fail) only [go_sem, Nat.reduceEqDiff, reduceIte, Nat.reduceAdd, Int.toNat_natCast, Nat.add_zero, Owes_true, Tryz.results68, h, hs0]
    apply callV_of (e := rfl)
    · exact allL_ok l _ _ f hs
    rintro _ w1 ⟨rfl, g1⟩
    simp -dsimp -implicitDefEqProofs (maxSteps := 2000000) (disch := first | assumption | omega | (simp only [nx]; omega) | ((repeat refine Fresh.push ?_ _); assumption) | (simp only [smA]; done) | (simp [oneCell, AW.next_push]; done) | fail) only [go_sem, Nat.reduceEqDiff, reduceIte, Nat.reduceAdd, Int.toNat_natCast, Nat.add_zero, Owes_true, Tryz.results68]
    exact ⟨by rw [decide_eq_true (by omega : l.length ≤ 64), Bool.true_and], g1⟩
  · simp -dsimp -implicitDefEqProofs (maxSteps := 2000000) (disch := first | assumption | omega | (simp only [nx]; omega) | ((repeat refine Fresh.push ?_ _); assumption) | (simp only [smA]; done) | (simp [oneCell, AW.next_push]; done) | fail) only [go_sem, Nat.reduceEqDiff, reduceIte, Nat.reduceAdd, Int.toNat_natCast, Nat.add_zero, Owes_true, Tryz.results68, h, hs0]
    exact ⟨by rw [decide_eq_false (by omega : ¬ l.length ≤ 64), Bool.false_and], Grown.refl f⟩
end Go.Proofs

namespace Go.Proofs
open Go Go.RowKit Go.Sim
set_option maxRecDepth 100000
theorem Tryz.ia115 (t : Tmps) (w : AW) (x y : Operand) : fast (prg Tryz.prog) t w (.indexAddr 115 x y) = indexA 1 24 (ev t x) (ev t y) := fast_indexAddrA Tryz.ty115 Tryz.ty3
attribute [go_sem] Tryz.ia115
theorem same_fnL (f a b c : Nat) : same 12 (.func (.func f) #[] #[.pointer (some ⟨a, 0, none⟩), .pointer (some ⟨b, 0, none⟩), .pointer (some ⟨c, 0, none⟩)]) (.func (.func f) #[] #[.pointer (some ⟨a, 0, none⟩), .pointer (some ⟨b, 0, none⟩), .pointer (some ⟨c, 0, none⟩)]) = true := by simp [same, same.all]
def icl (A : List Int) : List Value := A.map fun x => Value.int .i64 x
theorem icl_len (A : List Int) : (icl A).length = A.length := List.length_map ..
theorem icl_at {A : List Int} {u : Nat} (h : u < A.length) : (icl A)[u]? = some (.int .i64 (lb A u)) := by
  rw [lb_at h]; simp [icl, h]
theorem icl_set (A : List Int) (p : Nat) (x : Int) : setL (icl A) p (.int .i64 x) = icl (A.set p x) := by
  rw [setL_eq, icl, icl, List.map_set]
structure LkAt (w0 w : AW) (v : Value) (bl bk br : Nat) (A : List Int) : Prop where
  ar : Own w bl 115 (icl A)
  li : Own w bk 44 [v]
  re : Own w br 165 [.func (.func 112) #[] #[.pointer (some ⟨bl, 0, none⟩), .pointer (some ⟨bk, 0, none⟩), .pointer (some ⟨br, 0, none⟩)]]
  ne : bl ≠ bk ∧ bl ≠ br
  lo : w0.next ≤ bl
  k0 : Keep w0.next w0 w
  f : Fresh w
theorem LkAt.put {w0 w : AW} {v : Value} {bl bk br : Nat} {A : List Int} (S : LkAt w0 w v bl bk br A) (B : List Int) : LkAt w0 (w.put bl (.cells (icl B) 115 bl 0 0)) v bl bk br B := by
  have m := MutS.put (S := fun j => j = bl) S.f rfl S.ar.lt (.cells (icl B) 115 bl 0 0)
  exact ⟨S.ar.put _, m.own S.li (fun q => S.ne.1 q.symm), m.own S.re (fun q => S.ne.2 q.symm), S.ne, S.lo, S.k0.trans (m.keep (fun j q => by have := S.lo; omega) S.k0.next), m.fresh⟩
theorem LkAt.grown {w0 w w' : AW} {v : Value} {bl bk br : Nat} {A : List Int} (S : LkAt w0 w v bl bk br A) (g : Grown w w') : LkAt w0 w' v bl bk br A :=
  ⟨S.ar.keep g.1, S.li.keep g.1, S.re.keep g.1, S.ne, S.lo, S.k0.trans (g.1.mono S.k0.next), g.2⟩
def ReachP (w0 : AW) (L : List (Int × Int)) (v : Value) (bl bk br : Nat) (n : Nat) : Prop :=
  ∀ (A : List Int) (p : Nat) (ld : Int) (w : AW), free A < n → A.length = 24 → p < 24 → ld ≠ -1 → LkAt w0 w v bl bk br A →
    CallT Tryz.prog Tryz.T1 (.fn (.func 112) #[.pointer (some ⟨bl, 0, none⟩), .pointer (some ⟨bk, 0, none⟩), .pointer (some ⟨br, 0, none⟩)]) #[.int .i64 (p : Int), .int .i64 ld] w
      (fun rv w' => rv = .tuple #[] ∧ ∃ B, Reach L A B p ld ∧ LkAt w0 w' v bl bk br B ∧ MutS (fun j => j = bl) w w')
theorem idx24 (b p : Nat) (h : p < 24) : indexA 1 24 (.pointer (some ⟨b, 0, none⟩)) (.int .i64 (p : Int)) = some (.pointer (some ⟨b, p, none⟩)) := by
  rw [indexA_eq h]; simp
set_option maxHeartbeats 16000000 in
theorem reach_ok (L : List (Int × Int)) (v : Value) (w0 : AW) (hs : ArrOf w0 2 lcells v L) (hl : ∀ x ∈ L, linkB x = true) (bl bk br : Nat) : ∀ n, ReachP w0 L v bl bk br n := by
  intro n
  induction n with
  | zero => exact fun A p ld w h => absurd h (by omega)
  | succ n ih =>
  intro A p ld w hfr hlen hp hld S
  obtain ⟨pL, cL, rfl, _, _, hat⟩ := id hs.open
  have hs1 := same_fnL 112 bl bk br
  have cp := S.ar.cell (o := p) (icl_at (by omega)) rfl
  have ip := idx24 bl p hp
  refine callT_code rfl Tryz.func112 rfl Tryz.s112_eq rfl ?_
  unfold Tryz.s112
  by_cases h0 : lb A p = -1
  case neg =>
    simp -dsimp -implicitDefEqProofs (maxSteps := 2000000) (disch := first | assumption | omega | (simp only [nx]; omega) | ((repeat refine Fresh.push ?_ _); assumption) | (simp only [smA]; done) | (simp [oneCell, AW.next_push]; done) | fail) only [go_sem, Nat.reduceEqDiff, reduceIte, Nat.reduceAdd, Int.toNat_natCast, Nat.add_zero, Owes_true, Tryz.results112, ip, cp, h0]
    exact ⟨trivial, A, .here h0, S, .refl S.f⟩
  have hst := storeV_own1 (o := p) (v := .int .i64 ld) S.ar (by rw [icl_len]; omega) rfl
  rw [icl_set] at hst
  have hf1 := free_set (A := A) (p := p) (x := ld) (by omega) h0 hld
  have S1 := S.put (A.set p ld)
  have m1 := MutS.put (S := fun j => j = bl) S.f rfl S.ar.lt (.cells (icl (A.set p ld)) 115 bl 0 0)
  generalize hw1 : w.put bl (.cells (icl (A.set p ld)) 115 bl 0 0) = wp at *
  have kc := S1.li.cell (o := 0) rfl rfl
  simp -dsimp -implicitDefEqProofs (maxSteps := 2000000) (disch := first | assumption | omega | (simp only [nx]; omega) | ((repeat refine Fresh.push ?_ _); assumption) | (simp only [smA]; done) | (simp [oneCell, AW.next_push]; done) | fail) only [go_sem, Nat.reduceEqDiff, reduceIte, Nat.reduceAdd, Int.toNat_natCast, Nat.add_zero, Owes_true, Tryz.results112, ip, cp, h0, hst, kc]
  refine loopR (fun k t ds w1 => ∃ i : Nat, i ≤ L.length ∧ k = L.length - i ∧ ds = [] ∧ ev t (.tmp 0) = .int .i64 (p : Int) ∧ ev t (.tmp 1) = .int .i64 ld ∧ ev t (.tmp 2) = .pointer (some ⟨bl, 0, none⟩) ∧ ev t (.tmp 3) = .pointer (some ⟨bk, 0, none⟩) ∧ ev t (.tmp 4) = .pointer (some ⟨br, 0, none⟩) ∧ ev t (.tmp 16) = .slice pL L.length cL ∧ ev t (.tmp 17) = .int .i64 (L.length : Int) ∧ ev t (.tmp 18) = .int .i64 (i : Int) ∧ ∃ B, Going L (A.set p ld) B p ld i ∧ LkAt w0 w1 (.slice pL L.length cL) bl bk br B ∧ MutS (fun j => j = bl) w w1) (L.length) ?_ ?_
  · refine ⟨0, by omega, by omega, rfl, ?_, ?_, ?_, ?_, ?_, ?_, ?_, ?_, A.set p ld, Going.start, S1, m1⟩ <;> simp -dsimp -implicitDefEqProofs (maxSteps := 2000000) (disch := first | assumption | omega | (simp only [nx]; omega) | ((repeat refine Fresh.push ?_ _); assumption) | (simp only [smA]; done) | (simp [oneCell, AW.next_push]; done) | fail) only [go_sem, Nat.reduceEqDiff, reduceIte, Nat.reduceAdd, Int.toNat_natCast, Nat.add_zero, Owes_true] <;> rfl
  rintro k t ds w1 ⟨i, hii, rfl, rfl, e0, e1, e2, e3, e4, e16, e17, e18, B, hG, S1, hM⟩
  by_cases hlt : (i : Int) < (L.length : Int)
  case neg =>
    obtain rfl : i = L.length := by omega
    simp -dsimp -implicitDefEqProofs (maxSteps := 2000000) (disch := first | assumption | omega | (simp only [nx]; omega) | ((repeat refine Fresh.push ?_ _); assumption) | (simp only [smA]; done) | (simp [oneCell, AW.next_push]; done) | fail) only [go_sem, Nat.reduceEqDiff, reduceIte, Nat.reduceAdd, Int.toNat_natCast, Nat.add_zero, Owes_true, Tryz.results112, e0, e1, e2, e3, e4, e16, e17, e18, hlt]
    exact ⟨trivial, B, hG.done (by omega) h0 hld, S1, hM⟩
  have hi' : i < L.length := by omega
  obtain ⟨b1, o1, rfl, hb1, hcell⟩ := hat i hi'
  have a0 := hcell w1 S1.k0 0 _ rfl
  have a1 := hcell w1 S1.k0 1 _ rfl
  simp only [Nat.add_zero] at a0 a1
  have hli := hl _ (List.getElem_mem hi')
  simp only [linkB, Bool.and_eq_true, Bool.not_eq_true', decide_eq_false_iff_not, inR_iff] at hli
  have hLi : L[i] = (L[i].1, L[i].2) := rfl
  have hsk := hG.skip hi'
  have hfg := hG.free
  generalize L[i].1 = x at *
  generalize L[i].2 = y at *
  obtain ⟨X, rfl⟩ : ∃ X : Nat, x = (X : Int) := ⟨x.toNat, by omega⟩
  obtain ⟨Y, rfl⟩ : ∃ Y : Nat, y = (Y : Int) := ⟨y.toNat, by omega⟩
  have gN := (Grown.refl S1.f).push (.cells [.int .i64 0, .int .i64 0] 25 w1.next 0 0)
  have ON := Own.new S1.f 25 [.int .i64 0, .int .i64 0]
  have hst3 := storeV_own (o := 0) (l := [.int .i64 (X : Int), .int .i64 (Y : Int)]) (size := 2) ON rfl (by omega) (by simp) (by rfl)
  simp only [setsL, setL] at hst3
  have mN := MutS.put (S := fun j => j = w1.next) gN.2 rfl ON.lt (.cells [.int .i64 (X : Int), .int .i64 (Y : Int)] 25 w1.next 0 0)
  have ON2 := ON.put [.int .i64 (X : Int), .int .i64 (Y : Int)]
  have hGN : Grown w1 _ := ⟨gN.1.put (b := w1.next) (by omega) (.cells [.int .i64 (X : Int), .int .i64 (Y : Int)] 25 w1.next 0 0), mN.fresh⟩
  have SN := S1.grown hGN
  have hMN : MutS (fun j => j = bl) w1 _ := .of hGN
  have n0 := ON2.cell (o := 0) rfl rfl
  have n1 := ON2.cell (o := 1) rfl rfl
  have rc := SN.re.cell (o := 0) rfl rfl
  by_cases h1 : p = X
  · subst h1
    have hc0 : decide ((p : Int) = (p : Int)) = true := decide_eq_true rfl
    have hc1 : True := trivial
    have hih := ih B Y ld _ (by omega) (by rw [hG.len]; simpa using hlen) (by omega) hld SN
    simp -dsimp -implicitDefEqProofs (maxSteps := 2000000) (disch := first | assumption | omega | (simp only [nx]; omega) | ((repeat refine Fresh.push ?_ _); assumption) | (simp only [smA]; done) | (simp [oneCell, AW.next_push]; done) | fail) only [go_sem, Nat.reduceEqDiff, reduceIte, Nat.reduceAdd, Int.toNat_natCast, Nat.add_zero, Owes_true, Tryz.results112, e0, e1, e2, e3, e4, e16, e17, e18, hlt, indexV_eq, a0, a1, hst3, n0, n1, rc, hs1, Nat.zero_add, hc0, hc1]
    apply callV_of (e := rfl)
    · exact hih
    rintro _ w2 ⟨rfl, C, hC, S2, hM2⟩
    simp -dsimp -implicitDefEqProofs (maxSteps := 2000000) (disch := first | assumption | omega | (simp only [nx]; omega) | ((repeat refine Fresh.push ?_ _); assumption) | (simp only [smA]; done) | (simp [oneCell, AW.next_push]; done) | fail) only [go_sem, Nat.reduceEqDiff, reduceIte, Nat.reduceAdd, Int.toNat_natCast, Nat.add_zero, Owes_true, Tryz.results112, e0, e1, e2, e3, e4, e16, e17, e18]
    refine ⟨_, by omega, i + 1, by omega, rfl, rfl, by (simp -dsimp -implicitDefEqProofs (maxSteps := 2000000) (disch := first | assumption | omega | (simp only [nx]; omega) | ((repeat refine Fresh.push ?_ _); assumption) | (simp only [smA]; done) | (simp [oneCell, AW.next_push]; done) | fail) only [go_sem, Nat.reduceEqDiff, reduceIte, Nat.reduceAdd, Int.toNat_natCast, Nat.add_zero, Owes_true, e0]; try rfl), by (simp -dsimp -implicitDefEqProofs (maxSteps := 2000000) (disch := first | assumption | omega | (simp only [nx]; omega) | ((repeat refine Fresh.push ?_ _); assumption) | (simp only [smA]; done) | (simp [oneCell, AW.next_push]; done) | fail) only [go_sem, Nat.reduceEqDiff, reduceIte, Nat.reduceAdd, Int.toNat_natCast, Nat.add_zero, Owes_true, e1]; try rfl), by (simp -dsimp -implicitDefEqProofs (maxSteps := 2000000) (disch := first | assumption | omega | (simp only [nx]; omega) | ((repeat refine Fresh.push ?_ _); assumption) | (simp only [smA]; done) | (simp [oneCell, AW.next_push]; done) | fail) only [go_sem, Nat.reduceEqDiff, reduceIte, Nat.reduceAdd, Int.toNat_natCast, Nat.add_zero, Owes_true, e2]; try rfl), by (simp -dsimp -implicitDefEqProofs (maxSteps := 2000000) (disch := first | assumption | omega | (simp only [nx]; omega) | ((repeat refine Fresh.push ?_ _); assumption) | (simp only [smA]; done) | (simp [oneCell, AW.next_push]; done) | fail) only [go_sem, Nat.reduceEqDiff, reduceIte, Nat.reduceAdd, Int.toNat_natCast, Nat.add_zero, Owes_true, e3]; try rfl), by (simp -dsimp -implicitDefEqProofs (maxSteps := 2000000) (disch := first | assumption | omega | (simp only [nx]; omega) | ((repeat refine Fresh.push ?_ _); assumption) | (simp only [smA]; done) | (simp [oneCell, AW.next_push]; done) | fail) only [go_sem, Nat.reduceEqDiff, reduceIte, Nat.reduceAdd, Int.toNat_natCast, Nat.add_zero, Owes_true, e4]; try rfl), by (simp -dsimp -implicitDefEqProofs (maxSteps := 2000000) (disch := first | assumption | omega | (simp only [nx]; omega) | ((repeat refine Fresh.push ?_ _); assumption) | (simp only [smA]; done) | (simp [oneCell, AW.next_push]; done) | fail) only [go_sem, Nat.reduceEqDiff, reduceIte, Nat.reduceAdd, Int.toNat_natCast, Nat.add_zero, Owes_true, e16]; try rfl), by (simp -dsimp -implicitDefEqProofs (maxSteps := 2000000) (disch := first | assumption | omega | (simp only [nx]; omega) | ((repeat refine Fresh.push ?_ _); assumption) | (simp only [smA]; done) | (simp [oneCell, AW.next_push]; done) | fail) only [go_sem, Nat.reduceEqDiff, reduceIte, Nat.reduceAdd, Int.toNat_natCast, Nat.add_zero, Owes_true, e17]; try rfl), by (simp -dsimp -implicitDefEqProofs (maxSteps := 2000000) (disch := first | assumption | omega | (simp only [nx]; omega) | ((repeat refine Fresh.push ?_ _); assumption) | (simp only [smA]; done) | (simp [oneCell, AW.next_push]; done) | fail) only [go_sem, Nat.reduceEqDiff, reduceIte, Nat.reduceAdd, Int.toNat_natCast, Nat.add_zero, Owes_true, e18]; try rfl), C, hG.call hi' (.inl hLi) (by omega) hC, S2, (hM.trans hMN (Within.refl _ _)).trans hM2 (Within.refl _ _)⟩
  · have hc0 : decide ((p : Int) = (X : Int)) = false := decide_eq_false (by omega)
    by_cases h2 : p = Y
    · subst h2
      have hc1 : decide ((p : Int) = (p : Int)) = true := decide_eq_true rfl
      have hih := ih B X ld _ (by omega) (by rw [hG.len]; simpa using hlen) (by omega) hld SN
      simp -dsimp -implicitDefEqProofs (maxSteps := 2000000) (disch := first | assumption | omega | (simp only [nx]; omega) | ((repeat refine Fresh.push ?_ _); assumption) | (simp only [smA]; done) | (simp [oneCell, AW.next_push]; done) | fail) only [go_sem, Nat.reduceEqDiff, reduceIte, Nat.reduceAdd, Int.toNat_natCast, Nat.add_zero, Owes_true, Tryz.results112, e0, e1, e2, e3, e4, e16, e17, e18, hlt, indexV_eq, a0, a1, hst3, n0, n1, rc, hs1, Nat.zero_add, hc0, hc1]
      apply callV_of (e := rfl)
      · exact hih
      rintro _ w2 ⟨rfl, C, hC, S2, hM2⟩
      simp -dsimp -implicitDefEqProofs (maxSteps := 2000000) (disch := first | assumption | omega | (simp only [nx]; omega) | ((repeat refine Fresh.push ?_ _); assumption) | (simp only [smA]; done) | (simp [oneCell, AW.next_push]; done) | fail) only [go_sem, Nat.reduceEqDiff, reduceIte, Nat.reduceAdd, Int.toNat_natCast, Nat.add_zero, Owes_true, Tryz.results112, e0, e1, e2, e3, e4, e16, e17, e18]
      refine ⟨_, by omega, i + 1, by omega, rfl, rfl, by (simp -dsimp -implicitDefEqProofs (maxSteps := 2000000) (disch := first | assumption | omega | (simp only [nx]; omega) | ((repeat refine Fresh.push ?_ _); assumption) | (simp only [smA]; done) | (simp [oneCell, AW.next_push]; done) | fail) only [go_sem, Nat.reduceEqDiff, reduceIte, Nat.reduceAdd, Int.toNat_natCast, Nat.add_zero, Owes_true, e0]; try rfl), by (simp -dsimp -implicitDefEqProofs (maxSteps := 2000000) (disch := first | assumption | omega | (simp only [nx]; omega) | ((repeat refine Fresh.push ?_ _); assumption) | (simp only [smA]; done) | (simp [oneCell, AW.next_push]; done) | fail) only [go_sem, Nat.reduceEqDiff, reduceIte, Nat.reduceAdd, Int.toNat_natCast, Nat.add_zero, Owes_true, e1]; try rfl), by (simp -dsimp -implicitDefEqProofs (maxSteps := 2000000) (disch := first | assumption | omega | (simp only [nx]; omega) | ((repeat refine Fresh.push ?_ _); assumption) | (simp only [smA]; done) | (simp [oneCell, AW.next_push]; done) | fail) only [go_sem, Nat.reduceEqDiff, reduceIte, Nat.reduceAdd, Int.toNat_natCast, Nat.add_zero, Owes_true, e2]; try rfl), by (simp -dsimp -implicitDefEqProofs (maxSteps := 2000000) (disch := first | assumption | omega | (simp only [nx]; omega) | ((repeat refine Fresh.push ?_ _); assumption) | (simp only [smA]; done) | (simp [oneCell, AW.next_push]; done) | fail) only [go_sem, Nat.reduceEqDiff, reduceIte, Nat.reduceAdd, Int.toNat_natCast, Nat.add_zero, Owes_true, e3]; try rfl), by (simp -dsimp -implicitDefEqProofs (maxSteps := 2000000) (disch := first | assumption | omega | (simp only [nx]; omega) | ((repeat refine Fresh.push ?_ _); assumption) | (simp only [smA]; done) | (simp [oneCell, AW.next_push]; done) | fail) only [go_sem, Nat.reduceEqDiff, reduceIte, Nat.reduceAdd, Int.toNat_natCast, Nat.add_zero, Owes_true, e4]; try rfl), by (simp -dsimp -implicitDefEqProofs (maxSteps := 2000000) (disch := first | assumption | omega | (simp only [nx]; omega) | ((repeat refine Fresh.push ?_ _); assumption) | (simp only [smA]; done) | (simp [oneCell, AW.next_push]; done) | fail) only [go_sem, Nat.reduceEqDiff, reduceIte, Nat.reduceAdd, Int.toNat_natCast, Nat.add_zero, Owes_true, e16]; try rfl), by (simp -dsimp -implicitDefEqProofs (maxSteps := 2000000) (disch := first | assumption | omega | (simp only [nx]; omega) | ((repeat refine Fresh.push ?_ _); assumption) | (simp only [smA]; done) | (simp [oneCell, AW.next_push]; done) | fail) only [go_sem, Nat.reduceEqDiff, reduceIte, Nat.reduceAdd, Int.toNat_natCast, Nat.add_zero, Owes_true, e17]; try rfl), by (simp -dsimp -implicitDefEqProofs (maxSteps := 2000000) (disch := first | assumption | omega | (simp only [nx]; omega) | ((repeat refine Fresh.push ?_ _); assumption) | (simp only [smA]; done) | (simp [oneCell, AW.next_push]; done) | fail) only [go_sem, Nat.reduceEqDiff, reduceIte, Nat.reduceAdd, Int.toNat_natCast, Nat.add_zero, Owes_true, e18]; try rfl), C, hG.call hi' (.inr hLi) (by omega) hC, S2, (hM.trans hMN (Within.refl _ _)).trans hM2 (Within.refl _ _)⟩
    · have hc1 : decide ((p : Int) = (Y : Int)) = false := decide_eq_false (by omega)
      simp -dsimp -implicitDefEqProofs (maxSteps := 2000000) (disch := first | assumption | omega | (simp only [nx]; omega) | ((repeat refine Fresh.push ?_ _); assumption) | (simp only [smA]; done) | (simp [oneCell, AW.next_push]; done) | fail) only [go_sem, Nat.reduceEqDiff, reduceIte, Nat.reduceAdd, Int.toNat_natCast, Nat.add_zero, Owes_true, Tryz.results112, e0, e1, e2, e3, e4, e16, e17, e18, hlt, indexV_eq, a0, a1, hst3, n0, n1, Nat.zero_add, hc0, hc1]
      refine ⟨_, by omega, i + 1, by omega, rfl, rfl, by (simp -dsimp -implicitDefEqProofs (maxSteps := 2000000) (disch := first | assumption | omega | (simp only [nx]; omega) | ((repeat refine Fresh.push ?_ _); assumption) | (simp only [smA]; done) | (simp [oneCell, AW.next_push]; done) | fail) only [go_sem, Nat.reduceEqDiff, reduceIte, Nat.reduceAdd, Int.toNat_natCast, Nat.add_zero, Owes_true, e0]; try rfl), by (simp -dsimp -implicitDefEqProofs (maxSteps := 2000000) (disch := first | assumption | omega | (simp only [nx]; omega) | ((repeat refine Fresh.push ?_ _); assumption) | (simp only [smA]; done) | (simp [oneCell, AW.next_push]; done) | fail) only [go_sem, Nat.reduceEqDiff, reduceIte, Nat.reduceAdd, Int.toNat_natCast, Nat.add_zero, Owes_true, e1]; try rfl), by (simp -dsimp -implicitDefEqProofs (maxSteps := 2000000) (disch := first | assumption | omega | (simp only [nx]; omega) | ((repeat refine Fresh.push ?_ _); assumption) | (simp only [smA]; done) | (simp [oneCell, AW.next_push]; done) | fail) only [go_sem, Nat.reduceEqDiff, reduceIte, Nat.reduceAdd, Int.toNat_natCast, Nat.add_zero, Owes_true, e2]; try rfl), by (simp -dsimp -implicitDefEqProofs (maxSteps := 2000000) (disch := first | assumption | omega | (simp only [nx]; omega) | ((repeat refine Fresh.push ?_ _); assumption) | (simp only [smA]; done) | (simp [oneCell, AW.next_push]; done) | fail) only [go_sem, Nat.reduceEqDiff, reduceIte, Nat.reduceAdd, Int.toNat_natCast, Nat.add_zero, Owes_true, e3]; try rfl), by (simp -dsimp -implicitDefEqProofs (maxSteps := 2000000) (disch := first | assumption | omega | (simp only [nx]; omega) | ((repeat refine Fresh.push ?_ _); assumption) | (simp only [smA]; done) | (simp [oneCell, AW.next_push]; done) | fail) only [go_sem, Nat.reduceEqDiff, reduceIte, Nat.reduceAdd, Int.toNat_natCast, Nat.add_zero, Owes_true, e4]; try rfl), by (simp -dsimp -implicitDefEqProofs (maxSteps := 2000000) (disch := first | assumption | omega | (simp only [nx]; omega) | ((repeat refine Fresh.push ?_ _); assumption) | (simp only [smA]; done) | (simp [oneCell, AW.next_push]; done) | fail) only [go_sem, Nat.reduceEqDiff, reduceIte, Nat.reduceAdd, Int.toNat_natCast, Nat.add_zero, Owes_true, e16]; try rfl), by (simp -dsimp -implicitDefEqProofs (maxSteps := 2000000) (disch := first | assumption | omega | (simp only [nx]; omega) | ((repeat refine Fresh.push ?_ _); assumption) | (simp only [smA]; done) | (simp [oneCell, AW.next_push]; done) | fail) only [go_sem, Nat.reduceEqDiff, reduceIte, Nat.reduceAdd, Int.toNat_natCast, Nat.add_zero, Owes_true, e17]; try rfl), by (simp -dsimp -implicitDefEqProofs (maxSteps := 2000000) (disch := first | assumption | omega | (simp only [nx]; omega) | ((repeat refine Fresh.push ?_ _); assumption) | (simp only [smA]; done) | (simp [oneCell, AW.next_push]; done) | fail) only [go_sem, Nat.reduceEqDiff, reduceIte, Nat.reduceAdd, Int.toNat_natCast, Nat.add_zero, Owes_true, e18]; try rfl), B, hsk (by omega) (by omega), SN, hM.trans hMN (Within.refl _ _)⟩
end Go.Proofs

namespace Go.Proofs
open Go Go.RowKit Go.Sim
set_option maxRecDepth 100000
theorem loadAll {w : AW} {b n : Nat} {e : TypeId} {c : List Value} (h : Own w b e c) (hn : c.length = n) (h1 : ∀ v ∈ c, oneCell v = true) : loadV w true n (.pointer (some ⟨b, 0, none⟩)) = some (.agg c.toArray) := by
  subst hn
  rw [loadV_row, aCells_of c 0 fun i v hv => by rw [Nat.zero_add]; exact h.cell hv (h1 v (List.mem_of_getElem? hv))]
theorem icl_one (A : List Int) : ∀ v ∈ icl A, oneCell v = true := fun v hv => by
  obtain ⟨x, _, rfl⟩ := List.mem_map.mp hv; rfl
theorem icl_all (A : List Int) : (icl A).all oneCell = true := List.all_eq_true.mpr (icl_one A)
theorem setsL_icl (A B : List Int) (h : A.length = B.length) : setsL (icl B) 0 (icl A) = icl A := by
  have := setsL_zero (icl A) (icl B) [] (by rw [icl_len, icl_len, h])
  rwa [List.append_nil, List.append_nil] at this
theorem z24 : icl (List.replicate 24 0) = [.int .i64 0, .int .i64 0, .int .i64 0, .int .i64 0, .int .i64 0, .int .i64 0, .int .i64 0, .int .i64 0, .int .i64 0, .int .i64 0, .int .i64 0, .int .i64 0, .int .i64 0, .int .i64 0, .int .i64 0, .int .i64 0, .int .i64 0, .int .i64 0, .int .i64 0, .int .i64 0, .int .i64 0, .int .i64 0, .int .i64 0, .int .i64 0] := rfl
theorem lb_all {A : List Int} (hA : A.length = 24) (h : ∀ u, u < 24 → lb A u = -1) : A = List.replicate 24 (-1) := by
  refine List.ext_getElem (by rw [hA, List.length_replicate]) fun i h1 h2 => ?_
  rw [List.getElem_replicate, ← lb_at h1]
  exact h i (by omega)
set_option maxHeartbeats 16000000 in
theorem linked_ok (L : List (Int × Int)) (v : Value) (w : AW) (f : Fresh w) (hs : ArrOf w 2 lcells v L) (hl : ∀ x ∈ L, linkB x = true) :
    CallT Tryz.prog Tryz.T1 (.fn (.func 69) #[]) #[v] w (fun rv w' => ∃ A, rv = .agg (icl A).toArray ∧ Labs L A ∧ Grown w w') := by
  obtain ⟨pL, cL, rfl, _⟩ := id hs.open
  have g1 := (Grown.refl f).push (.cells [.slice pL L.length cL] 44 w.next 0 0)
  have O1 := Own.new f 44 [.slice pL L.length cL]
  have g2 := g1.push (.cells [.int .i64 0, .int .i64 0, .int .i64 0, .int .i64 0, .int .i64 0, .int .i64 0, .int .i64 0, .int .i64 0, .int .i64 0, .int .i64 0, .int .i64 0, .int .i64 0, .int .i64 0, .int .i64 0, .int .i64 0, .int .i64 0, .int .i64 0, .int .i64 0, .int .i64 0, .int .i64 0, .int .i64 0, .int .i64 0, .int .i64 0, .int .i64 0] 115 (w.next + 1) 0 0)
  have O2 := Own.new g1.2 115 [.int .i64 0, .int .i64 0, .int .i64 0, .int .i64 0, .int .i64 0, .int .i64 0, .int .i64 0, .int .i64 0, .int .i64 0, .int .i64 0, .int .i64 0, .int .i64 0, .int .i64 0, .int .i64 0, .int .i64 0, .int .i64 0, .int .i64 0, .int .i64 0, .int .i64 0, .int .i64 0, .int .i64 0, .int .i64 0, .int .i64 0, .int .i64 0]
  rw [AW.next_push] at O2
  have g3 := g2.push (.cells [.int .i64 0, .int .i64 0, .int .i64 0, .int .i64 0, .int .i64 0, .int .i64 0, .int .i64 0, .int .i64 0, .int .i64 0, .int .i64 0, .int .i64 0, .int .i64 0, .int .i64 0, .int .i64 0, .int .i64 0, .int .i64 0, .int .i64 0, .int .i64 0, .int .i64 0, .int .i64 0, .int .i64 0, .int .i64 0, .int .i64 0, .int .i64 0] 115 (w.next + 1 + 1) 0 0)
  have O3 := Own.new g2.2 115 [.int .i64 0, .int .i64 0, .int .i64 0, .int .i64 0, .int .i64 0, .int .i64 0, .int .i64 0, .int .i64 0, .int .i64 0, .int .i64 0, .int .i64 0, .int .i64 0, .int .i64 0, .int .i64 0, .int .i64 0, .int .i64 0, .int .i64 0, .int .i64 0, .int .i64 0, .int .i64 0, .int .i64 0, .int .i64 0, .int .i64 0, .int .i64 0]
  rw [AW.next_push, AW.next_push] at O3
  have O1c := (O1.push (.cells [.int .i64 0, .int .i64 0, .int .i64 0, .int .i64 0, .int .i64 0, .int .i64 0, .int .i64 0, .int .i64 0, .int .i64 0, .int .i64 0, .int .i64 0, .int .i64 0, .int .i64 0, .int .i64 0, .int .i64 0, .int .i64 0, .int .i64 0, .int .i64 0, .int .i64 0, .int .i64 0, .int .i64 0, .int .i64 0, .int .i64 0, .int .i64 0] 115 (w.next + 1) 0 0)).push (.cells [.int .i64 0, .int .i64 0, .int .i64 0, .int .i64 0, .int .i64 0, .int .i64 0, .int .i64 0, .int .i64 0, .int .i64 0, .int .i64 0, .int .i64 0, .int .i64 0, .int .i64 0, .int .i64 0, .int .i64 0, .int .i64 0, .int .i64 0, .int .i64 0, .int .i64 0, .int .i64 0, .int .i64 0, .int .i64 0, .int .i64 0, .int .i64 0] 115 (w.next + 1 + 1) 0 0)
  have O2c := O2.push (.cells [.int .i64 0, .int .i64 0, .int .i64 0, .int .i64 0, .int .i64 0, .int .i64 0, .int .i64 0, .int .i64 0, .int .i64 0, .int .i64 0, .int .i64 0, .int .i64 0, .int .i64 0, .int .i64 0, .int .i64 0, .int .i64 0, .int .i64 0, .int .i64 0, .int .i64 0, .int .i64 0, .int .i64 0, .int .i64 0, .int .i64 0, .int .i64 0] 115 (w.next + 1 + 1) 0 0)
  have hn3 : (((w.push (.cells [.slice pL L.length cL] 44 w.next 0 0)).push (.cells [.int .i64 0, .int .i64 0, .int .i64 0, .int .i64 0, .int .i64 0, .int .i64 0, .int .i64 0, .int .i64 0, .int .i64 0, .int .i64 0, .int .i64 0, .int .i64 0, .int .i64 0, .int .i64 0, .int .i64 0, .int .i64 0, .int .i64 0, .int .i64 0, .int .i64 0, .int .i64 0, .int .i64 0, .int .i64 0, .int .i64 0, .int .i64 0] 115 (w.next + 1) 0 0)).push (.cells [.int .i64 0, .int .i64 0, .int .i64 0, .int .i64 0, .int .i64 0, .int .i64 0, .int .i64 0, .int .i64 0, .int .i64 0, .int .i64 0, .int .i64 0, .int .i64 0, .int .i64 0, .int .i64 0, .int .i64 0, .int .i64 0, .int .i64 0, .int .i64 0, .int .i64 0, .int .i64 0, .int .i64 0, .int .i64 0, .int .i64 0, .int .i64 0] 115 (w.next + 1 + 1) 0 0)).next = w.next + 1 + 1 + 1 := by rw [AW.next_push, AW.next_push, AW.next_push]
  refine callT_code rfl Tryz.func69 rfl Tryz.s69_eq rfl ?_
  unfold Tryz.s69
  simp -dsimp -implicitDefEqProofs (maxSteps := 2000000) (disch := first | assumption | omega | (simp only [nx]; omega) | ((repeat refine Fresh.push ?_ _); assumption) | (simp only [smA]; done) | (simp [oneCell, AW.next_push]; done) | fail) only [go_sem, Nat.reduceEqDiff, reduceIte, Nat.reduceAdd, Int.toNat_natCast, Nat.add_zero, Owes_true, Tryz.results69]
  generalize hw3 : (((w.push (.cells [.slice pL L.length cL] 44 w.next 0 0)).push (.cells [.int .i64 0, .int .i64 0, .int .i64 0, .int .i64 0, .int .i64 0, .int .i64 0, .int .i64 0, .int .i64 0, .int .i64 0, .int .i64 0, .int .i64 0, .int .i64 0, .int .i64 0, .int .i64 0, .int .i64 0, .int .i64 0, .int .i64 0, .int .i64 0, .int .i64 0, .int .i64 0, .int .i64 0, .int .i64 0, .int .i64 0, .int .i64 0] 115 (w.next + 1) 0 0)).push (.cells [.int .i64 0, .int .i64 0, .int .i64 0, .int .i64 0, .int .i64 0, .int .i64 0, .int .i64 0, .int .i64 0, .int .i64 0, .int .i64 0, .int .i64 0, .int .i64 0, .int .i64 0, .int .i64 0, .int .i64 0, .int .i64 0, .int .i64 0, .int .i64 0, .int .i64 0, .int .i64 0, .int .i64 0, .int .i64 0, .int .i64 0, .int .i64 0] 115 (w.next + 1 + 1) 0 0)) = w3 at *
  rw [← z24] at O3 O2c
  refine loopR (fun k t ds w1 => ∃ i : Nat, i ≤ 24 ∧ k = 24 - i ∧ ds = [] ∧ ev t (.tmp 1) = .pointer (some ⟨w.next, 0, none⟩) ∧ ev t (.tmp 2) = .pointer (some ⟨w.next + 1, 0, none⟩) ∧ ev t (.tmp 3) = .pointer (some ⟨w.next + 1 + 1, 0, none⟩) ∧ ev t (.tmp 7) = .int .i64 (i : Int) ∧ ∃ A, A.length = 24 ∧ (∀ u, u < i → lb A u = -1) ∧ Own w1 w.next 44 [.slice pL L.length cL] ∧ Own w1 (w.next + 1) 115 (icl (List.replicate 24 0)) ∧ Own w1 (w.next + 1 + 1) 115 (icl A) ∧ Grown w w1 ∧ w1.next = w.next + 1 + 1 + 1) (24) ?_ ?_
  · refine ⟨0, by omega, by omega, rfl, ?_, ?_, ?_, ?_, List.replicate 24 0, rfl, (fun u hu => absurd hu (by omega)), O1c, O2c, O3, g3, hn3⟩ <;> simp -dsimp -implicitDefEqProofs (maxSteps := 2000000) (disch := first | assumption | omega | (simp only [nx]; omega) | ((repeat refine Fresh.push ?_ _); assumption) | (simp only [smA]; done) | (simp [oneCell, AW.next_push]; done) | fail) only [go_sem, Nat.reduceEqDiff, reduceIte, Nat.reduceAdd, Int.toNat_natCast, Nat.add_zero, Owes_true] <;> rfl
  rintro k t ds w1 ⟨i, hii, rfl, rfl, e1, e2, e3, e7, A, hA, hneg, P1, P2, P3, hgw, hnx⟩
  by_cases hlt : (i : Int) < 24
  · have hst := storeV_own1 (o := i) (v := .int .i64 (-1)) P3 (by rw [icl_len]; omega) rfl
    rw [icl_set] at hst
    have ip := idx24 (w.next + 1 + 1) i (by omega)
    have m := MutS.put (S := fun j => j = w.next + 1 + 1) hgw.2 rfl P3.lt (.cells (icl (A.set i (-1))) 115 (w.next + 1 + 1) 0 0)
    simp -dsimp -implicitDefEqProofs (maxSteps := 2000000) (disch := first | assumption | omega | (simp only [nx]; omega) | ((repeat refine Fresh.push ?_ _); assumption) | (simp only [smA]; done) | (simp [oneCell, AW.next_push]; done) | fail) only [go_sem, Nat.reduceEqDiff, reduceIte, Nat.reduceAdd, Int.toNat_natCast, Nat.add_zero, Owes_true, Tryz.results69, e1, e2, e3, e7, hlt, ip, hst]
    refine ⟨_, by omega, i + 1, by omega, rfl, rfl, by (simp -dsimp -implicitDefEqProofs (maxSteps := 2000000) (disch := first | assumption | omega | (simp only [nx]; omega) | ((repeat refine Fresh.push ?_ _); assumption) | (simp only [smA]; done) | (simp [oneCell, AW.next_push]; done) | fail) only [go_sem, Nat.reduceEqDiff, reduceIte, Nat.reduceAdd, Int.toNat_natCast, Nat.add_zero, Owes_true, e1]; try rfl), by (simp -dsimp -implicitDefEqProofs (maxSteps := 2000000) (disch := first | assumption | omega | (simp only [nx]; omega) | ((repeat refine Fresh.push ?_ _); assumption) | (simp only [smA]; done) | (simp [oneCell, AW.next_push]; done) | fail) only [go_sem, Nat.reduceEqDiff, reduceIte, Nat.reduceAdd, Int.toNat_natCast, Nat.add_zero, Owes_true, e2]; try rfl), by (simp -dsimp -implicitDefEqProofs (maxSteps := 2000000) (disch := first | assumption | omega | (simp only [nx]; omega) | ((repeat refine Fresh.push ?_ _); assumption) | (simp only [smA]; done) | (simp [oneCell, AW.next_push]; done) | fail) only [go_sem, Nat.reduceEqDiff, reduceIte, Nat.reduceAdd, Int.toNat_natCast, Nat.add_zero, Owes_true, e3]; try rfl), by (simp -dsimp -implicitDefEqProofs (maxSteps := 2000000) (disch := first | assumption | omega | (simp only [nx]; omega) | ((repeat refine Fresh.push ?_ _); assumption) | (simp only [smA]; done) | (simp [oneCell, AW.next_push]; done) | fail) only [go_sem, Nat.reduceEqDiff, reduceIte, Nat.reduceAdd, Int.toNat_natCast, Nat.add_zero, Owes_true, e7]; try rfl), A.set i (-1), (by rw [List.length_set]; exact hA), (fun u hu => by rw [lb_set (by omega)]; split; rfl; exact hneg u (by omega)), m.own P1 (by omega), m.own P2 (by omega), P3.put _, ⟨hgw.1.trans (m.keep (fun j q => by omega) (by omega)), m.fresh⟩, (by rw [AW.next_put]; exact hnx)⟩
  obtain rfl : i = 24 := by omega
  have hAr := lb_all hA hneg
  subst hAr
  have gp := hgw.push (.cells [.nilFunc] 165 (w.next + 1 + 1 + 1) 0 0)
  have O4 := Own.new hgw.2 165 [.nilFunc]
  rw [hnx] at O4
  have s4 := storeV_own1 (o := 0) (v := .func (.func 112) #[] #[.pointer (some ⟨w.next + 1 + 1, 0, none⟩), .pointer (some ⟨w.next, 0, none⟩), .pointer (some ⟨w.next + 1 + 1 + 1, 0, none⟩)]) O4 (by simp) rfl
  simp only [setL] at s4
  have m4 := MutS.put (S := fun j => j = w.next + 1 + 1 + 1) gp.2 rfl O4.lt (.cells [.func (.func 112) #[] #[.pointer (some ⟨w.next + 1 + 1, 0, none⟩), .pointer (some ⟨w.next, 0, none⟩), .pointer (some ⟨w.next + 1 + 1 + 1, 0, none⟩)]] 165 (w.next + 1 + 1 + 1) 0 0)
  have Q1 := m4.own (P1.push (.cells [.nilFunc] 165 (w.next + 1 + 1 + 1) 0 0)) (by omega)
  have Q2 := m4.own (P2.push (.cells [.nilFunc] 165 (w.next + 1 + 1 + 1) 0 0)) (by omega)
  have Q3 := m4.own (P3.push (.cells [.nilFunc] 165 (w.next + 1 + 1 + 1) 0 0)) (by omega)
  have Q4 := O4.put [.func (.func 112) #[] #[.pointer (some ⟨w.next + 1 + 1, 0, none⟩), .pointer (some ⟨w.next, 0, none⟩), .pointer (some ⟨w.next + 1 + 1 + 1, 0, none⟩)]]
  have k4 : Keep w.next w _ := gp.1.trans (m4.keep (fun j q => by omega) gp.1.next)
  have S4 : LkAt w _ (.slice pL L.length cL) (w.next + 1 + 1) w.next (w.next + 1 + 1 + 1) (List.replicate 24 (-1)) := ⟨Q3, Q1, Q4, ⟨by omega, by omega⟩, by omega, k4, m4.fresh⟩
  have hs3 := same_fnL 112 (w.next + 1 + 1) w.next (w.next + 1 + 1 + 1)
  simp -dsimp -implicitDefEqProofs (maxSteps := 2000000) (disch := first | assumption | omega | (simp only [nx]; omega) | ((repeat refine Fresh.push ?_ _); assumption) | (simp only [smA]; done) | (simp [oneCell, AW.next_push]; done) | fail) only [go_sem, Nat.reduceEqDiff, reduceIte, Nat.reduceAdd, Int.toNat_natCast, Nat.add_zero, Owes_true, Tryz.results69, e1, e2, e3, e7, hlt, hnx, s4]
  refine loopR (fun k t ds w5 => ∃ i : Nat, i ≤ 24 ∧ k = 24 - i ∧ ds = [] ∧ ev t (.tmp 1) = .pointer (some ⟨w.next, 0, none⟩) ∧ ev t (.tmp 2) = .pointer (some ⟨w.next + 1, 0, none⟩) ∧ ev t (.tmp 3) = .pointer (some ⟨w.next + 1 + 1, 0, none⟩) ∧ ev t (.tmp 5) = .pointer (some ⟨w.next + 1 + 1 + 1, 0, none⟩) ∧ ev t (.tmp 14) = .int .i64 (i : Int) ∧ ∃ A, Labd L A i ∧ LkAt w w5 (.slice pL L.length cL) (w.next + 1 + 1) w.next (w.next + 1 + 1 + 1) A ∧ Own w5 (w.next + 1) 115 (icl (List.replicate 24 0))) (24) ?_ ?_
  · refine ⟨0, by omega, by omega, rfl, ?_, ?_, ?_, ?_, ?_, List.replicate 24 (-1), .start L, S4, Q2⟩ <;> simp -dsimp -implicitDefEqProofs (maxSteps := 2000000) (disch := first | assumption | omega | (simp only [nx]; omega) | ((repeat refine Fresh.push ?_ _); assumption) | (simp only [smA]; done) | (simp [oneCell, AW.next_push]; done) | fail) only [go_sem, Nat.reduceEqDiff, reduceIte, Nat.reduceAdd, Int.toNat_natCast, Nat.add_zero, Owes_true, e1, e2, e3, hnx] <;> rfl
  rintro k t ds w5 ⟨i, hii, rfl, rfl, e1, e2, e3, e5, e14, A, hA, S5, P5⟩
  by_cases hlt : (i : Int) < 24
  · have hr := reach_ok L _ w hs hl (w.next + 1 + 1) w.next (w.next + 1 + 1 + 1) 25 A i (i : Int) w5 (by have := List.countP_le_length (p := fun x => decide (x = -1)) (l := A); have := hA.len; unfold free; omega) hA.len (by omega) (by omega) S5
    have rc := S5.re.cell (o := 0) rfl rfl
    simp -dsimp -implicitDefEqProofs (maxSteps := 2000000) (disch := first | assumption | omega | (simp only [nx]; omega) | ((repeat refine Fresh.push ?_ _); assumption) | (simp only [smA]; done) | (simp [oneCell, AW.next_push]; done) | fail) only [go_sem, Nat.reduceEqDiff, reduceIte, Nat.reduceAdd, Int.toNat_natCast, Nat.add_zero, Owes_true, Tryz.results69, e1, e2, e3, e5, e14, hlt, rc, hs3]
    apply callV_of (e := rfl)
    · exact hr
    rintro _ w6 ⟨rfl, B, hB, S6, hM⟩
    simp -dsimp -implicitDefEqProofs (maxSteps := 2000000) (disch := first | assumption | omega | (simp only [nx]; omega) | ((repeat refine Fresh.push ?_ _); assumption) | (simp only [smA]; done) | (simp [oneCell, AW.next_push]; done) | fail) only [go_sem, Nat.reduceEqDiff, reduceIte, Nat.reduceAdd, Int.toNat_natCast, Nat.add_zero, Owes_true, Tryz.results69, e1, e2, e3, e5, e14]
    refine ⟨_, by omega, i + 1, by omega, rfl, rfl, by (simp -dsimp -implicitDefEqProofs (maxSteps := 2000000) (disch := first | assumption | omega | (simp only [nx]; omega) | ((repeat refine Fresh.push ?_ _); assumption) | (simp only [smA]; done) | (simp [oneCell, AW.next_push]; done) | fail) only [go_sem, Nat.reduceEqDiff, reduceIte, Nat.reduceAdd, Int.toNat_natCast, Nat.add_zero, Owes_true, e1]; try rfl), by (simp -dsimp -implicitDefEqProofs (maxSteps := 2000000) (disch := first | assumption | omega | (simp only [nx]; omega) | ((repeat refine Fresh.push ?_ _); assumption) | (simp only [smA]; done) | (simp [oneCell, AW.next_push]; done) | fail) only [go_sem, Nat.reduceEqDiff, reduceIte, Nat.reduceAdd, Int.toNat_natCast, Nat.add_zero, Owes_true, e2]; try rfl), by (simp -dsimp -implicitDefEqProofs (maxSteps := 2000000) (disch := first | assumption | omega | (simp only [nx]; omega) | ((repeat refine Fresh.push ?_ _); assumption) | (simp only [smA]; done) | (simp [oneCell, AW.next_push]; done) | fail) only [go_sem, Nat.reduceEqDiff, reduceIte, Nat.reduceAdd, Int.toNat_natCast, Nat.add_zero, Owes_true, e3]; try rfl), by (simp -dsimp -implicitDefEqProofs (maxSteps := 2000000) (disch := first | assumption | omega | (simp only [nx]; omega) | ((repeat refine Fresh.push ?_ _); assumption) | (simp only [smA]; done) | (simp [oneCell, AW.next_push]; done) | fail) only [go_sem, Nat.reduceEqDiff, reduceIte, Nat.reduceAdd, Int.toNat_natCast, Nat.add_zero, Owes_true, e5]; try rfl), by (simp -dsimp -implicitDefEqProofs (maxSteps := 2000000) (disch := first | assumption | omega | (simp only [nx]; omega) | ((repeat refine Fresh.push ?_ _); assumption) | (simp only [smA]; done) | (simp [oneCell, AW.next_push]; done) | fail) only [go_sem, Nat.reduceEqDiff, reduceIte, Nat.reduceAdd, Int.toNat_natCast, Nat.add_zero, Owes_true, e14]; try rfl), B, hA.next hB, S6, hM.own P5 (by omega)⟩
  obtain rfl : i = 24 := by omega
  have hlen := hA.len
  have hload := loadAll S5.ar (n := 24) (by rw [icl_len]; exact hlen) (icl_one A)
  have hst := storeV_own (o := 0) (l := icl A) (size := 24) P5 (by rw [icl_len]; exact hlen) (by omega) (by rw [icl_len, List.length_replicate]; omega) (icl_all A)
  rw [setsL_icl _ _ (by rw [hlen, List.length_replicate])] at hst
  have P6 := P5.put (icl A)
  have hload2 := loadAll P6 (n := 24) (by rw [icl_len]; exact hlen) (icl_one A)
  have m6 := MutS.put (S := fun j => j = w.next + 1) S5.f rfl P5.lt (.cells (icl A) 115 (w.next + 1) 0 0)
  simp -dsimp -implicitDefEqProofs (maxSteps := 2000000) (disch := first | assumption | omega | (simp only [nx]; omega) | ((repeat refine Fresh.push ?_ _); assumption) | (simp only [smA]; done) | (simp [oneCell, AW.next_push]; done) | fail) only [go_sem, Nat.reduceEqDiff, reduceIte, Nat.reduceAdd, Int.toNat_natCast, Nat.add_zero, Owes_true, Tryz.results69, e1, e2, e3, e5, e14, hlt, hload, hst, hload2]
  exact ⟨A, rfl, hA.labs, ⟨S5.k0.trans (m6.keep (fun j q => by omega) S5.k0.next), m6.fresh⟩⟩
end Go.Proofs

namespace Go.Proofs
open Go Go.RowKit Go.Sim
set_option maxRecDepth 100000
theorem Tryz.ty119 : (prg Tryz.prog).ty 119 = some ⟨true, (.struct #[{ name := "Watch", type := 46, offset := 0, embedded := true, tag := "", pkgPath := "", byteOffset := 0 }, { name := "dealings", type := 43, offset := 4, embedded := false, tag := "", pkgPath := "lombard/till", byteOffset := 32 }, { name := "least", type := 115, offset := 5, embedded := false, tag := "", pkgPath := "lombard/till", byteOffset := 56 }]), 29, 248, .agg #[.int .i64 0, .int .i64 0, .int .i64 0, .int .i64 0, .slice none 0 0, .int .i64 0, .int .i64 0, .int .i64 0, .int .i64 0, .int .i64 0, .int .i64 0, .int .i64 0, .int .i64 0, .int .i64 0, .int .i64 0, .int .i64 0, .int .i64 0, .int .i64 0, .int .i64 0, .int .i64 0, .int .i64 0, .int .i64 0, .int .i64 0, .int .i64 0, .int .i64 0, .int .i64 0, .int .i64 0, .int .i64 0, .int .i64 0]⟩ := by kernel_rfl
attribute [go_sem] Tryz.ty119
theorem Tryz.ty123 : (prg Tryz.prog).ty 123 = some ⟨true, (.struct #[{ name := "all", type := 22, offset := 0, embedded := false, tag := "", pkgPath := "lombard/till", byteOffset := 0 }, { name := "small", type := 22, offset := 1, embedded := false, tag := "", pkgPath := "lombard/till", byteOffset := 24 }, { name := "sum", type := 3, offset := 2, embedded := false, tag := "", pkgPath := "lombard/till", byteOffset := 48 }]), 3, 56, .agg #[.slice none 0 0, .slice none 0 0, .int .i64 0]⟩ := by kernel_rfl
attribute [go_sem] Tryz.ty123
theorem Tryz.ty50 : (prg Tryz.prog).ty 50 = some ⟨false, (.slice 54), 1, 24, .slice none 0 0⟩ := by kernel_rfl
attribute [go_sem] Tryz.ty50
theorem Tryz.ty54 : (prg Tryz.prog).ty 54 = some ⟨true, (.struct #[{ name := "Person", type := 3, offset := 0, embedded := false, tag := "", pkgPath := "", byteOffset := 0 }, { name := "Dealing", type := 3, offset := 1, embedded := false, tag := "", pkgPath := "", byteOffset := 8 }, { name := "Sum", type := 3, offset := 2, embedded := false, tag := "", pkgPath := "", byteOffset := 16 }]), 3, 24, .agg #[.int .i64 0, .int .i64 0, .int .i64 0]⟩ := by kernel_rfl
attribute [go_sem] Tryz.ty54
theorem Tryz.ty74 : (prg Tryz.prog).ty 74 = some ⟨true, (.array 4 3), 4, 32, .agg #[.int .i64 0, .int .i64 0, .int .i64 0, .int .i64 0]⟩ := by kernel_rfl
attribute [go_sem] Tryz.ty74
theorem Tryz.ty48 : (prg Tryz.prog).ty 48 = some ⟨true, (.struct #[{ name := "L", type := 43, offset := 0, embedded := false, tag := "", pkgPath := "", byteOffset := 0 }, { name := "Links", type := 44, offset := 1, embedded := false, tag := "", pkgPath := "", byteOffset := 24 }, { name := "W", type := 46, offset := 2, embedded := false, tag := "", pkgPath := "", byteOffset := 48 }]), 6, 80, .agg #[.slice none 0 0, .slice none 0 0, .int .i64 0, .int .i64 0, .int .i64 0, .int .i64 0]⟩ := by kernel_rfl
attribute [go_sem] Tryz.ty48
theorem Tryz.bd119 (t : Tmps) (w : AW) (l : List (Nat × Operand)) : fast (prg Tryz.prog) t w (.build 119 ⟨l⟩) = bldQ [(0, 4), (4, 1), (5, 24)] [.int .i64 0, .int .i64 0, .int .i64 0, .int .i64 0, .slice none 0 0, .int .i64 0, .int .i64 0, .int .i64 0, .int .i64 0, .int .i64 0, .int .i64 0, .int .i64 0, .int .i64 0, .int .i64 0, .int .i64 0, .int .i64 0, .int .i64 0, .int .i64 0, .int .i64 0, .int .i64 0, .int .i64 0, .int .i64 0, .int .i64 0, .int .i64 0, .int .i64 0, .int .i64 0, .int .i64 0, .int .i64 0, .int .i64 0] (l.map fun p => (p.1, ev t p.2)) := fast_build (zs := [.int .i64 0, .int .i64 0, .int .i64 0, .int .i64 0, .slice none 0 0, .int .i64 0, .int .i64 0, .int .i64 0, .int .i64 0, .int .i64 0, .int .i64 0, .int .i64 0, .int .i64 0, .int .i64 0, .int .i64 0, .int .i64 0, .int .i64 0, .int .i64 0, .int .i64 0, .int .i64 0, .int .i64 0, .int .i64 0, .int .i64 0, .int .i64 0, .int .i64 0, .int .i64 0, .int .i64 0, .int .i64 0, .int .i64 0]) Tryz.ty119 (by kernel_rfl)
attribute [go_sem] Tryz.bd119
theorem Tryz.fa119x0 (t : Tmps) (w : AW) (x : Operand) : fast (prg Tryz.prog) t w (.fieldAddr 119 x 0) = fieldOff (ev t x) 0 := fast_fieldAddr (fd := { name := "Watch", type := 46, offset := 0, embedded := true, tag := "", pkgPath := "", byteOffset := 0 }) Tryz.ty119 rfl Tryz.ty46 rfl
attribute [go_sem] Tryz.fa119x0
theorem Tryz.fa119x1 (t : Tmps) (w : AW) (x : Operand) : fast (prg Tryz.prog) t w (.fieldAddr 119 x 1) = fieldOff (ev t x) 4 := fast_fieldAddr (fd := { name := "dealings", type := 43, offset := 4, embedded := false, tag := "", pkgPath := "lombard/till", byteOffset := 32 }) Tryz.ty119 rfl Tryz.ty43 rfl
attribute [go_sem] Tryz.fa119x1
theorem Tryz.fa119x2 (t : Tmps) (w : AW) (x : Operand) : fast (prg Tryz.prog) t w (.fieldAddr 119 x 2) = fieldOff (ev t x) 5 := fast_fieldAddr (fd := { name := "least", type := 115, offset := 5, embedded := false, tag := "", pkgPath := "lombard/till", byteOffset := 56 }) Tryz.ty119 rfl Tryz.ty115 rfl
attribute [go_sem] Tryz.fa119x2
theorem Tryz.fa123x0 (t : Tmps) (w : AW) (x : Operand) : fast (prg Tryz.prog) t w (.fieldAddr 123 x 0) = fieldOff (ev t x) 0 := fast_fieldAddr (fd := { name := "all", type := 22, offset := 0, embedded := false, tag := "", pkgPath := "lombard/till", byteOffset := 0 }) Tryz.ty123 rfl Tryz.ty22 rfl
attribute [go_sem] Tryz.fa123x0
theorem Tryz.fa123x1 (t : Tmps) (w : AW) (x : Operand) : fast (prg Tryz.prog) t w (.fieldAddr 123 x 1) = fieldOff (ev t x) 1 := fast_fieldAddr (fd := { name := "small", type := 22, offset := 1, embedded := false, tag := "", pkgPath := "lombard/till", byteOffset := 24 }) Tryz.ty123 rfl Tryz.ty22 rfl
attribute [go_sem] Tryz.fa123x1
theorem Tryz.fa123x2 (t : Tmps) (w : AW) (x : Operand) : fast (prg Tryz.prog) t w (.fieldAddr 123 x 2) = fieldOff (ev t x) 2 := fast_fieldAddr (fd := { name := "sum", type := 3, offset := 2, embedded := false, tag := "", pkgPath := "lombard/till", byteOffset := 48 }) Tryz.ty123 rfl Tryz.ty3 rfl
attribute [go_sem] Tryz.fa123x2
theorem Tryz.bd54 (t : Tmps) (w : AW) (l : List (Nat × Operand)) : fast (prg Tryz.prog) t w (.build 54 ⟨l⟩) = bldQ [(0, 1), (1, 1), (2, 1)] [.int .i64 0, .int .i64 0, .int .i64 0] (l.map fun p => (p.1, ev t p.2)) := fast_build (zs := [.int .i64 0, .int .i64 0, .int .i64 0]) Tryz.ty54 (by kernel_rfl)
attribute [go_sem] Tryz.bd54
theorem Tryz.fa48x0 (t : Tmps) (w : AW) (x : Operand) : fast (prg Tryz.prog) t w (.fieldAddr 48 x 0) = fieldOff (ev t x) 0 := fast_fieldAddr (fd := { name := "L", type := 43, offset := 0, embedded := false, tag := "", pkgPath := "", byteOffset := 0 }) Tryz.ty48 rfl Tryz.ty43 rfl
attribute [go_sem] Tryz.fa48x0
theorem Tryz.fa48x1 (t : Tmps) (w : AW) (x : Operand) : fast (prg Tryz.prog) t w (.fieldAddr 48 x 1) = fieldOff (ev t x) 1 := fast_fieldAddr (fd := { name := "Links", type := 44, offset := 1, embedded := false, tag := "", pkgPath := "", byteOffset := 24 }) Tryz.ty48 rfl Tryz.ty44 rfl
attribute [go_sem] Tryz.fa48x1
theorem Tryz.fa48x2 (t : Tmps) (w : AW) (x : Operand) : fast (prg Tryz.prog) t w (.fieldAddr 48 x 2) = fieldOff (ev t x) 2 := fast_fieldAddr (fd := { name := "W", type := 46, offset := 2, embedded := false, tag := "", pkgPath := "", byteOffset := 48 }) Tryz.ty48 rfl Tryz.ty46 rfl
attribute [go_sem] Tryz.fa48x2
end Go.Proofs
