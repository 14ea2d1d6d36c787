/- This program: its code, contracts, numbers, part 3. -/
import Derived.Test.YtnbfkakjdifcpaaGreatPaa
import Derived.Test.YtnbfkakjdifcpaaGreatNa
import Derived.Test.YtnbfkakjdifcpaaGreatPab
set_option linter.unusedVariables false
set_option linter.unusedSimpArgs false
namespace Go.Proofs
open Go Go.RowKit Go.Sim
set_option maxRecDepth 100000
def Tryz.s39 : SC := (.seq (.ops false [⟨⟨(some 6),.assign (.const (.bool false)),4,"",⟨[]⟩,none⟩,none,false⟩]) (.seq (.ops false [⟨⟨(some 7),.move (.tmp 0),3,"",⟨[]⟩,none⟩,none,false⟩,⟨⟨(some 8),.move (.tmp 1),3,"",⟨[]⟩,none⟩,none,false⟩,⟨⟨(some 9),.binOp .leq 3 (.tmp 7) (.tmp 8) 3,4,"",⟨[]⟩,none⟩,none,false⟩,⟨⟨(some 10),.move (.tmp 9),4,"",⟨[]⟩,none⟩,none,false⟩,⟨⟨(some 11),.move (.tmp 1),3,"",⟨[]⟩,none⟩,some ((some 10),true),false⟩,⟨⟨(some 12),.move (.tmp 2),3,"",⟨[]⟩,none⟩,some ((some 10),true),false⟩,⟨⟨(some 13),.binOp .leq 3 (.tmp 11) (.tmp 12) 3,4,"",⟨[]⟩,none⟩,some ((some 10),true),false⟩,⟨⟨(some 14),.pick (.tmp 10) (.tmp 13) (.const (.bool false)),4,"",⟨[]⟩,none⟩,none,false⟩,⟨⟨(some 6),.assign (.tmp 14),4,"",⟨[]⟩,none⟩,none,false⟩]) .ret))
theorem Tryz.s39_eq : Tryz.f39.body.map sOf = some Tryz.s39 := by kernel_rfl
end Go.Proofs

namespace Go.Proofs
open Go Go.RowKit Go.Sim
set_option maxRecDepth 100000
theorem From_ok (a n b : Int) (w : AW) : CallT Tryz.prog Tryz.T1 (.fn (.func 39) #[]) #[.int .i64 a, .int .i64 n, .int .i64 b] w (Ret (.bool (inR a n b)) fun w' => w = w') := by
  refine callT_code rfl Tryz.func39 rfl Tryz.s39_eq rfl ?_
  unfold Tryz.s39
  by_cases h : a ≤ n
  · simp -dsimp -implicitDefEqProofs (maxSteps := 2000000) (disch := first | assumption | omega | (simp only [nx]; omega) | ((repeat refine Fresh.push ?_ _); assumption) | (simp only [smA]; done) | (simp [oneCell, AW.next_push]; done) | fail) only [go_sem, Nat.reduceEqDiff, reduceIte, Nat.reduceAdd, Int.toNat_natCast, Nat.add_zero, Owes_true, Tryz.results39, h]
    exact ⟨by unfold inR; simp [h], rfl⟩
  · simp -dsimp -implicitDefEqProofs (maxSteps := 2000000) (disch := first | assumption | omega | (simp only [nx]; omega) | ((repeat refine Fresh.push ?_ _); assumption) | (simp only [smA]; done) | (simp [oneCell, AW.next_push]; done) | fail) only [go_sem, Nat.reduceEqDiff, reduceIte, Nat.reduceAdd, Int.toNat_natCast, Nat.add_zero, Owes_true, Tryz.results39, h]
    exact ⟨by unfold inR; simp [h], rfl⟩
end Go.Proofs

namespace Go.Proofs
open Go Go.RowKit Go.Sim
set_option maxRecDepth 100000
end Go.Proofs

namespace Go.Proofs
open Go Go.RowKit Go.Sim
set_option maxRecDepth 100000
end Go.Proofs

namespace Go.Proofs
open Go Go.RowKit Go.Sim
set_option maxRecDepth 100000
theorem same_sV (n : Nat) (p : Option Addr) (k c : Nat) : same (n + 1) (.slice p k c) (.slice p k c) = true := by
  cases p with
  | none => simp [same]
  | some a => obtain ⟨b, o, q⟩ := a; cases q <;> simp [same]
theorem same_str (p q r : Option Addr) (a b c d e f : Nat) : same 12 (.agg #[.slice p a d, .slice q b e, .slice r c f]) (.agg #[.slice p a d, .slice q b e, .slice r c f]) = true := by
  show same.all 11 [.slice p a d, .slice q b e, .slice r c f] [.slice p a d, .slice q b e, .slice r c f] = true
  simp only [same.all, same_sV 10, Bool.and_self]
end Go.Proofs

namespace Go.Proofs
open Go Go.RowKit Go.Sim
set_option maxRecDepth 100000
end Go.Proofs
