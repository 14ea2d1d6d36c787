/- This program: its code, contracts, numbers, part 3. -/
import Derived.Test.YtnbfkakjdifcpaaGreatPaa
import Derived.Test.YtnbfkakjdifcpaaGreatNa
import Derived.Test.YtnbfkakjdifcpaaGreatPab
set_option linter.unusedVariables false
set_option linter.unusedSimpArgs false
namespace Go.Proofs
open Go Go.RowKit Go.Sim
set_option maxRecDepth 100000
def Tryz.s15:SC:=(.seq (.ops false [zo (some 2) (.box 26 (.tmp 0)) 0,zo (some 4) (.assign (.const (.int .i64 0))) 3,zo (some 5) (.assign (.const (.int .i64 0))) 27]) (.seq (.ops false [zo (some 9) (.load 26 (.tmp 2)) 26,zo (some 10) (.move (.tmp 1)) 3,zo (some 11) (.call ⟨.value (.func 47),⟨[(.tmp 9),(.tmp 10)]⟩,⟨[26,3]⟩⟩) 81,zo (some 8) (.move (.tmp 11)) 81,zo (some 12) (.extract (.tmp 8) 0) 80,zo (some 13) (.extract (.tmp 8) 1) 27,zo (some 6) (.alloc 80) 0,zo none (.store 80 (.tmp 6) (.tmp 12)) 0,zo (some 7) (.assign (.tmp 13)) 27]) (.seq (.seq (.ops false [zo (some 14) (.move (.tmp 7)) 27,zo (some 15) (.binOp .neq 27 (.tmp 14) (.const (.int .i64 0)) 27) 4]) (.cond (.tmp 15) (.seq (.ops false [zo (some 16) (.move (.tmp 7)) 27,zo (some 4) (.assign (.const (.int .i64 0))) 3,zo (some 5) (.assign (.tmp 16)) 27]) .ret) .skip)) (.seq (.ops false [zo (some 17) (.load 80 (.tmp 6)) 80,zo (some 18) (.call ⟨.value (.func 48),⟨[(.tmp 17)]⟩,⟨[80]⟩⟩) 80,zo (some 19) (.field 80 (.tmp 18) 2) 78,zo (some 4) (.assign (.tmp 19)) 3,zo (some 5) (.assign (.const (.int .i64 0))) 27]) .ret))))
def Tryz.s47:SC:=(.seq (.ops false [zo (some 2) (.box 26 (.tmp 0)) 0,zo (some 4) (.alloc 80) 0,zo (some 5) (.assign (.const (.int .i64 0))) 27]) (.seq (.seq (.ops false [zo (some 7) (.load 26 (.tmp 2)) 26,zo (some 8) (.call ⟨.value (.func 17),⟨[(.tmp 7)]⟩,⟨[26]⟩⟩) 27,zo (some 6) (.assign (.tmp 8)) 27]) (.seq (.ops false [zo (some 9) (.move (.tmp 6)) 27,zo (some 10) (.binOp .neq 27 (.tmp 9) (.const (.int .i64 0)) 27) 4]) (.cond (.tmp 10) (.seq (.ops false [zo (some 11) (.build 80 ⟨[]⟩) 80,zo (some 12) (.move (.tmp 6)) 27,zo none (.store 80 (.tmp 4) (.tmp 11)) 0,zo (some 5) (.assign (.tmp 12)) 27]) .ret) .skip))) (.seq (.seq (.ops false [zo (some 13) (.move (.tmp 1)) 3,zo (some 14) (.fieldAddr 26 (.tmp 2) 2) 0,zo (some 15) (.load 24 (.tmp 14)) 24,zo (some 16) (.call ⟨.builtin .len,⟨[(.tmp 15)]⟩,⟨[24]⟩⟩) 3,zo (some 17) (.call ⟨.value (.func 54),⟨[(.tmp 13),(.tmp 16)]⟩,⟨[3,3]⟩⟩) 4,zo (some 18) (.unOp .not 4 (.tmp 17)) 4]) (.cond (.tmp 18) (.seq (.ops false [zo (some 19) (.build 80 ⟨[]⟩) 80,zo none (.store 80 (.tmp 4) (.tmp 19)) 0,zo (some 5) (.assign (.const (.int .i64 41))) 27]) .ret) .skip)) (.seq (.ops false [zo (some 20) (.load 26 (.tmp 2)) 26,zo (some 21) (.move (.tmp 1)) 3,zo (some 22) (.call ⟨.value (.func 76),⟨[(.tmp 20),(.tmp 21)]⟩,⟨[26,77]⟩⟩) 80,zo none (.store 80 (.tmp 4) (.tmp 22)) 0,zo (some 5) (.assign (.const (.int .i64 0))) 27]) .ret))))
def Tryz.s39:SC:=(.seq (.ops false [zo (some 6) (.assign (.const (.bool false))) 4]) (.seq (.ops false [zo (some 7) (.move (.tmp 0)) 3,zo (some 8) (.move (.tmp 1)) 3,zo (some 9) (.binOp .leq 3 (.tmp 7) (.tmp 8) 3) 4,zo (some 10) (.move (.tmp 9)) 4,zg (some 11) (.move (.tmp 1)) 3 10 true,zg (some 12) (.move (.tmp 2)) 3 10 true,zg (some 13) (.binOp .leq 3 (.tmp 11) (.tmp 12) 3) 4 10 true,zo (some 14) (.pick (.tmp 10) (.tmp 13) (.const (.bool false))) 4,zo (some 6) (.assign (.tmp 14)) 4]) .ret))
def Tryz.s40:SC:=(.seq (.ops false [zo (some 4) (.assign (.const (.bool false))) 4]) (.seq (.ops false [zo (some 5) (.move (.tmp 0)) 3,zo (some 6) (.move (.tmp 1)) 3,zo (some 7) (.binOp .shr 3 (.tmp 5) (.tmp 6) 3) 3,zo (some 8) (.binOp .rem 3 (.tmp 7) (.const (.int .i64 2)) 3) 3,zo (some 9) (.binOp .eql 3 (.tmp 8) (.const (.int .i64 1)) 3) 4,zo (some 4) (.assign (.tmp 9)) 4]) .ret))
def Tryz.s37:SC:=(.seq (.ops false [zo (some 4) (.assign (.const (.bool false))) 4]) (.seq (.ops false [zo (some 5) (.move (.tmp 0)) 3,zo (some 6) (.move (.tmp 1)) 3,zo (some 7) (.binOp .and 3 (.tmp 5) (.tmp 6) 3) 3,zo (some 8) (.move (.tmp 0)) 3,zo (some 9) (.binOp .eql 3 (.tmp 7) (.tmp 8) 3) 4,zo (some 4) (.assign (.tmp 9)) 4]) .ret))
theorem Tryz.s15_eq:Tryz.f15.body.map sOf=some Tryz.s15:=by kernel_rfl
theorem Tryz.s47_eq:Tryz.f47.body.map sOf=some Tryz.s47:=by kernel_rfl
theorem Tryz.s39_eq:Tryz.f39.body.map sOf=some Tryz.s39:=by kernel_rfl
theorem Tryz.s40_eq:Tryz.f40.body.map sOf=some Tryz.s40:=by kernel_rfl
theorem Tryz.s37_eq:Tryz.f37.body.map sOf=some Tryz.s37:=by kernel_rfl
end Go.Proofs

namespace Go.Proofs
open Go Go.RowKit Go.Sim
set_option maxRecDepth 100000
theorem From_ok (a n b:Int) (w:AW):CallT Tryz.prog Tryz.T1 (.fn (.func 39) #[]) #[.int .i64 a,.int .i64 n,.int .i64 b] w (Ret (.bool (inR a n b)) fun w'=>w=w'):=by
  refine callT_code rfl Tryz.func39 rfl Tryz.s39_eq rfl ?_
  delta Tryz.s39 zo zt zg zh
  by_cases h:a≤n
  · simp -dsimp -implicitDefEqProofs (maxSteps:=2000000) (disch:=first|assumption|omega|(simp only [nx];omega)|((repeat refine Fresh.push ?_ _);assumption)|(simp only [smA];done)|(simp [oneCell,AW.next_push];done)|fail) only [go_sem,Nat.reduceEqDiff,reduceIte,Nat.reduceAdd,Tryz.results39,h]
    exact ⟨by unfold inR;simp [h],rfl⟩
  · simp -dsimp -implicitDefEqProofs (maxSteps:=2000000) (disch:=first|assumption|omega|(simp only [nx];omega)|((repeat refine Fresh.push ?_ _);assumption)|(simp only [smA];done)|(simp [oneCell,AW.next_push];done)|fail) only [go_sem,Nat.reduceEqDiff,reduceIte,Nat.reduceAdd,Tryz.results39,h]
    exact ⟨by unfold inR;simp [h],rfl⟩
theorem Bit_ok (x k:Nat) (hx:x < 256) (hk:k≤8) (w:AW):CallT Tryz.prog Tryz.T1 (.fn (.func 40) #[]) #[.int .i64 (x:Int),.int .i64 (k:Int)] w (Ret (.bool (x.testBit k)) fun w'=>w=w'):=by
  have h0:¬ (k:Int) < 0:=by omega
  have hm:min k 64=k:=by omega
  have hsh:(x:Int).fdiv (2 ^ (min k 64))=((x / 2 ^ k:Nat):Int):=by
    rw [hm,Int.fdiv_eq_ediv_of_nonneg _ (by exact Int.pow_nonneg (by omega))]
    push_cast;rfl
  have htm:((x / 2 ^ k:Nat):Int).tmod 2=((x / 2 ^ k % 2:Nat):Int):=rfl
  have hle:x / 2 ^ k≤x:=Nat.div_le_self _ _
  have hb:decide (((x / 2 ^ k % 2:Nat):Int)=1)=x.testBit k:=by
    rw [← bit_is x k,Nat.and_one_is_mod]
  refine callT_code rfl Tryz.func40 rfl Tryz.s40_eq rfl ?_
  delta Tryz.s40 zo zt zg zh
  have hn2:¬ (2:Int)=0:=by omega
  simp -dsimp -implicitDefEqProofs (maxSteps:=2000000) (disch:=first|assumption|omega|(simp only [nx];omega)|((repeat refine Fresh.push ?_ _);assumption)|(simp only [smA];done)|(simp [oneCell,AW.next_push];done)|fail) only [go_sem,Nat.reduceEqDiff,reduceIte,Nat.reduceAdd,Tryz.results40,h0,hsh,htm,hb,hn2]
  exact ⟨rfl,rfl⟩
end Go.Proofs

namespace Go.Proofs
open Go Go.RowKit Go.Sim
set_option maxRecDepth 100000
end Go.Proofs

namespace Go.Proofs
open Go Go.RowKit Go.Sim
set_option maxRecDepth 100000
end Go.Proofs

namespace Go.Proofs
open Go Go.RowKit Go.Sim
set_option maxRecDepth 100000
theorem same_sV (n:Nat) (p:Option Addr) (k c:Nat):same (n+1) (.slice p k c) (.slice p k c)=true:=by
  cases p with
  | none=>simp [same]
  | some a=>obtain ⟨b,o,q⟩:=a;cases q <;> simp [same]
theorem same_str (p q r:Option Addr) (a b c d e f:Nat):same 12 (.agg #[.slice p a d,.slice q b e,.slice r c f]) (.agg #[.slice p a d,.slice q b e,.slice r c f])=true:=by
  show same.all 11 [.slice p a d,.slice q b e,.slice r c f] [.slice p a d,.slice q b e,.slice r c f]=true
  simp only [same.all,same_sV 10,Bool.and_self]
end Go.Proofs

namespace Go.Proofs
open Go Go.RowKit Go.Sim
set_option maxRecDepth 100000
end Go.Proofs
