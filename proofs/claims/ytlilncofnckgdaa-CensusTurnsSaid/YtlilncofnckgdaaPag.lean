/- This program: its code, contracts, numbers, part 7. -/
import Derived.Test.YtlilncofnckgdaaPac
import Derived.Test.YtlilncofnckgdaaNa
import Derived.Test.YtlilncofnckgdaaPaf
import Derived.Test.YtlilncofnckgdaaPae
set_option linter.unusedVariables false
set_option linter.unusedSimpArgs false
namespace Go.Proofs
open Go Go.RowKit Go.Sim
set_option maxRecDepth 100000
def Try.s3 : SC := (.seq (.ops false [⟨⟨(some 3),.box 24 (.tmp 0),0,"",⟨[]⟩,none⟩,none,false⟩,⟨⟨(some 6),.assign (.const (.bool false)),4,"",⟨[]⟩,none⟩,none,false⟩]) (.seq (.ops false [⟨⟨(some 18),.load 24 (.tmp 3),24,"",⟨[]⟩,none⟩,none,false⟩,⟨⟨(some 19),.move (.tmp 1),22,"",⟨[]⟩,none⟩,none,false⟩,⟨⟨(some 20),.move (.tmp 2),22,"",⟨[]⟩,none⟩,none,false⟩,⟨⟨(some 21),.call ⟨.value (.func 16),⟨[(.tmp 18),(.tmp 19),(.tmp 20)]⟩,⟨[24,22,22]⟩⟩,26,"",⟨[]⟩,none⟩,none,false⟩,⟨⟨(some 17),.move (.tmp 21),26,"",⟨[]⟩,none⟩,none,false⟩,⟨⟨(some 22),.extract (.tmp 17) 0,3,"",⟨[]⟩,none⟩,none,false⟩,⟨⟨(some 23),.extract (.tmp 17) 1,3,"",⟨[]⟩,none⟩,none,false⟩,⟨⟨(some 24),.extract (.tmp 17) 2,25,"",⟨[]⟩,none⟩,none,false⟩,⟨⟨(some 7),.assign (.tmp 22),3,"",⟨[]⟩,none⟩,none,false⟩,⟨⟨(some 8),.assign (.tmp 23),3,"",⟨[]⟩,none⟩,none,false⟩,⟨⟨(some 9),.assign (.tmp 24),25,"",⟨[]⟩,none⟩,none,false⟩]) (.seq (.ops false [⟨⟨(some 26),.load 24 (.tmp 3),24,"",⟨[]⟩,none⟩,none,false⟩,⟨⟨(some 27),.move (.tmp 1),22,"",⟨[]⟩,none⟩,none,false⟩,⟨⟨(some 28),.move (.tmp 2),22,"",⟨[]⟩,none⟩,none,false⟩,⟨⟨(some 29),.call ⟨.value (.func 17),⟨[(.tmp 26),(.tmp 27),(.tmp 28)]⟩,⟨[24,22,22]⟩⟩,26,"",⟨[]⟩,none⟩,none,false⟩,⟨⟨(some 25),.move (.tmp 29),26,"",⟨[]⟩,none⟩,none,false⟩,⟨⟨(some 30),.extract (.tmp 25) 0,3,"",⟨[]⟩,none⟩,none,false⟩,⟨⟨(some 31),.extract (.tmp 25) 1,3,"",⟨[]⟩,none⟩,none,false⟩,⟨⟨(some 32),.extract (.tmp 25) 2,25,"",⟨[]⟩,none⟩,none,false⟩,⟨⟨(some 10),.assign (.tmp 30),3,"",⟨[]⟩,none⟩,none,false⟩,⟨⟨(some 11),.assign (.tmp 31),3,"",⟨[]⟩,none⟩,none,false⟩,⟨⟨(some 12),.assign (.tmp 32),25,"",⟨[]⟩,none⟩,none,false⟩]) (.seq (.seq (.ops true [⟨⟨(some 33),.move (.tmp 7),3,"",⟨[]⟩,none⟩,none,true⟩,⟨⟨(some 34),.move (.tmp 10),3,"",⟨[]⟩,none⟩,none,true⟩,⟨⟨(some 35),.binOp .neq 3 (.tmp 33) (.tmp 34) 3,4,"",⟨[]⟩,none⟩,none,true⟩,⟨⟨(some 36),.move (.tmp 35),4,"",⟨[]⟩,none⟩,none,true⟩,⟨⟨(some 37),.move (.tmp 8),3,"",⟨[]⟩,none⟩,some ((some 36),false),true⟩,⟨⟨(some 38),.move (.tmp 11),3,"",⟨[]⟩,none⟩,some ((some 36),false),true⟩,⟨⟨(some 39),.binOp .neq 3 (.tmp 37) (.tmp 38) 3,4,"",⟨[]⟩,none⟩,some ((some 36),false),true⟩,⟨⟨(some 40),.pick (.tmp 36) (.const (.bool true)) (.tmp 39),4,"",⟨[]⟩,none⟩,none,true⟩,⟨⟨(some 41),.move (.tmp 40),4,"",⟨[]⟩,none⟩,none,true⟩,⟨⟨(some 42),.move (.tmp 9),25,"",⟨[]⟩,none⟩,some ((some 41),false),true⟩,⟨⟨(some 43),.move (.tmp 12),25,"",⟨[]⟩,none⟩,some ((some 41),false),true⟩,⟨⟨(some 44),.binOp .neq 25 (.tmp 42) (.tmp 43) 25,4,"",⟨[]⟩,none⟩,some ((some 41),false),true⟩,⟨⟨(some 45),.pick (.tmp 41) (.const (.bool true)) (.tmp 44),4,"",⟨[]⟩,none⟩,none,true⟩,⟨⟨(some 46),.move (.tmp 45),4,"",⟨[]⟩,none⟩,none,true⟩,⟨⟨(some 47),.load 24 (.tmp 3),24,"",⟨[]⟩,none⟩,some ((some 46),false),true⟩,⟨⟨(some 49),.load 24 (.tmp 3),24,"",⟨[]⟩,none⟩,some ((some 46),false),true⟩,⟨⟨(some 48),.call ⟨.value (.func 18),⟨[(.tmp 47)]⟩,⟨[24]⟩⟩,25,"",⟨[]⟩,none⟩,some ((some 46),false),true⟩,⟨⟨(some 50),.call ⟨.value (.func 19),⟨[(.tmp 49)]⟩,⟨[24]⟩⟩,25,"",⟨[]⟩,none⟩,some ((some 46),false),false⟩,⟨⟨(some 51),.binOp .neq 25 (.tmp 48) (.tmp 50) 25,4,"",⟨[]⟩,none⟩,some ((some 46),false),true⟩,⟨⟨(some 52),.pick (.tmp 46) (.const (.bool true)) (.tmp 51),4,"",⟨[]⟩,none⟩,none,true⟩]) (.cond (.tmp 52) (.seq (.ops false [⟨⟨(some 6),.assign (.const (.bool false)),4,"",⟨[]⟩,none⟩,none,false⟩]) .ret) .skip)) (.seq (.ops false [⟨⟨(some 54),.load 24 (.tmp 3),24,"",⟨[]⟩,none⟩,none,false⟩,⟨⟨(some 55),.move (.tmp 1),22,"",⟨[]⟩,none⟩,none,false⟩,⟨⟨(some 56),.call ⟨.value (.func 20),⟨[(.tmp 54),(.tmp 55)]⟩,⟨[24,22]⟩⟩,29,"",⟨[]⟩,none⟩,none,false⟩,⟨⟨(some 53),.move (.tmp 56),29,"",⟨[]⟩,none⟩,none,false⟩,⟨⟨(some 57),.extract (.tmp 53) 0,22,"",⟨[]⟩,none⟩,none,false⟩,⟨⟨(some 58),.extract (.tmp 53) 1,3,"",⟨[]⟩,none⟩,none,false⟩,⟨⟨(some 59),.extract (.tmp 53) 2,3,"",⟨[]⟩,none⟩,none,false⟩,⟨⟨(some 60),.extract (.tmp 53) 3,25,"",⟨[]⟩,none⟩,none,false⟩,⟨⟨(some 13),.assign (.tmp 57),22,"",⟨[]⟩,none⟩,none,false⟩,⟨⟨(some 7),.assign (.tmp 58),3,"",⟨[]⟩,none⟩,none,false⟩,⟨⟨(some 8),.assign (.tmp 59),3,"",⟨[]⟩,none⟩,none,false⟩,⟨⟨(some 9),.assign (.tmp 60),25,"",⟨[]⟩,none⟩,none,false⟩]) (.seq (.ops false [⟨⟨(some 62),.load 24 (.tmp 3),24,"",⟨[]⟩,none⟩,none,false⟩,⟨⟨(some 63),.move (.tmp 1),22,"",⟨[]⟩,none⟩,none,false⟩,⟨⟨(some 64),.call ⟨.value (.func 21),⟨[(.tmp 62),(.tmp 63)]⟩,⟨[24,22]⟩⟩,29,"",⟨[]⟩,none⟩,none,false⟩,⟨⟨(some 61),.move (.tmp 64),29,"",⟨[]⟩,none⟩,none,false⟩,⟨⟨(some 65),.extract (.tmp 61) 0,22,"",⟨[]⟩,none⟩,none,false⟩,⟨⟨(some 66),.extract (.tmp 61) 1,3,"",⟨[]⟩,none⟩,none,false⟩,⟨⟨(some 67),.extract (.tmp 61) 2,3,"",⟨[]⟩,none⟩,none,false⟩,⟨⟨(some 68),.extract (.tmp 61) 3,25,"",⟨[]⟩,none⟩,none,false⟩,⟨⟨(some 14),.assign (.tmp 65),22,"",⟨[]⟩,none⟩,none,false⟩,⟨⟨(some 10),.assign (.tmp 66),3,"",⟨[]⟩,none⟩,none,false⟩,⟨⟨(some 11),.assign (.tmp 67),3,"",⟨[]⟩,none⟩,none,false⟩,⟨⟨(some 12),.assign (.tmp 68),25,"",⟨[]⟩,none⟩,none,false⟩]) (.seq (.seq (.ops false [⟨⟨(some 69),.move (.tmp 13),22,"",⟨[]⟩,none⟩,none,false⟩,⟨⟨(some 70),.move (.tmp 14),22,"",⟨[]⟩,none⟩,none,false⟩,⟨⟨(some 71),.call ⟨.value (.func 22),⟨[(.tmp 69),(.tmp 70)]⟩,⟨[22,22]⟩⟩,4,"",⟨[]⟩,none⟩,none,false⟩,⟨⟨(some 72),.unOp .not 4 (.tmp 71),4,"",⟨[]⟩,none⟩,none,false⟩,⟨⟨(some 73),.move (.tmp 72),4,"",⟨[]⟩,none⟩,none,false⟩,⟨⟨(some 74),.move (.tmp 7),3,"",⟨[]⟩,none⟩,some ((some 73),false),false⟩,⟨⟨(some 75),.move (.tmp 10),3,"",⟨[]⟩,none⟩,some ((some 73),false),false⟩,⟨⟨(some 76),.binOp .neq 3 (.tmp 74) (.tmp 75) 3,4,"",⟨[]⟩,none⟩,some ((some 73),false),false⟩,⟨⟨(some 77),.pick (.tmp 73) (.const (.bool true)) (.tmp 76),4,"",⟨[]⟩,none⟩,none,false⟩,⟨⟨(some 78),.move (.tmp 77),4,"",⟨[]⟩,none⟩,none,false⟩,⟨⟨(some 79),.move (.tmp 8),3,"",⟨[]⟩,none⟩,some ((some 78),false),false⟩,⟨⟨(some 80),.move (.tmp 11),3,"",⟨[]⟩,none⟩,some ((some 78),false),false⟩,⟨⟨(some 81),.binOp .neq 3 (.tmp 79) (.tmp 80) 3,4,"",⟨[]⟩,none⟩,some ((some 78),false),false⟩,⟨⟨(some 82),.pick (.tmp 78) (.const (.bool true)) (.tmp 81),4,"",⟨[]⟩,none⟩,none,false⟩,⟨⟨(some 83),.move (.tmp 82),4,"",⟨[]⟩,none⟩,none,false⟩,⟨⟨(some 84),.move (.tmp 9),25,"",⟨[]⟩,none⟩,some ((some 83),false),false⟩,⟨⟨(some 85),.move (.tmp 12),25,"",⟨[]⟩,none⟩,some ((some 83),false),false⟩,⟨⟨(some 86),.binOp .neq 25 (.tmp 84) (.tmp 85) 25,4,"",⟨[]⟩,none⟩,some ((some 83),false),false⟩,⟨⟨(some 87),.pick (.tmp 83) (.const (.bool true)) (.tmp 86),4,"",⟨[]⟩,none⟩,none,false⟩]) (.cond (.tmp 87) (.seq (.ops false [⟨⟨(some 6),.assign (.const (.bool false)),4,"",⟨[]⟩,none⟩,none,false⟩]) .ret) .skip)) (.seq (.ops false [⟨⟨(some 89),.load 24 (.tmp 3),24,"",⟨[]⟩,none⟩,none,false⟩,⟨⟨(some 90),.move (.tmp 1),22,"",⟨[]⟩,none⟩,none,false⟩,⟨⟨(some 91),.call ⟨.value (.func 23),⟨[(.tmp 89),(.tmp 90)]⟩,⟨[24,22]⟩⟩,32,"",⟨[]⟩,none⟩,none,false⟩,⟨⟨(some 88),.move (.tmp 91),32,"",⟨[]⟩,none⟩,none,false⟩,⟨⟨(some 92),.extract (.tmp 88) 0,4,"",⟨[]⟩,none⟩,none,false⟩,⟨⟨(some 93),.extract (.tmp 88) 1,25,"",⟨[]⟩,none⟩,none,false⟩,⟨⟨(some 15),.assign (.tmp 92),4,"",⟨[]⟩,none⟩,none,false⟩,⟨⟨(some 9),.assign (.tmp 93),25,"",⟨[]⟩,none⟩,none,false⟩]) (.seq (.ops false [⟨⟨(some 95),.load 24 (.tmp 3),24,"",⟨[]⟩,none⟩,none,false⟩,⟨⟨(some 96),.move (.tmp 1),22,"",⟨[]⟩,none⟩,none,false⟩,⟨⟨(some 97),.call ⟨.value (.func 24),⟨[(.tmp 95),(.tmp 96)]⟩,⟨[24,22]⟩⟩,32,"",⟨[]⟩,none⟩,none,false⟩,⟨⟨(some 94),.move (.tmp 97),32,"",⟨[]⟩,none⟩,none,false⟩,⟨⟨(some 98),.extract (.tmp 94) 0,4,"",⟨[]⟩,none⟩,none,false⟩,⟨⟨(some 99),.extract (.tmp 94) 1,25,"",⟨[]⟩,none⟩,none,false⟩,⟨⟨(some 16),.assign (.tmp 98),4,"",⟨[]⟩,none⟩,none,false⟩,⟨⟨(some 12),.assign (.tmp 99),25,"",⟨[]⟩,none⟩,none,false⟩]) (.seq (.ops false [⟨⟨(some 100),.move (.tmp 15),4,"",⟨[]⟩,none⟩,none,false⟩,⟨⟨(some 101),.move (.tmp 16),4,"",⟨[]⟩,none⟩,none,false⟩,⟨⟨(some 102),.binOp .eql 4 (.tmp 100) (.tmp 101) 4,4,"",⟨[]⟩,none⟩,none,false⟩,⟨⟨(some 103),.move (.tmp 102),4,"",⟨[]⟩,none⟩,none,false⟩,⟨⟨(some 104),.move (.tmp 9),25,"",⟨[]⟩,none⟩,some ((some 103),true),false⟩,⟨⟨(some 105),.move (.tmp 12),25,"",⟨[]⟩,none⟩,some ((some 103),true),false⟩,⟨⟨(some 106),.binOp .eql 25 (.tmp 104) (.tmp 105) 25,4,"",⟨[]⟩,none⟩,some ((some 103),true),false⟩,⟨⟨(some 107),.pick (.tmp 103) (.tmp 106) (.const (.bool false)),4,"",⟨[]⟩,none⟩,none,false⟩,⟨⟨(some 108),.move (.tmp 107),4,"",⟨[]⟩,none⟩,none,false⟩,⟨⟨(some 109),.call ⟨.value (.func 25),⟨[]⟩,⟨[]⟩⟩,4,"",⟨[]⟩,none⟩,some ((some 108),true),false⟩,⟨⟨(some 110),.pick (.tmp 108) (.tmp 109) (.const (.bool false)),4,"",⟨[]⟩,none⟩,none,false⟩,⟨⟨(some 6),.assign (.tmp 110),4,"",⟨[]⟩,none⟩,none,false⟩]) .ret))))))))))
def Try.s4 : SC := (.seq (.ops false [⟨⟨(some 1),.box 24 (.tmp 0),0,"",⟨[]⟩,none⟩,none,false⟩,⟨⟨(some 2),.assign (.const (.bool false)),4,"",⟨[]⟩,none⟩,none,false⟩]) (.seq (.ops false [⟨⟨(some 10),.load 24 (.tmp 1),24,"",⟨[]⟩,none⟩,none,false⟩,⟨⟨(some 11),.call ⟨.value (.func 26),⟨[(.tmp 10)]⟩,⟨[24]⟩⟩,36,"",⟨[]⟩,none⟩,none,false⟩,⟨⟨(some 9),.move (.tmp 11),36,"",⟨[]⟩,none⟩,none,false⟩,⟨⟨(some 12),.extract (.tmp 9) 0,22,"",⟨[]⟩,none⟩,none,false⟩,⟨⟨(some 13),.extract (.tmp 9) 1,3,"",⟨[]⟩,none⟩,none,false⟩,⟨⟨(some 14),.extract (.tmp 9) 2,25,"",⟨[]⟩,none⟩,none,false⟩,⟨⟨(some 3),.assign (.tmp 12),22,"",⟨[]⟩,none⟩,none,false⟩,⟨⟨(some 4),.assign (.tmp 13),3,"",⟨[]⟩,none⟩,none,false⟩,⟨⟨(some 5),.assign (.tmp 14),25,"",⟨[]⟩,none⟩,none,false⟩]) (.seq (.ops false [⟨⟨(some 16),.load 24 (.tmp 1),24,"",⟨[]⟩,none⟩,none,false⟩,⟨⟨(some 17),.call ⟨.value (.func 27),⟨[(.tmp 16)]⟩,⟨[24]⟩⟩,36,"",⟨[]⟩,none⟩,none,false⟩,⟨⟨(some 15),.move (.tmp 17),36,"",⟨[]⟩,none⟩,none,false⟩,⟨⟨(some 18),.extract (.tmp 15) 0,22,"",⟨[]⟩,none⟩,none,false⟩,⟨⟨(some 19),.extract (.tmp 15) 1,3,"",⟨[]⟩,none⟩,none,false⟩,⟨⟨(some 20),.extract (.tmp 15) 2,25,"",⟨[]⟩,none⟩,none,false⟩,⟨⟨(some 6),.assign (.tmp 18),22,"",⟨[]⟩,none⟩,none,false⟩,⟨⟨(some 7),.assign (.tmp 19),3,"",⟨[]⟩,none⟩,none,false⟩,⟨⟨(some 8),.assign (.tmp 20),25,"",⟨[]⟩,none⟩,none,false⟩]) (.seq (.ops false [⟨⟨(some 21),.move (.tmp 3),22,"",⟨[]⟩,none⟩,none,false⟩,⟨⟨(some 22),.move (.tmp 6),22,"",⟨[]⟩,none⟩,none,false⟩,⟨⟨(some 23),.call ⟨.value (.func 22),⟨[(.tmp 21),(.tmp 22)]⟩,⟨[22,22]⟩⟩,4,"",⟨[]⟩,none⟩,none,false⟩,⟨⟨(some 24),.move (.tmp 23),4,"",⟨[]⟩,none⟩,none,false⟩,⟨⟨(some 25),.move (.tmp 4),3,"",⟨[]⟩,none⟩,some ((some 24),true),false⟩,⟨⟨(some 26),.move (.tmp 7),3,"",⟨[]⟩,none⟩,some ((some 24),true),false⟩,⟨⟨(some 27),.binOp .eql 3 (.tmp 25) (.tmp 26) 3,4,"",⟨[]⟩,none⟩,some ((some 24),true),false⟩,⟨⟨(some 28),.pick (.tmp 24) (.tmp 27) (.const (.bool false)),4,"",⟨[]⟩,none⟩,none,false⟩,⟨⟨(some 29),.move (.tmp 28),4,"",⟨[]⟩,none⟩,none,false⟩,⟨⟨(some 30),.move (.tmp 5),25,"",⟨[]⟩,none⟩,some ((some 29),true),false⟩,⟨⟨(some 31),.move (.tmp 8),25,"",⟨[]⟩,none⟩,some ((some 29),true),false⟩,⟨⟨(some 32),.binOp .eql 25 (.tmp 30) (.tmp 31) 25,4,"",⟨[]⟩,none⟩,some ((some 29),true),false⟩,⟨⟨(some 33),.pick (.tmp 29) (.tmp 32) (.const (.bool false)),4,"",⟨[]⟩,none⟩,none,false⟩,⟨⟨(some 34),.move (.tmp 33),4,"",⟨[]⟩,none⟩,none,false⟩,⟨⟨(some 35),.call ⟨.value (.func 25),⟨[]⟩,⟨[]⟩⟩,4,"",⟨[]⟩,none⟩,some ((some 34),true),false⟩,⟨⟨(some 36),.pick (.tmp 34) (.tmp 35) (.const (.bool false)),4,"",⟨[]⟩,none⟩,none,false⟩,⟨⟨(some 2),.assign (.tmp 36),4,"",⟨[]⟩,none⟩,none,false⟩]) .ret))))
end Go.Proofs

namespace Go.Proofs
open Go Go.RowKit Go.Sim
set_option maxRecDepth 100000
end Go.Proofs

namespace Go.Proofs
open Go Go.RowKit Go.Sim
set_option maxRecDepth 100000
def zeros (n : Nat) : List Int := List.replicate n 0
theorem zeros_at (n i : Nat) : W (zeros n) i = 0 := by
  rcases Nat.lt_or_ge i n with q | q
  · rw [W_at (by simp [zeros]; exact q)]; simp [zeros]
  · exact W_out (by simp [zeros]; exact q)
theorem ms22 (n : Nat) (hn : n ≤ 1048576) : msQ (prg Try.prog) 22 (.int .i64 (n : Int)) (.int .i64 (n : Int)) = some ((zeros n).flatMap icells, 3, fun b => .slice (some ⟨b, 0, none⟩) n n) := by
  rw [msQ_le Try.ty22 Try.ty3 (Nat.le_refl _) hn (by omega) (by omega) rfl]
  have : (List.replicate n ((Value.int .i64 0).cells.toList)).flatten = (zeros n).flatMap icells := flat_rep (enc := icells) (0 : Int) n
  rw [this]
theorem arr_zeros {w : AW} (f : Fresh w) (n : Nat) (hn : n ≤ 1048576) : ArrOf (w.push (.cells ((zeros n).flatMap icells) 3 w.next 0 0)) 1 icells (.slice (some ⟨w.next, 0, none⟩) n n) (zeros n) := by
  have := Own.iarr (Own.new f 3 ((zeros n).flatMap icells)) (by simp [zeros]; omega)
  simpa [zeros] using this
end Go.Proofs

namespace Go.Proofs
open Go Go.RowKit Go.Sim
set_option maxRecDepth 100000
theorem Apnd.wle {w w' : AW} (h : Apnd w w') (f : Fresh w) : WLe w w' := fun j y hj => by
  by_cases q : j < w.next
  · rw [h.blk j q]; exact hj
  · rw [f.1 j (by omega)] at hj; cases hj
theorem vcells_all (l : List Value) : l.flatMap vcells = l := by
  induction l with
  | nil => rfl
  | cons x l ih => rw [List.flatMap_cons, ih]; rfl
theorem NumRows.first {w : AW} {v : Value} {LL : List (List Int)} (h : NumRows w v LL) (h1 : 1 ≤ LL.length) : ∃ (vs : List Value) (b o c : Nat), vs.length = LL.length ∧ v = .slice (some ⟨b, o, none⟩) LL.length c ∧ aFirst w 1 LL.length v = some vs ∧ (∀ x ∈ vs, oneCell x = true) ∧ ∀ (i : Nat) x L, vs[i]? = some x → LL[i]? = some L → ArrOf w 1 icells x L := by
  obtain ⟨vs, a, b, d⟩ := h
  obtain ⟨p, c, rfl, hc, _, hat⟩ := b.open
  obtain ⟨b1, o1, rfl, _, _⟩ := hat 0 (by omega)
  have hn := arr_new b (fun _ => rfl) (Nat.le_refl 1)
  rw [vcells_all] at hn
  rw [a] at hn ⊢
  refine ⟨vs, b1, o1, c, a, rfl, ?_, fun x hx => ?_, d⟩
  · unfold aNew at hn
    split at hn
    · rename_i l hq; rw [hq, hn]
    · split at hn
      · omega
      · cases hn
  · obtain ⟨i, hi, rfl⟩ := List.getElem_of_mem hx
    obtain ⟨_, _, e, _⟩ := (d i _ _ (List.getElem?_eq_getElem hi) (List.getElem?_eq_getElem (by omega))).open
    rw [e]; rfl
theorem AOwn.sameV {B : Nat} {w : AW} {e : TypeId} {size n : Nat} {v : Value} {cells : List Value} (h : AOwn B w e size v n cells) : same 12 v v = true := by
  rcases h with ⟨rfl, _⟩ | ⟨b, r, rfl, _⟩
  · rfl
  · exact same_slice _ _ _ _
theorem AOwn.len {B : Nat} {w : AW} {e : TypeId} {size n : Nat} {v : Value} {cells : List Value} (h : AOwn B w e size v n cells) : ∃ p c, v = .slice p n c := by
  rcases h with ⟨rfl, rfl, _⟩ | ⟨b, r, rfl, _⟩
  · exact ⟨_, _, rfl⟩
  · exact ⟨_, _, rfl⟩
def RowsR (B : Nat) (w : AW) (v : Value) (LL : List (List Int)) : Prop := ∃ vs : List Value, vs.length = LL.length ∧ AOwn B w 22 1 v LL.length vs ∧ (∀ x ∈ vs, oneCell x = true) ∧ ∀ (i : Nat) x L, vs[i]? = some x → LL[i]? = some L → ArrOf w 1 icells x L
theorem RowsR.nil (B : Nat) (w : AW) : RowsR B w (.slice none 0 0) [] := ⟨[], rfl, .inl ⟨rfl, rfl, rfl⟩, fun x h => (by cases h), fun i x L h => (by simp at h)⟩
theorem RowsR.weak {B C : Nat} {w : AW} {v : Value} {LL : List (List Int)} (h : RowsR B w v LL) (k : C ≤ B) : RowsR C w v LL := by
  obtain ⟨vs, a, b, c, d⟩ := h
  exact ⟨vs, a, AOwn.weak b k, c, d⟩
end Go.Proofs

namespace Go.Proofs
open Go Go.RowKit Go.Sim
set_option maxRecDepth 100000
theorem same_s12 (p : Option Addr) (n c : Nat) : same 12 (.slice p n c) (.slice p n c) = true := by
  cases p with
  | none => simp [same]
  | some a => obtain ⟨b, o, s⟩ := a; cases s <;> simp [same]
end Go.Proofs
