/- This program: its code, contracts, numbers, part 3. -/
import Derived.Test.YtnbfkakjdifcpaaGreatPaa
import Derived.Test.YtnbfkakjdifcpaaGreatNa
import Derived.Test.YtnbfkakjdifcpaaGreatPab
set_option linter.unusedVariables false
set_option linter.unusedSimpArgs false
namespace Go.Proofs
open Go Go.RowKit Go.Sim
set_option maxRecDepth 100000
def Tryz.s39 : SC := (.seq (.ops false [⟨⟨(some 6),.assign (.const (.bool false)),4,"",⟨[]⟩,none⟩,none,false⟩]) (.seq (.ops false [⟨⟨(some 7),.move (.tmp 0),3,"",⟨[]⟩,none⟩,none,false⟩,⟨⟨(some 8),.move (.tmp 1),3,"",⟨[]⟩,none⟩,none,false⟩,⟨⟨(some 9),.binOp .leq 3 (.tmp 7) (.tmp 8) 3,4,"",⟨[]⟩,none⟩,none,false⟩,⟨⟨(some 10),.move (.tmp 9),4,"",⟨[]⟩,none⟩,none,false⟩,⟨⟨(some 11),.move (.tmp 1),3,"",⟨[]⟩,none⟩,some ((some 10),true),false⟩,⟨⟨(some 12),.move (.tmp 2),3,"",⟨[]⟩,none⟩,some ((some 10),true),false⟩,⟨⟨(some 13),.binOp .leq 3 (.tmp 11) (.tmp 12) 3,4,"",⟨[]⟩,none⟩,some ((some 10),true),false⟩,⟨⟨(some 14),.pick (.tmp 10) (.tmp 13) (.const (.bool false)),4,"",⟨[]⟩,none⟩,none,false⟩,⟨⟨(some 6),.assign (.tmp 14),4,"",⟨[]⟩,none⟩,none,false⟩]) .ret))
def Tryz.s40 : SC := (.seq (.ops false [⟨⟨(some 4),.assign (.const (.bool false)),4,"",⟨[]⟩,none⟩,none,false⟩]) (.seq (.ops false [⟨⟨(some 5),.move (.tmp 0),3,"",⟨[]⟩,none⟩,none,false⟩,⟨⟨(some 6),.move (.tmp 1),3,"",⟨[]⟩,none⟩,none,false⟩,⟨⟨(some 7),.binOp .shr 3 (.tmp 5) (.tmp 6) 3,3,"",⟨[]⟩,none⟩,none,false⟩,⟨⟨(some 8),.binOp .rem 3 (.tmp 7) (.const (.int .i64 2)) 3,3,"",⟨[]⟩,none⟩,none,false⟩,⟨⟨(some 9),.binOp .eql 3 (.tmp 8) (.const (.int .i64 1)) 3,4,"",⟨[]⟩,none⟩,none,false⟩,⟨⟨(some 4),.assign (.tmp 9),4,"",⟨[]⟩,none⟩,none,false⟩]) .ret))
def Tryz.s18_c8 : SC := (.seq (.ops false [⟨⟨(some 8),.assign (.const (.int .i64 0)),3,"",⟨[]⟩,none⟩,none,false⟩]) (.block 4 (.loop (.seq (.seq (.ops false [⟨⟨(some 103),.move (.tmp 8),3,"",⟨[]⟩,none⟩,none,false⟩,⟨⟨(some 104),.fieldAddr 71 (.tmp 7) 3,0,"",⟨[]⟩,none⟩,none,false⟩,⟨⟨(some 105),.load 24 (.tmp 104),24,"",⟨[]⟩,none⟩,none,false⟩,⟨⟨(some 106),.call ⟨.builtin .len,⟨[(.tmp 105)]⟩,⟨[24]⟩⟩,3,"",⟨[]⟩,none⟩,none,false⟩,⟨⟨(some 107),.binOp .lss 3 (.tmp 103) (.tmp 106) 3,4,"",⟨[]⟩,none⟩,none,false⟩]) (.cond (.tmp 107) .skip (.exit 4))) (.seq (.block 5 (.ops false [⟨⟨(some 110),.move (.tmp 3),4,"",⟨[]⟩,none⟩,none,false⟩,⟨⟨(some 111),.move (.tmp 110),4,"",⟨[]⟩,none⟩,none,false⟩,⟨⟨(some 112),.fieldAddr 71 (.tmp 7) 3,0,"",⟨[]⟩,none⟩,some ((some 111),true),false⟩,⟨⟨(some 113),.load 24 (.tmp 112),24,"",⟨[]⟩,none⟩,some ((some 111),true),false⟩,⟨⟨(some 114),.move (.tmp 8),3,"",⟨[]⟩,none⟩,some ((some 111),true),false⟩,⟨⟨(some 115),.indexAddr 24 (.tmp 113) (.tmp 114),0,"",⟨[]⟩,none⟩,some ((some 111),true),false⟩,⟨⟨(some 116),.load 3 (.tmp 115),3,"",⟨[]⟩,none⟩,some ((some 111),true),false⟩,⟨⟨(some 117),.call ⟨.value (.func 39),⟨[(.const (.int .i64 0)),(.tmp 116),(.const (.int .i64 255))]⟩,⟨[3,3,3]⟩⟩,4,"",⟨[]⟩,none⟩,some ((some 111),true),false⟩,⟨⟨(some 118),.pick (.tmp 111) (.tmp 117) (.const (.bool false)),4,"",⟨[]⟩,none⟩,none,false⟩,⟨⟨(some 3),.assign (.tmp 118),4,"",⟨[]⟩,none⟩,none,false⟩])) (.ops false [⟨⟨(some 108),.move (.tmp 8),3,"",⟨[]⟩,none⟩,none,false⟩,⟨⟨(some 109),.binOp .add 3 (.tmp 108) (.const (.int .i64 1)) 3,3,"",⟨[]⟩,none⟩,none,false⟩,⟨⟨(some 8),.assign (.tmp 109),3,"",⟨[]⟩,none⟩,none,false⟩]))))))
def Tryz.s18_c4 : SC := (.seq (.ops false [⟨⟨(some 4),.assign (.const (.int .i64 0)),3,"",⟨[]⟩,none⟩,none,false⟩]) (.block 0 (.loop (.seq (.seq (.ops false [⟨⟨(some 26),.move (.tmp 4),3,"",⟨[]⟩,none⟩,none,false⟩,⟨⟨(some 27),.fieldAddr 26 (.tmp 1) 0,0,"",⟨[]⟩,none⟩,none,false⟩,⟨⟨(some 28),.load 22 (.tmp 27),22,"",⟨[]⟩,none⟩,none,false⟩,⟨⟨(some 29),.call ⟨.builtin .len,⟨[(.tmp 28)]⟩,⟨[22]⟩⟩,3,"",⟨[]⟩,none⟩,none,false⟩,⟨⟨(some 30),.binOp .lss 3 (.tmp 26) (.tmp 29) 3,4,"",⟨[]⟩,none⟩,none,false⟩]) (.cond (.tmp 30) .skip (.exit 0))) (.seq (.block 1 (.seq (.ops false [⟨⟨(some 33),.fieldAddr 26 (.tmp 1) 0,0,"",⟨[]⟩,none⟩,none,false⟩,⟨⟨(some 34),.load 22 (.tmp 33),22,"",⟨[]⟩,none⟩,none,false⟩,⟨⟨(some 35),.move (.tmp 4),3,"",⟨[]⟩,none⟩,none,false⟩,⟨⟨(some 36),.indexAddr 22 (.tmp 34) (.tmp 35),0,"",⟨[]⟩,none⟩,none,false⟩,⟨⟨(some 37),.load 73 (.tmp 36),73,"",⟨[]⟩,none⟩,none,false⟩,⟨⟨(some 5),.alloc 73,0,"",⟨[]⟩,none⟩,none,false⟩,⟨⟨none,.store 73 (.tmp 5) (.tmp 37),0,"",⟨[]⟩,none⟩,none,false⟩]) (.ops false [⟨⟨(some 38),.move (.tmp 3),4,"",⟨[]⟩,none⟩,none,false⟩,⟨⟨(some 39),.move (.tmp 38),4,"",⟨[]⟩,none⟩,none,false⟩,⟨⟨(some 40),.fieldAddr 73 (.tmp 5) 0,0,"",⟨[]⟩,none⟩,some ((some 39),true),false⟩,⟨⟨(some 41),.load 3 (.tmp 40),3,"",⟨[]⟩,none⟩,some ((some 39),true),false⟩,⟨⟨(some 42),.call ⟨.value (.func 39),⟨[(.const (.int .i64 0)),(.tmp 41),(.const (.int .i64 16))]⟩,⟨[3,3,3]⟩⟩,4,"",⟨[]⟩,none⟩,some ((some 39),true),false⟩,⟨⟨(some 43),.pick (.tmp 39) (.tmp 42) (.const (.bool false)),4,"",⟨[]⟩,none⟩,none,false⟩,⟨⟨(some 44),.move (.tmp 43),4,"",⟨[]⟩,none⟩,none,false⟩,⟨⟨(some 45),.fieldAddr 73 (.tmp 5) 1,0,"",⟨[]⟩,none⟩,some ((some 44),true),false⟩,⟨⟨(some 46),.load 3 (.tmp 45),3,"",⟨[]⟩,none⟩,some ((some 44),true),false⟩,⟨⟨(some 47),.call ⟨.value (.func 39),⟨[(.const (.int .i64 0)),(.tmp 46),(.const (.int .i64 3))]⟩,⟨[3,3,3]⟩⟩,4,"",⟨[]⟩,none⟩,some ((some 44),true),false⟩,⟨⟨(some 48),.pick (.tmp 44) (.tmp 47) (.const (.bool false)),4,"",⟨[]⟩,none⟩,none,false⟩,⟨⟨(some 49),.move (.tmp 48),4,"",⟨[]⟩,none⟩,none,false⟩,⟨⟨(some 50),.fieldAddr 73 (.tmp 5) 2,0,"",⟨[]⟩,none⟩,some ((some 49),true),false⟩,⟨⟨(some 51),.load 3 (.tmp 50),3,"",⟨[]⟩,none⟩,some ((some 49),true),false⟩,⟨⟨(some 52),.call ⟨.value (.func 39),⟨[(.const (.int .i64 0)),(.tmp 51),(.const (.int .i64 255))]⟩,⟨[3,3,3]⟩⟩,4,"",⟨[]⟩,none⟩,some ((some 49),true),false⟩,⟨⟨(some 53),.pick (.tmp 49) (.tmp 52) (.const (.bool false)),4,"",⟨[]⟩,none⟩,none,false⟩,⟨⟨(some 3),.assign (.tmp 53),4,"",⟨[]⟩,none⟩,none,false⟩]))) (.ops false [⟨⟨(some 31),.move (.tmp 4),3,"",⟨[]⟩,none⟩,none,false⟩,⟨⟨(some 32),.binOp .add 3 (.tmp 31) (.const (.int .i64 1)) 3,3,"",⟨[]⟩,none⟩,none,false⟩,⟨⟨(some 4),.assign (.tmp 32),3,"",⟨[]⟩,none⟩,none,false⟩]))))))
def Tryz.s18 : SC := (.seq (.ops false [⟨⟨(some 1),.box 26 (.tmp 0),0,"",⟨[]⟩,none⟩,none,false⟩,⟨⟨(some 2),.assign (.const (.int .i64 0)),27,"",⟨[]⟩,none⟩,none,false⟩]) (.seq (.ops false [⟨⟨(some 10),.fieldAddr 26 (.tmp 1) 0,0,"",⟨[]⟩,none⟩,none,false⟩,⟨⟨(some 11),.load 22 (.tmp 10),22,"",⟨[]⟩,none⟩,none,false⟩,⟨⟨(some 12),.call ⟨.builtin .len,⟨[(.tmp 11)]⟩,⟨[22]⟩⟩,3,"",⟨[]⟩,none⟩,none,false⟩,⟨⟨(some 13),.call ⟨.value (.func 39),⟨[(.const (.int .i64 1)),(.tmp 12),(.const (.int .i64 6))]⟩,⟨[3,3,3]⟩⟩,4,"",⟨[]⟩,none⟩,none,false⟩,⟨⟨(some 14),.move (.tmp 13),4,"",⟨[]⟩,none⟩,none,false⟩,⟨⟨(some 15),.fieldAddr 26 (.tmp 1) 1,0,"",⟨[]⟩,none⟩,some ((some 14),true),false⟩,⟨⟨(some 16),.load 23 (.tmp 15),23,"",⟨[]⟩,none⟩,some ((some 14),true),false⟩,⟨⟨(some 17),.call ⟨.builtin .len,⟨[(.tmp 16)]⟩,⟨[23]⟩⟩,3,"",⟨[]⟩,none⟩,some ((some 14),true),false⟩,⟨⟨(some 18),.binOp .leq 3 (.tmp 17) (.const (.int .i64 10)) 3,4,"",⟨[]⟩,none⟩,some ((some 14),true),false⟩,⟨⟨(some 19),.pick (.tmp 14) (.tmp 18) (.const (.bool false)),4,"",⟨[]⟩,none⟩,none,false⟩,⟨⟨(some 20),.move (.tmp 19),4,"",⟨[]⟩,none⟩,none,false⟩,⟨⟨(some 21),.fieldAddr 26 (.tmp 1) 2,0,"",⟨[]⟩,none⟩,some ((some 20),true),false⟩,⟨⟨(some 22),.load 24 (.tmp 21),24,"",⟨[]⟩,none⟩,some ((some 20),true),false⟩,⟨⟨(some 23),.call ⟨.builtin .len,⟨[(.tmp 22)]⟩,⟨[24]⟩⟩,3,"",⟨[]⟩,none⟩,some ((some 20),true),false⟩,⟨⟨(some 24),.call ⟨.value (.func 39),⟨[(.const (.int .i64 2)),(.tmp 23),(.const (.int .i64 6))]⟩,⟨[3,3,3]⟩⟩,4,"",⟨[]⟩,none⟩,some ((some 20),true),false⟩,⟨⟨(some 25),.pick (.tmp 20) (.tmp 24) (.const (.bool false)),4,"",⟨[]⟩,none⟩,none,false⟩,⟨⟨(some 3),.assign (.tmp 25),4,"",⟨[]⟩,none⟩,none,false⟩]) (.seq Tryz.s18_c4 (.seq (.seq (.ops false [⟨⟨(some 6),.assign (.const (.int .i64 0)),3,"",⟨[]⟩,none⟩,none,false⟩]) (.block 2 (.loop (.seq (.seq (.ops false [⟨⟨(some 54),.move (.tmp 6),3,"",⟨[]⟩,none⟩,none,false⟩,⟨⟨(some 55),.fieldAddr 26 (.tmp 1) 1,0,"",⟨[]⟩,none⟩,none,false⟩,⟨⟨(some 56),.load 23 (.tmp 55),23,"",⟨[]⟩,none⟩,none,false⟩,⟨⟨(some 57),.call ⟨.builtin .len,⟨[(.tmp 56)]⟩,⟨[23]⟩⟩,3,"",⟨[]⟩,none⟩,none,false⟩,⟨⟨(some 58),.binOp .lss 3 (.tmp 54) (.tmp 57) 3,4,"",⟨[]⟩,none⟩,none,false⟩]) (.cond (.tmp 58) .skip (.exit 2))) (.seq (.block 3 (.seq (.ops false [⟨⟨(some 61),.fieldAddr 26 (.tmp 1) 1,0,"",⟨[]⟩,none⟩,none,false⟩,⟨⟨(some 62),.load 23 (.tmp 61),23,"",⟨[]⟩,none⟩,none,false⟩,⟨⟨(some 63),.move (.tmp 6),3,"",⟨[]⟩,none⟩,none,false⟩,⟨⟨(some 64),.indexAddr 23 (.tmp 62) (.tmp 63),0,"",⟨[]⟩,none⟩,none,false⟩,⟨⟨(some 65),.load 71 (.tmp 64),71,"",⟨[]⟩,none⟩,none,false⟩,⟨⟨(some 7),.alloc 71,0,"",⟨[]⟩,none⟩,none,false⟩,⟨⟨none,.store 71 (.tmp 7) (.tmp 65),0,"",⟨[]⟩,none⟩,none,false⟩]) (.seq (.ops false [⟨⟨(some 66),.move (.tmp 3),4,"",⟨[]⟩,none⟩,none,false⟩,⟨⟨(some 67),.move (.tmp 66),4,"",⟨[]⟩,none⟩,none,false⟩,⟨⟨(some 68),.fieldAddr 71 (.tmp 7) 0,0,"",⟨[]⟩,none⟩,some ((some 67),true),false⟩,⟨⟨(some 69),.load 3 (.tmp 68),3,"",⟨[]⟩,none⟩,some ((some 67),true),false⟩,⟨⟨(some 70),.fieldAddr 26 (.tmp 1) 0,0,"",⟨[]⟩,none⟩,some ((some 67),true),false⟩,⟨⟨(some 71),.load 22 (.tmp 70),22,"",⟨[]⟩,none⟩,some ((some 67),true),false⟩,⟨⟨(some 72),.call ⟨.builtin .len,⟨[(.tmp 71)]⟩,⟨[22]⟩⟩,3,"",⟨[]⟩,none⟩,some ((some 67),true),false⟩,⟨⟨(some 73),.binOp .sub 3 (.tmp 72) (.const (.int .i64 1)) 3,3,"",⟨[]⟩,none⟩,some ((some 67),true),false⟩,⟨⟨(some 74),.call ⟨.value (.func 39),⟨[(.const (.int .i64 0)),(.tmp 69),(.tmp 73)]⟩,⟨[3,3,3]⟩⟩,4,"",⟨[]⟩,none⟩,some ((some 67),true),false⟩,⟨⟨(some 75),.pick (.tmp 67) (.tmp 74) (.const (.bool false)),4,"",⟨[]⟩,none⟩,none,false⟩,⟨⟨(some 76),.move (.tmp 75),4,"",⟨[]⟩,none⟩,none,false⟩,⟨⟨(some 77),.fieldAddr 71 (.tmp 7) 1,0,"",⟨[]⟩,none⟩,some ((some 76),true),false⟩,⟨⟨(some 78),.load 3 (.tmp 77),3,"",⟨[]⟩,none⟩,some ((some 76),true),false⟩,⟨⟨(some 79),.fieldAddr 26 (.tmp 1) 0,0,"",⟨[]⟩,none⟩,some ((some 76),true),false⟩,⟨⟨(some 80),.load 22 (.tmp 79),22,"",⟨[]⟩,none⟩,some ((some 76),true),false⟩,⟨⟨(some 81),.call ⟨.builtin .len,⟨[(.tmp 80)]⟩,⟨[22]⟩⟩,3,"",⟨[]⟩,none⟩,some ((some 76),true),false⟩,⟨⟨(some 82),.binOp .sub 3 (.tmp 81) (.const (.int .i64 1)) 3,3,"",⟨[]⟩,none⟩,some ((some 76),true),false⟩,⟨⟨(some 83),.call ⟨.value (.func 39),⟨[(.const (.int .i64 0)),(.tmp 78),(.tmp 82)]⟩,⟨[3,3,3]⟩⟩,4,"",⟨[]⟩,none⟩,some ((some 76),true),false⟩,⟨⟨(some 84),.pick (.tmp 76) (.tmp 83) (.const (.bool false)),4,"",⟨[]⟩,none⟩,none,false⟩,⟨⟨(some 85),.move (.tmp 84),4,"",⟨[]⟩,none⟩,none,false⟩,⟨⟨(some 86),.fieldAddr 71 (.tmp 7) 0,0,"",⟨[]⟩,none⟩,some ((some 85),true),false⟩,⟨⟨(some 87),.load 3 (.tmp 86),3,"",⟨[]⟩,none⟩,some ((some 85),true),false⟩,⟨⟨(some 88),.fieldAddr 71 (.tmp 7) 1,0,"",⟨[]⟩,none⟩,some ((some 85),true),false⟩,⟨⟨(some 89),.load 3 (.tmp 88),3,"",⟨[]⟩,none⟩,some ((some 85),true),false⟩,⟨⟨(some 90),.binOp .neq 3 (.tmp 87) (.tmp 89) 3,4,"",⟨[]⟩,none⟩,some ((some 85),true),false⟩,⟨⟨(some 91),.pick (.tmp 85) (.tmp 90) (.const (.bool false)),4,"",⟨[]⟩,none⟩,none,false⟩,⟨⟨(some 92),.move (.tmp 91),4,"",⟨[]⟩,none⟩,none,false⟩,⟨⟨(some 93),.fieldAddr 71 (.tmp 7) 2,0,"",⟨[]⟩,none⟩,some ((some 92),true),false⟩,⟨⟨(some 94),.load 3 (.tmp 93),3,"",⟨[]⟩,none⟩,some ((some 92),true),false⟩,⟨⟨(some 95),.call ⟨.value (.func 39),⟨[(.const (.int .i64 1)),(.tmp 94),(.const (.int .i64 3))]⟩,⟨[3,3,3]⟩⟩,4,"",⟨[]⟩,none⟩,some ((some 92),true),false⟩,⟨⟨(some 96),.pick (.tmp 92) (.tmp 95) (.const (.bool false)),4,"",⟨[]⟩,none⟩,none,false⟩,⟨⟨(some 97),.move (.tmp 96),4,"",⟨[]⟩,none⟩,none,false⟩,⟨⟨(some 98),.fieldAddr 71 (.tmp 7) 3,0,"",⟨[]⟩,none⟩,some ((some 97),true),false⟩,⟨⟨(some 99),.load 24 (.tmp 98),24,"",⟨[]⟩,none⟩,some ((some 97),true),false⟩,⟨⟨(some 100),.call ⟨.builtin .len,⟨[(.tmp 99)]⟩,⟨[24]⟩⟩,3,"",⟨[]⟩,none⟩,some ((some 97),true),false⟩,⟨⟨(some 101),.call ⟨.value (.func 39),⟨[(.const (.int .i64 1)),(.tmp 100),(.const (.int .i64 3))]⟩,⟨[3,3,3]⟩⟩,4,"",⟨[]⟩,none⟩,some ((some 97),true),false⟩,⟨⟨(some 102),.pick (.tmp 97) (.tmp 101) (.const (.bool false)),4,"",⟨[]⟩,none⟩,none,false⟩,⟨⟨(some 3),.assign (.tmp 102),4,"",⟨[]⟩,none⟩,none,false⟩]) Tryz.s18_c8))) (.ops false [⟨⟨(some 59),.move (.tmp 6),3,"",⟨[]⟩,none⟩,none,false⟩,⟨⟨(some 60),.binOp .add 3 (.tmp 59) (.const (.int .i64 1)) 3,3,"",⟨[]⟩,none⟩,none,false⟩,⟨⟨(some 6),.assign (.tmp 60),3,"",⟨[]⟩,none⟩,none,false⟩])))))) (.seq (.seq (.ops false [⟨⟨(some 9),.assign (.const (.int .i64 0)),3,"",⟨[]⟩,none⟩,none,false⟩]) (.block 6 (.loop (.seq (.seq (.ops false [⟨⟨(some 119),.move (.tmp 9),3,"",⟨[]⟩,none⟩,none,false⟩,⟨⟨(some 120),.fieldAddr 26 (.tmp 1) 2,0,"",⟨[]⟩,none⟩,none,false⟩,⟨⟨(some 121),.load 24 (.tmp 120),24,"",⟨[]⟩,none⟩,none,false⟩,⟨⟨(some 122),.call ⟨.builtin .len,⟨[(.tmp 121)]⟩,⟨[24]⟩⟩,3,"",⟨[]⟩,none⟩,none,false⟩,⟨⟨(some 123),.binOp .lss 3 (.tmp 119) (.tmp 122) 3,4,"",⟨[]⟩,none⟩,none,false⟩]) (.cond (.tmp 123) .skip (.exit 6))) (.seq (.block 7 (.ops false [⟨⟨(some 126),.move (.tmp 3),4,"",⟨[]⟩,none⟩,none,false⟩,⟨⟨(some 127),.move (.tmp 126),4,"",⟨[]⟩,none⟩,none,false⟩,⟨⟨(some 128),.fieldAddr 26 (.tmp 1) 2,0,"",⟨[]⟩,none⟩,some ((some 127),true),false⟩,⟨⟨(some 129),.load 24 (.tmp 128),24,"",⟨[]⟩,none⟩,some ((some 127),true),false⟩,⟨⟨(some 130),.move (.tmp 9),3,"",⟨[]⟩,none⟩,some ((some 127),true),false⟩,⟨⟨(some 131),.indexAddr 24 (.tmp 129) (.tmp 130),0,"",⟨[]⟩,none⟩,some ((some 127),true),false⟩,⟨⟨(some 132),.load 3 (.tmp 131),3,"",⟨[]⟩,none⟩,some ((some 127),true),false⟩,⟨⟨(some 133),.call ⟨.value (.func 39),⟨[(.const (.int .i64 0)),(.tmp 132),(.const (.int .i64 255))]⟩,⟨[3,3,3]⟩⟩,4,"",⟨[]⟩,none⟩,some ((some 127),true),false⟩,⟨⟨(some 134),.pick (.tmp 127) (.tmp 133) (.const (.bool false)),4,"",⟨[]⟩,none⟩,none,false⟩,⟨⟨(some 3),.assign (.tmp 134),4,"",⟨[]⟩,none⟩,none,false⟩])) (.ops false [⟨⟨(some 124),.move (.tmp 9),3,"",⟨[]⟩,none⟩,none,false⟩,⟨⟨(some 125),.binOp .add 3 (.tmp 124) (.const (.int .i64 1)) 3,3,"",⟨[]⟩,none⟩,none,false⟩,⟨⟨(some 9),.assign (.tmp 125),3,"",⟨[]⟩,none⟩,none,false⟩])))))) (.seq (.seq (.ops false [⟨⟨(some 135),.move (.tmp 3),4,"",⟨[]⟩,none⟩,none,false⟩,⟨⟨(some 136),.unOp .not 4 (.tmp 135),4,"",⟨[]⟩,none⟩,none,false⟩]) (.cond (.tmp 136) (.seq (.ops false [⟨⟨(some 2),.assign (.const (.int .i64 40)),27,"",⟨[]⟩,none⟩,none,false⟩]) .ret) .skip)) (.seq (.ops false [⟨⟨(some 2),.assign (.const (.int .i64 0)),27,"",⟨[]⟩,none⟩,none,false⟩]) .ret)))))))
def Tryz.s91 : SC := (.seq (.ops false [⟨⟨(some 2),.assign (.const (.int .i64 0)),3,"",⟨[]⟩,none⟩,none,false⟩]) (.seq (.ops false [⟨⟨(some 3),.assign (.const (.int .i64 0)),3,"",⟨[]⟩,none⟩,none,false⟩]) (.seq (.seq (.ops false [⟨⟨(some 4),.assign (.const (.int .i64 0)),3,"",⟨[]⟩,none⟩,none,false⟩]) (.block 0 (.loop (.seq (.seq (.ops false [⟨⟨(some 5),.move (.tmp 4),3,"",⟨[]⟩,none⟩,none,false⟩,⟨⟨(some 6),.binOp .lss 3 (.tmp 5) (.const (.int .i64 6)) 3,4,"",⟨[]⟩,none⟩,none,false⟩]) (.cond (.tmp 6) .skip (.exit 0))) (.seq (.block 1 (.seq (.ops false [⟨⟨(some 9),.move (.tmp 0),3,"",⟨[]⟩,none⟩,none,false⟩,⟨⟨(some 10),.move (.tmp 4),3,"",⟨[]⟩,none⟩,none,false⟩,⟨⟨(some 11),.call ⟨.value (.func 40),⟨[(.tmp 9),(.tmp 10)]⟩,⟨[3,3]⟩⟩,4,"",⟨[]⟩,none⟩,none,false⟩]) (.cond (.tmp 11) (.ops false [⟨⟨(some 12),.move (.tmp 3),3,"",⟨[]⟩,none⟩,none,false⟩,⟨⟨(some 13),.binOp .add 3 (.tmp 12) (.const (.int .i64 1)) 3,3,"",⟨[]⟩,none⟩,none,false⟩,⟨⟨(some 3),.assign (.tmp 13),3,"",⟨[]⟩,none⟩,none,false⟩]) .skip))) (.ops false [⟨⟨(some 7),.move (.tmp 4),3,"",⟨[]⟩,none⟩,none,false⟩,⟨⟨(some 8),.binOp .add 3 (.tmp 7) (.const (.int .i64 1)) 3,3,"",⟨[]⟩,none⟩,none,false⟩,⟨⟨(some 4),.assign (.tmp 8),3,"",⟨[]⟩,none⟩,none,false⟩])))))) (.seq (.ops false [⟨⟨(some 14),.move (.tmp 3),3,"",⟨[]⟩,none⟩,none,false⟩,⟨⟨(some 2),.assign (.tmp 14),3,"",⟨[]⟩,none⟩,none,false⟩]) .ret))))
def Tryz.s93 : SC := (.seq (.ops false [⟨⟨(some 4),.assign (.const (.bool false)),4,"",⟨[]⟩,none⟩,none,false⟩]) (.seq (.seq (.ops false [⟨⟨(some 5),.assign (.const (.int .i64 0)),3,"",⟨[]⟩,none⟩,none,false⟩]) (.block 0 (.loop (.seq (.seq (.ops false [⟨⟨(some 6),.move (.tmp 5),3,"",⟨[]⟩,none⟩,none,false⟩,⟨⟨(some 7),.binOp .lss 3 (.tmp 6) (.const (.int .i64 8)) 3,4,"",⟨[]⟩,none⟩,none,false⟩]) (.cond (.tmp 7) .skip (.exit 0))) (.seq (.block 1 (.seq (.ops false [⟨⟨(some 10),.move (.tmp 1),3,"",⟨[]⟩,none⟩,none,false⟩,⟨⟨(some 11),.move (.tmp 5),3,"",⟨[]⟩,none⟩,none,false⟩,⟨⟨(some 12),.call ⟨.value (.func 40),⟨[(.tmp 10),(.tmp 11)]⟩,⟨[3,3]⟩⟩,4,"",⟨[]⟩,none⟩,none,false⟩,⟨⟨(some 13),.move (.tmp 12),4,"",⟨[]⟩,none⟩,none,false⟩,⟨⟨(some 14),.move (.tmp 0),3,"",⟨[]⟩,none⟩,some ((some 13),true),false⟩,⟨⟨(some 15),.move (.tmp 5),3,"",⟨[]⟩,none⟩,some ((some 13),true),false⟩,⟨⟨(some 16),.call ⟨.value (.func 40),⟨[(.tmp 14),(.tmp 15)]⟩,⟨[3,3]⟩⟩,4,"",⟨[]⟩,none⟩,some ((some 13),true),false⟩,⟨⟨(some 17),.unOp .not 4 (.tmp 16),4,"",⟨[]⟩,none⟩,some ((some 13),true),false⟩,⟨⟨(some 18),.pick (.tmp 13) (.tmp 17) (.const (.bool false)),4,"",⟨[]⟩,none⟩,none,false⟩]) (.cond (.tmp 18) (.seq (.ops false [⟨⟨(some 4),.assign (.const (.bool false)),4,"",⟨[]⟩,none⟩,none,false⟩]) .ret) .skip))) (.ops false [⟨⟨(some 8),.move (.tmp 5),3,"",⟨[]⟩,none⟩,none,false⟩,⟨⟨(some 9),.binOp .add 3 (.tmp 8) (.const (.int .i64 1)) 3,3,"",⟨[]⟩,none⟩,none,false⟩,⟨⟨(some 5),.assign (.tmp 9),3,"",⟨[]⟩,none⟩,none,false⟩])))))) (.seq (.ops false [⟨⟨(some 4),.assign (.const (.bool true)),4,"",⟨[]⟩,none⟩,none,false⟩]) .ret)))
def Tryz.s89 : SC := (.seq (.ops false [⟨⟨(some 4),.assign (.const (.int .i64 0)),3,"",⟨[]⟩,none⟩,none,false⟩]) (.seq (.ops false [⟨⟨(some 5),.assign (.const (.int .i64 0)),3,"",⟨[]⟩,none⟩,none,false⟩]) (.seq (.seq (.ops false [⟨⟨(some 6),.assign (.const (.int .i64 0)),3,"",⟨[]⟩,none⟩,none,false⟩]) (.block 0 (.loop (.seq (.seq (.ops false [⟨⟨(some 7),.move (.tmp 6),3,"",⟨[]⟩,none⟩,none,false⟩,⟨⟨(some 8),.binOp .lss 3 (.tmp 7) (.const (.int .i64 8)) 3,4,"",⟨[]⟩,none⟩,none,false⟩]) (.cond (.tmp 8) .skip (.exit 0))) (.seq (.block 1 (.seq (.ops false [⟨⟨(some 11),.move (.tmp 0),3,"",⟨[]⟩,none⟩,none,false⟩,⟨⟨(some 12),.move (.tmp 6),3,"",⟨[]⟩,none⟩,none,false⟩,⟨⟨(some 13),.call ⟨.value (.func 40),⟨[(.tmp 11),(.tmp 12)]⟩,⟨[3,3]⟩⟩,4,"",⟨[]⟩,none⟩,none,false⟩,⟨⟨(some 14),.move (.tmp 13),4,"",⟨[]⟩,none⟩,none,false⟩,⟨⟨(some 15),.move (.tmp 1),3,"",⟨[]⟩,none⟩,some ((some 14),false),false⟩,⟨⟨(some 16),.move (.tmp 6),3,"",⟨[]⟩,none⟩,some ((some 14),false),false⟩,⟨⟨(some 17),.call ⟨.value (.func 40),⟨[(.tmp 15),(.tmp 16)]⟩,⟨[3,3]⟩⟩,4,"",⟨[]⟩,none⟩,some ((some 14),false),false⟩,⟨⟨(some 18),.pick (.tmp 14) (.const (.bool true)) (.tmp 17),4,"",⟨[]⟩,none⟩,none,false⟩]) (.cond (.tmp 18) (.ops false [⟨⟨(some 19),.move (.tmp 5),3,"",⟨[]⟩,none⟩,none,false⟩,⟨⟨(some 20),.move (.tmp 6),3,"",⟨[]⟩,none⟩,none,false⟩,⟨⟨(some 21),.binOp .shl 3 (.const (.int .i64 1)) (.tmp 20) 3,3,"",⟨[]⟩,none⟩,none,false⟩,⟨⟨(some 22),.binOp .add 3 (.tmp 19) (.tmp 21) 3,3,"",⟨[]⟩,none⟩,none,false⟩,⟨⟨(some 5),.assign (.tmp 22),3,"",⟨[]⟩,none⟩,none,false⟩]) .skip))) (.ops false [⟨⟨(some 9),.move (.tmp 6),3,"",⟨[]⟩,none⟩,none,false⟩,⟨⟨(some 10),.binOp .add 3 (.tmp 9) (.const (.int .i64 1)) 3,3,"",⟨[]⟩,none⟩,none,false⟩,⟨⟨(some 6),.assign (.tmp 10),3,"",⟨[]⟩,none⟩,none,false⟩])))))) (.seq (.ops false [⟨⟨(some 23),.move (.tmp 5),3,"",⟨[]⟩,none⟩,none,false⟩,⟨⟨(some 4),.assign (.tmp 23),3,"",⟨[]⟩,none⟩,none,false⟩]) .ret))))
def Tryz.s114 : SC := (.seq (.ops false [⟨⟨(some 3),.box 26 (.tmp 0),0,"",⟨[]⟩,none⟩,none,false⟩,⟨⟨(some 6),.assign (.const (.int .i64 0)),3,"",⟨[]⟩,none⟩,none,false⟩]) (.seq (.ops false [⟨⟨(some 7),.assign (.const (.int .i64 0)),3,"",⟨[]⟩,none⟩,none,false⟩]) (.seq (.seq (.ops false [⟨⟨(some 8),.assign (.const (.int .i64 0)),3,"",⟨[]⟩,none⟩,none,false⟩]) (.block 0 (.loop (.seq (.seq (.ops false [⟨⟨(some 10),.move (.tmp 8),3,"",⟨[]⟩,none⟩,none,false⟩,⟨⟨(some 11),.fieldAddr 26 (.tmp 3) 2,0,"",⟨[]⟩,none⟩,none,false⟩,⟨⟨(some 12),.load 24 (.tmp 11),24,"",⟨[]⟩,none⟩,none,false⟩,⟨⟨(some 13),.call ⟨.builtin .len,⟨[(.tmp 12)]⟩,⟨[24]⟩⟩,3,"",⟨[]⟩,none⟩,none,false⟩,⟨⟨(some 14),.binOp .lss 3 (.tmp 10) (.tmp 13) 3,4,"",⟨[]⟩,none⟩,none,false⟩]) (.cond (.tmp 14) .skip (.exit 0))) (.seq (.block 1 (.seq (.ops false [⟨⟨(some 17),.move (.tmp 1),3,"",⟨[]⟩,none⟩,none,false⟩,⟨⟨(some 18),.move (.tmp 8),3,"",⟨[]⟩,none⟩,none,false⟩,⟨⟨(some 19),.call ⟨.value (.func 40),⟨[(.tmp 17),(.tmp 18)]⟩,⟨[3,3]⟩⟩,4,"",⟨[]⟩,none⟩,none,false⟩]) (.cond (.tmp 19) (.ops false [⟨⟨(some 20),.move (.tmp 7),3,"",⟨[]⟩,none⟩,none,false⟩,⟨⟨(some 21),.fieldAddr 26 (.tmp 3) 2,0,"",⟨[]⟩,none⟩,none,false⟩,⟨⟨(some 22),.load 24 (.tmp 21),24,"",⟨[]⟩,none⟩,none,false⟩,⟨⟨(some 23),.move (.tmp 8),3,"",⟨[]⟩,none⟩,none,false⟩,⟨⟨(some 24),.indexAddr 24 (.tmp 22) (.tmp 23),0,"",⟨[]⟩,none⟩,none,false⟩,⟨⟨(some 25),.load 3 (.tmp 24),3,"",⟨[]⟩,none⟩,none,false⟩,⟨⟨(some 26),.call ⟨.value (.func 89),⟨[(.tmp 20),(.tmp 25)]⟩,⟨[3,3]⟩⟩,3,"",⟨[]⟩,none⟩,none,false⟩,⟨⟨(some 7),.assign (.tmp 26),3,"",⟨[]⟩,none⟩,none,false⟩]) .skip))) (.ops false [⟨⟨(some 15),.move (.tmp 8),3,"",⟨[]⟩,none⟩,none,false⟩,⟨⟨(some 16),.binOp .add 3 (.tmp 15) (.const (.int .i64 1)) 3,3,"",⟨[]⟩,none⟩,none,false⟩,⟨⟨(some 8),.assign (.tmp 16),3,"",⟨[]⟩,none⟩,none,false⟩])))))) (.seq (.seq (.ops false [⟨⟨(some 9),.assign (.const (.int .i64 0)),3,"",⟨[]⟩,none⟩,none,false⟩]) (.block 2 (.loop (.seq (.seq (.ops false [⟨⟨(some 27),.move (.tmp 9),3,"",⟨[]⟩,none⟩,none,false⟩,⟨⟨(some 28),.fieldAddr 26 (.tmp 3) 0,0,"",⟨[]⟩,none⟩,none,false⟩,⟨⟨(some 29),.load 22 (.tmp 28),22,"",⟨[]⟩,none⟩,none,false⟩,⟨⟨(some 30),.call ⟨.builtin .len,⟨[(.tmp 29)]⟩,⟨[22]⟩⟩,3,"",⟨[]⟩,none⟩,none,false⟩,⟨⟨(some 31),.binOp .lss 3 (.tmp 27) (.tmp 30) 3,4,"",⟨[]⟩,none⟩,none,false⟩]) (.cond (.tmp 31) .skip (.exit 2))) (.seq (.block 3 (.seq (.ops false [⟨⟨(some 34),.move (.tmp 2),3,"",⟨[]⟩,none⟩,none,false⟩,⟨⟨(some 35),.move (.tmp 9),3,"",⟨[]⟩,none⟩,none,false⟩,⟨⟨(some 36),.call ⟨.value (.func 40),⟨[(.tmp 34),(.tmp 35)]⟩,⟨[3,3]⟩⟩,4,"",⟨[]⟩,none⟩,none,false⟩]) (.cond (.tmp 36) (.ops false [⟨⟨(some 37),.move (.tmp 7),3,"",⟨[]⟩,none⟩,none,false⟩,⟨⟨(some 38),.fieldAddr 26 (.tmp 3) 0,0,"",⟨[]⟩,none⟩,none,false⟩,⟨⟨(some 39),.load 22 (.tmp 38),22,"",⟨[]⟩,none⟩,none,false⟩,⟨⟨(some 40),.move (.tmp 9),3,"",⟨[]⟩,none⟩,none,false⟩,⟨⟨(some 41),.indexAddr 22 (.tmp 39) (.tmp 40),0,"",⟨[]⟩,none⟩,none,false⟩,⟨⟨(some 42),.fieldAddr 73 (.tmp 41) 2,0,"",⟨[]⟩,none⟩,none,false⟩,⟨⟨(some 43),.load 3 (.tmp 42),3,"",⟨[]⟩,none⟩,none,false⟩,⟨⟨(some 44),.call ⟨.value (.func 89),⟨[(.tmp 37),(.tmp 43)]⟩,⟨[3,3]⟩⟩,3,"",⟨[]⟩,none⟩,none,false⟩,⟨⟨(some 7),.assign (.tmp 44),3,"",⟨[]⟩,none⟩,none,false⟩]) .skip))) (.ops false [⟨⟨(some 32),.move (.tmp 9),3,"",⟨[]⟩,none⟩,none,false⟩,⟨⟨(some 33),.binOp .add 3 (.tmp 32) (.const (.int .i64 1)) 3,3,"",⟨[]⟩,none⟩,none,false⟩,⟨⟨(some 9),.assign (.tmp 33),3,"",⟨[]⟩,none⟩,none,false⟩])))))) (.seq (.ops false [⟨⟨(some 45),.move (.tmp 7),3,"",⟨[]⟩,none⟩,none,false⟩,⟨⟨(some 6),.assign (.tmp 45),3,"",⟨[]⟩,none⟩,none,false⟩]) .ret)))))
def Tryz.s86 : SC := (.seq (.ops false [⟨⟨(some 4),.box 26 (.tmp 0),0,"",⟨[]⟩,none⟩,none,false⟩,⟨⟨(some 8),.assign (.const (.bool false)),4,"",⟨[]⟩,none⟩,none,false⟩]) (.seq (.ops false [⟨⟨(some 12),.fieldAddr 26 (.tmp 4) 1,0,"",⟨[]⟩,none⟩,none,false⟩,⟨⟨(some 13),.load 23 (.tmp 12),23,"",⟨[]⟩,none⟩,none,false⟩,⟨⟨(some 14),.move (.tmp 3),3,"",⟨[]⟩,none⟩,none,false⟩,⟨⟨(some 15),.indexAddr 23 (.tmp 13) (.tmp 14),0,"",⟨[]⟩,none⟩,none,false⟩,⟨⟨(some 16),.load 71 (.tmp 15),71,"",⟨[]⟩,none⟩,none,false⟩,⟨⟨(some 9),.alloc 71,0,"",⟨[]⟩,none⟩,none,false⟩,⟨⟨none,.store 71 (.tmp 9) (.tmp 16),0,"",⟨[]⟩,none⟩,none,false⟩]) (.seq (.seq (.ops true [⟨⟨(some 17),.move (.tmp 1),3,"",⟨[]⟩,none⟩,none,true⟩,⟨⟨(some 19),.fieldAddr 71 (.tmp 9) 2,0,"",⟨[]⟩,none⟩,none,true⟩,⟨⟨(some 20),.load 3 (.tmp 19),3,"",⟨[]⟩,none⟩,none,true⟩,⟨⟨(some 18),.call ⟨.value (.func 91),⟨[(.tmp 17)]⟩,⟨[3]⟩⟩,3,"",⟨[]⟩,none⟩,none,true⟩,⟨⟨(some 21),.binOp .lss 3 (.tmp 18) (.tmp 20) 3,4,"",⟨[]⟩,none⟩,none,true⟩]) (.cond (.tmp 21) (.seq (.ops false [⟨⟨(some 8),.assign (.const (.bool false)),4,"",⟨[]⟩,none⟩,none,false⟩]) .ret) .skip)) (.seq (.ops false [⟨⟨(some 22),.load 26 (.tmp 4),26,"",⟨[]⟩,none⟩,none,false⟩,⟨⟨(some 23),.move (.tmp 1),3,"",⟨[]⟩,none⟩,none,false⟩,⟨⟨(some 24),.move (.tmp 2),3,"",⟨[]⟩,none⟩,none,false⟩,⟨⟨(some 25),.call ⟨.value (.func 114),⟨[(.tmp 22),(.tmp 23),(.tmp 24)]⟩,⟨[26,3,3]⟩⟩,3,"",⟨[]⟩,none⟩,none,false⟩,⟨⟨(some 10),.assign (.tmp 25),3,"",⟨[]⟩,none⟩,none,false⟩]) (.seq (.seq (.ops false [⟨⟨(some 11),.assign (.const (.int .i64 0)),3,"",⟨[]⟩,none⟩,none,false⟩]) (.block 0 (.loop (.seq (.seq (.ops false [⟨⟨(some 26),.move (.tmp 11),3,"",⟨[]⟩,none⟩,none,false⟩,⟨⟨(some 27),.fieldAddr 71 (.tmp 9) 3,0,"",⟨[]⟩,none⟩,none,false⟩,⟨⟨(some 28),.load 24 (.tmp 27),24,"",⟨[]⟩,none⟩,none,false⟩,⟨⟨(some 29),.call ⟨.builtin .len,⟨[(.tmp 28)]⟩,⟨[24]⟩⟩,3,"",⟨[]⟩,none⟩,none,false⟩,⟨⟨(some 30),.binOp .lss 3 (.tmp 26) (.tmp 29) 3,4,"",⟨[]⟩,none⟩,none,false⟩]) (.cond (.tmp 30) .skip (.exit 0))) (.seq (.block 1 (.seq (.ops false [⟨⟨(some 33),.move (.tmp 10),3,"",⟨[]⟩,none⟩,none,false⟩,⟨⟨(some 34),.fieldAddr 71 (.tmp 9) 3,0,"",⟨[]⟩,none⟩,none,false⟩,⟨⟨(some 35),.load 24 (.tmp 34),24,"",⟨[]⟩,none⟩,none,false⟩,⟨⟨(some 36),.move (.tmp 11),3,"",⟨[]⟩,none⟩,none,false⟩,⟨⟨(some 37),.indexAddr 24 (.tmp 35) (.tmp 36),0,"",⟨[]⟩,none⟩,none,false⟩,⟨⟨(some 38),.load 3 (.tmp 37),3,"",⟨[]⟩,none⟩,none,false⟩,⟨⟨(some 39),.call ⟨.value (.func 93),⟨[(.tmp 33),(.tmp 38)]⟩,⟨[3,3]⟩⟩,4,"",⟨[]⟩,none⟩,none,false⟩]) (.cond (.tmp 39) (.seq (.ops false [⟨⟨(some 8),.assign (.const (.bool true)),4,"",⟨[]⟩,none⟩,none,false⟩]) .ret) .skip))) (.ops false [⟨⟨(some 31),.move (.tmp 11),3,"",⟨[]⟩,none⟩,none,false⟩,⟨⟨(some 32),.binOp .add 3 (.tmp 31) (.const (.int .i64 1)) 3,3,"",⟨[]⟩,none⟩,none,false⟩,⟨⟨(some 11),.assign (.tmp 32),3,"",⟨[]⟩,none⟩,none,false⟩])))))) (.seq (.ops false [⟨⟨(some 8),.assign (.const (.bool false)),4,"",⟨[]⟩,none⟩,none,false⟩]) .ret))))))
def Tryz.s57 : SC := (.seq (.ops false [⟨⟨(some 4),.box 26 (.tmp 0),0,"",⟨[]⟩,none⟩,none,false⟩,⟨⟨(some 8),.assign (.const (.bool false)),4,"",⟨[]⟩,none⟩,none,false⟩]) (.seq (.ops false [⟨⟨(some 10),.fieldAddr 26 (.tmp 4) 1,0,"",⟨[]⟩,none⟩,none,false⟩,⟨⟨(some 11),.load 23 (.tmp 10),23,"",⟨[]⟩,none⟩,none,false⟩,⟨⟨(some 12),.move (.tmp 3),3,"",⟨[]⟩,none⟩,none,false⟩,⟨⟨(some 13),.indexAddr 23 (.tmp 11) (.tmp 12),0,"",⟨[]⟩,none⟩,none,false⟩,⟨⟨(some 14),.load 71 (.tmp 13),71,"",⟨[]⟩,none⟩,none,false⟩,⟨⟨(some 9),.alloc 71,0,"",⟨[]⟩,none⟩,none,false⟩,⟨⟨none,.store 71 (.tmp 9) (.tmp 14),0,"",⟨[]⟩,none⟩,none,false⟩]) (.seq (.ops true [⟨⟨(some 15),.move (.tmp 2),3,"",⟨[]⟩,none⟩,none,true⟩,⟨⟨(some 16),.fieldAddr 71 (.tmp 9) 0,0,"",⟨[]⟩,none⟩,none,true⟩,⟨⟨(some 17),.load 3 (.tmp 16),3,"",⟨[]⟩,none⟩,none,true⟩,⟨⟨(some 19),.move (.tmp 2),3,"",⟨[]⟩,none⟩,none,true⟩,⟨⟨(some 20),.fieldAddr 71 (.tmp 9) 1,0,"",⟨[]⟩,none⟩,none,true⟩,⟨⟨(some 21),.load 3 (.tmp 20),3,"",⟨[]⟩,none⟩,none,true⟩,⟨⟨(some 18),.call ⟨.value (.func 40),⟨[(.tmp 15),(.tmp 17)]⟩,⟨[3,3]⟩⟩,4,"",⟨[]⟩,none⟩,none,true⟩,⟨⟨(some 22),.call ⟨.value (.func 40),⟨[(.tmp 19),(.tmp 21)]⟩,⟨[3,3]⟩⟩,4,"",⟨[]⟩,none⟩,none,false⟩,⟨⟨(some 23),.binOp .neq 4 (.tmp 18) (.tmp 22) 4,4,"",⟨[]⟩,none⟩,none,true⟩,⟨⟨(some 24),.move (.tmp 23),4,"",⟨[]⟩,none⟩,none,true⟩,⟨⟨(some 25),.load 26 (.tmp 4),26,"",⟨[]⟩,none⟩,some ((some 24),true),true⟩,⟨⟨(some 26),.move (.tmp 1),3,"",⟨[]⟩,none⟩,some ((some 24),true),true⟩,⟨⟨(some 27),.move (.tmp 2),3,"",⟨[]⟩,none⟩,some ((some 24),true),true⟩,⟨⟨(some 28),.move (.tmp 3),3,"",⟨[]⟩,none⟩,some ((some 24),true),true⟩,⟨⟨(some 29),.call ⟨.value (.func 86),⟨[(.tmp 25),(.tmp 26),(.tmp 27),(.tmp 28)]⟩,⟨[26,3,3,3]⟩⟩,4,"",⟨[]⟩,none⟩,some ((some 24),true),false⟩,⟨⟨(some 30),.pick (.tmp 24) (.tmp 29) (.const (.bool false)),4,"",⟨[]⟩,none⟩,none,true⟩,⟨⟨(some 8),.assign (.tmp 30),4,"",⟨[]⟩,none⟩,none,true⟩]) .ret)))
def Tryz.s62 : SC := (.seq (.ops false [⟨⟨(some 3),.box 26 (.tmp 0),0,"",⟨[]⟩,none⟩,none,false⟩,⟨⟨(some 6),.assign (.const (.int .i64 0)),3,"",⟨[]⟩,none⟩,none,false⟩]) (.seq (.ops true [⟨⟨(some 7),.move (.tmp 1),3,"",⟨[]⟩,none⟩,none,true⟩,⟨⟨(some 8),.fieldAddr 26 (.tmp 3) 1,0,"",⟨[]⟩,none⟩,none,true⟩,⟨⟨(some 9),.load 23 (.tmp 8),23,"",⟨[]⟩,none⟩,none,true⟩,⟨⟨(some 10),.move (.tmp 2),3,"",⟨[]⟩,none⟩,none,true⟩,⟨⟨(some 11),.indexAddr 23 (.tmp 9) (.tmp 10),0,"",⟨[]⟩,none⟩,none,true⟩,⟨⟨(some 12),.fieldAddr 71 (.tmp 11) 0,0,"",⟨[]⟩,none⟩,none,true⟩,⟨⟨(some 13),.load 3 (.tmp 12),3,"",⟨[]⟩,none⟩,none,true⟩,⟨⟨(some 14),.binOp .shl 3 (.const (.int .i64 1)) (.tmp 13) 3,3,"",⟨[]⟩,none⟩,none,true⟩,⟨⟨(some 15),.fieldAddr 26 (.tmp 3) 1,0,"",⟨[]⟩,none⟩,none,true⟩,⟨⟨(some 16),.load 23 (.tmp 15),23,"",⟨[]⟩,none⟩,none,true⟩,⟨⟨(some 17),.move (.tmp 2),3,"",⟨[]⟩,none⟩,none,true⟩,⟨⟨(some 18),.indexAddr 23 (.tmp 16) (.tmp 17),0,"",⟨[]⟩,none⟩,none,true⟩,⟨⟨(some 19),.fieldAddr 71 (.tmp 18) 1,0,"",⟨[]⟩,none⟩,none,true⟩,⟨⟨(some 20),.load 3 (.tmp 19),3,"",⟨[]⟩,none⟩,none,true⟩,⟨⟨(some 21),.binOp .shl 3 (.const (.int .i64 1)) (.tmp 20) 3,3,"",⟨[]⟩,none⟩,none,true⟩,⟨⟨(some 22),.call ⟨.value (.func 89),⟨[(.tmp 14),(.tmp 21)]⟩,⟨[3,3]⟩⟩,3,"",⟨[]⟩,none⟩,none,true⟩,⟨⟨(some 23),.call ⟨.value (.func 89),⟨[(.tmp 7),(.tmp 22)]⟩,⟨[3,3]⟩⟩,3,"",⟨[]⟩,none⟩,none,false⟩,⟨⟨(some 6),.assign (.tmp 23),3,"",⟨[]⟩,none⟩,none,true⟩]) .ret))
def Tryz.s50 : SC := (.seq (.ops false [⟨⟨(some 2),.box 26 (.tmp 0),0,"",⟨[]⟩,none⟩,none,false⟩,⟨⟨(some 4),.assign (.const (.int .i64 0)),3,"",⟨[]⟩,none⟩,none,false⟩]) (.seq (.ops false [⟨⟨(some 5),.assign (.const (.int .i64 1)),3,"",⟨[]⟩,none⟩,none,false⟩]) (.seq (.seq (.ops false [⟨⟨(some 6),.assign (.const (.int .i64 0)),3,"",⟨[]⟩,none⟩,none,false⟩]) (.block 0 (.loop (.seq (.seq (.ops false [⟨⟨(some 7),.move (.tmp 6),3,"",⟨[]⟩,none⟩,none,false⟩,⟨⟨(some 8),.fieldAddr 26 (.tmp 2) 1,0,"",⟨[]⟩,none⟩,none,false⟩,⟨⟨(some 9),.load 23 (.tmp 8),23,"",⟨[]⟩,none⟩,none,false⟩,⟨⟨(some 10),.call ⟨.builtin .len,⟨[(.tmp 9)]⟩,⟨[23]⟩⟩,3,"",⟨[]⟩,none⟩,none,false⟩,⟨⟨(some 11),.binOp .lss 3 (.tmp 7) (.tmp 10) 3,4,"",⟨[]⟩,none⟩,none,false⟩]) (.cond (.tmp 11) .skip (.exit 0))) (.seq (.block 1 (.seq (.ops false [⟨⟨(some 14),.load 26 (.tmp 2),26,"",⟨[]⟩,none⟩,none,false⟩,⟨⟨(some 15),.move (.tmp 1),3,"",⟨[]⟩,none⟩,none,false⟩,⟨⟨(some 16),.move (.tmp 5),3,"",⟨[]⟩,none⟩,none,false⟩,⟨⟨(some 17),.move (.tmp 6),3,"",⟨[]⟩,none⟩,none,false⟩,⟨⟨(some 18),.call ⟨.value (.func 57),⟨[(.tmp 14),(.tmp 15),(.tmp 16),(.tmp 17)]⟩,⟨[26,3,3,3]⟩⟩,4,"",⟨[]⟩,none⟩,none,false⟩]) (.cond (.tmp 18) (.seq (.ops false [⟨⟨(some 19),.load 26 (.tmp 2),26,"",⟨[]⟩,none⟩,none,false⟩,⟨⟨(some 20),.move (.tmp 5),3,"",⟨[]⟩,none⟩,none,false⟩,⟨⟨(some 21),.move (.tmp 6),3,"",⟨[]⟩,none⟩,none,false⟩,⟨⟨(some 22),.call ⟨.value (.func 62),⟨[(.tmp 19),(.tmp 20),(.tmp 21)]⟩,⟨[26,3,3]⟩⟩,3,"",⟨[]⟩,none⟩,none,false⟩,⟨⟨(some 5),.assign (.tmp 22),3,"",⟨[]⟩,none⟩,none,false⟩]) (.ops false [⟨⟨(some 6),.assign (.const (.int .i64 (-1))),3,"",⟨[]⟩,none⟩,none,false⟩])) .skip))) (.ops false [⟨⟨(some 12),.move (.tmp 6),3,"",⟨[]⟩,none⟩,none,false⟩,⟨⟨(some 13),.binOp .add 3 (.tmp 12) (.const (.int .i64 1)) 3,3,"",⟨[]⟩,none⟩,none,false⟩,⟨⟨(some 6),.assign (.tmp 13),3,"",⟨[]⟩,none⟩,none,false⟩])))))) (.seq (.ops false [⟨⟨(some 23),.move (.tmp 5),3,"",⟨[]⟩,none⟩,none,false⟩,⟨⟨(some 4),.assign (.tmp 23),3,"",⟨[]⟩,none⟩,none,false⟩]) .ret))))
def Tryz.s3 : SC := (.seq (.ops false [⟨⟨(some 3),.box 26 (.tmp 0),0,"",⟨[]⟩,none⟩,none,false⟩,⟨⟨(some 6),.assign (.const (.bool false)),4,"",⟨[]⟩,none⟩,none,false⟩]) (.seq (.ops false [⟨⟨(some 14),.load 26 (.tmp 3),26,"",⟨[]⟩,none⟩,none,false⟩,⟨⟨(some 15),.move (.tmp 1),3,"",⟨[]⟩,none⟩,none,false⟩,⟨⟨(some 16),.call ⟨.value (.func 15),⟨[(.tmp 14),(.tmp 15)]⟩,⟨[26,3]⟩⟩,28,"",⟨[]⟩,none⟩,none,false⟩,⟨⟨(some 13),.move (.tmp 16),28,"",⟨[]⟩,none⟩,none,false⟩,⟨⟨(some 17),.extract (.tmp 13) 0,3,"",⟨[]⟩,none⟩,none,false⟩,⟨⟨(some 18),.extract (.tmp 13) 1,27,"",⟨[]⟩,none⟩,none,false⟩,⟨⟨(some 7),.assign (.tmp 17),3,"",⟨[]⟩,none⟩,none,false⟩,⟨⟨(some 8),.assign (.tmp 18),27,"",⟨[]⟩,none⟩,none,false⟩]) (.seq (.ops false [⟨⟨(some 20),.load 26 (.tmp 3),26,"",⟨[]⟩,none⟩,none,false⟩,⟨⟨(some 21),.move (.tmp 1),3,"",⟨[]⟩,none⟩,none,false⟩,⟨⟨(some 22),.call ⟨.value (.func 16),⟨[(.tmp 20),(.tmp 21)]⟩,⟨[26,3]⟩⟩,28,"",⟨[]⟩,none⟩,none,false⟩,⟨⟨(some 19),.move (.tmp 22),28,"",⟨[]⟩,none⟩,none,false⟩,⟨⟨(some 23),.extract (.tmp 19) 0,3,"",⟨[]⟩,none⟩,none,false⟩,⟨⟨(some 24),.extract (.tmp 19) 1,27,"",⟨[]⟩,none⟩,none,false⟩,⟨⟨(some 9),.assign (.tmp 23),3,"",⟨[]⟩,none⟩,none,false⟩,⟨⟨(some 10),.assign (.tmp 24),27,"",⟨[]⟩,none⟩,none,false⟩]) (.seq (.seq (.ops true [⟨⟨(some 25),.move (.tmp 7),3,"",⟨[]⟩,none⟩,none,true⟩,⟨⟨(some 26),.move (.tmp 9),3,"",⟨[]⟩,none⟩,none,true⟩,⟨⟨(some 27),.binOp .neq 3 (.tmp 25) (.tmp 26) 3,4,"",⟨[]⟩,none⟩,none,true⟩,⟨⟨(some 28),.move (.tmp 27),4,"",⟨[]⟩,none⟩,none,true⟩,⟨⟨(some 29),.move (.tmp 8),27,"",⟨[]⟩,none⟩,some ((some 28),false),true⟩,⟨⟨(some 30),.move (.tmp 10),27,"",⟨[]⟩,none⟩,some ((some 28),false),true⟩,⟨⟨(some 31),.binOp .neq 27 (.tmp 29) (.tmp 30) 27,4,"",⟨[]⟩,none⟩,some ((some 28),false),true⟩,⟨⟨(some 32),.pick (.tmp 28) (.const (.bool true)) (.tmp 31),4,"",⟨[]⟩,none⟩,none,true⟩,⟨⟨(some 33),.move (.tmp 32),4,"",⟨[]⟩,none⟩,none,true⟩,⟨⟨(some 34),.load 26 (.tmp 3),26,"",⟨[]⟩,none⟩,some ((some 33),false),true⟩,⟨⟨(some 36),.load 26 (.tmp 3),26,"",⟨[]⟩,none⟩,some ((some 33),false),true⟩,⟨⟨(some 35),.call ⟨.value (.func 17),⟨[(.tmp 34)]⟩,⟨[26]⟩⟩,27,"",⟨[]⟩,none⟩,some ((some 33),false),true⟩,⟨⟨(some 37),.call ⟨.value (.func 18),⟨[(.tmp 36)]⟩,⟨[26]⟩⟩,27,"",⟨[]⟩,none⟩,some ((some 33),false),false⟩,⟨⟨(some 38),.binOp .neq 27 (.tmp 35) (.tmp 37) 27,4,"",⟨[]⟩,none⟩,some ((some 33),false),true⟩,⟨⟨(some 39),.pick (.tmp 33) (.const (.bool true)) (.tmp 38),4,"",⟨[]⟩,none⟩,none,true⟩]) (.cond (.tmp 39) (.seq (.ops false [⟨⟨(some 6),.assign (.const (.bool false)),4,"",⟨[]⟩,none⟩,none,false⟩]) .ret) .skip)) (.seq (.ops false [⟨⟨(some 41),.load 26 (.tmp 3),26,"",⟨[]⟩,none⟩,none,false⟩,⟨⟨(some 42),.move (.tmp 1),3,"",⟨[]⟩,none⟩,none,false⟩,⟨⟨(some 43),.move (.tmp 2),3,"",⟨[]⟩,none⟩,none,false⟩,⟨⟨(some 44),.call ⟨.value (.func 19),⟨[(.tmp 41),(.tmp 42),(.tmp 43)]⟩,⟨[26,3,3]⟩⟩,31,"",⟨[]⟩,none⟩,none,false⟩,⟨⟨(some 40),.move (.tmp 44),31,"",⟨[]⟩,none⟩,none,false⟩,⟨⟨(some 45),.extract (.tmp 40) 0,4,"",⟨[]⟩,none⟩,none,false⟩,⟨⟨(some 46),.extract (.tmp 40) 1,27,"",⟨[]⟩,none⟩,none,false⟩,⟨⟨(some 11),.assign (.tmp 45),4,"",⟨[]⟩,none⟩,none,false⟩,⟨⟨(some 8),.assign (.tmp 46),27,"",⟨[]⟩,none⟩,none,false⟩]) (.seq (.ops false [⟨⟨(some 48),.load 26 (.tmp 3),26,"",⟨[]⟩,none⟩,none,false⟩,⟨⟨(some 49),.move (.tmp 1),3,"",⟨[]⟩,none⟩,none,false⟩,⟨⟨(some 50),.move (.tmp 2),3,"",⟨[]⟩,none⟩,none,false⟩,⟨⟨(some 51),.call ⟨.value (.func 20),⟨[(.tmp 48),(.tmp 49),(.tmp 50)]⟩,⟨[26,3,3]⟩⟩,31,"",⟨[]⟩,none⟩,none,false⟩,⟨⟨(some 47),.move (.tmp 51),31,"",⟨[]⟩,none⟩,none,false⟩,⟨⟨(some 52),.extract (.tmp 47) 0,4,"",⟨[]⟩,none⟩,none,false⟩,⟨⟨(some 53),.extract (.tmp 47) 1,27,"",⟨[]⟩,none⟩,none,false⟩,⟨⟨(some 12),.assign (.tmp 52),4,"",⟨[]⟩,none⟩,none,false⟩,⟨⟨(some 10),.assign (.tmp 53),27,"",⟨[]⟩,none⟩,none,false⟩]) (.seq (.ops false [⟨⟨(some 54),.move (.tmp 11),4,"",⟨[]⟩,none⟩,none,false⟩,⟨⟨(some 55),.move (.tmp 12),4,"",⟨[]⟩,none⟩,none,false⟩,⟨⟨(some 56),.binOp .eql 4 (.tmp 54) (.tmp 55) 4,4,"",⟨[]⟩,none⟩,none,false⟩,⟨⟨(some 57),.move (.tmp 56),4,"",⟨[]⟩,none⟩,none,false⟩,⟨⟨(some 58),.move (.tmp 8),27,"",⟨[]⟩,none⟩,some ((some 57),true),false⟩,⟨⟨(some 59),.move (.tmp 10),27,"",⟨[]⟩,none⟩,some ((some 57),true),false⟩,⟨⟨(some 60),.binOp .eql 27 (.tmp 58) (.tmp 59) 27,4,"",⟨[]⟩,none⟩,some ((some 57),true),false⟩,⟨⟨(some 61),.pick (.tmp 57) (.tmp 60) (.const (.bool false)),4,"",⟨[]⟩,none⟩,none,false⟩,⟨⟨(some 62),.move (.tmp 61),4,"",⟨[]⟩,none⟩,none,false⟩,⟨⟨(some 63),.call ⟨.value (.func 21),⟨[]⟩,⟨[]⟩⟩,4,"",⟨[]⟩,none⟩,some ((some 62),true),false⟩,⟨⟨(some 64),.pick (.tmp 62) (.tmp 63) (.const (.bool false)),4,"",⟨[]⟩,none⟩,none,false⟩,⟨⟨(some 6),.assign (.tmp 64),4,"",⟨[]⟩,none⟩,none,false⟩]) .ret)))))))
theorem Tryz.s39_eq : Tryz.f39.body.map sOf = some Tryz.s39 := by kernel_rfl
theorem Tryz.s40_eq : Tryz.f40.body.map sOf = some Tryz.s40 := by kernel_rfl
theorem Tryz.s18_eq : Tryz.f18.body.map sOf = some Tryz.s18 := by kernel_rfl
theorem Tryz.s91_eq : Tryz.f91.body.map sOf = some Tryz.s91 := by kernel_rfl
theorem Tryz.s93_eq : Tryz.f93.body.map sOf = some Tryz.s93 := by kernel_rfl
theorem Tryz.s89_eq : Tryz.f89.body.map sOf = some Tryz.s89 := by kernel_rfl
theorem Tryz.s114_eq : Tryz.f114.body.map sOf = some Tryz.s114 := by kernel_rfl
theorem Tryz.s86_eq : Tryz.f86.body.map sOf = some Tryz.s86 := by kernel_rfl
theorem Tryz.s57_eq : Tryz.f57.body.map sOf = some Tryz.s57 := by kernel_rfl
theorem Tryz.s62_eq : Tryz.f62.body.map sOf = some Tryz.s62 := by kernel_rfl
theorem Tryz.s50_eq : Tryz.f50.body.map sOf = some Tryz.s50 := by kernel_rfl
end Go.Proofs

namespace Go.Proofs
open Go Go.RowKit Go.Sim
set_option maxRecDepth 100000
theorem From_ok (a n b : Int) (w : AW) : CallT Tryz.prog Tryz.T1 (.fn (.func 39) #[]) #[.int .i64 a, .int .i64 n, .int .i64 b] w (Ret (.bool (inR a n b)) fun w' => w = w') := by
  refine callT_code rfl Tryz.func39 rfl Tryz.s39_eq rfl ?_
  unfold Tryz.s39
  by_cases h : a ≤ n
  · simp -dsimp -implicitDefEqProofs (maxSteps := 2000000) (disch := first | assumption | omega | (simp only [nx]; omega) | ((repeat refine Fresh.push ?_ _); assumption) | (simp only [smA]; done) | (simp [oneCell, AW.next_push]; done) | fail) only [go_sem, Nat.reduceEqDiff, reduceIte, Nat.reduceAdd, Int.toNat_natCast, Nat.add_zero, Owes_true, Tryz.results39, h]
    exact ⟨by unfold inR; simp [h], rfl⟩
  · simp -dsimp -implicitDefEqProofs (maxSteps := 2000000) (disch := first | assumption | omega | (simp only [nx]; omega) | ((repeat refine Fresh.push ?_ _); assumption) | (simp only [smA]; done) | (simp [oneCell, AW.next_push]; done) | fail) only [go_sem, Nat.reduceEqDiff, reduceIte, Nat.reduceAdd, Int.toNat_natCast, Nat.add_zero, Owes_true, Tryz.results39, h]
    exact ⟨by unfold inR; simp [h], rfl⟩
theorem Bit_ok (x k : Nat) (hx : x < 256) (hk : k ≤ 8) (w : AW) : CallT Tryz.prog Tryz.T1 (.fn (.func 40) #[]) #[.int .i64 (x : Int), .int .i64 (k : Int)] w (Ret (.bool (x.testBit k)) fun w' => w = w') := by
  have h0 : ¬ (k : Int) < 0 := by omega
  have hm : min k 64 = k := by omega
  have hsh : (x : Int).fdiv (2 ^ (min k 64)) = ((x / 2 ^ k : Nat) : Int) := by
    rw [hm, Int.fdiv_eq_ediv_of_nonneg _ (by exact Int.pow_nonneg (by omega))]
    push_cast; rfl
  have htm : ((x / 2 ^ k : Nat) : Int).tmod 2 = ((x / 2 ^ k % 2 : Nat) : Int) := rfl
  have hle : x / 2 ^ k ≤ x := Nat.div_le_self _ _
  have hb : decide (((x / 2 ^ k % 2 : Nat) : Int) = 1) = x.testBit k := by
    rw [← bit_is x k, Nat.and_one_is_mod]
  refine callT_code rfl Tryz.func40 rfl Tryz.s40_eq rfl ?_
  unfold Tryz.s40
  have hn2 : ¬ (2 : Int) = 0 := by omega
  simp -dsimp -implicitDefEqProofs (maxSteps := 2000000) (disch := first | assumption | omega | (simp only [nx]; omega) | ((repeat refine Fresh.push ?_ _); assumption) | (simp only [smA]; done) | (simp [oneCell, AW.next_push]; done) | fail) only [go_sem, Nat.reduceEqDiff, reduceIte, Nat.reduceAdd, Int.toNat_natCast, Nat.add_zero, Owes_true, Tryz.results40, h0, hsh, htm, hb, hn2]
  exact ⟨rfl, rfl⟩
def popTo (x n : Nat) : Nat := (List.range n).countP fun k => x.testBit k
theorem people_is (x : Nat) (n : Nat) : popTo x (n + 1) = popTo x n + (if x.testBit n = true then 1 else 0) := by
  unfold popTo
  rw [List.range_succ, List.countP_append]
  cases q : x.testBit n <;> simp [q]
theorem people_okR (x : Nat) (hx : x < 64) (w : AW) : CallT Tryz.prog Tryz.T1 (.fn (.func 91) #[]) #[.int .i64 (x : Int)] w (Ret (.int .i64 (popN x : Int)) fun w' => w = w') := by
  refine callT_code rfl Tryz.func91 rfl Tryz.s91_eq rfl ?_
  unfold Tryz.s91
  simp -dsimp -implicitDefEqProofs (maxSteps := 2000000) (disch := first | assumption | omega | (simp only [nx]; omega) | ((repeat refine Fresh.push ?_ _); assumption) | (simp only [smA]; done) | (simp [oneCell, AW.next_push]; done) | fail) only [go_sem, Nat.reduceEqDiff, reduceIte, Nat.reduceAdd, Int.toNat_natCast, Nat.add_zero, Owes_true, Tryz.results91]
  refine loopR (fun k t ds w1 => ∃ i : Nat, i ≤ 6 ∧ k = 6 - i ∧ ds = [] ∧ ev t (.tmp 0) = .int .i64 (x : Int) ∧ ev t (.tmp 3) = .int .i64 (popTo x i : Int) ∧ ev t (.tmp 4) = .int .i64 (i : Int) ∧ w = w1) (6) ?_ ?_
  · refine ⟨0, by omega, by omega, rfl, ?_, ?_, ?_, rfl⟩ <;> simp -dsimp -implicitDefEqProofs (maxSteps := 2000000) (disch := first | assumption | omega | (simp only [nx]; omega) | ((repeat refine Fresh.push ?_ _); assumption) | (simp only [smA]; done) | (simp [oneCell, AW.next_push]; done) | fail) only [go_sem, Nat.reduceEqDiff, reduceIte, Nat.reduceAdd, Int.toNat_natCast, Nat.add_zero, Owes_true] <;> rfl
  rintro k t ds w1 ⟨i, hii, rfl, rfl, e0, e3, e4, hw⟩
  subst hw
  have hle : popTo x i ≤ i := by
    have := List.countP_le_length (p := fun k => x.testBit k) (l := List.range i)
    rw [List.length_range] at this; exact this
  have hs := people_is x i
  by_cases hlt : (i : Int) < 6
  case neg =>
    obtain rfl : i = 6 := by omega
    simp -dsimp -implicitDefEqProofs (maxSteps := 2000000) (disch := first | assumption | omega | (simp only [nx]; omega) | ((repeat refine Fresh.push ?_ _); assumption) | (simp only [smA]; done) | (simp [oneCell, AW.next_push]; done) | fail) only [go_sem, Nat.reduceEqDiff, reduceIte, Nat.reduceAdd, Int.toNat_natCast, Nat.add_zero, Owes_true, Tryz.results91, e0, e3, e4, hlt]
    exact ⟨rfl, rfl⟩
  simp -dsimp -implicitDefEqProofs (maxSteps := 2000000) (disch := first | assumption | omega | (simp only [nx]; omega) | ((repeat refine Fresh.push ?_ _); assumption) | (simp only [smA]; done) | (simp [oneCell, AW.next_push]; done) | fail) only [go_sem, Nat.reduceEqDiff, reduceIte, Nat.reduceAdd, Int.toNat_natCast, Nat.add_zero, Owes_true, Tryz.results91, e0, e3, e4, hlt]
  apply callV_of (e := rfl)
  · exact Bit_ok x i (by omega) (by omega) w
  rintro _ _ ⟨rfl, rfl⟩
  cases hk : x.testBit i with
  | false =>
    rw [hk, if_neg (by intro z; cases z), Nat.add_zero] at hs
    simp -dsimp -implicitDefEqProofs (maxSteps := 2000000) (disch := first | assumption | omega | (simp only [nx]; omega) | ((repeat refine Fresh.push ?_ _); assumption) | (simp only [smA]; done) | (simp [oneCell, AW.next_push]; done) | fail) only [go_sem, Nat.reduceEqDiff, reduceIte, Nat.reduceAdd, Int.toNat_natCast, Nat.add_zero, Owes_true, Tryz.results91, e0, e3, e4, hk]
    refine ⟨_, by omega, i + 1, by omega, rfl, rfl, by (simp -dsimp -implicitDefEqProofs (maxSteps := 2000000) (disch := first | assumption | omega | (simp only [nx]; omega) | ((repeat refine Fresh.push ?_ _); assumption) | (simp only [smA]; done) | (simp [oneCell, AW.next_push]; done) | fail) only [go_sem, Nat.reduceEqDiff, reduceIte, Nat.reduceAdd, Int.toNat_natCast, Nat.add_zero, Owes_true, e0, hs]; try rfl), by (simp -dsimp -implicitDefEqProofs (maxSteps := 2000000) (disch := first | assumption | omega | (simp only [nx]; omega) | ((repeat refine Fresh.push ?_ _); assumption) | (simp only [smA]; done) | (simp [oneCell, AW.next_push]; done) | fail) only [go_sem, Nat.reduceEqDiff, reduceIte, Nat.reduceAdd, Int.toNat_natCast, Nat.add_zero, Owes_true, e3, hs]; try rfl), by (simp -dsimp -implicitDefEqProofs (maxSteps := 2000000) (disch := first | assumption | omega | (simp only [nx]; omega) | ((repeat refine Fresh.push ?_ _); assumption) | (simp only [smA]; done) | (simp [oneCell, AW.next_push]; done) | fail) only [go_sem, Nat.reduceEqDiff, reduceIte, Nat.reduceAdd, Int.toNat_natCast, Nat.add_zero, Owes_true, e4, hs]; try rfl), rfl⟩
  | true =>
    rw [hk, if_pos rfl] at hs
    simp -dsimp -implicitDefEqProofs (maxSteps := 2000000) (disch := first | assumption | omega | (simp only [nx]; omega) | ((repeat refine Fresh.push ?_ _); assumption) | (simp only [smA]; done) | (simp [oneCell, AW.next_push]; done) | fail) only [go_sem, Nat.reduceEqDiff, reduceIte, Nat.reduceAdd, Int.toNat_natCast, Nat.add_zero, Owes_true, Tryz.results91, e0, e3, e4, hk]
    refine ⟨_, by omega, i + 1, by omega, rfl, rfl, by (simp -dsimp -implicitDefEqProofs (maxSteps := 2000000) (disch := first | assumption | omega | (simp only [nx]; omega) | ((repeat refine Fresh.push ?_ _); assumption) | (simp only [smA]; done) | (simp [oneCell, AW.next_push]; done) | fail) only [go_sem, Nat.reduceEqDiff, reduceIte, Nat.reduceAdd, Int.toNat_natCast, Nat.add_zero, Owes_true, e0, hs, Int.natCast_add, Int.natCast_one]; try rfl), by (simp -dsimp -implicitDefEqProofs (maxSteps := 2000000) (disch := first | assumption | omega | (simp only [nx]; omega) | ((repeat refine Fresh.push ?_ _); assumption) | (simp only [smA]; done) | (simp [oneCell, AW.next_push]; done) | fail) only [go_sem, Nat.reduceEqDiff, reduceIte, Nat.reduceAdd, Int.toNat_natCast, Nat.add_zero, Owes_true, e3, hs, Int.natCast_add, Int.natCast_one]; try rfl), by (simp -dsimp -implicitDefEqProofs (maxSteps := 2000000) (disch := first | assumption | omega | (simp only [nx]; omega) | ((repeat refine Fresh.push ?_ _); assumption) | (simp only [smA]; done) | (simp [oneCell, AW.next_push]; done) | fail) only [go_sem, Nat.reduceEqDiff, reduceIte, Nat.reduceAdd, Int.toNat_natCast, Nat.add_zero, Owes_true, e4, hs, Int.natCast_add, Int.natCast_one]; try rfl), rfl⟩
theorem Has_ok (a b : Nat) (ha : a < 256) (hb : b < 256) (w : AW) : CallT Tryz.prog Tryz.T1 (.fn (.func 93) #[]) #[.int .i64 (a : Int), .int .i64 (b : Int)] w (Ret (.bool (subB a b)) fun w' => w = w') := by
  have hs := subB_bits (a := a) hb
  refine callT_code rfl Tryz.func93 rfl Tryz.s93_eq rfl ?_
  unfold Tryz.s93
  simp -dsimp -implicitDefEqProofs (maxSteps := 2000000) (disch := first | assumption | omega | (simp only [nx]; omega) | ((repeat refine Fresh.push ?_ _); assumption) | (simp only [smA]; done) | (simp [oneCell, AW.next_push]; done) | fail) only [go_sem, Nat.reduceEqDiff, reduceIte, Nat.reduceAdd, Int.toNat_natCast, Nat.add_zero, Owes_true, Tryz.results93]
  refine loopR (fun k t ds w1 => ∃ i : Nat, i ≤ 8 ∧ k = 8 - i ∧ ds = [] ∧ ev t (.tmp 0) = .int .i64 (a : Int) ∧ ev t (.tmp 1) = .int .i64 (b : Int) ∧ ev t (.tmp 5) = .int .i64 (i : Int) ∧ (∀ k, k < i → (!b.testBit k || a.testBit k) = true) ∧ w = w1) (8) ?_ ?_
  · refine ⟨0, by omega, by omega, rfl, ?_, ?_, ?_, fun k h => by omega, rfl⟩ <;> simp -dsimp -implicitDefEqProofs (maxSteps := 2000000) (disch := first | assumption | omega | (simp only [nx]; omega) | ((repeat refine Fresh.push ?_ _); assumption) | (simp only [smA]; done) | (simp [oneCell, AW.next_push]; done) | fail) only [go_sem, Nat.reduceEqDiff, reduceIte, Nat.reduceAdd, Int.toNat_natCast, Nat.add_zero, Owes_true] <;> rfl
  rintro k t ds w1 ⟨i, hii, rfl, rfl, e0, e1, e5, hall, hw⟩
  subst hw
  by_cases hlt : (i : Int) < 8
  case neg =>
    obtain rfl : i = 8 := by omega
    have : subB a b = true := by rw [hs, List.all_eq_true]; exact fun k hk => hall k (List.mem_range.1 hk)
    simp -dsimp -implicitDefEqProofs (maxSteps := 2000000) (disch := first | assumption | omega | (simp only [nx]; omega) | ((repeat refine Fresh.push ?_ _); assumption) | (simp only [smA]; done) | (simp [oneCell, AW.next_push]; done) | fail) only [go_sem, Nat.reduceEqDiff, reduceIte, Nat.reduceAdd, Int.toNat_natCast, Nat.add_zero, Owes_true, Tryz.results93, e0, e1, e5, hlt]
    exact ⟨by rw [this], rfl⟩
  simp -dsimp -implicitDefEqProofs (maxSteps := 2000000) (disch := first | assumption | omega | (simp only [nx]; omega) | ((repeat refine Fresh.push ?_ _); assumption) | (simp only [smA]; done) | (simp [oneCell, AW.next_push]; done) | fail) only [go_sem, Nat.reduceEqDiff, reduceIte, Nat.reduceAdd, Int.toNat_natCast, Nat.add_zero, Owes_true, Tryz.results93, e0, e1, e5, hlt]
  apply callV_of (e := rfl)
  · exact Bit_ok b i hb (by omega) w
  rintro _ _ ⟨rfl, rfl⟩
  have hnext : (!b.testBit i || a.testBit i) = true → ∀ k, k < i + 1 → (!b.testBit k || a.testBit k) = true := fun h k hk => by
    rcases Nat.lt_or_ge k i with q | q
    · exact hall k q
    · obtain rfl : k = i := by omega
      exact h
  cases hk : b.testBit i with
  | false =>
    simp -dsimp -implicitDefEqProofs (maxSteps := 2000000) (disch := first | assumption | omega | (simp only [nx]; omega) | ((repeat refine Fresh.push ?_ _); assumption) | (simp only [smA]; done) | (simp [oneCell, AW.next_push]; done) | fail) only [go_sem, Nat.reduceEqDiff, reduceIte, Nat.reduceAdd, Int.toNat_natCast, Nat.add_zero, Owes_true, Tryz.results93, e0, e1, e5, hk]
    refine ⟨_, by omega, i + 1, by omega, rfl, rfl, by (simp -dsimp -implicitDefEqProofs (maxSteps := 2000000) (disch := first | assumption | omega | (simp only [nx]; omega) | ((repeat refine Fresh.push ?_ _); assumption) | (simp only [smA]; done) | (simp [oneCell, AW.next_push]; done) | fail) only [go_sem, Nat.reduceEqDiff, reduceIte, Nat.reduceAdd, Int.toNat_natCast, Nat.add_zero, Owes_true, e0]; try rfl), by (simp -dsimp -implicitDefEqProofs (maxSteps := 2000000) (disch := first | assumption | omega | (simp only [nx]; omega) | ((repeat refine Fresh.push ?_ _); assumption) | (simp only [smA]; done) | (simp [oneCell, AW.next_push]; done) | fail) only [go_sem, Nat.reduceEqDiff, reduceIte, Nat.reduceAdd, Int.toNat_natCast, Nat.add_zero, Owes_true, e1]; try rfl), by (simp -dsimp -implicitDefEqProofs (maxSteps := 2000000) (disch := first | assumption | omega | (simp only [nx]; omega) | ((repeat refine Fresh.push ?_ _); assumption) | (simp only [smA]; done) | (simp [oneCell, AW.next_push]; done) | fail) only [go_sem, Nat.reduceEqDiff, reduceIte, Nat.reduceAdd, Int.toNat_natCast, Nat.add_zero, Owes_true, e5]; try rfl), hnext (by rw [hk]; rfl), rfl⟩
  | true =>
    simp -dsimp -implicitDefEqProofs (maxSteps := 2000000) (disch := first | assumption | omega | (simp only [nx]; omega) | ((repeat refine Fresh.push ?_ _); assumption) | (simp only [smA]; done) | (simp [oneCell, AW.next_push]; done) | fail) only [go_sem, Nat.reduceEqDiff, reduceIte, Nat.reduceAdd, Int.toNat_natCast, Nat.add_zero, Owes_true, Tryz.results93, e0, e1, e5, hk]
    apply callV_of (e := rfl)
    · exact Bit_ok a i ha (by omega) w
    rintro _ _ ⟨rfl, rfl⟩
    cases hj : a.testBit i with
    | true =>
      simp -dsimp -implicitDefEqProofs (maxSteps := 2000000) (disch := first | assumption | omega | (simp only [nx]; omega) | ((repeat refine Fresh.push ?_ _); assumption) | (simp only [smA]; done) | (simp [oneCell, AW.next_push]; done) | fail) only [go_sem, Nat.reduceEqDiff, reduceIte, Nat.reduceAdd, Int.toNat_natCast, Nat.add_zero, Owes_true, Tryz.results93, e0, e1, e5, hk, hj]
      refine ⟨_, by omega, i + 1, by omega, rfl, rfl, by (simp -dsimp -implicitDefEqProofs (maxSteps := 2000000) (disch := first | assumption | omega | (simp only [nx]; omega) | ((repeat refine Fresh.push ?_ _); assumption) | (simp only [smA]; done) | (simp [oneCell, AW.next_push]; done) | fail) only [go_sem, Nat.reduceEqDiff, reduceIte, Nat.reduceAdd, Int.toNat_natCast, Nat.add_zero, Owes_true, e0]; try rfl), by (simp -dsimp -implicitDefEqProofs (maxSteps := 2000000) (disch := first | assumption | omega | (simp only [nx]; omega) | ((repeat refine Fresh.push ?_ _); assumption) | (simp only [smA]; done) | (simp [oneCell, AW.next_push]; done) | fail) only [go_sem, Nat.reduceEqDiff, reduceIte, Nat.reduceAdd, Int.toNat_natCast, Nat.add_zero, Owes_true, e1]; try rfl), by (simp -dsimp -implicitDefEqProofs (maxSteps := 2000000) (disch := first | assumption | omega | (simp only [nx]; omega) | ((repeat refine Fresh.push ?_ _); assumption) | (simp only [smA]; done) | (simp [oneCell, AW.next_push]; done) | fail) only [go_sem, Nat.reduceEqDiff, reduceIte, Nat.reduceAdd, Int.toNat_natCast, Nat.add_zero, Owes_true, e5]; try rfl), hnext (by rw [hj, Bool.or_true]), rfl⟩
    | false =>
      have : subB a b = false := by
        rw [hs, Bool.eq_false_iff]; intro z
        have := List.all_eq_true.1 z i (List.mem_range.2 (by omega))
        rw [hk, hj] at this; cases this
      simp -dsimp -implicitDefEqProofs (maxSteps := 2000000) (disch := first | assumption | omega | (simp only [nx]; omega) | ((repeat refine Fresh.push ?_ _); assumption) | (simp only [smA]; done) | (simp [oneCell, AW.next_push]; done) | fail) only [go_sem, Nat.reduceEqDiff, reduceIte, Nat.reduceAdd, Int.toNat_natCast, Nat.add_zero, Owes_true, Tryz.results93, e0, e1, e5, hk, hj]
      exact ⟨by rw [this], rfl⟩
theorem with_ok (a b : Nat) (ha : a < 256) (hb : b < 256) (w : AW) : CallT Tryz.prog Tryz.T1 (.fn (.func 89) #[]) #[.int .i64 (a : Int), .int .i64 (b : Int)] w (Ret (.int .i64 ((a ||| b : Nat) : Int)) fun w' => w = w') := by
  refine callT_code rfl Tryz.func89 rfl Tryz.s89_eq rfl ?_
  unfold Tryz.s89
  simp -dsimp -implicitDefEqProofs (maxSteps := 2000000) (disch := first | assumption | omega | (simp only [nx]; omega) | ((repeat refine Fresh.push ?_ _); assumption) | (simp only [smA]; done) | (simp [oneCell, AW.next_push]; done) | fail) only [go_sem, Nat.reduceEqDiff, reduceIte, Nat.reduceAdd, Int.toNat_natCast, Nat.add_zero, Owes_true, Tryz.results89]
  refine loopR (fun k t ds w1 => ∃ i : Nat, i ≤ 8 ∧ k = 8 - i ∧ ds = [] ∧ ev t (.tmp 0) = .int .i64 (a : Int) ∧ ev t (.tmp 1) = .int .i64 (b : Int) ∧ ev t (.tmp 5) = .int .i64 ((sumB (fun k => a.testBit k || b.testBit k) i : Nat) : Int) ∧ ev t (.tmp 6) = .int .i64 (i : Int) ∧ w = w1) (8) ?_ ?_
  · refine ⟨0, by omega, by omega, rfl, ?_, ?_, ?_, ?_, rfl⟩ <;> simp -dsimp -implicitDefEqProofs (maxSteps := 2000000) (disch := first | assumption | omega | (simp only [nx]; omega) | ((repeat refine Fresh.push ?_ _); assumption) | (simp only [smA]; done) | (simp [oneCell, AW.next_push]; done) | fail) only [go_sem, Nat.reduceEqDiff, reduceIte, Nat.reduceAdd, Int.toNat_natCast, Nat.add_zero, Owes_true] <;> rfl
  rintro k t ds w1 ⟨i, hii, rfl, rfl, e0, e1, e5, e6, hw⟩
  subst hw
  have hle := sumB_le (fun k => a.testBit k || b.testBit k) i
  have hs : sumB (fun k => a.testBit k || b.testBit k) (i + 1) = sumB (fun k => a.testBit k || b.testBit k) i + (if (a.testBit i || b.testBit i) = true then 2 ^ i else 0) := rfl
  have hor := sumB_or ha hb
  by_cases hlt : (i : Int) < 8
  case neg =>
    obtain rfl : i = 8 := by omega
    simp -dsimp -implicitDefEqProofs (maxSteps := 2000000) (disch := first | assumption | omega | (simp only [nx]; omega) | ((repeat refine Fresh.push ?_ _); assumption) | (simp only [smA]; done) | (simp [oneCell, AW.next_push]; done) | fail) only [go_sem, Nat.reduceEqDiff, reduceIte, Nat.reduceAdd, Int.toNat_natCast, Nat.add_zero, Owes_true, Tryz.results89, e0, e1, e5, e6, hlt]
    exact ⟨by rw [hor], rfl⟩
  have hfl := full_shl (n := i) (by omega)
  have hfi := full_in (n := i) (by omega)
  have h0 : ¬ (i : Int) < 0 := by omega
  generalize sumB (fun k => a.testBit k || b.testBit k) i = S at *
  generalize hP : 2 ^ i = p at *
  have hadd : IntKind.i64.wrap ((S : Int) + (p : Int)) = ((S + p : Nat) : Int) := by rw [wrap64 (by omega) (by omega)]; omega
  simp -dsimp -implicitDefEqProofs (maxSteps := 2000000) (disch := first | assumption | omega | (simp only [nx]; omega) | ((repeat refine Fresh.push ?_ _); assumption) | (simp only [smA]; done) | (simp [oneCell, AW.next_push]; done) | fail) only [go_sem, Nat.reduceEqDiff, reduceIte, Nat.reduceAdd, Int.toNat_natCast, Nat.add_zero, Owes_true, Tryz.results89, e0, e1, e5, e6, hlt]
  apply callV_of (e := rfl)
  · exact Bit_ok a i ha (by omega) w
  rintro _ _ ⟨rfl, rfl⟩
  cases hk : a.testBit i with
  | true =>
    rw [hk, Bool.true_or, if_pos rfl] at hs
    simp -dsimp -implicitDefEqProofs (maxSteps := 2000000) (disch := first | assumption | omega | (simp only [nx]; omega) | ((repeat refine Fresh.push ?_ _); assumption) | (simp only [smA]; done) | (simp [oneCell, AW.next_push]; done) | fail) only [go_sem, Nat.reduceEqDiff, reduceIte, Nat.reduceAdd, Int.toNat_natCast, Nat.add_zero, Owes_true, Tryz.results89, e0, e1, e5, e6, hk, h0, hfl]
    refine ⟨_, by omega, i + 1, by omega, rfl, rfl, by (simp -dsimp -implicitDefEqProofs (maxSteps := 2000000) (disch := first | assumption | omega | (simp only [nx]; omega) | ((repeat refine Fresh.push ?_ _); assumption) | (simp only [smA]; done) | (simp [oneCell, AW.next_push]; done) | fail) only [go_sem, Nat.reduceEqDiff, reduceIte, Nat.reduceAdd, Int.toNat_natCast, Nat.add_zero, Owes_true, e0, hs]; try rfl), by (simp -dsimp -implicitDefEqProofs (maxSteps := 2000000) (disch := first | assumption | omega | (simp only [nx]; omega) | ((repeat refine Fresh.push ?_ _); assumption) | (simp only [smA]; done) | (simp [oneCell, AW.next_push]; done) | fail) only [go_sem, Nat.reduceEqDiff, reduceIte, Nat.reduceAdd, Int.toNat_natCast, Nat.add_zero, Owes_true, e1, hs]; try rfl), by (simp -dsimp -implicitDefEqProofs (maxSteps := 2000000) (disch := first | assumption | omega | (simp only [nx]; omega) | ((repeat refine Fresh.push ?_ _); assumption) | (simp only [smA]; done) | (simp [oneCell, AW.next_push]; done) | fail) only [go_sem, Nat.reduceEqDiff, reduceIte, Nat.reduceAdd, Int.toNat_natCast, Nat.add_zero, Owes_true, e5, hs]; try rfl), by (simp -dsimp -implicitDefEqProofs (maxSteps := 2000000) (disch := first | assumption | omega | (simp only [nx]; omega) | ((repeat refine Fresh.push ?_ _); assumption) | (simp only [smA]; done) | (simp [oneCell, AW.next_push]; done) | fail) only [go_sem, Nat.reduceEqDiff, reduceIte, Nat.reduceAdd, Int.toNat_natCast, Nat.add_zero, Owes_true, e6, hs]; try rfl), rfl⟩
  | false =>
    simp -dsimp -implicitDefEqProofs (maxSteps := 2000000) (disch := first | assumption | omega | (simp only [nx]; omega) | ((repeat refine Fresh.push ?_ _); assumption) | (simp only [smA]; done) | (simp [oneCell, AW.next_push]; done) | fail) only [go_sem, Nat.reduceEqDiff, reduceIte, Nat.reduceAdd, Int.toNat_natCast, Nat.add_zero, Owes_true, Tryz.results89, e0, e1, e5, e6, hk]
    apply callV_of (e := rfl)
    · exact Bit_ok b i hb (by omega) w
    rintro _ _ ⟨rfl, rfl⟩
    cases hj : b.testBit i with
    | true =>
      rw [hk, hj, Bool.or_true, if_pos rfl] at hs
      simp -dsimp -implicitDefEqProofs (maxSteps := 2000000) (disch := first | assumption | omega | (simp only [nx]; omega) | ((repeat refine Fresh.push ?_ _); assumption) | (simp only [smA]; done) | (simp [oneCell, AW.next_push]; done) | fail) only [go_sem, Nat.reduceEqDiff, reduceIte, Nat.reduceAdd, Int.toNat_natCast, Nat.add_zero, Owes_true, Tryz.results89, e0, e1, e5, e6, hj, h0, hfl]
      refine ⟨_, by omega, i + 1, by omega, rfl, rfl, by (simp -dsimp -implicitDefEqProofs (maxSteps := 2000000) (disch := first | assumption | omega | (simp only [nx]; omega) | ((repeat refine Fresh.push ?_ _); assumption) | (simp only [smA]; done) | (simp [oneCell, AW.next_push]; done) | fail) only [go_sem, Nat.reduceEqDiff, reduceIte, Nat.reduceAdd, Int.toNat_natCast, Nat.add_zero, Owes_true, e0, hs]; try rfl), by (simp -dsimp -implicitDefEqProofs (maxSteps := 2000000) (disch := first | assumption | omega | (simp only [nx]; omega) | ((repeat refine Fresh.push ?_ _); assumption) | (simp only [smA]; done) | (simp [oneCell, AW.next_push]; done) | fail) only [go_sem, Nat.reduceEqDiff, reduceIte, Nat.reduceAdd, Int.toNat_natCast, Nat.add_zero, Owes_true, e1, hs]; try rfl), by (simp -dsimp -implicitDefEqProofs (maxSteps := 2000000) (disch := first | assumption | omega | (simp only [nx]; omega) | ((repeat refine Fresh.push ?_ _); assumption) | (simp only [smA]; done) | (simp [oneCell, AW.next_push]; done) | fail) only [go_sem, Nat.reduceEqDiff, reduceIte, Nat.reduceAdd, Int.toNat_natCast, Nat.add_zero, Owes_true, e5, hs]; try rfl), by (simp -dsimp -implicitDefEqProofs (maxSteps := 2000000) (disch := first | assumption | omega | (simp only [nx]; omega) | ((repeat refine Fresh.push ?_ _); assumption) | (simp only [smA]; done) | (simp [oneCell, AW.next_push]; done) | fail) only [go_sem, Nat.reduceEqDiff, reduceIte, Nat.reduceAdd, Int.toNat_natCast, Nat.add_zero, Owes_true, e6, hs]; try rfl), rfl⟩
    | false =>
      rw [hk, hj, Bool.or_false, if_neg (by intro z; cases z), Nat.add_zero] at hs
      simp -dsimp -implicitDefEqProofs (maxSteps := 2000000) (disch := first | assumption | omega | (simp only [nx]; omega) | ((repeat refine Fresh.push ?_ _); assumption) | (simp only [smA]; done) | (simp [oneCell, AW.next_push]; done) | fail) only [go_sem, Nat.reduceEqDiff, reduceIte, Nat.reduceAdd, Int.toNat_natCast, Nat.add_zero, Owes_true, Tryz.results89, e0, e1, e5, e6, hj]
      refine ⟨_, by omega, i + 1, by omega, rfl, rfl, by (simp -dsimp -implicitDefEqProofs (maxSteps := 2000000) (disch := first | assumption | omega | (simp only [nx]; omega) | ((repeat refine Fresh.push ?_ _); assumption) | (simp only [smA]; done) | (simp [oneCell, AW.next_push]; done) | fail) only [go_sem, Nat.reduceEqDiff, reduceIte, Nat.reduceAdd, Int.toNat_natCast, Nat.add_zero, Owes_true, e0, hs]; try rfl), by (simp -dsimp -implicitDefEqProofs (maxSteps := 2000000) (disch := first | assumption | omega | (simp only [nx]; omega) | ((repeat refine Fresh.push ?_ _); assumption) | (simp only [smA]; done) | (simp [oneCell, AW.next_push]; done) | fail) only [go_sem, Nat.reduceEqDiff, reduceIte, Nat.reduceAdd, Int.toNat_natCast, Nat.add_zero, Owes_true, e1, hs]; try rfl), by (simp -dsimp -implicitDefEqProofs (maxSteps := 2000000) (disch := first | assumption | omega | (simp only [nx]; omega) | ((repeat refine Fresh.push ?_ _); assumption) | (simp only [smA]; done) | (simp [oneCell, AW.next_push]; done) | fail) only [go_sem, Nat.reduceEqDiff, reduceIte, Nat.reduceAdd, Int.toNat_natCast, Nat.add_zero, Owes_true, e5, hs]; try rfl), by (simp -dsimp -implicitDefEqProofs (maxSteps := 2000000) (disch := first | assumption | omega | (simp only [nx]; omega) | ((repeat refine Fresh.push ?_ _); assumption) | (simp only [smA]; done) | (simp [oneCell, AW.next_push]; done) | fail) only [go_sem, Nat.reduceEqDiff, reduceIte, Nat.reduceAdd, Int.toNat_natCast, Nat.add_zero, Owes_true, e6, hs]; try rfl), rfl⟩
end Go.Proofs

namespace Go.Proofs
open Go Go.RowKit Go.Sim
set_option maxRecDepth 100000
theorem foldB_lt {x : Nat} {f : Nat → Nat} (hf : ∀ k, f k < 256) {h0 : Nat} (h : h0 < 256) : ∀ n, foldB x f h0 n < 256
  | 0 => h
  | n + 1 => by
    rw [foldB]
    split
    · exact Nat.or_lt_two_pow (n := 8) (foldB_lt hf h n) (hf n)
    · exact foldB_lt hf h n
theorem foldB_yes {x : Nat} {f : Nat → Nat} {h0 n : Nat} (h : x.testBit n = true) : foldB x f h0 (n + 1) = foldB x f h0 n ||| f n := by rw [foldB, if_pos h]
theorem foldB_no {x : Nat} {f : Nat → Nat} {h0 n : Nat} (h : x.testBit n = false) : foldB x f h0 (n + 1) = foldB x f h0 n := by rw [foldB, if_neg (by rw [h]; intro z; cases z)]
set_option maxHeartbeats 8000000 in
theorem keys_ok {s : StrN} (hs : strB s = true) {pR pG pS : Option Addr} {cR cG cS : Nat} {g r : Nat} (hg : g < 64) (hr : r < 64) (hgb : ∀ k, g.testBit k = true → k < s.staff.length) (hrb : ∀ k, r.testBit k = true → k < s.rooms.length) (w : AW) (f : Fresh w) (hA : StrAt w pR pG pS cR cG cS s) :
    CallT Tryz.prog Tryz.T1 (.fn (.func 114) #[]) #[.agg (strC pR pG pS cR cG cS s).toArray, .int .i64 (g : Int), .int .i64 (r : Int)] w (Ret (.int .i64 (heldN s g r : Int)) (Grown w)) := by
  have g1 := (Grown.refl f).push (.cells (strC pR pG pS cR cG cS s) 26 w.next 0 0)
  have O1 := Own.new f 26 (strC pR pG pS cR cG cS s)
  have c0 := O1.cell (o := 0) rfl rfl
  have c2 := O1.cell (o := 2) rfl rfl
  have hA1 := hA.grown g1
  have hsl := (str_staff hs).2.1
  have hrl := (str_rooms hs).2
  rw [held_keys hgb hrb]
  unfold strC at *
  refine callT_code rfl Tryz.func114 rfl Tryz.s114_eq rfl ?_
  unfold Tryz.s114
  simp -dsimp -implicitDefEqProofs (maxSteps := 2000000) (disch := first | assumption | omega | (simp only [nx]; omega) | ((repeat refine Fresh.push ?_ _); assumption) | (simp only [smA]; done) | (simp [oneCell, AW.next_push]; done) | fail) only [go_sem, Nat.reduceEqDiff, reduceIte, Nat.reduceAdd, Int.toNat_natCast, Nat.add_zero, Owes_true, Tryz.results114]
  generalize w.push (.cells [.slice pR s.rooms.length cR, .slice pG s.gates.length cG, .slice pS s.staff.length cS] 26 w.next 0 0) = w1 at *
  refine loopR (fun k t ds w2 => ∃ i : Nat, i ≤ s.staff.length ∧ k = s.staff.length - i ∧ ds = [] ∧ ev t (.tmp 1) = .int .i64 (g : Int) ∧ ev t (.tmp 2) = .int .i64 (r : Int) ∧ ev t (.tmp 3) = .pointer (some ⟨w.next, 0, none⟩) ∧ ev t (.tmp 7) = .int .i64 (foldB g (staffF s) 0 i : Int) ∧ ev t (.tmp 8) = .int .i64 (i : Int) ∧ w1 = w2) (s.staff.length) ?_ ?_
  · refine ⟨0, by omega, by omega, rfl, ?_, ?_, ?_, ?_, ?_, rfl⟩ <;> simp -dsimp -implicitDefEqProofs (maxSteps := 2000000) (disch := first | assumption | omega | (simp only [nx]; omega) | ((repeat refine Fresh.push ?_ _); assumption) | (simp only [smA]; done) | (simp [oneCell, AW.next_push]; done) | fail) only [go_sem, Nat.reduceEqDiff, reduceIte, Nat.reduceAdd, Int.toNat_natCast, Nat.add_zero, Owes_true] <;> rfl
  rintro k t ds w2 ⟨i, hii, rfl, rfl, e1, e2, e3, e7, e8, hw⟩
  subst hw
  by_cases hlt : (i : Int) < (s.staff.length : Int)
  case pos =>
    have hlt' : i < s.staff.length := by omega
    simp -dsimp -implicitDefEqProofs (maxSteps := 2000000) (disch := first | assumption | omega | (simp only [nx]; omega) | ((repeat refine Fresh.push ?_ _); assumption) | (simp only [smA]; done) | (simp [oneCell, AW.next_push]; done) | fail) only [go_sem, Nat.reduceEqDiff, reduceIte, Nat.reduceAdd, Int.toNat_natCast, Nat.add_zero, Owes_true, Tryz.results114, e1, e2, e3, e7, e8, hlt, c2, Nat.zero_add]
    apply callV_of (e := rfl)
    · exact Bit_ok g i (by omega) (by omega) w1
    rintro _ _ ⟨rfl, rfl⟩
    cases hk : g.testBit i with
    | false =>
      have hF := foldB_no (f := staffF s) (h0 := 0) hk
      simp -dsimp -implicitDefEqProofs (maxSteps := 2000000) (disch := first | assumption | omega | (simp only [nx]; omega) | ((repeat refine Fresh.push ?_ _); assumption) | (simp only [smA]; done) | (simp [oneCell, AW.next_push]; done) | fail) only [go_sem, Nat.reduceEqDiff, reduceIte, Nat.reduceAdd, Int.toNat_natCast, Nat.add_zero, Owes_true, Tryz.results114, e1, e2, e3, e7, e8, hk]
      refine ⟨_, by omega, i + 1, by omega, rfl, rfl, by (simp -dsimp -implicitDefEqProofs (maxSteps := 2000000) (disch := first | assumption | omega | (simp only [nx]; omega) | ((repeat refine Fresh.push ?_ _); assumption) | (simp only [smA]; done) | (simp [oneCell, AW.next_push]; done) | fail) only [go_sem, Nat.reduceEqDiff, reduceIte, Nat.reduceAdd, Int.toNat_natCast, Nat.add_zero, Owes_true, e1, hF]; try rfl), by (simp -dsimp -implicitDefEqProofs (maxSteps := 2000000) (disch := first | assumption | omega | (simp only [nx]; omega) | ((repeat refine Fresh.push ?_ _); assumption) | (simp only [smA]; done) | (simp [oneCell, AW.next_push]; done) | fail) only [go_sem, Nat.reduceEqDiff, reduceIte, Nat.reduceAdd, Int.toNat_natCast, Nat.add_zero, Owes_true, e2, hF]; try rfl), by (simp -dsimp -implicitDefEqProofs (maxSteps := 2000000) (disch := first | assumption | omega | (simp only [nx]; omega) | ((repeat refine Fresh.push ?_ _); assumption) | (simp only [smA]; done) | (simp [oneCell, AW.next_push]; done) | fail) only [go_sem, Nat.reduceEqDiff, reduceIte, Nat.reduceAdd, Int.toNat_natCast, Nat.add_zero, Owes_true, e3, hF]; try rfl), by (simp -dsimp -implicitDefEqProofs (maxSteps := 2000000) (disch := first | assumption | omega | (simp only [nx]; omega) | ((repeat refine Fresh.push ?_ _); assumption) | (simp only [smA]; done) | (simp [oneCell, AW.next_push]; done) | fail) only [go_sem, Nat.reduceEqDiff, reduceIte, Nat.reduceAdd, Int.toNat_natCast, Nat.add_zero, Owes_true, e7, hF]; try rfl), by (simp -dsimp -implicitDefEqProofs (maxSteps := 2000000) (disch := first | assumption | omega | (simp only [nx]; omega) | ((repeat refine Fresh.push ?_ _); assumption) | (simp only [smA]; done) | (simp [oneCell, AW.next_push]; done) | fail) only [go_sem, Nat.reduceEqDiff, reduceIte, Nat.reduceAdd, Int.toNat_natCast, Nat.add_zero, Owes_true, e8, hF]; try rfl), rfl⟩
    | true =>
      have hF := foldB_yes (f := staffF s) (h0 := 0) hk
      obtain ⟨_, _, ex, _, _, hat⟩ := hA1.staff.open
      injection ex with ex1 ex2 ex3
      subst ex1 ex3
      obtain ⟨b4, o4, rfl, _, hcell⟩ := hat i hlt'
      have a0 := hcell w1 (.refl _ _) 0 _ rfl
      rw [Nat.add_zero, ← W_at hlt', staff_val hs hlt'] at a0
      simp -dsimp -implicitDefEqProofs (maxSteps := 2000000) (disch := first | assumption | omega | (simp only [nx]; omega) | ((repeat refine Fresh.push ?_ _); assumption) | (simp only [smA]; done) | (simp [oneCell, AW.next_push]; done) | fail) only [go_sem, Nat.reduceEqDiff, reduceIte, Nat.reduceAdd, Int.toNat_natCast, Nat.add_zero, Owes_true, Tryz.results114, e1, e2, e3, e7, e8, hk, c2, indexV_eq, hlt, a0, Nat.zero_add]
      apply callV_of (e := rfl)
      · exact with_ok _ _ (foldB_lt (staffF_lt s) (by omega) i) (staffF_lt s i) w1
      rintro _ _ ⟨rfl, rfl⟩
      simp -dsimp -implicitDefEqProofs (maxSteps := 2000000) (disch := first | assumption | omega | (simp only [nx]; omega) | ((repeat refine Fresh.push ?_ _); assumption) | (simp only [smA]; done) | (simp [oneCell, AW.next_push]; done) | fail) only [go_sem, Nat.reduceEqDiff, reduceIte, Nat.reduceAdd, Int.toNat_natCast, Nat.add_zero, Owes_true, Tryz.results114, e1, e2, e3, e7, e8]
      refine ⟨_, by omega, i + 1, by omega, rfl, rfl, by (simp -dsimp -implicitDefEqProofs (maxSteps := 2000000) (disch := first | assumption | omega | (simp only [nx]; omega) | ((repeat refine Fresh.push ?_ _); assumption) | (simp only [smA]; done) | (simp [oneCell, AW.next_push]; done) | fail) only [go_sem, Nat.reduceEqDiff, reduceIte, Nat.reduceAdd, Int.toNat_natCast, Nat.add_zero, Owes_true, e1, hF]; try rfl), by (simp -dsimp -implicitDefEqProofs (maxSteps := 2000000) (disch := first | assumption | omega | (simp only [nx]; omega) | ((repeat refine Fresh.push ?_ _); assumption) | (simp only [smA]; done) | (simp [oneCell, AW.next_push]; done) | fail) only [go_sem, Nat.reduceEqDiff, reduceIte, Nat.reduceAdd, Int.toNat_natCast, Nat.add_zero, Owes_true, e2, hF]; try rfl), by (simp -dsimp -implicitDefEqProofs (maxSteps := 2000000) (disch := first | assumption | omega | (simp only [nx]; omega) | ((repeat refine Fresh.push ?_ _); assumption) | (simp only [smA]; done) | (simp [oneCell, AW.next_push]; done) | fail) only [go_sem, Nat.reduceEqDiff, reduceIte, Nat.reduceAdd, Int.toNat_natCast, Nat.add_zero, Owes_true, e3, hF]; try rfl), by (simp -dsimp -implicitDefEqProofs (maxSteps := 2000000) (disch := first | assumption | omega | (simp only [nx]; omega) | ((repeat refine Fresh.push ?_ _); assumption) | (simp only [smA]; done) | (simp [oneCell, AW.next_push]; done) | fail) only [go_sem, Nat.reduceEqDiff, reduceIte, Nat.reduceAdd, Int.toNat_natCast, Nat.add_zero, Owes_true, e7, hF]; try rfl), by (simp -dsimp -implicitDefEqProofs (maxSteps := 2000000) (disch := first | assumption | omega | (simp only [nx]; omega) | ((repeat refine Fresh.push ?_ _); assumption) | (simp only [smA]; done) | (simp [oneCell, AW.next_push]; done) | fail) only [go_sem, Nat.reduceEqDiff, reduceIte, Nat.reduceAdd, Int.toNat_natCast, Nat.add_zero, Owes_true, e8, hF]; try rfl), rfl⟩
  obtain rfl : i = s.staff.length := by omega
  have hH := foldB_lt (x := g) (staffF_lt s) (h0 := 0) (by omega) s.staff.length
  simp -dsimp -implicitDefEqProofs (maxSteps := 2000000) (disch := first | assumption | omega | (simp only [nx]; omega) | ((repeat refine Fresh.push ?_ _); assumption) | (simp only [smA]; done) | (simp [oneCell, AW.next_push]; done) | fail) only [go_sem, Nat.reduceEqDiff, reduceIte, Nat.reduceAdd, Int.toNat_natCast, Nat.add_zero, Owes_true, Tryz.results114, e1, e2, e3, e7, e8, hlt, c2, Nat.zero_add]
  generalize foldB g (staffF s) 0 s.staff.length = H at *
  refine loopR (fun k t ds w2 => ∃ j : Nat, j ≤ s.rooms.length ∧ k = s.rooms.length - j ∧ ds = [] ∧ ev t (.tmp 1) = .int .i64 (g : Int) ∧ ev t (.tmp 2) = .int .i64 (r : Int) ∧ ev t (.tmp 3) = .pointer (some ⟨w.next, 0, none⟩) ∧ ev t (.tmp 7) = .int .i64 (foldB r (roomF s) H j : Int) ∧ ev t (.tmp 9) = .int .i64 (j : Int) ∧ w1 = w2) (s.rooms.length) ?_ ?_
  · refine ⟨0, by omega, by omega, rfl, ?_, ?_, ?_, ?_, ?_, rfl⟩ <;> simp -dsimp -implicitDefEqProofs (maxSteps := 2000000) (disch := first | assumption | omega | (simp only [nx]; omega) | ((repeat refine Fresh.push ?_ _); assumption) | (simp only [smA]; done) | (simp [oneCell, AW.next_push]; done) | fail) only [go_sem, Nat.reduceEqDiff, reduceIte, Nat.reduceAdd, Int.toNat_natCast, Nat.add_zero, Owes_true, e1, e2, e3, e7, e8, hlt, c2, Nat.zero_add] <;> rfl
  rintro k t ds w2 ⟨j, hij, rfl, rfl, e1, e2, e3, e7, e9, hw⟩
  subst hw
  by_cases hlj : (j : Int) < (s.rooms.length : Int)
  case neg =>
    obtain rfl : j = s.rooms.length := by omega
    simp -dsimp -implicitDefEqProofs (maxSteps := 2000000) (disch := first | assumption | omega | (simp only [nx]; omega) | ((repeat refine Fresh.push ?_ _); assumption) | (simp only [smA]; done) | (simp [oneCell, AW.next_push]; done) | fail) only [go_sem, Nat.reduceEqDiff, reduceIte, Nat.reduceAdd, Int.toNat_natCast, Nat.add_zero, Owes_true, Tryz.results114, e1, e2, e3, e7, e9, hlj, c0, Nat.zero_add]
    exact ⟨rfl, g1⟩
  have hlj' : j < s.rooms.length := by omega
  simp -dsimp -implicitDefEqProofs (maxSteps := 2000000) (disch := first | assumption | omega | (simp only [nx]; omega) | ((repeat refine Fresh.push ?_ _); assumption) | (simp only [smA]; done) | (simp [oneCell, AW.next_push]; done) | fail) only [go_sem, Nat.reduceEqDiff, reduceIte, Nat.reduceAdd, Int.toNat_natCast, Nat.add_zero, Owes_true, Tryz.results114, e1, e2, e3, e7, e9, hlj, c0, Nat.zero_add]
  apply callV_of (e := rfl)
  · exact Bit_ok r j (by omega) (by omega) w1
  rintro _ _ ⟨rfl, rfl⟩
  cases hk : r.testBit j with
  | false =>
    have hF := foldB_no (f := roomF s) (h0 := H) hk
    simp -dsimp -implicitDefEqProofs (maxSteps := 2000000) (disch := first | assumption | omega | (simp only [nx]; omega) | ((repeat refine Fresh.push ?_ _); assumption) | (simp only [smA]; done) | (simp [oneCell, AW.next_push]; done) | fail) only [go_sem, Nat.reduceEqDiff, reduceIte, Nat.reduceAdd, Int.toNat_natCast, Nat.add_zero, Owes_true, Tryz.results114, e1, e2, e3, e7, e9, hk]
    refine ⟨_, by omega, j + 1, by omega, rfl, rfl, by (simp -dsimp -implicitDefEqProofs (maxSteps := 2000000) (disch := first | assumption | omega | (simp only [nx]; omega) | ((repeat refine Fresh.push ?_ _); assumption) | (simp only [smA]; done) | (simp [oneCell, AW.next_push]; done) | fail) only [go_sem, Nat.reduceEqDiff, reduceIte, Nat.reduceAdd, Int.toNat_natCast, Nat.add_zero, Owes_true, e1, hF]; try rfl), by (simp -dsimp -implicitDefEqProofs (maxSteps := 2000000) (disch := first | assumption | omega | (simp only [nx]; omega) | ((repeat refine Fresh.push ?_ _); assumption) | (simp only [smA]; done) | (simp [oneCell, AW.next_push]; done) | fail) only [go_sem, Nat.reduceEqDiff, reduceIte, Nat.reduceAdd, Int.toNat_natCast, Nat.add_zero, Owes_true, e2, hF]; try rfl), by (simp -dsimp -implicitDefEqProofs (maxSteps := 2000000) (disch := first | assumption | omega | (simp only [nx]; omega) | ((repeat refine Fresh.push ?_ _); assumption) | (simp only [smA]; done) | (simp [oneCell, AW.next_push]; done) | fail) only [go_sem, Nat.reduceEqDiff, reduceIte, Nat.reduceAdd, Int.toNat_natCast, Nat.add_zero, Owes_true, e3, hF]; try rfl), by (simp -dsimp -implicitDefEqProofs (maxSteps := 2000000) (disch := first | assumption | omega | (simp only [nx]; omega) | ((repeat refine Fresh.push ?_ _); assumption) | (simp only [smA]; done) | (simp [oneCell, AW.next_push]; done) | fail) only [go_sem, Nat.reduceEqDiff, reduceIte, Nat.reduceAdd, Int.toNat_natCast, Nat.add_zero, Owes_true, e7, hF]; try rfl), by (simp -dsimp -implicitDefEqProofs (maxSteps := 2000000) (disch := first | assumption | omega | (simp only [nx]; omega) | ((repeat refine Fresh.push ?_ _); assumption) | (simp only [smA]; done) | (simp [oneCell, AW.next_push]; done) | fail) only [go_sem, Nat.reduceEqDiff, reduceIte, Nat.reduceAdd, Int.toNat_natCast, Nat.add_zero, Owes_true, e9, hF]; try rfl), rfl⟩
  | true =>
    have hF := foldB_yes (f := roomF s) (h0 := H) hk
    obtain ⟨_, _, ex, _, _, hat⟩ := hA1.rooms.open
    injection ex with ex1 ex2 ex3
    subst ex1 ex3
    obtain ⟨b4, o4, rfl, _, hcell⟩ := hat j hlj'
    have a0 := hcell w1 (.refl _ _) 2 _ rfl
    rw [room_val hs hlj'] at a0
    simp -dsimp -implicitDefEqProofs (maxSteps := 2000000) (disch := first | assumption | omega | (simp only [nx]; omega) | ((repeat refine Fresh.push ?_ _); assumption) | (simp only [smA]; done) | (simp [oneCell, AW.next_push]; done) | fail) only [go_sem, Nat.reduceEqDiff, reduceIte, Nat.reduceAdd, Int.toNat_natCast, Nat.add_zero, Owes_true, Tryz.results114, e1, e2, e3, e7, e9, hk, c0, indexV_eq, hlj, a0, Nat.zero_add]
    apply callV_of (e := rfl)
    · exact with_ok _ _ (foldB_lt (roomF_lt s) hH j) (roomF_lt s j) w1
    rintro _ _ ⟨rfl, rfl⟩
    simp -dsimp -implicitDefEqProofs (maxSteps := 2000000) (disch := first | assumption | omega | (simp only [nx]; omega) | ((repeat refine Fresh.push ?_ _); assumption) | (simp only [smA]; done) | (simp [oneCell, AW.next_push]; done) | fail) only [go_sem, Nat.reduceEqDiff, reduceIte, Nat.reduceAdd, Int.toNat_natCast, Nat.add_zero, Owes_true, Tryz.results114, e1, e2, e3, e7, e9]
    refine ⟨_, by omega, j + 1, by omega, rfl, rfl, by (simp -dsimp -implicitDefEqProofs (maxSteps := 2000000) (disch := first | assumption | omega | (simp only [nx]; omega) | ((repeat refine Fresh.push ?_ _); assumption) | (simp only [smA]; done) | (simp [oneCell, AW.next_push]; done) | fail) only [go_sem, Nat.reduceEqDiff, reduceIte, Nat.reduceAdd, Int.toNat_natCast, Nat.add_zero, Owes_true, e1, hF]; try rfl), by (simp -dsimp -implicitDefEqProofs (maxSteps := 2000000) (disch := first | assumption | omega | (simp only [nx]; omega) | ((repeat refine Fresh.push ?_ _); assumption) | (simp only [smA]; done) | (simp [oneCell, AW.next_push]; done) | fail) only [go_sem, Nat.reduceEqDiff, reduceIte, Nat.reduceAdd, Int.toNat_natCast, Nat.add_zero, Owes_true, e2, hF]; try rfl), by (simp -dsimp -implicitDefEqProofs (maxSteps := 2000000) (disch := first | assumption | omega | (simp only [nx]; omega) | ((repeat refine Fresh.push ?_ _); assumption) | (simp only [smA]; done) | (simp [oneCell, AW.next_push]; done) | fail) only [go_sem, Nat.reduceEqDiff, reduceIte, Nat.reduceAdd, Int.toNat_natCast, Nat.add_zero, Owes_true, e3, hF]; try rfl), by (simp -dsimp -implicitDefEqProofs (maxSteps := 2000000) (disch := first | assumption | omega | (simp only [nx]; omega) | ((repeat refine Fresh.push ?_ _); assumption) | (simp only [smA]; done) | (simp [oneCell, AW.next_push]; done) | fail) only [go_sem, Nat.reduceEqDiff, reduceIte, Nat.reduceAdd, Int.toNat_natCast, Nat.add_zero, Owes_true, e7, hF]; try rfl), by (simp -dsimp -implicitDefEqProofs (maxSteps := 2000000) (disch := first | assumption | omega | (simp only [nx]; omega) | ((repeat refine Fresh.push ?_ _); assumption) | (simp only [smA]; done) | (simp [oneCell, AW.next_push]; done) | fail) only [go_sem, Nat.reduceEqDiff, reduceIte, Nat.reduceAdd, Int.toNat_natCast, Nat.add_zero, Owes_true, e9, hF]; try rfl), rfl⟩
end Go.Proofs

namespace Go.Proofs
open Go Go.RowKit Go.Sim
set_option maxRecDepth 100000
theorem gate_cells {w : AW} {v : Value} {gs : List GateN} (h : GatesAt w v gs) {p : Option Addr} {n c : Nat} (hv : v = .slice p n c) {i : Nat} (hi : i < gs.length) :
    ∃ b o x, p = some ⟨b, o, none⟩ ∧ (gs.length : Int) ≤ 140737488355328 ∧ ArrOf w 1 icells x gs[i].ways ∧ ∀ w', Keep w.next w w' → loadV w' true 4 (.pointer (some ⟨b, o + i * 4, none⟩)) = some (.agg #[.int .i64 gs[i].A, .int .i64 gs[i].B, .int .i64 gs[i].need, x]) ∧
      w'.cell? ⟨b, o + i * 4, none⟩ = some (.int .i64 gs[i].A) ∧ w'.cell? ⟨b, o + i * 4 + 1, none⟩ = some (.int .i64 gs[i].B) := by
  obtain ⟨ws, hws, hWA, hWW⟩ := h
  have hwl : ws.length = gs.length := by rw [← hws]; simp
  obtain ⟨p', c', ex, hc1, hc2, hat⟩ := hWA.open
  rw [hv] at ex
  injection ex with ex1 ex2 ex3
  obtain ⟨b4, o4, hp, _, hcell⟩ := hat i (by omega)
  have hwi : ws[i]'(by omega) = (gs[i], (ws[i]'(by omega)).2) := by
    have : (ws.map Prod.fst)[i]'(by rw [List.length_map]; omega) = gs[i] := by simp only [hws]
    rw [List.getElem_map] at this
    rw [← this]
  have hx := hWW _ (List.getElem_mem (l := ws) (n := i) (by omega))
  rw [hwi] at hx
  refine ⟨b4, o4, (ws[i]'(by omega)).2, by rw [ex1, hp], by omega, hx, fun w' k => ?_⟩
  have a0 := hcell w' k 0 _ rfl
  have a1 := hcell w' k 1 _ rfl
  have a2 := hcell w' k 2 _ rfl
  have a3 := hcell w' k 3 _ rfl
  rw [hwi] at a0 a1 a2 a3
  simp only [gcells, Nat.add_zero] at a0 a1 a2 a3
  exact ⟨by simp only [loadV, aCells, a0, a1, a2, a3], a0, a1⟩
set_option maxHeartbeats 16000000 in
theorem opens_ok {s : StrN} (hs : strB s = true) {pR pG pS : Option Addr} {cR cG cS : Nat} {g r : Nat} (hg : g < 64) (hr : r < 64) (hgb : ∀ k, g.testBit k = true → k < s.staff.length) (hrb : ∀ k, r.testBit k = true → k < s.rooms.length) (i : Nat) (hi : i < s.gates.length) (w : AW) (f : Fresh w) (hA : StrAt w pR pG pS cR cG cS s) :
    CallT Tryz.prog Tryz.T1 (.fn (.func 86) #[]) #[.agg (strC pR pG pS cR cG cS s).toArray, .int .i64 (g : Int), .int .i64 (r : Int), .int .i64 (i : Int)] w (Ret (.bool (openB s g r s.gates[i])) (Grown w)) := by
  have hgi := (str_gates hs).2 _ (List.getElem_mem hi)
  obtain ⟨hwv, hwl⟩ := ways_val hgi
  obtain ⟨b4, o4, x, rfl, hgN, hx, hld⟩ := gate_cells hA.gates rfl hi
  have hw3 : s.gates[i].ways.length ≤ 3 := by
    unfold gateB waysB at hgi
    simp only [Bool.and_eq_true] at hgi
    have := (inR_iff _ _ _).1 hgi.2.2.2.2.1; omega
  have hoB : openB s g r s.gates[i] = (decide ((popN g : Int) ≥ s.gates[i].need) && (waysN s.gates[i]).any (subB (heldN s g r))) := rfl
  generalize s.gates[i] = G at *
  obtain ⟨px, cx, rfl, _⟩ := id hx.open
  have g1 := (Grown.refl f).push (.cells (strC pR (some ⟨b4, o4, none⟩) pS cR cG cS s) 26 w.next 0 0)
  have O1 := Own.new f 26 (strC pR (some ⟨b4, o4, none⟩) pS cR cG cS s)
  have g2 := g1.push (.cells [.int .i64 0, .int .i64 0, .int .i64 0, .slice none 0 0] 71 (w.next + 1) 0 0)
  have O2 := Own.new g1.2 71 [.int .i64 0, .int .i64 0, .int .i64 0, .slice none 0 0]
  rw [AW.next_push] at O2
  have hlo := (hld _ g1.1).1
  have c1 := O1.cell (o := 1) (v := .slice (some ⟨b4, o4, none⟩) s.gates.length cG) rfl rfl
  have st := storeV_own (o := 0) (l := [.int .i64 G.A, .int .i64 G.B, .int .i64 G.need, .slice px G.ways.length cx]) (size := 4) O2 rfl (by omega) (by simp) rfl
  have hcut : setsL [.int .i64 0, .int .i64 0, .int .i64 0, .slice none 0 0] 0 [.int .i64 G.A, .int .i64 G.B, .int .i64 G.need, .slice px G.ways.length cx] = [.int .i64 G.A, .int .i64 G.B, .int .i64 G.need, .slice px G.ways.length cx] := rfl
  rw [hcut] at st
  have m3 := MutS.put (S := fun j => j = w.next + 1) g2.2 rfl O2.lt (.cells [.int .i64 G.A, .int .i64 G.B, .int .i64 G.need, .slice px G.ways.length cx] 71 (w.next + 1) 0 0)
  have O3 := O2.put [.int .i64 G.A, .int .i64 G.B, .int .i64 G.need, .slice px G.ways.length cx]
  have O13 := m3.own (O1.push (.cells [.int .i64 0, .int .i64 0, .int .i64 0, .slice none 0 0] 71 (w.next + 1) 0 0)) (by omega)
  have g3 : Grown w _ := ⟨g2.1.trans (m3.keep (B := w.next) (fun j q => by omega) g2.1.next), m3.fresh⟩
  have d2 := O3.cell (o := 2) (v := .int .i64 G.need) rfl rfl
  have hl1 := loadAll O13 (n := 3) rfl (by simp [strC, oneCell])
  have hke := fun w' (g' : Grown w w') => keys_ok hs (g := g) (r := r) hg hr hgb hrb w' g'.2 (hA.grown g')
  have hil : (i : Int) < (s.gates.length : Int) := by omega
  unfold strC at *
  refine callT_code rfl Tryz.func86 rfl Tryz.s86_eq rfl ?_
  unfold Tryz.s86
  simp -dsimp -implicitDefEqProofs (maxSteps := 2000000) (disch := first | assumption | omega | (simp only [nx]; omega) | ((repeat refine Fresh.push ?_ _); assumption) | (simp only [smA]; done) | (simp [oneCell, AW.next_push]; done) | fail) only [go_sem, Nat.reduceEqDiff, reduceIte, Nat.reduceAdd, Int.toNat_natCast, Nat.add_zero, Owes_true, Tryz.results86, c1, indexV_eq, hil, hlo, st, Nat.zero_add]
  generalize ((w.push (.cells [.slice pR s.rooms.length cR, .slice (some ⟨b4, o4, none⟩) s.gates.length cG, .slice pS s.staff.length cS] 26 w.next 0 0)).push (.cells [.int .i64 0, .int .i64 0, .int .i64 0, .slice none 0 0] 71 (w.next + 1) 0 0)).put (w.next + 1) (.cells [.int .i64 G.A, .int .i64 G.B, .int .i64 G.need, .slice px G.ways.length cx] 71 (w.next + 1) 0 0) = w3 at *
  have hle3 : WLe w3 w3 := (Grown.refl g3.2).1.wle g3.2
  try simp -dsimp -implicitDefEqProofs (maxSteps := 2000000) (disch := first | assumption | omega | (simp only [nx]; omega) | ((repeat refine Fresh.push ?_ _); assumption) | (simp only [smA]; done) | (simp [oneCell, AW.next_push]; done) | fail) only [go_sem, Nat.reduceEqDiff, reduceIte, Nat.reduceAdd, Int.toNat_natCast, Nat.add_zero, Owes_true, Tryz.results86, d2, hle3, Nat.zero_add]
  apply callV_of (e := rfl)
  · exact people_okR g hg w3
  rintro _ _ ⟨rfl, rfl⟩
  by_cases hp : (popN g : Int) < G.need
  case pos =>
    have hd : decide ((popN g : Int) ≥ G.need) = false := decide_eq_false (by omega)
    rw [hoB, hd]
    simp -dsimp -implicitDefEqProofs (maxSteps := 2000000) (disch := first | assumption | omega | (simp only [nx]; omega) | ((repeat refine Fresh.push ?_ _); assumption) | (simp only [smA]; done) | (simp [oneCell, AW.next_push]; done) | fail) only [go_sem, Nat.reduceEqDiff, reduceIte, Nat.reduceAdd, Int.toNat_natCast, Nat.add_zero, Owes_true, Tryz.results86, hle3, d2, hp, Nat.zero_add]
    exact ⟨rfl, g3⟩
  have hd : decide ((popN g : Int) ≥ G.need) = true := decide_eq_true (by omega)
  rw [hoB, hd]
  simp -dsimp -implicitDefEqProofs (maxSteps := 2000000) (disch := first | assumption | omega | (simp only [nx]; omega) | ((repeat refine Fresh.push ?_ _); assumption) | (simp only [smA]; done) | (simp [oneCell, AW.next_push]; done) | fail) only [go_sem, Nat.reduceEqDiff, reduceIte, Nat.reduceAdd, Int.toNat_natCast, Nat.add_zero, Owes_true, Tryz.results86, hle3, d2, hp, hl1, Nat.zero_add]
  apply callV_of (e := rfl)
  · exact hke w3 g3
  rintro _ w4 ⟨rfl, g4⟩
  have gg4 := g3.trans g4
  have O4 := O3.keep g4.1
  have d3 := O4.cell (o := 3) (v := .slice px G.ways.length cx) rfl rfl
  have hH := heldN_lt s g r
  generalize heldN s g r = H at *
  have hwl2 : (waysN G).length = G.ways.length := by unfold waysN; simp
  simp -dsimp -implicitDefEqProofs (maxSteps := 2000000) (disch := first | assumption | omega | (simp only [nx]; omega) | ((repeat refine Fresh.push ?_ _); assumption) | (simp only [smA]; done) | (simp [oneCell, AW.next_push]; done) | fail) only [go_sem, Nat.reduceEqDiff, reduceIte, Nat.reduceAdd, Int.toNat_natCast, Nat.add_zero, Owes_true, Tryz.results86]
  refine loopR (fun k t ds w5 => ∃ j : Nat, j ≤ G.ways.length ∧ k = G.ways.length - j ∧ ds = [] ∧ ev t (.tmp 9) = .pointer (some ⟨w.next + 1, 0, none⟩) ∧ ev t (.tmp 10) = .int .i64 (H : Int) ∧ ev t (.tmp 11) = .int .i64 (j : Int) ∧ ((waysN G).take j).any (subB H) = false ∧ w4 = w5) (G.ways.length) ?_ ?_
  · refine ⟨0, by omega, by omega, rfl, ?_, ?_, ?_, rfl, rfl⟩ <;> simp -dsimp -implicitDefEqProofs (maxSteps := 2000000) (disch := first | assumption | omega | (simp only [nx]; omega) | ((repeat refine Fresh.push ?_ _); assumption) | (simp only [smA]; done) | (simp [oneCell, AW.next_push]; done) | fail) only [go_sem, Nat.reduceEqDiff, reduceIte, Nat.reduceAdd, Int.toNat_natCast, Nat.add_zero, Owes_true] <;> rfl
  rintro k t ds w5 ⟨j, hij, rfl, rfl, e9, e10, e11, hno, hw⟩
  subst hw
  by_cases hlj : (j : Int) < (G.ways.length : Int)
  case neg =>
    obtain rfl : j = G.ways.length := by omega
    rw [← hwl2, List.take_length] at hno
    simp -dsimp -implicitDefEqProofs (maxSteps := 2000000) (disch := first | assumption | omega | (simp only [nx]; omega) | ((repeat refine Fresh.push ?_ _); assumption) | (simp only [smA]; done) | (simp [oneCell, AW.next_push]; done) | fail) only [go_sem, Nat.reduceEqDiff, reduceIte, Nat.reduceAdd, Int.toNat_natCast, Nat.add_zero, Owes_true, Tryz.results86, e9, e10, e11, d3, hlj, Nat.zero_add]
    exact ⟨by rw [hno], gg4⟩
  have hlj' : j < G.ways.length := by omega
  obtain ⟨_, _, ex, _, _, hat⟩ := (hx.grown gg4).open
  injection ex with ex1 ex2 ex3
  subst ex1 ex3
  obtain ⟨b5, o5, rfl, _, hcell⟩ := hat j hlj'
  have a0 := hcell w4 (.refl _ _) 0 _ rfl
  have hwj : G.ways[j] = (((waysN G)[j]'(by omega) : Nat) : Int) := by
    have : (natsL (waysN G))[j]'(by rw [hwv]; exact hlj') = G.ways[j] := by simp only [hwv]
    rw [← this]; simp [natsL]
  rw [Nat.add_zero, hwj] at a0
  have hwlt := hwl _ (List.getElem_mem (l := waysN G) (n := j) (by omega))
  have hsucc : ((waysN G).take (j + 1)).any (subB H) = subB H ((waysN G)[j]'(by omega)) := by
    rw [List.take_add_one, List.getElem?_eq_getElem (by omega), List.any_append, hno]; simp
  have hmem := List.getElem_mem (l := waysN G) (n := j) (by omega)
  generalize (waysN G)[j]'(by omega) = y at *
  simp -dsimp -implicitDefEqProofs (maxSteps := 2000000) (disch := first | assumption | omega | (simp only [nx]; omega) | ((repeat refine Fresh.push ?_ _); assumption) | (simp only [smA]; done) | (simp [oneCell, AW.next_push]; done) | fail) only [go_sem, Nat.reduceEqDiff, reduceIte, Nat.reduceAdd, Int.toNat_natCast, Nat.add_zero, Owes_true, Tryz.results86, e9, e10, e11, d3, hlj, indexV_eq, a0, Nat.zero_add]
  apply callV_of (e := rfl)
  · exact Has_ok H y hH hwlt w4
  rintro _ _ ⟨rfl, rfl⟩
  cases hk : subB H y with
  | true =>
    have hT : (waysN G).any (subB H) = true := List.any_eq_true.2 ⟨_, hmem, hk⟩
    simp -dsimp -implicitDefEqProofs (maxSteps := 2000000) (disch := first | assumption | omega | (simp only [nx]; omega) | ((repeat refine Fresh.push ?_ _); assumption) | (simp only [smA]; done) | (simp [oneCell, AW.next_push]; done) | fail) only [go_sem, Nat.reduceEqDiff, reduceIte, Nat.reduceAdd, Int.toNat_natCast, Nat.add_zero, Owes_true, Tryz.results86, e9, e10, e11, hk]
    exact ⟨by rw [hT], gg4⟩
  | false =>
    simp -dsimp -implicitDefEqProofs (maxSteps := 2000000) (disch := first | assumption | omega | (simp only [nx]; omega) | ((repeat refine Fresh.push ?_ _); assumption) | (simp only [smA]; done) | (simp [oneCell, AW.next_push]; done) | fail) only [go_sem, Nat.reduceEqDiff, reduceIte, Nat.reduceAdd, Int.toNat_natCast, Nat.add_zero, Owes_true, Tryz.results86, e9, e10, e11, hk]
    refine ⟨_, by omega, j + 1, by omega, rfl, rfl, by (simp -dsimp -implicitDefEqProofs (maxSteps := 2000000) (disch := first | assumption | omega | (simp only [nx]; omega) | ((repeat refine Fresh.push ?_ _); assumption) | (simp only [smA]; done) | (simp [oneCell, AW.next_push]; done) | fail) only [go_sem, Nat.reduceEqDiff, reduceIte, Nat.reduceAdd, Int.toNat_natCast, Nat.add_zero, Owes_true, e9]; try rfl), by (simp -dsimp -implicitDefEqProofs (maxSteps := 2000000) (disch := first | assumption | omega | (simp only [nx]; omega) | ((repeat refine Fresh.push ?_ _); assumption) | (simp only [smA]; done) | (simp [oneCell, AW.next_push]; done) | fail) only [go_sem, Nat.reduceEqDiff, reduceIte, Nat.reduceAdd, Int.toNat_natCast, Nat.add_zero, Owes_true, e10]; try rfl), by (simp -dsimp -implicitDefEqProofs (maxSteps := 2000000) (disch := first | assumption | omega | (simp only [nx]; omega) | ((repeat refine Fresh.push ?_ _); assumption) | (simp only [smA]; done) | (simp [oneCell, AW.next_push]; done) | fail) only [go_sem, Nat.reduceEqDiff, reduceIte, Nat.reduceAdd, Int.toNat_natCast, Nat.add_zero, Owes_true, e11]; try rfl), (by rw [hsucc, hk]), rfl⟩
end Go.Proofs

namespace Go.Proofs
open Go Go.RowKit Go.Sim
set_option maxRecDepth 100000
theorem same_sV (n : Nat) (p : Option Addr) (k c : Nat) : same (n + 1) (.slice p k c) (.slice p k c) = true := by
  cases p with
  | none => simp [same]
  | some a => obtain ⟨b, o, q⟩ := a; cases q <;> simp [same]
theorem same_str (p q r : Option Addr) (a b c d e f : Nat) : same 12 (.agg #[.slice p a d, .slice q b e, .slice r c f]) (.agg #[.slice p a d, .slice q b e, .slice r c f]) = true := by
  show same.all 11 [.slice p a d, .slice q b e, .slice r c f] [.slice p a d, .slice q b e, .slice r c f] = true
  simp only [same.all, same_sV 10, Bool.and_self]
set_option maxHeartbeats 16000000 in
theorem leads_ok {s : StrN} (hs : strB s = true) {pR pG pS : Option Addr} {cR cG cS : Nat} {g r : Nat} (hg : g < 64) (hr : r < 64) (hgb : ∀ k, g.testBit k = true → k < s.staff.length) (hrb : ∀ k, r.testBit k = true → k < s.rooms.length) (i : Nat) (hi : i < s.gates.length) (w : AW) (f : Fresh w) (hA : StrAt w pR pG pS cR cG cS s) :
    CallT Tryz.prog Tryz.T1 (.fn (.func 57) #[]) #[.agg (strC pR pG pS cR cG cS s).toArray, .int .i64 (g : Int), .int .i64 (r : Int), .int .i64 (i : Int)] w (Ret (.bool (stepB s g r s.gates[i])) (Grown w)) := by
  have hgi := (str_gates hs).2 _ (List.getElem_mem hi)
  have hop := fun w' (g' : Grown w w') => opens_ok hs (g := g) (r := r) hg hr hgb hrb i hi w' g'.2 (hA.grown g')
  obtain ⟨b4, o4, x, rfl, hgN, hx, hld⟩ := gate_cells hA.gates rfl hi
  obtain ⟨⟨hAe, hAl⟩, hBe, hBl⟩ := gate_fit hgi (str_rooms hs).2
  have hrl := (str_rooms hs).2
  have hsB : stepB s g r s.gates[i] = ((r.testBit s.gates[i].A.toNat != r.testBit s.gates[i].B.toNat) && openB s g r s.gates[i]) := rfl
  generalize s.gates[i] = G at *
  obtain ⟨px, cx, rfl, _⟩ := id hx.open
  obtain ⟨A, hA'⟩ : ∃ A : Nat, G.A = (A : Int) := ⟨_, hAe⟩
  obtain ⟨B, hB'⟩ : ∃ B : Nat, G.B = (B : Int) := ⟨_, hBe⟩
  have hAn : G.A.toNat = A := by omega
  have hBn : G.B.toNat = B := by omega
  rw [hAn, hBn] at hsB
  rw [hAn] at hAl
  rw [hBn] at hBl
  rw [hA', hB'] at hld
  clear hAe hBe
  have g1 := (Grown.refl f).push (.cells (strC pR (some ⟨b4, o4, none⟩) pS cR cG cS s) 26 w.next 0 0)
  have O1 := Own.new f 26 (strC pR (some ⟨b4, o4, none⟩) pS cR cG cS s)
  have g2 := g1.push (.cells [.int .i64 0, .int .i64 0, .int .i64 0, .slice none 0 0] 71 (w.next + 1) 0 0)
  have O2 := Own.new g1.2 71 [.int .i64 0, .int .i64 0, .int .i64 0, .slice none 0 0]
  rw [AW.next_push] at O2
  have hlo := (hld _ g1.1).1
  have c1 := O1.cell (o := 1) (v := .slice (some ⟨b4, o4, none⟩) s.gates.length cG) rfl rfl
  have st := storeV_own (o := 0) (l := [.int .i64 (A : Int), .int .i64 (B : Int), .int .i64 G.need, .slice px G.ways.length cx]) (size := 4) O2 rfl (by omega) (by simp) rfl
  have hcut : setsL [.int .i64 0, .int .i64 0, .int .i64 0, .slice none 0 0] 0 [.int .i64 (A : Int), .int .i64 (B : Int), .int .i64 G.need, .slice px G.ways.length cx] = [.int .i64 (A : Int), .int .i64 (B : Int), .int .i64 G.need, .slice px G.ways.length cx] := rfl
  rw [hcut] at st
  have m3 := MutS.put (S := fun j => j = w.next + 1) g2.2 rfl O2.lt (.cells [.int .i64 (A : Int), .int .i64 (B : Int), .int .i64 G.need, .slice px G.ways.length cx] 71 (w.next + 1) 0 0)
  have O3 := O2.put [.int .i64 (A : Int), .int .i64 (B : Int), .int .i64 G.need, .slice px G.ways.length cx]
  have O13 := m3.own (O1.push (.cells [.int .i64 0, .int .i64 0, .int .i64 0, .slice none 0 0] 71 (w.next + 1) 0 0)) (by omega)
  have g3 : Grown w _ := ⟨g2.1.trans (m3.keep (B := w.next) (fun j q => by omega) g2.1.next), m3.fresh⟩
  have d0 := O3.cell (o := 0) (v := .int .i64 (A : Int)) rfl rfl
  have d1 := O3.cell (o := 1) (v := .int .i64 (B : Int)) rfl rfl
  have hl1 := loadAll O13 (n := 3) rfl (by simp [strC, oneCell])
  have hil : (i : Int) < (s.gates.length : Int) := by omega
  have nb : ∀ a b : Bool, eqQ Tryz.prog .neq 4 (.bool a) (.bool b) = some (.bool (a != b)) := fun a b => by cases a <;> cases b <;> kernel_rfl
  have hbb : ∀ a b : Bool, binQ .neq (.bool a) (.bool b) = none := fun a b => rfl
  unfold strC at *
  refine callT_code rfl Tryz.func57 rfl Tryz.s57_eq rfl ?_
  unfold Tryz.s57
  simp -dsimp -implicitDefEqProofs (maxSteps := 2000000) (disch := first | assumption | omega | (simp only [nx]; omega) | ((repeat refine Fresh.push ?_ _); assumption) | (simp only [smA]; done) | (simp [oneCell, AW.next_push]; done) | fail) only [go_sem, Nat.reduceEqDiff, reduceIte, Nat.reduceAdd, Int.toNat_natCast, Nat.add_zero, Owes_true, Tryz.results57, c1, indexV_eq, hil, hlo, st, Nat.zero_add]
  generalize ((w.push (.cells [.slice pR s.rooms.length cR, .slice (some ⟨b4, o4, none⟩) s.gates.length cG, .slice pS s.staff.length cS] 26 w.next 0 0)).push (.cells [.int .i64 0, .int .i64 0, .int .i64 0, .slice none 0 0] 71 (w.next + 1) 0 0)).put (w.next + 1) (.cells [.int .i64 (A : Int), .int .i64 (B : Int), .int .i64 G.need, .slice px G.ways.length cx] 71 (w.next + 1) 0 0) = w3 at *
  have hle3 : WLe w3 w3 := (Grown.refl g3.2).1.wle g3.2
  have hss := same_str pR (some ⟨b4, o4, none⟩) pS s.rooms.length s.gates.length s.staff.length cR cG cS
  try simp -dsimp -implicitDefEqProofs (maxSteps := 2000000) (disch := first | assumption | omega | (simp only [nx]; omega) | ((repeat refine Fresh.push ?_ _); assumption) | (simp only [smA]; done) | (simp [oneCell, AW.next_push]; done) | fail) only [go_sem, Nat.reduceEqDiff, reduceIte, Nat.reduceAdd, Int.toNat_natCast, Nat.add_zero, Owes_true, Tryz.results57, d0, d1, hle3, Nat.zero_add]
  apply callV_of (e := rfl)
  · exact Bit_ok r A (by omega) (by omega) w3
  rintro _ _ ⟨rfl, rfl⟩
  simp -dsimp -implicitDefEqProofs (maxSteps := 2000000) (disch := first | assumption | omega | (simp only [nx]; omega) | ((repeat refine Fresh.push ?_ _); assumption) | (simp only [smA]; done) | (simp [oneCell, AW.next_push]; done) | fail) only [go_sem, Nat.reduceEqDiff, reduceIte, Nat.reduceAdd, Int.toNat_natCast, Nat.add_zero, Owes_true, Tryz.results57, hle3, d0, d1, Nat.zero_add]
  apply callV_of (e := rfl)
  · exact Bit_ok r B (by omega) (by omega) w3
  rintro _ _ ⟨rfl, rfl⟩
  have hn := nb (r.testBit A) (r.testBit B)
  have hbn := hbb (r.testBit A) (r.testBit B)
  cases hld2 : (r.testBit A != r.testBit B) with
  | false =>
    rw [hld2] at hn
    rw [hsB, hld2]
    simp -dsimp -implicitDefEqProofs (maxSteps := 2000000) (disch := first | assumption | omega | (simp only [nx]; omega) | ((repeat refine Fresh.push ?_ _); assumption) | (simp only [smA]; done) | (simp [oneCell, AW.next_push]; done) | fail) only [go_sem, Nat.reduceEqDiff, reduceIte, Nat.reduceAdd, Int.toNat_natCast, Nat.add_zero, Owes_true, Tryz.results57, hle3, hn, hbn, d0, d1, Nat.zero_add]
    exact ⟨rfl, g3⟩
  | true =>
    rw [hld2] at hn
    rw [hsB, hld2]
    simp -dsimp -implicitDefEqProofs (maxSteps := 2000000) (disch := first | assumption | omega | (simp only [nx]; omega) | ((repeat refine Fresh.push ?_ _); assumption) | (simp only [smA]; done) | (simp [oneCell, AW.next_push]; done) | fail) only [go_sem, Nat.reduceEqDiff, reduceIte, Nat.reduceAdd, Int.toNat_natCast, Nat.add_zero, Owes_true, Tryz.results57, hle3, hn, hbn, d0, d1, hl1, hss, Nat.zero_add]
    apply callV_of (e := rfl)
    · exact hop w3 g3
    rintro _ w4 ⟨rfl, g4⟩
    have hle4 : WLe w3 w4 := g4.1.wle g3.2
    simp -dsimp -implicitDefEqProofs (maxSteps := 2000000) (disch := first | assumption | omega | (simp only [nx]; omega) | ((repeat refine Fresh.push ?_ _); assumption) | (simp only [smA]; done) | (simp [oneCell, AW.next_push]; done) | fail) only [go_sem, Nat.reduceEqDiff, reduceIte, Nat.reduceAdd, Int.toNat_natCast, Nat.add_zero, Owes_true, Tryz.results57, hle3, hle4]
    exact ⟨rfl, g3.trans g4⟩
end Go.Proofs

namespace Go.Proofs
open Go Go.RowKit Go.Sim
set_option maxRecDepth 100000
set_option maxHeartbeats 16000000 in
theorem both_ok {s : StrN} (hs : strB s = true) {pR pG pS : Option Addr} {cR cG cS : Nat} {r : Nat} (hr : r < 64) (i : Nat) (hi : i < s.gates.length) (w : AW) (f : Fresh w) (hA : StrAt w pR pG pS cR cG cS s) :
    CallT Tryz.prog Tryz.T1 (.fn (.func 62) #[]) #[.agg (strC pR pG pS cR cG cS s).toArray, .int .i64 (r : Int), .int .i64 (i : Int)] w (Ret (.int .i64 (nextR r s.gates[i] : Int)) (Grown w)) := by
  have hgi := (str_gates hs).2 _ (List.getElem_mem hi)
  obtain ⟨b4, o4, x, rfl, hgN, hx, hld⟩ := gate_cells hA.gates rfl hi
  obtain ⟨⟨hAe, hAl⟩, hBe, hBl⟩ := gate_fit hgi (str_rooms hs).2
  have hrl := (str_rooms hs).2
  have hnr : nextR r s.gates[i] = r ||| (2 ^ s.gates[i].A.toNat ||| 2 ^ s.gates[i].B.toNat) := rfl
  generalize s.gates[i] = G at *
  obtain ⟨A, hA'⟩ : ∃ A : Nat, G.A = (A : Int) := ⟨_, hAe⟩
  obtain ⟨B, hB'⟩ : ∃ B : Nat, G.B = (B : Int) := ⟨_, hBe⟩
  have hAn : G.A.toNat = A := by omega
  have hBn : G.B.toNat = B := by omega
  rw [hAn, hBn] at hnr
  rw [hAn] at hAl
  rw [hBn] at hBl
  rw [hA', hB'] at hld
  clear hAe hBe
  have g1 := (Grown.refl f).push (.cells (strC pR (some ⟨b4, o4, none⟩) pS cR cG cS s) 26 w.next 0 0)
  have O1 := Own.new f 26 (strC pR (some ⟨b4, o4, none⟩) pS cR cG cS s)
  obtain ⟨_, a0, a1⟩ := hld _ g1.1
  have c1 := O1.cell (o := 1) (v := .slice (some ⟨b4, o4, none⟩) s.gates.length cG) rfl rfl
  have hil : (i : Int) < (s.gates.length : Int) := by omega
  have hsA := full_shl (n := A) (by omega)
  have hsB := full_shl (n := B) (by omega)
  have pA := pow_lt6 (a := A) (by omega)
  have pB := pow_lt6 (a := B) (by omega)
  have h0A : ¬ (A : Int) < 0 := by omega
  have h0B : ¬ (B : Int) < 0 := by omega
  have pAB : 2 ^ A ||| 2 ^ B < 64 := Nat.or_lt_two_pow (n := 6) pA pB
  rw [hnr]
  unfold strC at *
  generalize 2 ^ A = PA at *
  generalize 2 ^ B = PB at *
  refine callT_code rfl Tryz.func62 rfl Tryz.s62_eq rfl ?_
  unfold Tryz.s62
  simp -dsimp -implicitDefEqProofs (maxSteps := 2000000) (disch := first | assumption | omega | (simp only [nx]; omega) | ((repeat refine Fresh.push ?_ _); assumption) | (simp only [smA]; done) | (simp [oneCell, AW.next_push]; done) | fail) only [go_sem, Nat.reduceEqDiff, reduceIte, Nat.reduceAdd, Int.toNat_natCast, Nat.add_zero, Owes_true, Tryz.results62, c1, indexV_eq, hil, a0, a1, hsA, hsB, h0A, h0B, Nat.zero_add]
  generalize w.push (.cells [.slice pR s.rooms.length cR, .slice (some ⟨b4, o4, none⟩) s.gates.length cG, .slice pS s.staff.length cS] 26 w.next 0 0) = w1 at *
  have hle1 : WLe w1 w1 := (Grown.refl g1.2).1.wle g1.2
  apply callV_of (e := rfl)
  · exact with_ok PA PB (by omega) (by omega) w1
  rintro _ _ ⟨rfl, rfl⟩
  simp -dsimp -implicitDefEqProofs (maxSteps := 2000000) (disch := first | assumption | omega | (simp only [nx]; omega) | ((repeat refine Fresh.push ?_ _); assumption) | (simp only [smA]; done) | (simp [oneCell, AW.next_push]; done) | fail) only [go_sem, Nat.reduceEqDiff, reduceIte, Nat.reduceAdd, Int.toNat_natCast, Nat.add_zero, Owes_true, Tryz.results62, hle1, c1, indexV_eq, hil, a0, a1, hsA, hsB, h0A, h0B, Nat.zero_add]
  apply callV_of (e := rfl)
  · exact with_ok r (PA ||| PB) (by omega) (by omega) w1
  rintro _ _ ⟨rfl, rfl⟩
  simp -dsimp -implicitDefEqProofs (maxSteps := 2000000) (disch := first | assumption | omega | (simp only [nx]; omega) | ((repeat refine Fresh.push ?_ _); assumption) | (simp only [smA]; done) | (simp [oneCell, AW.next_push]; done) | fail) only [go_sem, Nat.reduceEqDiff, reduceIte, Nat.reduceAdd, Int.toNat_natCast, Nat.add_zero, Owes_true, Tryz.results62, hle1]
  exact ⟨rfl, g1⟩
set_option maxHeartbeats 16000000 in
theorem enter_ok {s : StrN} (hs : strB s = true) {pR pG pS : Option Addr} {cR cG cS : Nat} {g : Nat} (hg : g < 64) (hgb : ∀ k, g.testBit k = true → k < s.staff.length) (w : AW) (f : Fresh w) (hA : StrAt w pR pG pS cR cG cS s) :
    CallT Tryz.prog Tryz.T1 (.fn (.func 50) #[]) #[.agg (strC pR pG pS cR cG cS s).toArray, .int .i64 (g : Int)] w (Ret (.int .i64 (endR s g 1 : Int)) (Grown w)) := by
  have g1 := (Grown.refl f).push (.cells (strC pR pG pS cR cG cS s) 26 w.next 0 0)
  have O1 := Own.new f 26 (strC pR pG pS cR cG cS s)
  have hA1 := hA.grown g1
  have hgl := (str_gates hs).1
  have hld := fun (r i : Nat) (hr : r < 64) (hrb : ∀ k, r.testBit k = true → k < s.rooms.length) (hi : i < s.gates.length) w' (g' : Grown w w') => leads_ok hs (g := g) (r := r) hg hr hgb hrb i hi w' g'.2 (hA.grown g')
  have hbo := fun (r i : Nat) (hr : r < 64) (hi : i < s.gates.length) w' (g' : Grown w w') => both_ok hs (r := r) hr i hi w' g'.2 (hA.grown g')
  unfold strC at *
  refine callT_code rfl Tryz.func50 rfl Tryz.s50_eq rfl ?_
  unfold Tryz.s50
  simp -dsimp -implicitDefEqProofs (maxSteps := 2000000) (disch := first | assumption | omega | (simp only [nx]; omega) | ((repeat refine Fresh.push ?_ _); assumption) | (simp only [smA]; done) | (simp [oneCell, AW.next_push]; done) | fail) only [go_sem, Nat.reduceEqDiff, reduceIte, Nat.reduceAdd, Int.toNat_natCast, Nat.add_zero, Owes_true, Tryz.results50]
  generalize w.push (.cells [.slice pR s.rooms.length cR, .slice pG s.gates.length cG, .slice pS s.staff.length cS] 26 w.next 0 0) = w1 at *
  refine loopR (fun k t ds w2 => ∃ r i : Nat, EnterS s g r i ∧ i ≤ s.gates.length ∧ k = (64 - r) * 11 + (s.gates.length - i) ∧ ds = [] ∧ ev t (.tmp 1) = .int .i64 (g : Int) ∧ ev t (.tmp 2) = .pointer (some ⟨w.next, 0, none⟩) ∧ ev t (.tmp 5) = .int .i64 (r : Int) ∧ ev t (.tmp 6) = .int .i64 (i : Int) ∧ Grown w1 w2) ((64 - 1) * 11 + (s.gates.length - 0)) ?_ ?_
  · refine ⟨1, 0, EnterS.start hs g, by omega, rfl, rfl, ?_, ?_, ?_, ?_, Grown.refl g1.2⟩ <;> simp -dsimp -implicitDefEqProofs (maxSteps := 2000000) (disch := first | assumption | omega | (simp only [nx]; omega) | ((repeat refine Fresh.push ?_ _); assumption) | (simp only [smA]; done) | (simp [oneCell, AW.next_push]; done) | fail) only [go_sem, Nat.reduceEqDiff, reduceIte, Nat.reduceAdd, Int.toNat_natCast, Nat.add_zero, Owes_true] <;> rfl
  rintro k t ds w2 ⟨r, i, hE, hii, rfl, rfl, e1, e2, e5, e6, gg⟩
  have gW := g1.trans gg
  have O2 := O1.keep gg.1
  have c1 := O2.cell (o := 1) (v := .slice pG s.gates.length cG) rfl rfl
  have hl2 := loadAll O2 (n := 3) rfl (by simp [oneCell])
  by_cases hlt : (i : Int) < (s.gates.length : Int)
  case neg =>
    obtain rfl : i = s.gates.length := by omega
    simp -dsimp -implicitDefEqProofs (maxSteps := 2000000) (disch := first | assumption | omega | (simp only [nx]; omega) | ((repeat refine Fresh.push ?_ _); assumption) | (simp only [smA]; done) | (simp [oneCell, AW.next_push]; done) | fail) only [go_sem, Nat.reduceEqDiff, reduceIte, Nat.reduceAdd, Int.toNat_natCast, Nat.add_zero, Owes_true, Tryz.results50, e1, e2, e5, e6, hlt, c1, Nat.zero_add]
    exact ⟨by rw [hE.done], gW⟩
  have hlt' : i < s.gates.length := by omega
  simp -dsimp -implicitDefEqProofs (maxSteps := 2000000) (disch := first | assumption | omega | (simp only [nx]; omega) | ((repeat refine Fresh.push ?_ _); assumption) | (simp only [smA]; done) | (simp [oneCell, AW.next_push]; done) | fail) only [go_sem, Nat.reduceEqDiff, reduceIte, Nat.reduceAdd, Int.toNat_natCast, Nat.add_zero, Owes_true, Tryz.results50, e1, e2, e5, e6, hlt, c1, hl2, Nat.zero_add]
  apply callV_of (e := rfl)
  · exact hld r i hE.lt hE.bits hlt' w2 gW
  rintro _ w3 ⟨rfl, g3⟩
  have gW3 := gW.trans g3
  have gg3 := gg.trans g3
  have O3 := O2.keep g3.1
  have hl3 := loadAll O3 (n := 3) rfl (by simp [oneCell])
  cases hk : stepB s g r s.gates[i] with
  | false =>
    have hE' := hE.skip hlt' hk
    simp -dsimp -implicitDefEqProofs (maxSteps := 2000000) (disch := first | assumption | omega | (simp only [nx]; omega) | ((repeat refine Fresh.push ?_ _); assumption) | (simp only [smA]; done) | (simp [oneCell, AW.next_push]; done) | fail) only [go_sem, Nat.reduceEqDiff, reduceIte, Nat.reduceAdd, Int.toNat_natCast, Nat.add_zero, Owes_true, Tryz.results50, e1, e2, e5, e6, hk]
    exact ⟨_, by omega, r, i + 1, hE', by omega, rfl, rfl, by (simp -dsimp -implicitDefEqProofs (maxSteps := 2000000) (disch := first | assumption | omega | (simp only [nx]; omega) | ((repeat refine Fresh.push ?_ _); assumption) | (simp only [smA]; done) | (simp [oneCell, AW.next_push]; done) | fail) only [go_sem, Nat.reduceEqDiff, reduceIte, Nat.reduceAdd, Int.toNat_natCast, Nat.add_zero, Owes_true, e1]; try rfl), by (simp -dsimp -implicitDefEqProofs (maxSteps := 2000000) (disch := first | assumption | omega | (simp only [nx]; omega) | ((repeat refine Fresh.push ?_ _); assumption) | (simp only [smA]; done) | (simp [oneCell, AW.next_push]; done) | fail) only [go_sem, Nat.reduceEqDiff, reduceIte, Nat.reduceAdd, Int.toNat_natCast, Nat.add_zero, Owes_true, e2]; try rfl), by (simp -dsimp -implicitDefEqProofs (maxSteps := 2000000) (disch := first | assumption | omega | (simp only [nx]; omega) | ((repeat refine Fresh.push ?_ _); assumption) | (simp only [smA]; done) | (simp [oneCell, AW.next_push]; done) | fail) only [go_sem, Nat.reduceEqDiff, reduceIte, Nat.reduceAdd, Int.toNat_natCast, Nat.add_zero, Owes_true, e5]; try rfl), by (simp -dsimp -implicitDefEqProofs (maxSteps := 2000000) (disch := first | assumption | omega | (simp only [nx]; omega) | ((repeat refine Fresh.push ?_ _); assumption) | (simp only [smA]; done) | (simp [oneCell, AW.next_push]; done) | fail) only [go_sem, Nat.reduceEqDiff, reduceIte, Nat.reduceAdd, Int.toNat_natCast, Nat.add_zero, Owes_true, e6]; try rfl), gg3⟩
  | true =>
    obtain ⟨hE', hlt2⟩ := hE.go hs hlt' hk
    have hlt3 := hE'.lt
    simp -dsimp -implicitDefEqProofs (maxSteps := 2000000) (disch := first | assumption | omega | (simp only [nx]; omega) | ((repeat refine Fresh.push ?_ _); assumption) | (simp only [smA]; done) | (simp [oneCell, AW.next_push]; done) | fail) only [go_sem, Nat.reduceEqDiff, reduceIte, Nat.reduceAdd, Int.toNat_natCast, Nat.add_zero, Owes_true, Tryz.results50, e1, e2, e5, e6, hk, hl3]
    apply callV_of (e := rfl)
    · exact hbo r i hE.lt hlt' w3 gW3
    rintro _ w4 ⟨rfl, g4⟩
    simp -dsimp -implicitDefEqProofs (maxSteps := 2000000) (disch := first | assumption | omega | (simp only [nx]; omega) | ((repeat refine Fresh.push ?_ _); assumption) | (simp only [smA]; done) | (simp [oneCell, AW.next_push]; done) | fail) only [go_sem, Nat.reduceEqDiff, reduceIte, Nat.reduceAdd, Int.toNat_natCast, Nat.add_zero, Owes_true, Tryz.results50, e1, e2, e5, e6]
    exact ⟨_, by omega, nextR r s.gates[i], 0, hE', by omega, rfl, rfl, by (simp -dsimp -implicitDefEqProofs (maxSteps := 2000000) (disch := first | assumption | omega | (simp only [nx]; omega) | ((repeat refine Fresh.push ?_ _); assumption) | (simp only [smA]; done) | (simp [oneCell, AW.next_push]; done) | fail) only [go_sem, Nat.reduceEqDiff, reduceIte, Nat.reduceAdd, Int.toNat_natCast, Nat.add_zero, Owes_true, e1]; try rfl), by (simp -dsimp -implicitDefEqProofs (maxSteps := 2000000) (disch := first | assumption | omega | (simp only [nx]; omega) | ((repeat refine Fresh.push ?_ _); assumption) | (simp only [smA]; done) | (simp [oneCell, AW.next_push]; done) | fail) only [go_sem, Nat.reduceEqDiff, reduceIte, Nat.reduceAdd, Int.toNat_natCast, Nat.add_zero, Owes_true, e2]; try rfl), by (simp -dsimp -implicitDefEqProofs (maxSteps := 2000000) (disch := first | assumption | omega | (simp only [nx]; omega) | ((repeat refine Fresh.push ?_ _); assumption) | (simp only [smA]; done) | (simp [oneCell, AW.next_push]; done) | fail) only [go_sem, Nat.reduceEqDiff, reduceIte, Nat.reduceAdd, Int.toNat_natCast, Nat.add_zero, Owes_true, e5]; try rfl), by (simp -dsimp -implicitDefEqProofs (maxSteps := 2000000) (disch := first | assumption | omega | (simp only [nx]; omega) | ((repeat refine Fresh.push ?_ _); assumption) | (simp only [smA]; done) | (simp [oneCell, AW.next_push]; done) | fail) only [go_sem, Nat.reduceEqDiff, reduceIte, Nat.reduceAdd, Int.toNat_natCast, Nat.add_zero, Owes_true, e6]; try rfl), gg3.trans g4⟩
end Go.Proofs
