/- This program: its code, contracts, numbers, part 6. -/
import Derived.Test.YthnpnooiidnbeaaGreatPaa
import Derived.Test.YthnpnooiidnbeaaGreatNa
import Derived.Test.YthnpnooiidnbeaaGreatPae
import Derived.Test.YthnpnooiidnbeaaGreatNc
import Derived.Test.YthnpnooiidnbeaaGreatRows
import Derived.ProofKit
import Derived.SizedLaws
set_option linter.unusedVariables false
set_option linter.unusedSimpArgs false
namespace Go.Proofs
open Go Go.RowKit Go.Sim
set_option maxRecDepth 100000
def Tryz.s9_c152 : SC := (.seq (.ops false [⟨⟨(some 152),.indexAddr 74 (.tmp 3) (.const (.int .i64 2)),0,"",⟨[]⟩,none⟩,none,false⟩,⟨⟨(some 153),.load 3 (.tmp 152),3,"",⟨[]⟩,none⟩,none,false⟩,⟨⟨(some 154),.call ⟨.value (.func 43),⟨[(.tmp 153),(.const (.int .i64 24))]⟩,⟨[3,3]⟩⟩,3,"",⟨[]⟩,none⟩,none,false⟩,⟨⟨(some 15),.assign (.tmp 154),3,"",⟨[]⟩,none⟩,none,false⟩]) (.seq (.seq (.ops true [⟨⟨(some 155),.fieldAddr 48 (.tmp 2) 0,0,"",⟨[]⟩,none⟩,none,true⟩,⟨⟨(some 156),.load 43 (.tmp 155),43,"",⟨[]⟩,none⟩,none,true⟩,⟨⟨(some 157),.move (.tmp 10),3,"",⟨[]⟩,none⟩,none,true⟩,⟨⟨(some 158),.indexAddr 43 (.tmp 156) (.tmp 157),0,"",⟨[]⟩,none⟩,none,true⟩,⟨⟨(some 159),.fieldAddr 76 (.tmp 158) 1,0,"",⟨[]⟩,none⟩,none,true⟩,⟨⟨(some 160),.load 3 (.tmp 159),3,"",⟨[]⟩,none⟩,none,true⟩,⟨⟨(some 161),.call ⟨.value (.func 40),⟨[(.const (.int .i64 0)),(.tmp 160),(.const (.int .i64 23))]⟩,⟨[3,3,3]⟩⟩,4,"",⟨[]⟩,none⟩,none,false⟩,⟨⟨(some 162),.unOp .not 4 (.tmp 161),4,"",⟨[]⟩,none⟩,none,true⟩,⟨⟨(some 163),.move (.tmp 162),4,"",⟨[]⟩,none⟩,none,true⟩,⟨⟨(some 164),.move (.tmp 6),22,"",⟨[]⟩,none⟩,some ((some 163),false),true⟩,⟨⟨(some 165),.move (.tmp 15),3,"",⟨[]⟩,none⟩,some ((some 163),false),true⟩,⟨⟨(some 166),.indexAddr 22 (.tmp 164) (.tmp 165),0,"",⟨[]⟩,none⟩,some ((some 163),false),true⟩,⟨⟨(some 167),.load 3 (.tmp 166),3,"",⟨[]⟩,none⟩,some ((some 163),false),true⟩,⟨⟨(some 168),.move (.tmp 6),22,"",⟨[]⟩,none⟩,some ((some 163),false),true⟩,⟨⟨(some 169),.fieldAddr 48 (.tmp 2) 0,0,"",⟨[]⟩,none⟩,some ((some 163),false),true⟩,⟨⟨(some 170),.load 43 (.tmp 169),43,"",⟨[]⟩,none⟩,some ((some 163),false),true⟩,⟨⟨(some 171),.move (.tmp 10),3,"",⟨[]⟩,none⟩,some ((some 163),false),true⟩,⟨⟨(some 172),.indexAddr 43 (.tmp 170) (.tmp 171),0,"",⟨[]⟩,none⟩,some ((some 163),false),true⟩,⟨⟨(some 173),.fieldAddr 76 (.tmp 172) 1,0,"",⟨[]⟩,none⟩,some ((some 163),false),true⟩,⟨⟨(some 174),.load 3 (.tmp 173),3,"",⟨[]⟩,none⟩,some ((some 163),false),true⟩,⟨⟨(some 175),.indexAddr 22 (.tmp 168) (.tmp 174),0,"",⟨[]⟩,none⟩,some ((some 163),false),true⟩,⟨⟨(some 176),.load 3 (.tmp 175),3,"",⟨[]⟩,none⟩,some ((some 163),false),true⟩,⟨⟨(some 177),.binOp .neq 3 (.tmp 167) (.tmp 176) 3,4,"",⟨[]⟩,none⟩,some ((some 163),false),true⟩,⟨⟨(some 178),.pick (.tmp 163) (.const (.bool true)) (.tmp 177),4,"",⟨[]⟩,none⟩,none,true⟩]) (.cond (.tmp 178) (.seq (.ops false [⟨⟨(some 179),.call ⟨.value (.func 21),⟨[]⟩,⟨[]⟩⟩,4,"",⟨[]⟩,none⟩,none,false⟩,⟨⟨(some 4),.assign (.tmp 179),4,"",⟨[]⟩,none⟩,none,false⟩]) .ret) .skip)) (.seq (.ops false [⟨⟨(some 180),.buildSlice 43 0 ⟨[]⟩,43,"",⟨[]⟩,none⟩,none,false⟩,⟨⟨(some 181),.fieldAddr 48 (.tmp 2) 0,0,"",⟨[]⟩,none⟩,none,false⟩,⟨⟨(some 182),.load 43 (.tmp 181),43,"",⟨[]⟩,none⟩,none,false⟩,⟨⟨(some 183),.call ⟨.builtin .append,⟨[(.tmp 180),(.tmp 182)]⟩,⟨[43,43]⟩⟩,43,"",⟨[]⟩,none⟩,none,false⟩,⟨⟨(some 16),.assign (.tmp 183),43,"",⟨[]⟩,none⟩,none,false⟩]) (.seq (.ops false [⟨⟨(some 184),.move (.tmp 16),43,"",⟨[]⟩,none⟩,none,false⟩,⟨⟨(some 185),.move (.tmp 10),3,"",⟨[]⟩,none⟩,none,false⟩,⟨⟨(some 186),.move (.tmp 15),3,"",⟨[]⟩,none⟩,none,false⟩,⟨⟨(some 187),.indexAddr 43 (.tmp 184) (.tmp 185),0,"",⟨[]⟩,none⟩,none,false⟩,⟨⟨(some 188),.fieldAddr 76 (.tmp 187) 1,0,"",⟨[]⟩,none⟩,none,false⟩,⟨⟨none,.store 3 (.tmp 188) (.tmp 186),0,"",⟨[]⟩,none⟩,none,false⟩]) (.seq (.ops false [⟨⟨(some 190),.move (.tmp 16),43,"",⟨[]⟩,none⟩,none,false⟩,⟨⟨(some 191),.fieldAddr 48 (.tmp 2) 1,0,"",⟨[]⟩,none⟩,none,false⟩,⟨⟨(some 192),.load 44 (.tmp 191),44,"",⟨[]⟩,none⟩,none,false⟩,⟨⟨(some 193),.load 46 (.tmp 5),46,"",⟨[]⟩,none⟩,none,false⟩,⟨⟨(some 194),.move (.tmp 11),3,"",⟨[]⟩,none⟩,none,false⟩,⟨⟨(some 195),.call ⟨.value (.func 32),⟨[(.tmp 190),(.tmp 192),(.tmp 193),(.tmp 194)]⟩,⟨[43,44,46,3]⟩⟩,27,"",⟨[]⟩,none⟩,none,false⟩,⟨⟨(some 189),.move (.tmp 195),27,"",⟨[]⟩,none⟩,none,false⟩,⟨⟨(some 196),.extract (.tmp 189) 0,22,"",⟨[]⟩,none⟩,none,false⟩,⟨⟨(some 197),.extract (.tmp 189) 1,26,"",⟨[]⟩,none⟩,none,false⟩,⟨⟨(some 17),.assign (.tmp 196),22,"",⟨[]⟩,none⟩,none,false⟩,⟨⟨(some 18),.assign (.tmp 197),26,"",⟨[]⟩,none⟩,none,false⟩]) (.seq (.ops false [⟨⟨(some 198),.move (.tmp 18),26,"",⟨[]⟩,none⟩,none,false⟩,⟨⟨(some 199),.binOp .eql 26 (.tmp 198) (.const (.int .i64 0)) 26,4,"",⟨[]⟩,none⟩,none,false⟩,⟨⟨(some 200),.move (.tmp 199),4,"",⟨[]⟩,none⟩,none,false⟩,⟨⟨(some 201),.call ⟨.value (.func 21),⟨[]⟩,⟨[]⟩⟩,4,"",⟨[]⟩,none⟩,some ((some 200),true),false⟩,⟨⟨(some 202),.pick (.tmp 200) (.tmp 201) (.const (.bool false)),4,"",⟨[]⟩,none⟩,none,false⟩,⟨⟨(some 4),.assign (.tmp 202),4,"",⟨[]⟩,none⟩,none,false⟩]) .ret))))))
def Tryz.s9L : SC := (.seq (.ops false [⟨⟨(some 2),.box 48 (.tmp 0),0,"",⟨[]⟩,none⟩,none,false⟩,⟨⟨(some 3),.box 74 (.tmp 1),0,"",⟨[]⟩,none⟩,none,false⟩,⟨⟨(some 4),.assign (.const (.bool false)),4,"",⟨[]⟩,none⟩,none,false⟩]) (.seq (.ops false [⟨⟨(some 19),.fieldAddr 48 (.tmp 2) 2,0,"",⟨[]⟩,none⟩,none,false⟩,⟨⟨(some 20),.load 46 (.tmp 19),46,"",⟨[]⟩,none⟩,none,false⟩,⟨⟨(some 5),.alloc 46,0,"",⟨[]⟩,none⟩,none,false⟩,⟨⟨none,.store 46 (.tmp 5) (.tmp 20),0,"",⟨[]⟩,none⟩,none,false⟩]) (.seq (.ops false [⟨⟨(some 21),.fieldAddr 46 (.tmp 5) 1,0,"",⟨[]⟩,none⟩,none,false⟩,⟨⟨(some 22),.load 3 (.tmp 21),3,"",⟨[]⟩,none⟩,none,false⟩,⟨⟨(some 23),.fieldAddr 46 (.tmp 5) 2,0,"",⟨[]⟩,none⟩,none,false⟩,⟨⟨none,.store 3 (.tmp 23) (.tmp 22),0,"",⟨[]⟩,none⟩,none,false⟩]) (.seq (.ops false [⟨⟨(some 25),.fieldAddr 48 (.tmp 2) 1,0,"",⟨[]⟩,none⟩,none,false⟩,⟨⟨(some 26),.load 44 (.tmp 25),44,"",⟨[]⟩,none⟩,none,false⟩,⟨⟨(some 27),.call ⟨.value (.func 28),⟨[(.tmp 26)]⟩,⟨[44]⟩⟩,27,"",⟨[]⟩,none⟩,none,false⟩,⟨⟨(some 24),.move (.tmp 27),27,"",⟨[]⟩,none⟩,none,false⟩,⟨⟨(some 28),.extract (.tmp 24) 0,22,"",⟨[]⟩,none⟩,none,false⟩,⟨⟨(some 29),.extract (.tmp 24) 1,26,"",⟨[]⟩,none⟩,none,false⟩,⟨⟨(some 6),.assign (.tmp 28),22,"",⟨[]⟩,none⟩,none,false⟩,⟨⟨(some 7),.assign (.tmp 29),26,"",⟨[]⟩,none⟩,none,false⟩]) (.seq (.seq (.ops false [⟨⟨(some 31),.fieldAddr 48 (.tmp 2) 0,0,"",⟨[]⟩,none⟩,none,false⟩,⟨⟨(some 32),.load 43 (.tmp 31),43,"",⟨[]⟩,none⟩,none,false⟩,⟨⟨(some 33),.fieldAddr 48 (.tmp 2) 1,0,"",⟨[]⟩,none⟩,none,false⟩,⟨⟨(some 34),.load 44 (.tmp 33),44,"",⟨[]⟩,none⟩,none,false⟩,⟨⟨(some 35),.load 46 (.tmp 5),46,"",⟨[]⟩,none⟩,none,false⟩,⟨⟨(some 36),.call ⟨.value (.func 30),⟨[(.tmp 32),(.tmp 34),(.tmp 35)]⟩,⟨[43,44,46]⟩⟩,51,"",⟨[]⟩,none⟩,none,false⟩,⟨⟨(some 30),.move (.tmp 36),51,"",⟨[]⟩,none⟩,none,false⟩,⟨⟨(some 37),.extract (.tmp 30) 0,50,"",⟨[]⟩,none⟩,none,false⟩,⟨⟨(some 38),.extract (.tmp 30) 1,26,"",⟨[]⟩,none⟩,none,false⟩,⟨⟨(some 8),.assign (.tmp 37),50,"",⟨[]⟩,none⟩,none,false⟩,⟨⟨(some 9),.assign (.tmp 38),26,"",⟨[]⟩,none⟩,none,false⟩]) (.seq (.ops false [⟨⟨(some 39),.move (.tmp 7),26,"",⟨[]⟩,none⟩,none,false⟩,⟨⟨(some 40),.binOp .neq 26 (.tmp 39) (.const (.int .i64 0)) 26,4,"",⟨[]⟩,none⟩,none,false⟩,⟨⟨(some 41),.move (.tmp 40),4,"",⟨[]⟩,none⟩,none,false⟩,⟨⟨(some 42),.move (.tmp 9),26,"",⟨[]⟩,none⟩,some ((some 41),false),false⟩,⟨⟨(some 43),.binOp .neq 26 (.tmp 42) (.const (.int .i64 0)) 26,4,"",⟨[]⟩,none⟩,some ((some 41),false),false⟩,⟨⟨(some 44),.pick (.tmp 41) (.const (.bool true)) (.tmp 43),4,"",⟨[]⟩,none⟩,none,false⟩,⟨⟨(some 45),.move (.tmp 44),4,"",⟨[]⟩,none⟩,none,false⟩,⟨⟨(some 46),.fieldAddr 48 (.tmp 2) 0,0,"",⟨[]⟩,none⟩,some ((some 45),false),false⟩,⟨⟨(some 47),.load 43 (.tmp 46),43,"",⟨[]⟩,none⟩,some ((some 45),false),false⟩,⟨⟨(some 48),.call ⟨.builtin .len,⟨[(.tmp 47)]⟩,⟨[43]⟩⟩,3,"",⟨[]⟩,none⟩,some ((some 45),false),false⟩,⟨⟨(some 49),.binOp .eql 3 (.tmp 48) (.const (.int .i64 0)) 3,4,"",⟨[]⟩,none⟩,some ((some 45),false),false⟩,⟨⟨(some 50),.pick (.tmp 45) (.const (.bool true)) (.tmp 49),4,"",⟨[]⟩,none⟩,none,false⟩,⟨⟨(some 51),.move (.tmp 50),4,"",⟨[]⟩,none⟩,none,false⟩,⟨⟨(some 52),.move (.tmp 6),22,"",⟨[]⟩,none⟩,some ((some 51),false),false⟩,⟨⟨(some 53),.call ⟨.builtin .len,⟨[(.tmp 52)]⟩,⟨[22]⟩⟩,3,"",⟨[]⟩,none⟩,some ((some 51),false),false⟩,⟨⟨(some 54),.binOp .neq 3 (.tmp 53) (.const (.int .i64 24)) 3,4,"",⟨[]⟩,none⟩,some ((some 51),false),false⟩,⟨⟨(some 55),.pick (.tmp 51) (.const (.bool true)) (.tmp 54),4,"",⟨[]⟩,none⟩,none,false⟩]) (.cond (.tmp 55) (.seq (.ops false [⟨⟨(some 56),.move (.tmp 9),26,"",⟨[]⟩,none⟩,none,false⟩,⟨⟨(some 57),.binOp .eql 26 (.tmp 56) (.const (.int .i64 0)) 26,4,"",⟨[]⟩,none⟩,none,false⟩,⟨⟨(some 58),.move (.tmp 57),4,"",⟨[]⟩,none⟩,none,false⟩,⟨⟨(some 59),.move (.tmp 9),26,"",⟨[]⟩,none⟩,some ((some 58),false),false⟩,⟨⟨(some 60),.binOp .eql 26 (.tmp 59) (.const (.int .i64 83)) 26,4,"",⟨[]⟩,none⟩,some ((some 58),false),false⟩,⟨⟨(some 61),.pick (.tmp 58) (.const (.bool true)) (.tmp 60),4,"",⟨[]⟩,none⟩,none,false⟩,⟨⟨(some 62),.move (.tmp 61),4,"",⟨[]⟩,none⟩,none,false⟩,⟨⟨(some 63),.move (.tmp 7),26,"",⟨[]⟩,none⟩,some ((some 62),true),false⟩,⟨⟨(some 64),.binOp .eql 26 (.tmp 63) (.const (.int .i64 0)) 26,4,"",⟨[]⟩,none⟩,some ((some 62),true),false⟩,⟨⟨(some 65),.move (.tmp 64),4,"",⟨[]⟩,none⟩,some ((some 62),true),false⟩,⟨⟨(some 66),.move (.tmp 6),22,"",⟨[]⟩,none⟩,some ((some 65),true),false⟩,⟨⟨(some 67),.call ⟨.builtin .len,⟨[(.tmp 66)]⟩,⟨[22]⟩⟩,3,"",⟨[]⟩,none⟩,some ((some 65),true),false⟩,⟨⟨(some 68),.binOp .eql 3 (.tmp 67) (.const (.int .i64 24)) 3,4,"",⟨[]⟩,none⟩,some ((some 65),true),false⟩,⟨⟨(some 69),.pick (.tmp 65) (.tmp 68) (.const (.bool false)),4,"",⟨[]⟩,none⟩,some ((some 62),true),false⟩,⟨⟨(some 70),.move (.tmp 69),4,"",⟨[]⟩,none⟩,some ((some 62),true),false⟩,⟨⟨(some 71),.move (.tmp 7),26,"",⟨[]⟩,none⟩,some ((some 70),false),false⟩,⟨⟨(some 72),.move (.tmp 9),26,"",⟨[]⟩,none⟩,some ((some 70),false),false⟩,⟨⟨(some 73),.binOp .eql 26 (.tmp 71) (.tmp 72) 26,4,"",⟨[]⟩,none⟩,some ((some 70),false),false⟩,⟨⟨(some 74),.pick (.tmp 70) (.const (.bool true)) (.tmp 73),4,"",⟨[]⟩,none⟩,some ((some 62),true),false⟩,⟨⟨(some 75),.pick (.tmp 62) (.tmp 74) (.const (.bool false)),4,"",⟨[]⟩,none⟩,none,false⟩,⟨⟨(some 76),.move (.tmp 75),4,"",⟨[]⟩,none⟩,none,false⟩,⟨⟨(some 77),.call ⟨.value (.func 21),⟨[]⟩,⟨[]⟩⟩,4,"",⟨[]⟩,none⟩,some ((some 76),true),false⟩,⟨⟨(some 78),.pick (.tmp 76) (.tmp 77) (.const (.bool false)),4,"",⟨[]⟩,none⟩,none,false⟩,⟨⟨(some 4),.assign (.tmp 78),4,"",⟨[]⟩,none⟩,none,false⟩]) .ret) .skip))) (.seq (.ops true [⟨⟨(some 79),.indexAddr 74 (.tmp 3) (.const (.int .i64 0)),0,"",⟨[]⟩,none⟩,none,true⟩,⟨⟨(some 80),.load 3 (.tmp 79),3,"",⟨[]⟩,none⟩,none,true⟩,⟨⟨(some 81),.fieldAddr 48 (.tmp 2) 0,0,"",⟨[]⟩,none⟩,none,true⟩,⟨⟨(some 82),.load 43 (.tmp 81),43,"",⟨[]⟩,none⟩,none,true⟩,⟨⟨(some 83),.call ⟨.builtin .len,⟨[(.tmp 82)]⟩,⟨[43]⟩⟩,3,"",⟨[]⟩,none⟩,none,true⟩,⟨⟨(some 85),.indexAddr 74 (.tmp 3) (.const (.int .i64 3)),0,"",⟨[]⟩,none⟩,none,true⟩,⟨⟨(some 86),.load 3 (.tmp 85),3,"",⟨[]⟩,none⟩,none,true⟩,⟨⟨(some 87),.fieldAddr 48 (.tmp 2) 0,0,"",⟨[]⟩,none⟩,none,true⟩,⟨⟨(some 88),.load 43 (.tmp 87),43,"",⟨[]⟩,none⟩,none,true⟩,⟨⟨(some 89),.call ⟨.builtin .len,⟨[(.tmp 88)]⟩,⟨[43]⟩⟩,3,"",⟨[]⟩,none⟩,none,true⟩,⟨⟨(some 84),.call ⟨.value (.func 43),⟨[(.tmp 80),(.tmp 83)]⟩,⟨[3,3]⟩⟩,3,"",⟨[]⟩,none⟩,none,true⟩,⟨⟨(some 90),.call ⟨.value (.func 43),⟨[(.tmp 86),(.tmp 89)]⟩,⟨[3,3]⟩⟩,3,"",⟨[]⟩,none⟩,none,false⟩,⟨⟨(some 10),.assign (.tmp 84),3,"",⟨[]⟩,none⟩,none,true⟩,⟨⟨(some 11),.assign (.tmp 90),3,"",⟨[]⟩,none⟩,none,true⟩]) (.seq (.ops false [⟨⟨(some 92),.fieldAddr 48 (.tmp 2) 0,0,"",⟨[]⟩,none⟩,none,false⟩,⟨⟨(some 93),.load 43 (.tmp 92),43,"",⟨[]⟩,none⟩,none,false⟩,⟨⟨(some 94),.fieldAddr 48 (.tmp 2) 1,0,"",⟨[]⟩,none⟩,none,false⟩,⟨⟨(some 95),.load 44 (.tmp 94),44,"",⟨[]⟩,none⟩,none,false⟩,⟨⟨(some 96),.load 46 (.tmp 5),46,"",⟨[]⟩,none⟩,none,false⟩,⟨⟨(some 97),.move (.tmp 11),3,"",⟨[]⟩,none⟩,none,false⟩,⟨⟨(some 98),.call ⟨.value (.func 32),⟨[(.tmp 93),(.tmp 95),(.tmp 96),(.tmp 97)]⟩,⟨[43,44,46,3]⟩⟩,27,"",⟨[]⟩,none⟩,none,false⟩,⟨⟨(some 91),.move (.tmp 98),27,"",⟨[]⟩,none⟩,none,false⟩,⟨⟨(some 99),.extract (.tmp 91) 0,22,"",⟨[]⟩,none⟩,none,false⟩,⟨⟨(some 100),.extract (.tmp 91) 1,26,"",⟨[]⟩,none⟩,none,false⟩,⟨⟨(some 7),.assign (.tmp 100),26,"",⟨[]⟩,none⟩,none,false⟩]) (.seq (.seq (.ops false [⟨⟨(some 101),.move (.tmp 7),26,"",⟨[]⟩,none⟩,none,false⟩,⟨⟨(some 102),.binOp .neq 26 (.tmp 101) (.const (.int .i64 0)) 26,4,"",⟨[]⟩,none⟩,none,false⟩]) (.cond (.tmp 102) (.seq (.ops false [⟨⟨(some 103),.move (.tmp 7),26,"",⟨[]⟩,none⟩,none,false⟩,⟨⟨(some 104),.binOp .eql 26 (.tmp 103) (.const (.int .i64 4)) 26,4,"",⟨[]⟩,none⟩,none,false⟩,⟨⟨(some 105),.move (.tmp 104),4,"",⟨[]⟩,none⟩,none,false⟩,⟨⟨(some 106),.call ⟨.value (.func 21),⟨[]⟩,⟨[]⟩⟩,4,"",⟨[]⟩,none⟩,some ((some 105),true),false⟩,⟨⟨(some 107),.pick (.tmp 105) (.tmp 106) (.const (.bool false)),4,"",⟨[]⟩,none⟩,none,false⟩,⟨⟨(some 4),.assign (.tmp 107),4,"",⟨[]⟩,none⟩,none,false⟩]) .ret) .skip)) (.seq (.seq (.ops false [⟨⟨(some 108),.fieldAddr 48 (.tmp 2) 0,0,"",⟨[]⟩,none⟩,none,false⟩,⟨⟨(some 109),.load 43 (.tmp 108),43,"",⟨[]⟩,none⟩,none,false⟩,⟨⟨(some 110),.move (.tmp 10),3,"",⟨[]⟩,none⟩,none,false⟩,⟨⟨(some 111),.indexAddr 43 (.tmp 109) (.tmp 110),0,"",⟨[]⟩,none⟩,none,false⟩,⟨⟨(some 112),.fieldAddr 76 (.tmp 111) 2,0,"",⟨[]⟩,none⟩,none,false⟩,⟨⟨(some 113),.load 3 (.tmp 112),3,"",⟨[]⟩,none⟩,none,false⟩,⟨⟨(some 114),.binOp .gtr 3 (.tmp 113) (.const (.int .i64 1)) 3,4,"",⟨[]⟩,none⟩,none,false⟩,⟨⟨(some 115),.move (.tmp 114),4,"",⟨[]⟩,none⟩,none,false⟩,⟨⟨(some 116),.fieldAddr 48 (.tmp 2) 0,0,"",⟨[]⟩,none⟩,some ((some 115),true),false⟩,⟨⟨(some 117),.load 43 (.tmp 116),43,"",⟨[]⟩,none⟩,some ((some 115),true),false⟩,⟨⟨(some 118),.call ⟨.builtin .len,⟨[(.tmp 117)]⟩,⟨[43]⟩⟩,3,"",⟨[]⟩,none⟩,some ((some 115),true),false⟩,⟨⟨(some 119),.binOp .lss 3 (.tmp 118) (.const (.int .i64 64)) 3,4,"",⟨[]⟩,none⟩,some ((some 115),true),false⟩,⟨⟨(some 120),.pick (.tmp 115) (.tmp 119) (.const (.bool false)),4,"",⟨[]⟩,none⟩,none,false⟩]) (.cond (.tmp 120) (.seq (.ops false [⟨⟨(some 121),.move (.tmp 11),3,"",⟨[]⟩,none⟩,none,false⟩,⟨⟨(some 12),.assign (.tmp 121),3,"",⟨[]⟩,none⟩,none,false⟩]) (.seq (.seq (.ops false [⟨⟨(some 122),.move (.tmp 11),3,"",⟨[]⟩,none⟩,none,false⟩,⟨⟨(some 123),.move (.tmp 10),3,"",⟨[]⟩,none⟩,none,false⟩,⟨⟨(some 124),.binOp .geq 3 (.tmp 122) (.tmp 123) 3,4,"",⟨[]⟩,none⟩,none,false⟩]) (.cond (.tmp 124) (.ops false [⟨⟨(some 125),.move (.tmp 11),3,"",⟨[]⟩,none⟩,none,false⟩,⟨⟨(some 126),.binOp .add 3 (.tmp 125) (.const (.int .i64 1)) 3,3,"",⟨[]⟩,none⟩,none,false⟩,⟨⟨(some 12),.assign (.tmp 126),3,"",⟨[]⟩,none⟩,none,false⟩]) .skip)) (.seq (.ops true [⟨⟨(some 128),.fieldAddr 48 (.tmp 2) 0,0,"",⟨[]⟩,none⟩,none,true⟩,⟨⟨(some 129),.load 43 (.tmp 128),43,"",⟨[]⟩,none⟩,none,true⟩,⟨⟨(some 130),.move (.tmp 10),3,"",⟨[]⟩,none⟩,none,true⟩,⟨⟨(some 131),.indexAddr 74 (.tmp 3) (.const (.int .i64 1)),0,"",⟨[]⟩,none⟩,none,true⟩,⟨⟨(some 132),.load 3 (.tmp 131),3,"",⟨[]⟩,none⟩,none,true⟩,⟨⟨(some 133),.fieldAddr 48 (.tmp 2) 0,0,"",⟨[]⟩,none⟩,none,true⟩,⟨⟨(some 134),.load 43 (.tmp 133),43,"",⟨[]⟩,none⟩,none,true⟩,⟨⟨(some 135),.move (.tmp 10),3,"",⟨[]⟩,none⟩,none,true⟩,⟨⟨(some 136),.indexAddr 43 (.tmp 134) (.tmp 135),0,"",⟨[]⟩,none⟩,none,true⟩,⟨⟨(some 137),.fieldAddr 76 (.tmp 136) 2,0,"",⟨[]⟩,none⟩,none,true⟩,⟨⟨(some 138),.load 3 (.tmp 137),3,"",⟨[]⟩,none⟩,none,true⟩,⟨⟨(some 139),.binOp .sub 3 (.tmp 138) (.const (.int .i64 1)) 3,3,"",⟨[]⟩,none⟩,none,true⟩,⟨⟨(some 143),.fieldAddr 48 (.tmp 2) 1,0,"",⟨[]⟩,none⟩,none,true⟩,⟨⟨(some 144),.load 44 (.tmp 143),44,"",⟨[]⟩,none⟩,none,true⟩,⟨⟨(some 145),.load 46 (.tmp 5),46,"",⟨[]⟩,none⟩,none,true⟩,⟨⟨(some 146),.move (.tmp 12),3,"",⟨[]⟩,none⟩,none,true⟩,⟨⟨(some 140),.call ⟨.value (.func 43),⟨[(.tmp 132),(.tmp 139)]⟩,⟨[3,3]⟩⟩,3,"",⟨[]⟩,none⟩,none,true⟩,⟨⟨(some 141),.binOp .add 3 (.const (.int .i64 1)) (.tmp 140) 3,3,"",⟨[]⟩,none⟩,none,true⟩,⟨⟨(some 142),.call ⟨.value (.func 44),⟨[(.tmp 129),(.tmp 130),(.tmp 141)]⟩,⟨[43,3,3]⟩⟩,43,"",⟨[]⟩,none⟩,none,true⟩,⟨⟨(some 147),.call ⟨.value (.func 32),⟨[(.tmp 142),(.tmp 144),(.tmp 145),(.tmp 146)]⟩,⟨[43,44,46,3]⟩⟩,27,"",⟨[]⟩,none⟩,none,false⟩,⟨⟨(some 127),.move (.tmp 147),27,"",⟨[]⟩,none⟩,none,true⟩,⟨⟨(some 148),.extract (.tmp 127) 0,22,"",⟨[]⟩,none⟩,none,true⟩,⟨⟨(some 149),.extract (.tmp 127) 1,26,"",⟨[]⟩,none⟩,none,true⟩,⟨⟨(some 13),.assign (.tmp 148),22,"",⟨[]⟩,none⟩,none,true⟩,⟨⟨(some 14),.assign (.tmp 149),26,"",⟨[]⟩,none⟩,none,true⟩]) (.seq (.ops false [⟨⟨(some 150),.move (.tmp 14),26,"",⟨[]⟩,none⟩,none,false⟩,⟨⟨(some 151),.binOp .neq 26 (.tmp 150) (.const (.int .i64 0)) 26,4,"",⟨[]⟩,none⟩,none,false⟩]) (.cond (.tmp 151) (.seq (.ops false [⟨⟨(some 4),.assign (.const (.bool false)),4,"",⟨[]⟩,none⟩,none,false⟩]) .ret) .skip))))) .skip)) Tryz.s9_c152)))))))))
theorem Tryz.s9L_eq : Tryz.f9.body.map sOf = some Tryz.s9L := by kernel_rfl
end Go.Proofs

namespace Go.Proofs
open Go Go.RowKit Go.Sim
set_option maxRecDepth 100000
theorem Tryz.ia74 (t : Tmps) (w : AW) (x y : Operand) : fast (prg Tryz.prog) t w (.indexAddr 74 x y) = indexA 1 4 (ev t x) (ev t y) := fast_indexAddrA Tryz.ty74 Tryz.ty3
theorem indexA4_0 (b : Nat) : indexA 1 4 (.pointer (some ⟨b, 0, none⟩)) (.int .i64 0) = some (.pointer (some ⟨b, 0, none⟩)) := rfl
theorem indexA4_1 (b : Nat) : indexA 1 4 (.pointer (some ⟨b, 0, none⟩)) (.int .i64 1) = some (.pointer (some ⟨b, 1, none⟩)) := rfl
theorem indexA4_2 (b : Nat) : indexA 1 4 (.pointer (some ⟨b, 0, none⟩)) (.int .i64 2) = some (.pointer (some ⟨b, 2, none⟩)) := rfl
theorem indexA4_3 (b : Nat) : indexA 1 4 (.pointer (some ⟨b, 0, none⟩)) (.int .i64 3) = some (.pointer (some ⟨b, 3, none⟩)) := rfl
attribute [go_sem] Tryz.ia74 indexA4_0 indexA4_1 indexA4_2 indexA4_3
theorem given_dealsG {w : AW} {n : Nat} {cs : List Value} (h : Hd Tryz.prog w n 43 cs) : ∃ v, cs = [v] ∧ (∃ l : List DealN, ArrOf w 3 dcells v l) ∧ GivenAt w v := by
  cases n with
  | zero => exact h.elim
  | succ n =>
    simp only [Hd, Tryz.und43, Tryz.cells76] at h
    obtain ⟨v, rows, rfl, ha, hr, hg, _⟩ := h
    obtain ⟨xs, rfl⟩ := Go.Sim.rows_of (enc := dcells) fun r hq => given_deal (hr r hq)
    exact ⟨v, rfl, ⟨xs, ha⟩, hg⟩
theorem given_reportG {w : AW} {n : Nat} {v : Value} (h : HdV Tryz.prog w n 48 v) : ∃ (v0 v1 : Value) (W : WatchN), v = .agg #[v0, v1, .int .i64 W.days, .int .i64 W.sum, .int .i64 W.small, .int .i64 W.more] ∧ (∃ l, ArrOf w 3 dcells v0 l) ∧ GivenAt w v0 ∧ ∃ L, ArrOf w 2 lcells v1 L := by
  simp only [HdV, Tryz.underlying48] at h
  obtain ⟨cs, rfl, h⟩ := h
  cases n with
  | zero => exact h.elim
  | succ n =>
    simp only [Hd, Tryz.underlying48] at h
    obtain ⟨parts, hc, hl, hp⟩ := h
    match parts, hl with
    | [p0, p1, p2], _ =>
      obtain ⟨v0, rfl, h0, hg⟩ := given_dealsG (hp 0 _ p0 rfl rfl)
      obtain ⟨v1, rfl, h1⟩ := given_links (hp 1 _ p1 rfl rfl)
      obtain ⟨W, rfl⟩ := given_watch (hp 2 _ p2 rfl rfl)
      refine ⟨v0, v1, W, ?_, h0, hg, h1⟩
      rw [show cs = cs.toList.toArray from rfl, hc]; rfl
theorem set_cell : ∀ (l : List DealN) (k : Nat) (h : k < l.length) (p : Int), setL (l.flatMap dcells) (k * 3 + 1) (.int .i64 p) = (l.set k { l[k] with who := p }).flatMap dcells
  | [], k, h, _ => by simp at h
  | a :: l, 0, _, p => by
    simp [dcells, setL]
  | a :: l, k + 1, h, p => by
    have ih := set_cell l k (by simpa using h) p
    rw [setL_eq] at ih ⊢
    rw [List.flatMap_cons, List.set_append_right _ _ (by rw [dcells_len]; omega), dcells_len, show (k + 1) * 3 + 1 - 3 = k * 3 + 1 by omega, ih]
    rfl
set_option maxHeartbeats 16000000 in
theorem rest9_ok (l : List DealN) (L : List (Int × Int)) (W V : WatchN) (p0 p1 : Option Addr) (cp0 cp1 : Nat) (kd j : Nat) (A : List Int) (N0 N1 N2 N3 : Int) (w : AW) (hs : ArrOf w 3 dcells (.slice p0 l.length cp0) l) (hL : ArrOf w 2 lcells (.slice p1 L.length cp1) L) (hb : reportB l L V = true) (hA : Labs L A) (hk : kd < l.length) (hj : j < l.length) (hV : V.small = V.sum) (hR : RepP l V A j) (b0 b1 b2 bA : Nat) (t : Tmps) (w2 : AW) (g2 : Grown w w2)
    (O0 : Own w2 b0 48 [.slice p0 l.length cp0, .slice p1 L.length cp1, .int .i64 W.days, .int .i64 W.sum, .int .i64 W.small, .int .i64 W.more]) (O1 : Own w2 b1 74 [.int .i64 N0, .int .i64 N1, .int .i64 N2, .int .i64 N3]) (O2 : Own w2 b2 46 [.int .i64 V.days, .int .i64 V.sum, .int .i64 V.small, .int .i64 V.more]) (oA : Own w2 bA 115 (icl A)) (e2 : ev t (.tmp 2) = .pointer (some ⟨b0, 0, none⟩)) (e3 : ev t (.tmp 3) = .pointer (some ⟨b1, 0, none⟩)) (e5 : ev t (.tmp 5) = .pointer (some ⟨b2, 0, none⟩)) (e6 : ev t (.tmp 6) = .slice (some ⟨bA, 0, none⟩) 24 24) (e10 : ev t (.tmp 10) = .int .i64 (kd : Int)) (e11 : ev t (.tmp 11) = .int .i64 (j : Int)) :
    CodeR Tryz.prog Tryz.T1 { fn := 9, round := none } Tryz.s9_c152 t [] w2 (fun e t ds w' => Sim.Left (P := Tryz.prog) Tryz.f9.results.toList e t ds w' fun v _ => v = .bool true) .mk := by
  obtain ⟨hl64, hdd, hL64, hla⟩ := reportB_iff hb
  have hAl := hA.len
  have hb' := hb
  simp only [reportB, Bool.and_eq_true] at hb'
  have hW' := hb'.2
  simp only [watchB, Bool.and_eq_true, inR_iff] at hW'
  have c0 := (O0).cell (o := 0) rfl rfl
  have c1 := (O0).cell (o := 1) rfl rfl
  have c2 := (O0).cell (o := 2) rfl rfl
  have c3 := (O0).cell (o := 3) rfl rfl
  have c4 := (O0).cell (o := 4) rfl rfl
  have c5 := (O0).cell (o := 5) rfl rfl
  have m0 := (O1).cell (o := 0) rfl rfl
  have m1 := (O1).cell (o := 1) rfl rfl
  have m2 := (O1).cell (o := 2) rfl rfl
  have m3 := (O1).cell (o := 3) rfl rfl
  have y0 := (O2).cell (o := 0) rfl rfl
  have y1 := (O2).cell (o := 1) rfl rfl
  have y2 := (O2).cell (o := 2) rfl rfl
  have y3 := (O2).cell (o := 3) rfl rfl
  unfold Tryz.s9_c152
  simp -dsimp -implicitDefEqProofs (maxSteps := 2000000) (disch := first | assumption | omega | (simp only [nx]; omega) | ((repeat refine Fresh.push ?_ _); assumption) | (simp only [smA]; done) | (simp [oneCell, AW.next_push]; done) | fail) only [go_sem, Nat.reduceEqDiff, reduceIte, Nat.reduceAdd, Int.toNat_natCast, Nat.add_zero, Owes_true, e2, e3, e5, e6, e10, e11, Nat.zero_add, m2]
  apply callV_of (e := rfl)
  · exact Ring_ok N2 24 (by decide) (by decide) w2
  rintro _ _ ⟨q, rfl, hq, _, rfl⟩
  obtain ⟨_, _, epd, _, _, hat⟩ := (hs.grown g2).open
  injection epd with epd1 epd2 epd3
  subst epd1 epd3
  obtain ⟨bd, od, rfl, _, hcd⟩ := hat kd hk
  have k1 := hcd w2 (.refl _ _) 1 _ rfl
  have hdk := (dealB_iff _).1 (hdd _ (List.getElem_mem hk))
  have hset := set_sum V A (k := kd) (j := j) (p := (q : Int)) hk hj
  generalize hwho : l[kd].who = pk at *
  obtain ⟨PK, rfl⟩ : ∃ PK : Nat, pk = (PK : Int) := ⟨pk.toNat, by omega⟩
  have hq24 : q < 24 := by omega
  have aK := oA.cell (o := PK) (icl_at (by omega)) rfl
  have aQ := oA.cell (o := q) (icl_at (by omega)) rfl
  have iK : indexV 1 (.slice (some ⟨bA, 0, none⟩) 24 24) (.int .i64 (PK : Int)) = some (.pointer (some ⟨bA, PK, none⟩)) := by rw [indexV_eq (by omega) (by omega)]; simp
  have iQ : indexV 1 (.slice (some ⟨bA, 0, none⟩) 24 24) (.int .i64 (q : Int)) = some (.pointer (some ⟨bA, q, none⟩)) := by rw [indexV_eq (by omega) (by omega)]; simp
  have hkl : (kd : Int) < (l.length : Int) := by omega
  simp -dsimp -implicitDefEqProofs (maxSteps := 2000000) (disch := first | assumption | omega | (simp only [nx]; omega) | ((repeat refine Fresh.push ?_ _); assumption) | (simp only [smA]; done) | (simp [oneCell, AW.next_push]; done) | fail) only [go_sem, Nat.reduceEqDiff, reduceIte, Nat.reduceAdd, Int.toNat_natCast, Nat.add_zero, Owes_true, e2, e3, e5, e6, e10, e11, Nat.zero_add, c0, hkl, indexV_eq, k1]
  apply callV_of (e := rfl)
  · exact FromV_ok _ _ _ _
  rintro _ _ ⟨rfl, rfl⟩
  have hin : inR 0 (PK : Int) 23 = true := (inR_iff _ _ _).2 ⟨by omega, by omega⟩
  by_cases hlb : lb A q = lb A PK
  case neg =>
    simp -dsimp -implicitDefEqProofs (maxSteps := 2000000) (disch := first | assumption | omega | (simp only [nx]; omega) | ((repeat refine Fresh.push ?_ _); assumption) | (simp only [smA]; done) | (simp [oneCell, AW.next_push]; done) | fail) only [go_sem, Nat.reduceEqDiff, reduceIte, Nat.reduceAdd, Int.toNat_natCast, Nat.add_zero, Owes_true, e2, e3, e5, e6, e10, e11, hin, Nat.zero_add, c0, hkl, indexV_eq, k1, iK, iQ, aK, aQ, hlb]
    apply callV_of (e := rfl)
    · exact callT_told (Q := fun v w' => v = .bool true ∧ w2 = w') (v := .bool true) (w' := w2) rfl ⟨rfl, rfl⟩
    rintro _ _ ⟨rfl, rfl⟩
    simp -dsimp -implicitDefEqProofs (maxSteps := 2000000) (disch := first | assumption | omega | (simp only [nx]; omega) | ((repeat refine Fresh.push ?_ _); assumption) | (simp only [smA]; done) | (simp [oneCell, AW.next_push]; done) | fail) only [go_sem, Nat.reduceEqDiff, reduceIte, Nat.reduceAdd, Int.toNat_natCast, Nat.add_zero, Owes_true, Tryz.results9]
  have hlbd : decide (lb A q = lb A PK) = true := decide_eq_true hlb
  have g3 := g2.push (.cells [] 76 w2.next 0 0)
  have O03 := O0.push (.cells [] 76 w2.next 0 0)
  have O23 := O2.push (.cells [] 76 w2.next 0 0)
  have hnew := arr_new (hs.grown g3) dcells_len (by decide)
  obtain ⟨v4, w4, happ, hk4, f4, hcase⟩ := append_empty Tryz.ty43 Tryz.ty76 rfl (by decide) (b := w2.next) (e' := 76) (blk_push_top _ _) g3.2 rfl hnew (dcells_lens l) (dcells_ones l) (by omega) (by omega)
  have hn4 := hk4.next
  rw [AW.next_push] at hn4
  have hA4 : AOwn (w2.next + 1) w4 76 3 v4 l.length (l.flatMap dcells) := by
    rcases hcase with ⟨z, _⟩ | z
    · omega
    · rw [AW.next_push] at z; exact z
  have g4 : Grown w w4 := ⟨g3.1.trans (hk4.mono g3.1.next), f4⟩
  have O04 := O03.keepC hk4 (by have := O03.lt; omega)
  have O24 := O23.keepC hk4 (by have := O23.lt; omega)
  obtain ⟨bx, rfl, hbx, w5, hst, hA5, hm5, hn5, _⟩ := aownS_store (S := fun j => w2.next + 1 ≤ j) (o := kd * 3 + 1) (x := .int .i64 (q : Int)) hA4 f4 (by decide) (by rw [dcells_lens]; omega) rfl
  rw [set_cell l kd hk] at hA5
  have hgn := g2.1.next
  have g5 : Grown w w5 := ⟨g4.1.trans (hm5.keep (fun j q => by omega) g4.1.next), hm5.fresh⟩
  have O05 := hm5.own O04 (by have := O0.lt; omega)
  have O25 := hm5.own O24 (by have := O2.lt; omega)
  generalize hl2 : l.set kd { l[kd] with who := (q : Int) } = l2 at *
  have hl2l : l2.length = l.length := by rw [← hl2, List.length_set]
  have harr : ArrOf w5 3 dcells (.slice (some ⟨bx, 0, none⟩) l.length l.length) l2 := by
    have : AOwn (w2.next + 1) w5 76 3 (.slice (some ⟨bx, 0, none⟩) l.length l.length) l2.length (l2.flatMap dcells) := by rw [hl2l]; exact hA5
    exact this.arrR dcells_len (by omega)
  have hb2 : reportB l2 L V = true := by
    simp only [reportB, Bool.and_eq_true] at hb ⊢
    exact ⟨⟨by rw [← hl2]; exact set_deals hk (by omega) hb.1.1, hb.1.2⟩, hb.2⟩
  have hR2 : RepP l2 V A j := by
    left
    rw [hset (by rw [Int.toNat_natCast]; exact hlb)]
    exact repP_sum hV hW'.2.1 hR
  clear c0 c1 c2 c3 c4 c5 y0 y1 y2 y3
  have c0' := O03.cell (o := 0) rfl rfl
  have hd0 := O04.cell (o := 0) rfl rfl
  have c0 := (O05).cell (o := 0) rfl rfl
  have c1 := (O05).cell (o := 1) rfl rfl
  have c2 := (O05).cell (o := 2) rfl rfl
  have c3 := (O05).cell (o := 3) rfl rfl
  have c4 := (O05).cell (o := 4) rfl rfl
  have c5 := (O05).cell (o := 5) rfl rfl
  have y0 := (O25).cell (o := 0) rfl rfl
  have y1 := (O25).cell (o := 1) rfl rfl
  have y2 := (O25).cell (o := 2) rfl rfl
  have y3 := (O25).cell (o := 3) rfl rfl
  have hbs : storeV w4 false 1 (.pointer (some ⟨bx, kd * 3 + 1, none⟩)) (.int .i64 (q : Int)) = some w5 := hst
  have hf2 := g2.2
  simp -dsimp -implicitDefEqProofs (maxSteps := 2000000) (disch := first | assumption | omega | (simp only [nx]; omega) | ((repeat refine Fresh.push ?_ _); assumption) | (simp only [smA]; done) | (simp [oneCell, AW.next_push]; done) | fail) only [go_sem, Nat.reduceEqDiff, reduceIte, Nat.reduceAdd, Int.toNat_natCast, Nat.add_zero, Owes_true, e2, e3, e5, e6, e10, e11, hin, Nat.zero_add, O0.cell (o := 0) rfl rfl, hkl, indexV_eq, k1, iK, iQ, aK, aQ, hlbd, c0', happ, hbs, c1, y0, y1, y2, y3]
  apply callV_of (e := rfl)
  · exact Reasons_ok l2 L V _ _ (j : Int) w5 g5.2 harr (hL.grown g5)
  rintro _ w6 ⟨hR6, g6⟩
  obtain ⟨p6, a6, c6, rfl⟩ := reas_yes hR6 hb2 rfl (by omega) fun B hB => by obtain rfl := hA.one hB; exact hR2
  simp -dsimp -implicitDefEqProofs (maxSteps := 2000000) (disch := first | assumption | omega | (simp only [nx]; omega) | ((repeat refine Fresh.push ?_ _); assumption) | (simp only [smA]; done) | (simp [oneCell, AW.next_push]; done) | fail) only [go_sem, Nat.reduceEqDiff, reduceIte, Nat.reduceAdd, Int.toNat_natCast, Nat.add_zero, Owes_true]
  apply callV_of (e := rfl)
  · exact callT_told (Q := fun v w' => v = .bool true ∧ w6 = w') (v := .bool true) (w' := w6) rfl ⟨rfl, rfl⟩
  rintro _ _ ⟨rfl, rfl⟩
  simp -dsimp -implicitDefEqProofs (maxSteps := 2000000) (disch := first | assumption | omega | (simp only [nx]; omega) | ((repeat refine Fresh.push ?_ _); assumption) | (simp only [smA]; done) | (simp [oneCell, AW.next_push]; done) | fail) only [go_sem, Nat.reduceEqDiff, reduceIte, Nat.reduceAdd, Int.toNat_natCast, Nat.add_zero, Owes_true, Tryz.results9]
end Go.Proofs

namespace Go.Proofs
open Go Go.RowKit Go.Sim
set_option maxRecDepth 100000
theorem slice_sameN (k : Nat) (p : Option Addr) (n c : Nat) : same (k + 1) (.slice p n c) (.slice p n c) = true := by
  cases p with
  | none => simp [same]
  | some a => obtain ⟨b, o, s⟩ := a; cases s <;> simp [same]
theorem tup2_same (p : Option Addr) (n c : Nat) (a : Int) : same 12 (.tuple #[.slice p n c, .int .i64 a]) (.tuple #[.slice p n c, .int .i64 a]) = true := by
  have h := slice_sameN 10 p n c
  simp only [same, same.all, h]
  simp [same, intEq_eq]
set_option maxHeartbeats 32000000 in
theorem cut_law (w : AW) (xs : List Value) (f : Fresh w) (h : HdAll Tryz.prog w [48, 74] xs) : CallT Tryz.prog Tryz.T1 (.fn (.func 9) #[]) xs.toArray w fun v _ => v = .bool true := by
  cases h with
  | cons n1 h1 h =>
  cases h with
  | cons n2 h2 h =>
  cases h
  rename_i x1 x2
  obtain ⟨v0, v1, W, rfl, ⟨l, hs⟩, hG, L, hL⟩ := given_reportG h1
  obtain ⟨N0, N1, N2, N3, rfl⟩ := given_four h2
  clear h1 h2
  obtain ⟨p0, cp0, rfl, _⟩ := id hs.open
  obtain ⟨p1, cp1, rfl, _⟩ := id hL.open
  show CallT Tryz.prog Tryz.T1 (.fn (.func 9) #[]) #[.agg #[.slice p0 l.length cp0, .slice p1 L.length cp1, .int .i64 W.days, .int .i64 W.sum, .int .i64 W.small, .int .i64 W.more], .agg #[.int .i64 N0, .int .i64 N1, .int .i64 N2, .int .i64 N3]] w _
  have g1 := (Grown.refl f).push (.cells [.slice p0 l.length cp0, .slice p1 L.length cp1, .int .i64 W.days, .int .i64 W.sum, .int .i64 W.small, .int .i64 W.more] 48 w.next 0 0)
  have A1 := Own.new f 48 [.slice p0 l.length cp0, .slice p1 L.length cp1, .int .i64 W.days, .int .i64 W.sum, .int .i64 W.small, .int .i64 W.more]
  have g2 := g1.push (.cells [.int .i64 N0, .int .i64 N1, .int .i64 N2, .int .i64 N3] 74 (w.next + 1) 0 0)
  have B1 := Own.new g1.2 74 [.int .i64 N0, .int .i64 N1, .int .i64 N2, .int .i64 N3]
  rw [AW.next_push] at B1
  have A2 := A1.push (.cells [.int .i64 N0, .int .i64 N1, .int .i64 N2, .int .i64 N3] 74 (w.next + 1) 0 0)
  have g3 := g2.push (.cells [.int .i64 0, .int .i64 0, .int .i64 0, .int .i64 0] 46 (w.next + 1 + 1) 0 0)
  have C1 := Own.new g2.2 46 [.int .i64 0, .int .i64 0, .int .i64 0, .int .i64 0]
  rw [AW.next_push, AW.next_push] at C1
  have A3 := A2.push (.cells [.int .i64 0, .int .i64 0, .int .i64 0, .int .i64 0] 46 (w.next + 1 + 1) 0 0)
  have B3 := B1.push (.cells [.int .i64 0, .int .i64 0, .int .i64 0, .int .i64 0] 46 (w.next + 1 + 1) 0 0)
  have s1 := storeV_own (o := 0) (l := [.int .i64 W.days, .int .i64 W.sum, .int .i64 W.small, .int .i64 W.more]) (size := 4) C1 rfl (by omega) (by simp) (by rfl)
  simp only [setsL, setL] at s1
  have mA := MutS.put (S := fun j => j = w.next + 1 + 1) g3.2 rfl C1.lt (.cells [.int .i64 W.days, .int .i64 W.sum, .int .i64 W.small, .int .i64 W.more] 46 (w.next + 1 + 1) 0 0)
  have C2 := C1.put [.int .i64 W.days, .int .i64 W.sum, .int .i64 W.small, .int .i64 W.more]
  have s2 := storeV_own1 (o := 2) (v := .int .i64 W.sum) C2 (by simp) rfl
  simp only [setL] at s2
  have mB := MutS.put (S := fun j => j = w.next + 1 + 1) mA.fresh rfl C2.lt (.cells [.int .i64 W.days, .int .i64 W.sum, .int .i64 W.sum, .int .i64 W.more] 46 (w.next + 1 + 1) 0 0)
  have C4 := C2.put [.int .i64 W.days, .int .i64 W.sum, .int .i64 W.sum, .int .i64 W.more]
  have mm := mA.trans mB (Within.refl _ _)
  have A4 := mm.own A3 (by omega)
  have B4 := mm.own B3 (by omega)
  have g4 : Grown w _ := ⟨g3.1.trans (mm.keep (fun j q => by omega) g3.1.next), mm.fresh⟩
  have z1 := C2.cell (o := 1) rfl rfl
  have t2 := A2.cell (o := 2) rfl rfl
  have t3 := A2.cell (o := 3) rfl rfl
  have t4 := A2.cell (o := 4) rfl rfl
  have t5 := A2.cell (o := 5) rfl rfl
  have t1 := A4.cell (o := 1) rfl rfl
  obtain ⟨V, hVd⟩ : ∃ V : WatchN, V = ⟨W.days, W.sum, W.sum, W.more⟩ := ⟨_, rfl⟩
  have hVs : V.small = V.sum := by rw [hVd]
  have e1 : W.days = V.days := by rw [hVd]
  have e2' : W.sum = V.sum := by rw [hVd]
  have e4 : W.more = V.more := by rw [hVd]
  refine callT_code rfl Tryz.func9 rfl Tryz.s9L_eq rfl ?_
  unfold Tryz.s9L
  simp -dsimp -implicitDefEqProofs (maxSteps := 2000000) (disch := first | assumption | omega | (simp only [nx]; omega) | ((repeat refine Fresh.push ?_ _); assumption) | (simp only [smA]; done) | (simp [oneCell, AW.next_push]; done) | fail) only [go_sem, Nat.reduceEqDiff, reduceIte, Nat.reduceAdd, Int.toNat_natCast, Nat.add_zero, Owes_true, Tryz.results9, Nat.zero_add, t2, t3, t4, t5, s1, z1, s2, t1]
  clear t2 t3 t4 t5 z1 s1 s2
  generalize hw4 : (((((w.push (.cells [.slice p0 l.length cp0, .slice p1 L.length cp1, .int .i64 W.days, .int .i64 W.sum, .int .i64 W.small, .int .i64 W.more] 48 w.next 0 0)).push (.cells [.int .i64 N0, .int .i64 N1, .int .i64 N2, .int .i64 N3] 74 (w.next + 1) 0 0)).push (.cells [.int .i64 0, .int .i64 0, .int .i64 0, .int .i64 0] 46 (w.next + 1 + 1) 0 0)).put (w.next + 1 + 1) (.cells [.int .i64 W.days, .int .i64 W.sum, .int .i64 W.small, .int .i64 W.more] 46 (w.next + 1 + 1) 0 0)).put (w.next + 1 + 1) (.cells [.int .i64 W.days, .int .i64 W.sum, .int .i64 W.sum, .int .i64 W.more] 46 (w.next + 1 + 1) 0 0)) = w4 at *
  have C4' : Own w4 (w.next + 1 + 1) 46 [.int .i64 V.days, .int .i64 V.sum, .int .i64 V.small, .int .i64 V.more] := by rw [hVd]; exact C4
  apply callV_of (e := rfl)
  · exact Linked_ok L _ w4 g4.2 (hL.grown g4)
  rintro _ w5 ⟨hk5, g5⟩
  have gw5 := g4.trans g5
  have A5 := A4.keep g5.1
  have B5 := B4.keep g5.1
  have C5 := C4'.keep g5.1
  have c0 := (A5).cell (o := 0) rfl rfl
  have c1 := (A5).cell (o := 1) rfl rfl
  have c2 := (A5).cell (o := 2) rfl rfl
  have c3 := (A5).cell (o := 3) rfl rfl
  have c4 := (A5).cell (o := 4) rfl rfl
  have c5 := (A5).cell (o := 5) rfl rfl
  have y0 := (C5).cell (o := 0) rfl rfl
  have y1 := (C5).cell (o := 1) rfl rfl
  have y2 := (C5).cell (o := 2) rfl rfl
  have y3 := (C5).cell (o := 3) rfl rfl
  have h00 : decide (((0 : Nat) : Int) = 0) = true := rfl
  have h83 : ¬ (83 : Int) = 0 := by decide
  have hc24 : ((24 : Nat) : Int) = 24 := rfl
  have h24 : decide ((24 : Int) = 24) = true := rfl
  rcases hk5 with ⟨hbad, rfl⟩ | ⟨hgood, A, b5, hA, rfl, oA5⟩
  · simp -dsimp -implicitDefEqProofs (maxSteps := 2000000) (disch := first | assumption | omega | (simp only [nx]; omega) | ((repeat refine Fresh.push ?_ _); assumption) | (simp only [smA]; done) | (simp [oneCell, AW.next_push]; done) | fail) only [go_sem, Nat.reduceEqDiff, reduceIte, Nat.reduceAdd, Int.toNat_natCast, Nat.add_zero, Owes_true, Tryz.results9, Nat.zero_add, c0, c1, y0, y1, y2, y3]
    apply callV_of (e := rfl)
    · exact Alarms_ok l L V _ _ w5 gw5.2 (hs.grown gw5) (hL.grown gw5)
    rintro _ w6 ⟨hal, g6⟩
    rcases hal with ⟨_, rfl⟩ | ⟨q, _⟩
    · have h8 : decide ((83 : Int) = 83) = true := rfl
      simp -dsimp -implicitDefEqProofs (maxSteps := 2000000) (disch := first | assumption | omega | (simp only [nx]; omega) | ((repeat refine Fresh.push ?_ _); assumption) | (simp only [smA]; done) | (simp [oneCell, AW.next_push]; done) | fail) only [go_sem, Nat.reduceEqDiff, reduceIte, Nat.reduceAdd, Int.toNat_natCast, Nat.add_zero, Owes_true, Tryz.results9, h83, h8]
      apply callV_of (e := rfl)
      · exact callT_told (Q := fun v w' => v = .bool true ∧ w6 = w') (v := .bool true) (w' := w6) rfl ⟨rfl, rfl⟩
      rintro _ _ ⟨rfl, rfl⟩
      simp -dsimp -implicitDefEqProofs (maxSteps := 2000000) (disch := first | assumption | omega | (simp only [nx]; omega) | ((repeat refine Fresh.push ?_ _); assumption) | (simp only [smA]; done) | (simp [oneCell, AW.next_push]; done) | fail) only [go_sem, Nat.reduceEqDiff, reduceIte, Nat.reduceAdd, Int.toNat_natCast, Nat.add_zero, Owes_true, Tryz.results9]
    · simp only [reportB, Bool.and_eq_true] at q
      rw [hbad] at q; exact absurd q.1.2 (by simp)
  simp -dsimp -implicitDefEqProofs (maxSteps := 2000000) (disch := first | assumption | omega | (simp only [nx]; omega) | ((repeat refine Fresh.push ?_ _); assumption) | (simp only [smA]; done) | (simp [oneCell, AW.next_push]; done) | fail) only [go_sem, Nat.reduceEqDiff, reduceIte, Nat.reduceAdd, Int.toNat_natCast, Nat.add_zero, Owes_true, Tryz.results9, Nat.zero_add, c0, c1, y0, y1, y2, y3]
  apply callV_of (e := rfl)
  · exact Alarms_ok l L V _ _ w5 gw5.2 (hs.grown gw5) (hL.grown gw5)
  rintro _ w6 ⟨hal, g6⟩
  have gw6 := gw5.trans g6
  have A6 := A5.keep g6.1
  have B6 := B5.keep g6.1
  have C6 := C5.keep g6.1
  have oA6 := oA5.keep g6.1
  clear c0 c1 c2 c3 c4 c5 y0 y1 y2 y3
  have c0 := (A6).cell (o := 0) rfl rfl
  have c1 := (A6).cell (o := 1) rfl rfl
  have c2 := (A6).cell (o := 2) rfl rfl
  have c3 := (A6).cell (o := 3) rfl rfl
  have c4 := (A6).cell (o := 4) rfl rfl
  have c5 := (A6).cell (o := 5) rfl rfl
  have y0 := (C6).cell (o := 0) rfl rfl
  have y1 := (C6).cell (o := 1) rfl rfl
  have y2 := (C6).cell (o := 2) rfl rfl
  have y3 := (C6).cell (o := 3) rfl rfl
  have m0 := (B6).cell (o := 0) rfl rfl
  have m1 := (B6).cell (o := 1) rfl rfl
  have m2 := (B6).cell (o := 2) rfl rfl
  have m3 := (B6).cell (o := 3) rfl rfl
  rcases hal with ⟨_, rfl⟩ | ⟨hb, A', pa, na, ca, hA', rfl, _⟩
  · have h8 : decide ((83 : Int) = 83) = true := rfl
    simp -dsimp -implicitDefEqProofs (maxSteps := 2000000) (disch := first | assumption | omega | (simp only [nx]; omega) | ((repeat refine Fresh.push ?_ _); assumption) | (simp only [smA]; done) | (simp [oneCell, AW.next_push]; done) | fail) only [go_sem, Nat.reduceEqDiff, reduceIte, Nat.reduceAdd, Int.toNat_natCast, Nat.add_zero, Owes_true, Tryz.results9, h83, h8, hc24, h24]
    apply callV_of (e := rfl)
    · exact callT_told (Q := fun v w' => v = .bool true ∧ w6 = w') (v := .bool true) (w' := w6) rfl ⟨rfl, rfl⟩
    rintro _ _ ⟨rfl, rfl⟩
    simp -dsimp -implicitDefEqProofs (maxSteps := 2000000) (disch := first | assumption | omega | (simp only [nx]; omega) | ((repeat refine Fresh.push ?_ _); assumption) | (simp only [smA]; done) | (simp [oneCell, AW.next_push]; done) | fail) only [go_sem, Nat.reduceEqDiff, reduceIte, Nat.reduceAdd, Int.toNat_natCast, Nat.add_zero, Owes_true, Tryz.results9]
  obtain rfl := hA.one hA'
  obtain ⟨hl64, hdd, hL64, hla⟩ := reportB_iff hb
  have hb' := hb
  simp only [reportB, Bool.and_eq_true] at hb'
  have hW' := hb'.2
  simp only [watchB, Bool.and_eq_true, inR_iff] at hW'
  by_cases hl0 : (l.length : Int) = 0
  · have hl0d : decide ((l.length : Int) = 0) = true := decide_eq_true hl0
    simp -dsimp -implicitDefEqProofs (maxSteps := 2000000) (disch := first | assumption | omega | (simp only [nx]; omega) | ((repeat refine Fresh.push ?_ _); assumption) | (simp only [smA]; done) | (simp [oneCell, AW.next_push]; done) | fail) only [go_sem, Nat.reduceEqDiff, reduceIte, Nat.reduceAdd, Int.toNat_natCast, Nat.add_zero, Owes_true, Tryz.results9, Nat.zero_add, c0, hl0d, hc24, h24]
    apply callV_of (e := rfl)
    · exact callT_told (Q := fun v w' => v = .bool true ∧ w6 = w') (v := .bool true) (w' := w6) rfl ⟨rfl, rfl⟩
    rintro _ _ ⟨rfl, rfl⟩
    simp -dsimp -implicitDefEqProofs (maxSteps := 2000000) (disch := first | assumption | omega | (simp only [nx]; omega) | ((repeat refine Fresh.push ?_ _); assumption) | (simp only [smA]; done) | (simp [oneCell, AW.next_push]; done) | fail) only [go_sem, Nat.reduceEqDiff, reduceIte, Nat.reduceAdd, Int.toNat_natCast, Nat.add_zero, Owes_true, Tryz.results9]
  have hl0d : decide ((l.length : Int) = 0) = false := decide_eq_false hl0
  have hleR := WLe.refl w6
  simp -dsimp -implicitDefEqProofs (maxSteps := 2000000) (disch := first | assumption | omega | (simp only [nx]; omega) | ((repeat refine Fresh.push ?_ _); assumption) | (simp only [smA]; done) | (simp [oneCell, AW.next_push]; done) | fail) only [go_sem, Nat.reduceEqDiff, reduceIte, Nat.reduceAdd, Int.toNat_natCast, Nat.add_zero, Owes_true, Tryz.results9, Nat.zero_add, c0, hl0d, hc24, h24, m0, m3]
  apply callV_of (e := rfl)
  · exact Ring_ok N0 (l.length : Int) (by omega) (by omega) w6
  rintro _ _ ⟨kd, rfl, hkd', _, rfl⟩
  simp -dsimp -implicitDefEqProofs (maxSteps := 2000000) (disch := first | assumption | omega | (simp only [nx]; omega) | ((repeat refine Fresh.push ?_ _); assumption) | (simp only [smA]; done) | (simp [oneCell, AW.next_push]; done) | fail) only [go_sem, Nat.reduceEqDiff, reduceIte, Nat.reduceAdd, Int.toNat_natCast, Nat.add_zero, Owes_true, hleR]
  apply callV_of (e := rfl)
  · exact Ring_ok N3 (l.length : Int) (by omega) (by omega) w6
  rintro _ _ ⟨j, rfl, hj', _, rfl⟩
  have hkd : kd < l.length := by omega
  have hj : j < l.length := by omega
  simp -dsimp -implicitDefEqProofs (maxSteps := 2000000) (disch := first | assumption | omega | (simp only [nx]; omega) | ((repeat refine Fresh.push ?_ _); assumption) | (simp only [smA]; done) | (simp [oneCell, AW.next_push]; done) | fail) only [go_sem, Nat.reduceEqDiff, reduceIte, Nat.reduceAdd, Int.toNat_natCast, Nat.add_zero, Owes_true, Tryz.results9, Nat.zero_add, c0, c1, y0, y1, y2, y3]
  apply callV_of (e := rfl)
  · exact Reasons_ok l L V _ _ (j : Int) w6 gw6.2 (hs.grown gw6) (hL.grown gw6)
  rintro _ w7 ⟨hR7, g7⟩
  rcases reas_cases hR7 with ⟨e, he, rfl, he4⟩ | ⟨p, a, c, j', A', rfl, _, hjj, _, hA2, hRep⟩
  · have h4 := he4 hb ((inR_iff _ _ _).2 ⟨by omega, by omega⟩)
    subst h4
    have h44 : ¬ (4 : Int) = 0 := by decide
    have h45 : decide ((4 : Int) = 4) = true := rfl
    simp -dsimp -implicitDefEqProofs (maxSteps := 2000000) (disch := first | assumption | omega | (simp only [nx]; omega) | ((repeat refine Fresh.push ?_ _); assumption) | (simp only [smA]; done) | (simp [oneCell, AW.next_push]; done) | fail) only [go_sem, Nat.reduceEqDiff, reduceIte, Nat.reduceAdd, Int.toNat_natCast, Nat.add_zero, Owes_true, Tryz.results9, h44, h45]
    apply callV_of (e := rfl)
    · exact callT_told (Q := fun v w' => v = .bool true ∧ w7 = w') (v := .bool true) (w' := w7) rfl ⟨rfl, rfl⟩
    rintro _ _ ⟨rfl, rfl⟩
    simp -dsimp -implicitDefEqProofs (maxSteps := 2000000) (disch := first | assumption | omega | (simp only [nx]; omega) | ((repeat refine Fresh.push ?_ _); assumption) | (simp only [smA]; done) | (simp [oneCell, AW.next_push]; done) | fail) only [go_sem, Nat.reduceEqDiff, reduceIte, Nat.reduceAdd, Int.toNat_natCast, Nat.add_zero, Owes_true, Tryz.results9]
  obtain rfl : j = j' := by omega
  obtain rfl := hA.one hA2
  have gw7 := gw6.trans g7
  have A7 := A6.keep g7.1
  have B7 := B6.keep g7.1
  have C7 := C6.keep g7.1
  have oA7 := oA6.keep g7.1
  clear c0 c1 c2 c3 c4 c5 y0 y1 y2 y3 m0 m1 m2 m3
  have c0 := (A7).cell (o := 0) rfl rfl
  have c1 := (A7).cell (o := 1) rfl rfl
  have c2 := (A7).cell (o := 2) rfl rfl
  have c3 := (A7).cell (o := 3) rfl rfl
  have c4 := (A7).cell (o := 4) rfl rfl
  have c5 := (A7).cell (o := 5) rfl rfl
  have y0 := (C7).cell (o := 0) rfl rfl
  have y1 := (C7).cell (o := 1) rfl rfl
  have y2 := (C7).cell (o := 2) rfl rfl
  have y3 := (C7).cell (o := 3) rfl rfl
  have m0 := (B7).cell (o := 0) rfl rfl
  have m1 := (B7).cell (o := 1) rfl rfl
  have m2 := (B7).cell (o := 2) rfl rfl
  have m3 := (B7).cell (o := 3) rfl rfl
  obtain ⟨_, _, epd, _, _, hat⟩ := (hs.grown gw7).open
  injection epd with epd1 epd2 epd3
  subst epd1 epd3
  obtain ⟨bd, od, rfl, _, hcd⟩ := hat kd hkd
  have k2 := hcd w7 (.refl _ _) 2 _ rfl
  have hsk := sumAt_in hdd hkd
  have hse := sumAt_eq hkd
  rw [← hse] at k2
  have hkl : (kd : Int) < (l.length : Int) := by omega
  by_cases hs1 : sumAt l kd > 1
  case neg =>
    have hs1d : decide (sumAt l kd > 1) = false := decide_eq_false hs1
    simp -dsimp -implicitDefEqProofs (maxSteps := 2000000) (disch := first | assumption | omega | (simp only [nx]; omega) | ((repeat refine Fresh.push ?_ _); assumption) | (simp only [smA]; done) | (simp [oneCell, AW.next_push]; done) | fail) only [go_sem, Nat.reduceEqDiff, reduceIte, Nat.reduceAdd, Int.toNat_natCast, Nat.add_zero, Owes_true, Tryz.results9, Nat.zero_add, c0, hkl, indexV_eq, k2, hs1d]
    exact rest9_ok l L W V (some ⟨bd, od, none⟩) p1 cp0 cp1 kd j A N0 N1 N2 N3 w hs hL hb hA hkd hj hVs hRep w.next (w.next + 1) (w.next + 1 + 1) b5 _ w7 gw7 A7 B7 C7 oA7 (by first | rfl | (simp -dsimp -implicitDefEqProofs (maxSteps := 2000000) (disch := first | assumption | omega | (simp only [nx]; omega) | ((repeat refine Fresh.push ?_ _); assumption) | (simp only [smA]; done) | (simp [oneCell, AW.next_push]; done) | fail) only [go_sem, Nat.reduceEqDiff, reduceIte, Nat.reduceAdd, Int.toNat_natCast, Nat.add_zero, Owes_true]; try rfl) | assumption) (by first | rfl | (simp -dsimp -implicitDefEqProofs (maxSteps := 2000000) (disch := first | assumption | omega | (simp only [nx]; omega) | ((repeat refine Fresh.push ?_ _); assumption) | (simp only [smA]; done) | (simp [oneCell, AW.next_push]; done) | fail) only [go_sem, Nat.reduceEqDiff, reduceIte, Nat.reduceAdd, Int.toNat_natCast, Nat.add_zero, Owes_true]; try rfl) | assumption) (by first | rfl | (simp -dsimp -implicitDefEqProofs (maxSteps := 2000000) (disch := first | assumption | omega | (simp only [nx]; omega) | ((repeat refine Fresh.push ?_ _); assumption) | (simp only [smA]; done) | (simp [oneCell, AW.next_push]; done) | fail) only [go_sem, Nat.reduceEqDiff, reduceIte, Nat.reduceAdd, Int.toNat_natCast, Nat.add_zero, Owes_true]; try rfl) | assumption) (by first | rfl | (simp -dsimp -implicitDefEqProofs (maxSteps := 2000000) (disch := first | assumption | omega | (simp only [nx]; omega) | ((repeat refine Fresh.push ?_ _); assumption) | (simp only [smA]; done) | (simp [oneCell, AW.next_push]; done) | fail) only [go_sem, Nat.reduceEqDiff, reduceIte, Nat.reduceAdd, Int.toNat_natCast, Nat.add_zero, Owes_true]; try rfl) | assumption) (by first | rfl | (simp -dsimp -implicitDefEqProofs (maxSteps := 2000000) (disch := first | assumption | omega | (simp only [nx]; omega) | ((repeat refine Fresh.push ?_ _); assumption) | (simp only [smA]; done) | (simp [oneCell, AW.next_push]; done) | fail) only [go_sem, Nat.reduceEqDiff, reduceIte, Nat.reduceAdd, Int.toNat_natCast, Nat.add_zero, Owes_true]; try rfl) | assumption) (by first | rfl | (simp -dsimp -implicitDefEqProofs (maxSteps := 2000000) (disch := first | assumption | omega | (simp only [nx]; omega) | ((repeat refine Fresh.push ?_ _); assumption) | (simp only [smA]; done) | (simp [oneCell, AW.next_push]; done) | fail) only [go_sem, Nat.reduceEqDiff, reduceIte, Nat.reduceAdd, Int.toNat_natCast, Nat.add_zero, Owes_true]; try rfl) | assumption)
  have hs1d : decide (sumAt l kd > 1) = true := decide_eq_true hs1
  by_cases hl63 : (l.length : Int) < 64
  case neg =>
    have hl63d : decide ((l.length : Int) < 64) = false := decide_eq_false hl63
    simp -dsimp -implicitDefEqProofs (maxSteps := 2000000) (disch := first | assumption | omega | (simp only [nx]; omega) | ((repeat refine Fresh.push ?_ _); assumption) | (simp only [smA]; done) | (simp [oneCell, AW.next_push]; done) | fail) only [go_sem, Nat.reduceEqDiff, reduceIte, Nat.reduceAdd, Int.toNat_natCast, Nat.add_zero, Owes_true, Tryz.results9, Nat.zero_add, c0, hkl, indexV_eq, k2, hs1d, hl63d]
    exact rest9_ok l L W V (some ⟨bd, od, none⟩) p1 cp0 cp1 kd j A N0 N1 N2 N3 w hs hL hb hA hkd hj hVs hRep w.next (w.next + 1) (w.next + 1 + 1) b5 _ w7 gw7 A7 B7 C7 oA7 (by first | rfl | (simp -dsimp -implicitDefEqProofs (maxSteps := 2000000) (disch := first | assumption | omega | (simp only [nx]; omega) | ((repeat refine Fresh.push ?_ _); assumption) | (simp only [smA]; done) | (simp [oneCell, AW.next_push]; done) | fail) only [go_sem, Nat.reduceEqDiff, reduceIte, Nat.reduceAdd, Int.toNat_natCast, Nat.add_zero, Owes_true]; try rfl) | assumption) (by first | rfl | (simp -dsimp -implicitDefEqProofs (maxSteps := 2000000) (disch := first | assumption | omega | (simp only [nx]; omega) | ((repeat refine Fresh.push ?_ _); assumption) | (simp only [smA]; done) | (simp [oneCell, AW.next_push]; done) | fail) only [go_sem, Nat.reduceEqDiff, reduceIte, Nat.reduceAdd, Int.toNat_natCast, Nat.add_zero, Owes_true]; try rfl) | assumption) (by first | rfl | (simp -dsimp -implicitDefEqProofs (maxSteps := 2000000) (disch := first | assumption | omega | (simp only [nx]; omega) | ((repeat refine Fresh.push ?_ _); assumption) | (simp only [smA]; done) | (simp [oneCell, AW.next_push]; done) | fail) only [go_sem, Nat.reduceEqDiff, reduceIte, Nat.reduceAdd, Int.toNat_natCast, Nat.add_zero, Owes_true]; try rfl) | assumption) (by first | rfl | (simp -dsimp -implicitDefEqProofs (maxSteps := 2000000) (disch := first | assumption | omega | (simp only [nx]; omega) | ((repeat refine Fresh.push ?_ _); assumption) | (simp only [smA]; done) | (simp [oneCell, AW.next_push]; done) | fail) only [go_sem, Nat.reduceEqDiff, reduceIte, Nat.reduceAdd, Int.toNat_natCast, Nat.add_zero, Owes_true]; try rfl) | assumption) (by first | rfl | (simp -dsimp -implicitDefEqProofs (maxSteps := 2000000) (disch := first | assumption | omega | (simp only [nx]; omega) | ((repeat refine Fresh.push ?_ _); assumption) | (simp only [smA]; done) | (simp [oneCell, AW.next_push]; done) | fail) only [go_sem, Nat.reduceEqDiff, reduceIte, Nat.reduceAdd, Int.toNat_natCast, Nat.add_zero, Owes_true]; try rfl) | assumption) (by first | rfl | (simp -dsimp -implicitDefEqProofs (maxSteps := 2000000) (disch := first | assumption | omega | (simp only [nx]; omega) | ((repeat refine Fresh.push ?_ _); assumption) | (simp only [smA]; done) | (simp [oneCell, AW.next_push]; done) | fail) only [go_sem, Nat.reduceEqDiff, reduceIte, Nat.reduceAdd, Int.toNat_natCast, Nat.add_zero, Owes_true]; try rfl) | assumption)
  have hl63d : decide ((l.length : Int) < 64) = true := decide_eq_true hl63
  have hleR7 := WLe.refl w7
  have hs4 := same_agg4 V.days V.sum V.small V.more
  have go : ∀ (la : Nat), la = (if kd ≤ j then j + 1 else j) → ∀ r w9, ReasIs (cutL l kd 1) L V (la : Int) r w9 → True := fun _ _ _ _ _ => trivial
  have hcutok : ∀ (q : Nat), (q : Int) < sumAt l kd - 1 → ∀ (la : Nat), la = (if kd ≤ j then j + 1 else j) → ∀ r w9, ReasIs (cutL l kd (1 + (q : Int))) L V (la : Int) r w9 → ∃ p a c, r = .tuple #[.slice p a c, .int .i64 0] := fun q hq la hla r w9 hR9 => by
    have hcl : (cutL l kd (1 + (q : Int))).length = l.length + 1 := by rw [cutL_eq hkd]; simp; omega
    have hb2 : reportB (cutL l kd (1 + (q : Int))) L V = true := by
      simp only [reportB, Bool.and_eq_true]
      exact ⟨⟨cut_deals hkd (by omega) ⟨by omega, by omega⟩ hb'.1.1, hb'.1.2⟩, hb'.2⟩
    refine reas_yes hR9 hb2 rfl (by rw [hcl, hla]; split <;> omega) fun B hB => ?_
    obtain rfl := hA.one hB
    left
    rw [hla, cut_sum V A hkd hj]
    exact repP_sum hVs hW'.2.1 hRep
  clear go
  by_cases hjk : (j : Int) ≥ (kd : Int)
  · have hjkd : decide ((j : Int) ≥ (kd : Int)) = true := decide_eq_true hjk
    simp -dsimp -implicitDefEqProofs (maxSteps := 2000000) (disch := first | assumption | omega | (simp only [nx]; omega) | ((repeat refine Fresh.push ?_ _); assumption) | (simp only [smA]; done) | (simp [oneCell, AW.next_push]; done) | fail) only [go_sem, Nat.reduceEqDiff, reduceIte, Nat.reduceAdd, Int.toNat_natCast, Nat.add_zero, Owes_true, Tryz.results9, Nat.zero_add, c0, c1, hkl, indexV_eq, k2, hs1d, hl63d, hjkd, m1, y0, y1, y2, y3, hs4]
    apply callV_of (e := rfl)
    · exact Ring_ok N1 (sumAt l kd - 1) (by omega) (by omega) w7
    rintro _ _ ⟨q, rfl, hq, _, rfl⟩
    simp -dsimp -implicitDefEqProofs (maxSteps := 2000000) (disch := first | assumption | omega | (simp only [nx]; omega) | ((repeat refine Fresh.push ?_ _); assumption) | (simp only [smA]; done) | (simp [oneCell, AW.next_push]; done) | fail) only [go_sem, Nat.reduceEqDiff, reduceIte, Nat.reduceAdd, Int.toNat_natCast, Nat.add_zero, Owes_true, hleR7]
    apply callV_of (e := rfl)
    · exact cut_ok l _ kd (1 + (q : Int)) w7 gw7.2 (hs.grown gw7) (hG.keep gw7.1) hkd hl64 ⟨by omega, by omega⟩ ⟨by omega, by omega⟩
    rintro _ w8 ⟨⟨p8, c8, rfl, harr8⟩, g8⟩
    have hle8 := g8.1.wle gw7.2
    have gw8 := gw7.trans g8
    have hcl : (cutL l kd (1 + (q : Int))).length = l.length + 1 := by rw [cutL_eq hkd]; simp; omega
    simp -dsimp -implicitDefEqProofs (maxSteps := 2000000) (disch := first | assumption | omega | (simp only [nx]; omega) | ((repeat refine Fresh.push ?_ _); assumption) | (simp only [smA]; done) | (simp [oneCell, AW.next_push]; done) | fail) only [go_sem, Nat.reduceEqDiff, reduceIte, Nat.reduceAdd, Int.toNat_natCast, Nat.add_zero, Owes_true, hle8]
    apply callV_of (e := rfl)
    · exact Reasons_ok (cutL l kd (1 + (q : Int))) L V _ _ ((j : Int) + 1) w8 gw8.2 harr8 (hL.grown gw8)
    rintro _ w9 ⟨hR9, g9⟩
    obtain ⟨p9, a9, c9, rfl⟩ := hcutok q hq (j + 1) (by rw [if_pos (by omega)]) _ w9 (by rw [show ((j + 1 : Nat) : Int) = (j : Int) + 1 from by omega]; exact hR9)
    have gw9 := gw8.trans g9
    have g79 := g8.trans g9
    have htp := tup2_same p9 a9 c9 0
    simp -dsimp -implicitDefEqProofs (maxSteps := 2000000) (disch := first | assumption | omega | (simp only [nx]; omega) | ((repeat refine Fresh.push ?_ _); assumption) | (simp only [smA]; done) | (simp [oneCell, AW.next_push]; done) | fail) only [go_sem, Nat.reduceEqDiff, reduceIte, Nat.reduceAdd, Int.toNat_natCast, Nat.add_zero, Owes_true, Tryz.results9, htp]
    exact rest9_ok l L W V (some ⟨bd, od, none⟩) p1 cp0 cp1 kd j A N0 N1 N2 N3 w hs hL hb hA hkd hj hVs hRep w.next (w.next + 1) (w.next + 1 + 1) b5 _ w9 gw9 (A7.keep g79.1) (B7.keep g79.1) (C7.keep g79.1) (oA7.keep g79.1) (by first | rfl | (simp -dsimp -implicitDefEqProofs (maxSteps := 2000000) (disch := first | assumption | omega | (simp only [nx]; omega) | ((repeat refine Fresh.push ?_ _); assumption) | (simp only [smA]; done) | (simp [oneCell, AW.next_push]; done) | fail) only [go_sem, Nat.reduceEqDiff, reduceIte, Nat.reduceAdd, Int.toNat_natCast, Nat.add_zero, Owes_true]; try rfl) | assumption) (by first | rfl | (simp -dsimp -implicitDefEqProofs (maxSteps := 2000000) (disch := first | assumption | omega | (simp only [nx]; omega) | ((repeat refine Fresh.push ?_ _); assumption) | (simp only [smA]; done) | (simp [oneCell, AW.next_push]; done) | fail) only [go_sem, Nat.reduceEqDiff, reduceIte, Nat.reduceAdd, Int.toNat_natCast, Nat.add_zero, Owes_true]; try rfl) | assumption) (by first | rfl | (simp -dsimp -implicitDefEqProofs (maxSteps := 2000000) (disch := first | assumption | omega | (simp only [nx]; omega) | ((repeat refine Fresh.push ?_ _); assumption) | (simp only [smA]; done) | (simp [oneCell, AW.next_push]; done) | fail) only [go_sem, Nat.reduceEqDiff, reduceIte, Nat.reduceAdd, Int.toNat_natCast, Nat.add_zero, Owes_true]; try rfl) | assumption) (by first | rfl | (simp -dsimp -implicitDefEqProofs (maxSteps := 2000000) (disch := first | assumption | omega | (simp only [nx]; omega) | ((repeat refine Fresh.push ?_ _); assumption) | (simp only [smA]; done) | (simp [oneCell, AW.next_push]; done) | fail) only [go_sem, Nat.reduceEqDiff, reduceIte, Nat.reduceAdd, Int.toNat_natCast, Nat.add_zero, Owes_true]; try rfl) | assumption) (by first | rfl | (simp -dsimp -implicitDefEqProofs (maxSteps := 2000000) (disch := first | assumption | omega | (simp only [nx]; omega) | ((repeat refine Fresh.push ?_ _); assumption) | (simp only [smA]; done) | (simp [oneCell, AW.next_push]; done) | fail) only [go_sem, Nat.reduceEqDiff, reduceIte, Nat.reduceAdd, Int.toNat_natCast, Nat.add_zero, Owes_true]; try rfl) | assumption) (by first | rfl | (simp -dsimp -implicitDefEqProofs (maxSteps := 2000000) (disch := first | assumption | omega | (simp only [nx]; omega) | ((repeat refine Fresh.push ?_ _); assumption) | (simp only [smA]; done) | (simp [oneCell, AW.next_push]; done) | fail) only [go_sem, Nat.reduceEqDiff, reduceIte, Nat.reduceAdd, Int.toNat_natCast, Nat.add_zero, Owes_true]; try rfl) | assumption)
  · have hjkd : decide ((j : Int) ≥ (kd : Int)) = false := decide_eq_false hjk
    simp -dsimp -implicitDefEqProofs (maxSteps := 2000000) (disch := first | assumption | omega | (simp only [nx]; omega) | ((repeat refine Fresh.push ?_ _); assumption) | (simp only [smA]; done) | (simp [oneCell, AW.next_push]; done) | fail) only [go_sem, Nat.reduceEqDiff, reduceIte, Nat.reduceAdd, Int.toNat_natCast, Nat.add_zero, Owes_true, Tryz.results9, Nat.zero_add, c0, c1, hkl, indexV_eq, k2, hs1d, hl63d, hjkd, m1, y0, y1, y2, y3, hs4]
    apply callV_of (e := rfl)
    · exact Ring_ok N1 (sumAt l kd - 1) (by omega) (by omega) w7
    rintro _ _ ⟨q, rfl, hq, _, rfl⟩
    simp -dsimp -implicitDefEqProofs (maxSteps := 2000000) (disch := first | assumption | omega | (simp only [nx]; omega) | ((repeat refine Fresh.push ?_ _); assumption) | (simp only [smA]; done) | (simp [oneCell, AW.next_push]; done) | fail) only [go_sem, Nat.reduceEqDiff, reduceIte, Nat.reduceAdd, Int.toNat_natCast, Nat.add_zero, Owes_true, hleR7]
    apply callV_of (e := rfl)
    · exact cut_ok l _ kd (1 + (q : Int)) w7 gw7.2 (hs.grown gw7) (hG.keep gw7.1) hkd hl64 ⟨by omega, by omega⟩ ⟨by omega, by omega⟩
    rintro _ w8 ⟨⟨p8, c8, rfl, harr8⟩, g8⟩
    have hle8 := g8.1.wle gw7.2
    have gw8 := gw7.trans g8
    simp -dsimp -implicitDefEqProofs (maxSteps := 2000000) (disch := first | assumption | omega | (simp only [nx]; omega) | ((repeat refine Fresh.push ?_ _); assumption) | (simp only [smA]; done) | (simp [oneCell, AW.next_push]; done) | fail) only [go_sem, Nat.reduceEqDiff, reduceIte, Nat.reduceAdd, Int.toNat_natCast, Nat.add_zero, Owes_true, hle8]
    apply callV_of (e := rfl)
    · exact Reasons_ok (cutL l kd (1 + (q : Int))) L V _ _ (j : Int) w8 gw8.2 harr8 (hL.grown gw8)
    rintro _ w9 ⟨hR9, g9⟩
    obtain ⟨p9, a9, c9, rfl⟩ := hcutok q hq j (by rw [if_neg (by omega)]) _ w9 hR9
    have gw9 := gw8.trans g9
    have g79 := g8.trans g9
    have htp := tup2_same p9 a9 c9 0
    simp -dsimp -implicitDefEqProofs (maxSteps := 2000000) (disch := first | assumption | omega | (simp only [nx]; omega) | ((repeat refine Fresh.push ?_ _); assumption) | (simp only [smA]; done) | (simp [oneCell, AW.next_push]; done) | fail) only [go_sem, Nat.reduceEqDiff, reduceIte, Nat.reduceAdd, Int.toNat_natCast, Nat.add_zero, Owes_true, Tryz.results9, htp]
    exact rest9_ok l L W V (some ⟨bd, od, none⟩) p1 cp0 cp1 kd j A N0 N1 N2 N3 w hs hL hb hA hkd hj hVs hRep w.next (w.next + 1) (w.next + 1 + 1) b5 _ w9 gw9 (A7.keep g79.1) (B7.keep g79.1) (C7.keep g79.1) (oA7.keep g79.1) (by first | rfl | (simp -dsimp -implicitDefEqProofs (maxSteps := 2000000) (disch := first | assumption | omega | (simp only [nx]; omega) | ((repeat refine Fresh.push ?_ _); assumption) | (simp only [smA]; done) | (simp [oneCell, AW.next_push]; done) | fail) only [go_sem, Nat.reduceEqDiff, reduceIte, Nat.reduceAdd, Int.toNat_natCast, Nat.add_zero, Owes_true]; try rfl) | assumption) (by first | rfl | (simp -dsimp -implicitDefEqProofs (maxSteps := 2000000) (disch := first | assumption | omega | (simp only [nx]; omega) | ((repeat refine Fresh.push ?_ _); assumption) | (simp only [smA]; done) | (simp [oneCell, AW.next_push]; done) | fail) only [go_sem, Nat.reduceEqDiff, reduceIte, Nat.reduceAdd, Int.toNat_natCast, Nat.add_zero, Owes_true]; try rfl) | assumption) (by first | rfl | (simp -dsimp -implicitDefEqProofs (maxSteps := 2000000) (disch := first | assumption | omega | (simp only [nx]; omega) | ((repeat refine Fresh.push ?_ _); assumption) | (simp only [smA]; done) | (simp [oneCell, AW.next_push]; done) | fail) only [go_sem, Nat.reduceEqDiff, reduceIte, Nat.reduceAdd, Int.toNat_natCast, Nat.add_zero, Owes_true]; try rfl) | assumption) (by first | rfl | (simp -dsimp -implicitDefEqProofs (maxSteps := 2000000) (disch := first | assumption | omega | (simp only [nx]; omega) | ((repeat refine Fresh.push ?_ _); assumption) | (simp only [smA]; done) | (simp [oneCell, AW.next_push]; done) | fail) only [go_sem, Nat.reduceEqDiff, reduceIte, Nat.reduceAdd, Int.toNat_natCast, Nat.add_zero, Owes_true]; try rfl) | assumption) (by first | rfl | (simp -dsimp -implicitDefEqProofs (maxSteps := 2000000) (disch := first | assumption | omega | (simp only [nx]; omega) | ((repeat refine Fresh.push ?_ _); assumption) | (simp only [smA]; done) | (simp [oneCell, AW.next_push]; done) | fail) only [go_sem, Nat.reduceEqDiff, reduceIte, Nat.reduceAdd, Int.toNat_natCast, Nat.add_zero, Owes_true]; try rfl) | assumption) (by first | rfl | (simp -dsimp -implicitDefEqProofs (maxSteps := 2000000) (disch := first | assumption | omega | (simp only [nx]; omega) | ((repeat refine Fresh.push ?_ _); assumption) | (simp only [smA]; done) | (simp [oneCell, AW.next_push]; done) | fail) only [go_sem, Nat.reduceEqDiff, reduceIte, Nat.reduceAdd, Int.toNat_natCast, Nat.add_zero, Owes_true]; try rfl) | assumption)
end Go.Proofs

namespace Go.Proofs
open Go Go.RowKit Go.Sim Go.ChangeShapes Go.WideShapes Go.ChangeAt
set_option maxRecDepth 100000
theorem Tryz.own : ownKnob Tryz.prog.godebug = none := by kernel_rfl
theorem Tryz.laidOut : laidOutB Tryz.prog = true := by kernel_rfl
end Go.Proofs
