/- This program: its code, contracts, numbers, part 3. -/
import Derived.Test.YtlilncofnckgdaaPab
import Derived.Test.YtlilncofnckgdaaNa
import Derived.Test.YtlilncofnckgdaaNd
import Derived.Test.YtlilncofnckgdaaNc
import Derived.Test.YtlilncofnckgdaaCz
set_option linter.unusedVariables false
set_option linter.unusedSimpArgs false
namespace Go.Proofs
open Go Go.RowKit Go.Sim
set_option maxRecDepth 100000
def Try.s66 : SC := (.seq (.ops false [⟨⟨(some 2),.assign (.const (.bool false)),4,"",⟨[]⟩,none⟩,none,false⟩]) (.seq (.ops false [⟨⟨(some 3),.move (.tmp 0),3,"",⟨[]⟩,none⟩,none,false⟩,⟨⟨(some 4),.call ⟨.value (.func 64),⟨[(.tmp 3),(.const (.int .i64 1)),(.const (.int .i64 8))]⟩,⟨[3,3,3]⟩⟩,4,"",⟨[]⟩,none⟩,none,false⟩,⟨⟨(some 2),.assign (.tmp 4),4,"",⟨[]⟩,none⟩,none,false⟩]) .ret))
def Try.s67 : SC := (.seq (.ops false [⟨⟨(some 2),.assign (.const (.bool false)),4,"",⟨[]⟩,none⟩,none,false⟩]) (.seq (.ops false [⟨⟨(some 3),.move (.tmp 0),3,"",⟨[]⟩,none⟩,none,false⟩,⟨⟨(some 4),.call ⟨.value (.func 64),⟨[(.tmp 3),(.const (.int .i64 0)),(.const (.int .i64 1000))]⟩,⟨[3,3,3]⟩⟩,4,"",⟨[]⟩,none⟩,none,false⟩,⟨⟨(some 2),.assign (.tmp 4),4,"",⟨[]⟩,none⟩,none,false⟩]) .ret))
def Try.s18 : SC := (.seq (.ops false [⟨⟨(some 1),.box 24 (.tmp 0),0,"",⟨[]⟩,none⟩,none,false⟩,⟨⟨(some 2),.assign (.const (.int .i64 0)),25,"",⟨[]⟩,none⟩,none,false⟩]) (.seq (.seq (.ops true [⟨⟨(some 3),.fieldAddr 24 (.tmp 1) 0,0,"",⟨[]⟩,none⟩,none,true⟩,⟨⟨(some 4),.load 22 (.tmp 3),22,"",⟨[]⟩,none⟩,none,true⟩,⟨⟨(some 5),.call ⟨.builtin .len,⟨[(.tmp 4)]⟩,⟨[22]⟩⟩,3,"",⟨[]⟩,none⟩,none,true⟩,⟨⟨(some 6),.call ⟨.value (.func 64),⟨[(.tmp 5),(.const (.int .i64 1)),(.const (.int .i64 4))]⟩,⟨[3,3,3]⟩⟩,4,"",⟨[]⟩,none⟩,none,false⟩,⟨⟨(some 7),.unOp .not 4 (.tmp 6),4,"",⟨[]⟩,none⟩,none,true⟩,⟨⟨(some 8),.move (.tmp 7),4,"",⟨[]⟩,none⟩,none,true⟩,⟨⟨(some 9),.fieldAddr 24 (.tmp 1) 0,0,"",⟨[]⟩,none⟩,some ((some 8),false),true⟩,⟨⟨(some 10),.load 22 (.tmp 9),22,"",⟨[]⟩,none⟩,some ((some 8),false),true⟩,⟨⟨(some 11),.call ⟨.value (.func 65),⟨[(.tmp 10),(.func 66)]⟩,⟨[22,79]⟩⟩,4,"",⟨[]⟩,none⟩,some ((some 8),false),false⟩,⟨⟨(some 12),.unOp .not 4 (.tmp 11),4,"",⟨[]⟩,none⟩,some ((some 8),false),true⟩,⟨⟨(some 13),.pick (.tmp 8) (.const (.bool true)) (.tmp 12),4,"",⟨[]⟩,none⟩,none,true⟩,⟨⟨(some 14),.move (.tmp 13),4,"",⟨[]⟩,none⟩,none,true⟩,⟨⟨(some 15),.fieldAddr 24 (.tmp 1) 1,0,"",⟨[]⟩,none⟩,some ((some 14),false),true⟩,⟨⟨(some 16),.load 22 (.tmp 15),22,"",⟨[]⟩,none⟩,some ((some 14),false),true⟩,⟨⟨(some 17),.call ⟨.builtin .len,⟨[(.tmp 16)]⟩,⟨[22]⟩⟩,3,"",⟨[]⟩,none⟩,some ((some 14),false),true⟩,⟨⟨(some 18),.fieldAddr 24 (.tmp 1) 0,0,"",⟨[]⟩,none⟩,some ((some 14),false),true⟩,⟨⟨(some 19),.load 22 (.tmp 18),22,"",⟨[]⟩,none⟩,some ((some 14),false),true⟩,⟨⟨(some 20),.call ⟨.builtin .len,⟨[(.tmp 19)]⟩,⟨[22]⟩⟩,3,"",⟨[]⟩,none⟩,some ((some 14),false),true⟩,⟨⟨(some 21),.binOp .neq 3 (.tmp 17) (.tmp 20) 3,4,"",⟨[]⟩,none⟩,some ((some 14),false),true⟩,⟨⟨(some 22),.pick (.tmp 14) (.const (.bool true)) (.tmp 21),4,"",⟨[]⟩,none⟩,none,true⟩,⟨⟨(some 23),.move (.tmp 22),4,"",⟨[]⟩,none⟩,none,true⟩,⟨⟨(some 24),.fieldAddr 24 (.tmp 1) 1,0,"",⟨[]⟩,none⟩,some ((some 23),false),true⟩,⟨⟨(some 25),.load 22 (.tmp 24),22,"",⟨[]⟩,none⟩,some ((some 23),false),true⟩,⟨⟨(some 26),.call ⟨.value (.func 65),⟨[(.tmp 25),(.func 67)]⟩,⟨[22,79]⟩⟩,4,"",⟨[]⟩,none⟩,some ((some 23),false),false⟩,⟨⟨(some 27),.unOp .not 4 (.tmp 26),4,"",⟨[]⟩,none⟩,some ((some 23),false),true⟩,⟨⟨(some 28),.pick (.tmp 23) (.const (.bool true)) (.tmp 27),4,"",⟨[]⟩,none⟩,none,true⟩,⟨⟨(some 29),.move (.tmp 28),4,"",⟨[]⟩,none⟩,none,true⟩,⟨⟨(some 30),.fieldAddr 24 (.tmp 1) 2,0,"",⟨[]⟩,none⟩,some ((some 29),false),true⟩,⟨⟨(some 31),.load 3 (.tmp 30),3,"",⟨[]⟩,none⟩,some ((some 29),false),true⟩,⟨⟨(some 32),.fieldAddr 24 (.tmp 1) 0,0,"",⟨[]⟩,none⟩,some ((some 29),false),true⟩,⟨⟨(some 33),.load 22 (.tmp 32),22,"",⟨[]⟩,none⟩,some ((some 29),false),true⟩,⟨⟨(some 34),.call ⟨.value (.func 68),⟨[(.tmp 33)]⟩,⟨[22]⟩⟩,3,"",⟨[]⟩,none⟩,some ((some 29),false),true⟩,⟨⟨(some 35),.call ⟨.value (.func 64),⟨[(.tmp 31),(.const (.int .i64 1)),(.tmp 34)]⟩,⟨[3,3,3]⟩⟩,4,"",⟨[]⟩,none⟩,some ((some 29),false),false⟩,⟨⟨(some 36),.unOp .not 4 (.tmp 35),4,"",⟨[]⟩,none⟩,some ((some 29),false),true⟩,⟨⟨(some 37),.pick (.tmp 29) (.const (.bool true)) (.tmp 36),4,"",⟨[]⟩,none⟩,none,true⟩,⟨⟨(some 38),.move (.tmp 37),4,"",⟨[]⟩,none⟩,none,true⟩,⟨⟨(some 39),.fieldAddr 24 (.tmp 1) 3,0,"",⟨[]⟩,none⟩,some ((some 38),false),true⟩,⟨⟨(some 40),.load 3 (.tmp 39),3,"",⟨[]⟩,none⟩,some ((some 38),false),true⟩,⟨⟨(some 41),.call ⟨.value (.func 64),⟨[(.tmp 40),(.const (.int .i64 0)),(.const (.int .i64 1000))]⟩,⟨[3,3,3]⟩⟩,4,"",⟨[]⟩,none⟩,some ((some 38),false),false⟩,⟨⟨(some 42),.unOp .not 4 (.tmp 41),4,"",⟨[]⟩,none⟩,some ((some 38),false),true⟩,⟨⟨(some 43),.pick (.tmp 38) (.const (.bool true)) (.tmp 42),4,"",⟨[]⟩,none⟩,none,true⟩]) (.cond (.tmp 43) (.seq (.ops false [⟨⟨(some 2),.assign (.const (.int .i64 100)),25,"",⟨[]⟩,none⟩,none,false⟩]) .ret) .skip)) (.seq (.ops false [⟨⟨(some 2),.assign (.const (.int .i64 0)),25,"",⟨[]⟩,none⟩,none,false⟩]) .ret)))
def Try.s57 : SC := (.seq (.ops false [⟨⟨(some 1),.box 24 (.tmp 0),0,"",⟨[]⟩,none⟩,none,false⟩,⟨⟨(some 2),.assign (.const (.pointer none)),70,"",⟨[]⟩,none⟩,none,false⟩]) (.seq (.ops true [⟨⟨(some 3),.load 24 (.tmp 1),24,"",⟨[]⟩,none⟩,none,true⟩,⟨⟨(some 4),.call ⟨.value (.func 106),⟨[]⟩,⟨[]⟩⟩,116,"",⟨[]⟩,none⟩,none,true⟩,⟨⟨(some 5),.build 119 ⟨[(0,(.tmp 3)),(1,(.tmp 4))]⟩,119,"",⟨[]⟩,none⟩,none,true⟩,⟨⟨(some 6),.box 119 (.tmp 5),70,"",⟨[]⟩,none⟩,none,true⟩,⟨⟨(some 2),.assign (.tmp 6),70,"",⟨[]⟩,none⟩,none,true⟩]) .ret))
def Try.s59 : SC := (.seq (.ops false [⟨⟨(some 4),.box 73 (.tmp 1),0,"",⟨[]⟩,none⟩,none,false⟩,⟨⟨(some 5),.box 73 (.tmp 2),0,"",⟨[]⟩,none⟩,none,false⟩,⟨⟨(some 6),.assign (.const (.int .i64 0)),3,"",⟨[]⟩,none⟩,none,false⟩]) (.seq (.ops false [⟨⟨(some 7),.assign (.const (.int .i64 1)),3,"",⟨[]⟩,none⟩,none,false⟩]) (.seq (.seq (.ops false [⟨⟨(some 10),.move (.tmp 0),70,"",⟨[]⟩,none⟩,none,false⟩,⟨⟨(some 11),.nilCheck (.tmp 10),0,"",⟨[]⟩,none⟩,none,false⟩,⟨⟨(some 12),.fieldAddr 119 (.tmp 11) 0,0,"",⟨[]⟩,none⟩,none,false⟩,⟨⟨(some 13),.fieldAddr 24 (.tmp 12) 0,0,"",⟨[]⟩,none⟩,none,false⟩,⟨⟨(some 14),.load 22 (.tmp 13),22,"",⟨[]⟩,none⟩,none,false⟩,⟨⟨(some 15),.call ⟨.builtin .len,⟨[(.tmp 14)]⟩,⟨[22]⟩⟩,3,"",⟨[]⟩,none⟩,none,false⟩,⟨⟨(some 16),.move (.const (.int .i64 0)),3,"",⟨[]⟩,none⟩,none,false⟩]) (.block 0 (.loop (.seq (.ops false [⟨⟨(some 17),.binOp .lss 3 (.tmp 16) (.tmp 15) 3,0,"",⟨[]⟩,none⟩,none,false⟩]) (.seq (.cond (.tmp 17) .skip (.exit 0)) (.seq (.block 1 (.seq (.ops false [⟨⟨(some 18),.move (.tmp 16),3,"",⟨[]⟩,none⟩,none,false⟩,⟨⟨(some 19),.indexAddr 22 (.tmp 14) (.tmp 16),0,"",⟨[]⟩,none⟩,none,false⟩,⟨⟨(some 20),.load 3 (.tmp 19),3,"",⟨[]⟩,none⟩,none,false⟩,⟨⟨(some 8),.assign (.tmp 18),3,"",⟨[]⟩,none⟩,none,false⟩,⟨⟨(some 9),.assign (.tmp 20),3,"",⟨[]⟩,none⟩,none,false⟩]) (.ops true [⟨⟨(some 21),.move (.tmp 7),3,"",⟨[]⟩,none⟩,none,true⟩,⟨⟨(some 22),.move (.tmp 0),70,"",⟨[]⟩,none⟩,none,true⟩,⟨⟨(some 23),.move (.tmp 9),3,"",⟨[]⟩,none⟩,none,true⟩,⟨⟨(some 24),.move (.tmp 8),3,"",⟨[]⟩,none⟩,none,true⟩,⟨⟨(some 25),.indexAddr 73 (.tmp 5) (.tmp 24),0,"",⟨[]⟩,none⟩,none,true⟩,⟨⟨(some 26),.load 3 (.tmp 25),3,"",⟨[]⟩,none⟩,none,true⟩,⟨⟨(some 27),.binOp .sub 3 (.tmp 23) (.tmp 26) 3,3,"",⟨[]⟩,none⟩,none,true⟩,⟨⟨(some 28),.move (.tmp 8),3,"",⟨[]⟩,none⟩,none,true⟩,⟨⟨(some 29),.indexAddr 73 (.tmp 4) (.tmp 28),0,"",⟨[]⟩,none⟩,none,true⟩,⟨⟨(some 30),.load 3 (.tmp 29),3,"",⟨[]⟩,none⟩,none,true⟩,⟨⟨(some 31),.nilCheck (.tmp 22),0,"",⟨[]⟩,none⟩,none,true⟩,⟨⟨(some 32),.fieldAddr 119 (.tmp 31) 1,0,"",⟨[]⟩,none⟩,none,true⟩,⟨⟨(some 33),.indexAddr 116 (.tmp 32) (.tmp 27),0,"",⟨[]⟩,none⟩,none,true⟩,⟨⟨(some 34),.indexAddr 114 (.tmp 33) (.tmp 30),0,"",⟨[]⟩,none⟩,none,true⟩,⟨⟨(some 35),.load 3 (.tmp 34),3,"",⟨[]⟩,none⟩,none,true⟩,⟨⟨(some 36),.binOp .mul 3 (.tmp 21) (.tmp 35) 3,3,"",⟨[]⟩,none⟩,none,true⟩,⟨⟨(some 7),.assign (.tmp 36),3,"",⟨[]⟩,none⟩,none,true⟩]))) (.ops false [⟨⟨(some 37),.binOp .add 3 (.tmp 16) (.const (.int .i64 1)) 3,3,"",⟨[]⟩,none⟩,none,false⟩,⟨⟨(some 16),.move (.tmp 37),3,"",⟨[]⟩,none⟩,none,false⟩]))))))) (.seq (.ops false [⟨⟨(some 38),.move (.tmp 7),3,"",⟨[]⟩,none⟩,none,false⟩,⟨⟨(some 6),.assign (.tmp 38),3,"",⟨[]⟩,none⟩,none,false⟩]) .ret))))
def Try.s60 : SC := (.seq (.ops false [⟨⟨(some 3),.box 73 (.tmp 1),0,"",⟨[]⟩,none⟩,none,false⟩,⟨⟨(some 4),.assign (.const (.int .i64 0)),3,"",⟨[]⟩,none⟩,none,false⟩]) (.seq (.ops false [⟨⟨(some 5),.move (.tmp 0),70,"",⟨[]⟩,none⟩,none,false⟩,⟨⟨(some 6),.load 73 (.tmp 3),73,"",⟨[]⟩,none⟩,none,false⟩,⟨⟨(some 7),.build 73 ⟨[]⟩,73,"",⟨[]⟩,none⟩,none,false⟩,⟨⟨(some 8),.call ⟨.value (.func 59),⟨[(.tmp 5),(.tmp 6),(.tmp 7)]⟩,⟨[70,73,73]⟩⟩,3,"",⟨[]⟩,none⟩,none,false⟩,⟨⟨(some 4),.assign (.tmp 8),3,"",⟨[]⟩,none⟩,none,false⟩]) .ret))
def Try.s70 : SC := (.seq (.ops false [⟨⟨(some 3),.box 73 (.tmp 1),0,"",⟨[]⟩,none⟩,none,false⟩,⟨⟨(some 4),.assign (.const (.slice none 0 0)),22,"",⟨[]⟩,none⟩,none,false⟩]) (.seq (.ops false [⟨⟨(some 5),.move (.tmp 0),70,"",⟨[]⟩,none⟩,none,false⟩,⟨⟨(some 6),.nilCheck (.tmp 5),0,"",⟨[]⟩,none⟩,none,false⟩,⟨⟨(some 7),.fieldAddr 119 (.tmp 6) 0,0,"",⟨[]⟩,none⟩,none,false⟩,⟨⟨(some 8),.fieldAddr 24 (.tmp 7) 0,0,"",⟨[]⟩,none⟩,none,false⟩,⟨⟨(some 9),.load 22 (.tmp 8),22,"",⟨[]⟩,none⟩,none,false⟩,⟨⟨(some 10),.call ⟨.builtin .len,⟨[(.tmp 9)]⟩,⟨[22]⟩⟩,3,"",⟨[]⟩,none⟩,none,false⟩,⟨⟨(some 11),.slice 73 (.tmp 3) none (some (.tmp 10)) none,22,"",⟨[]⟩,none⟩,none,false⟩,⟨⟨(some 12),.call ⟨.value (.func 110),⟨[(.tmp 11)]⟩,⟨[22]⟩⟩,22,"",⟨[]⟩,none⟩,none,false⟩,⟨⟨(some 4),.assign (.tmp 12),22,"",⟨[]⟩,none⟩,none,false⟩]) .ret))
def Try.s110 : SC := (.seq (.ops false [⟨⟨(some 2),.assign (.const (.slice none 0 0)),22,"",⟨[]⟩,none⟩,none,false⟩]) (.seq (.seq (.ops false [⟨⟨(some 3),.move (.tmp 0),22,"",⟨[]⟩,none⟩,none,false⟩,⟨⟨(some 4),.binOp .eql 22 (.tmp 3) (.const (.slice none 0 0)) 22,4,"",⟨[]⟩,none⟩,none,false⟩]) (.cond (.tmp 4) (.seq (.ops false [⟨⟨(some 2),.assign (.const (.slice none 0 0)),22,"",⟨[]⟩,none⟩,none,false⟩]) .ret) .skip)) (.seq (.ops false [⟨⟨(some 5),.buildSlice 22 0 ⟨[]⟩,22,"",⟨[]⟩,none⟩,none,false⟩,⟨⟨(some 6),.move (.tmp 0),22,"",⟨[]⟩,none⟩,none,false⟩,⟨⟨(some 7),.call ⟨.builtin .append,⟨[(.tmp 5),(.tmp 6)]⟩,⟨[22,22]⟩⟩,22,"",⟨[]⟩,none⟩,none,false⟩,⟨⟨(some 2),.assign (.tmp 7),22,"",⟨[]⟩,none⟩,none,false⟩]) .ret)))
def Try.s73 : SC := (.seq (.ops false [⟨⟨(some 3),.box 73 (.tmp 1),0,"",⟨[]⟩,none⟩,none,false⟩,⟨⟨(some 4),.assign (.const (.bool false)),4,"",⟨[]⟩,none⟩,none,false⟩]) (.seq (.ops false [⟨⟨(some 8),.move (.tmp 0),70,"",⟨[]⟩,none⟩,none,false⟩,⟨⟨(some 9),.load 73 (.tmp 3),73,"",⟨[]⟩,none⟩,none,false⟩,⟨⟨(some 10),.call ⟨.value (.func 69),⟨[(.tmp 8),(.tmp 9)]⟩,⟨[70,73]⟩⟩,80,"",⟨[]⟩,none⟩,none,false⟩,⟨⟨(some 7),.move (.tmp 10),80,"",⟨[]⟩,none⟩,none,false⟩,⟨⟨(some 11),.extract (.tmp 7) 0,73,"",⟨[]⟩,none⟩,none,false⟩,⟨⟨(some 12),.extract (.tmp 7) 1,3,"",⟨[]⟩,none⟩,none,false⟩,⟨⟨(some 5),.alloc 73,0,"",⟨[]⟩,none⟩,none,false⟩,⟨⟨none,.store 73 (.tmp 5) (.tmp 11),0,"",⟨[]⟩,none⟩,none,false⟩,⟨⟨(some 6),.assign (.tmp 12),3,"",⟨[]⟩,none⟩,none,false⟩]) (.seq (.ops true [⟨⟨(some 13),.move (.tmp 6),3,"",⟨[]⟩,none⟩,none,true⟩,⟨⟨(some 14),.binOp .mul 3 (.const (.int .i64 1000)) (.tmp 13) 3,3,"",⟨[]⟩,none⟩,none,true⟩,⟨⟨(some 15),.move (.tmp 0),70,"",⟨[]⟩,none⟩,none,true⟩,⟨⟨(some 16),.load 73 (.tmp 3),73,"",⟨[]⟩,none⟩,none,true⟩,⟨⟨(some 18),.move (.tmp 0),70,"",⟨[]⟩,none⟩,none,true⟩,⟨⟨(some 19),.nilCheck (.tmp 18),0,"",⟨[]⟩,none⟩,none,true⟩,⟨⟨(some 20),.fieldAddr 119 (.tmp 19) 0,0,"",⟨[]⟩,none⟩,none,true⟩,⟨⟨(some 21),.fieldAddr 24 (.tmp 20) 3,0,"",⟨[]⟩,none⟩,none,true⟩,⟨⟨(some 22),.load 3 (.tmp 21),3,"",⟨[]⟩,none⟩,none,true⟩,⟨⟨(some 23),.binOp .sub 3 (.const (.int .i64 1000)) (.tmp 22) 3,3,"",⟨[]⟩,none⟩,none,true⟩,⟨⟨(some 17),.call ⟨.value (.func 60),⟨[(.tmp 15),(.tmp 16)]⟩,⟨[70,73]⟩⟩,3,"",⟨[]⟩,none⟩,none,true⟩,⟨⟨(some 24),.binOp .mul 3 (.tmp 17) (.tmp 23) 3,3,"",⟨[]⟩,none⟩,none,true⟩,⟨⟨(some 25),.binOp .leq 3 (.tmp 14) (.tmp 24) 3,4,"",⟨[]⟩,none⟩,none,true⟩,⟨⟨(some 4),.assign (.tmp 25),4,"",⟨[]⟩,none⟩,none,true⟩]) .ret)))
def Try.s76 : SC := (.seq (.ops false [⟨⟨(some 3),.box 73 (.tmp 1),0,"",⟨[]⟩,none⟩,none,false⟩,⟨⟨(some 4),.assign (.const (.int .i64 0)),3,"",⟨[]⟩,none⟩,none,false⟩]) (.seq (.ops false [⟨⟨(some 5),.assign (.const (.int .i64 0)),3,"",⟨[]⟩,none⟩,none,false⟩]) (.seq (.seq (.ops false [⟨⟨(some 8),.move (.tmp 0),70,"",⟨[]⟩,none⟩,none,false⟩,⟨⟨(some 9),.nilCheck (.tmp 8),0,"",⟨[]⟩,none⟩,none,false⟩,⟨⟨(some 10),.fieldAddr 119 (.tmp 9) 0,0,"",⟨[]⟩,none⟩,none,false⟩,⟨⟨(some 11),.fieldAddr 24 (.tmp 10) 1,0,"",⟨[]⟩,none⟩,none,false⟩,⟨⟨(some 12),.load 22 (.tmp 11),22,"",⟨[]⟩,none⟩,none,false⟩,⟨⟨(some 13),.call ⟨.builtin .len,⟨[(.tmp 12)]⟩,⟨[22]⟩⟩,3,"",⟨[]⟩,none⟩,none,false⟩,⟨⟨(some 14),.move (.const (.int .i64 0)),3,"",⟨[]⟩,none⟩,none,false⟩]) (.block 0 (.loop (.seq (.ops false [⟨⟨(some 15),.binOp .lss 3 (.tmp 14) (.tmp 13) 3,0,"",⟨[]⟩,none⟩,none,false⟩]) (.seq (.cond (.tmp 15) .skip (.exit 0)) (.seq (.block 1 (.seq (.ops false [⟨⟨(some 16),.move (.tmp 14),3,"",⟨[]⟩,none⟩,none,false⟩,⟨⟨(some 17),.indexAddr 22 (.tmp 12) (.tmp 14),0,"",⟨[]⟩,none⟩,none,false⟩,⟨⟨(some 18),.load 3 (.tmp 17),3,"",⟨[]⟩,none⟩,none,false⟩,⟨⟨(some 6),.assign (.tmp 16),3,"",⟨[]⟩,none⟩,none,false⟩,⟨⟨(some 7),.assign (.tmp 18),3,"",⟨[]⟩,none⟩,none,false⟩]) (.ops false [⟨⟨(some 19),.move (.tmp 5),3,"",⟨[]⟩,none⟩,none,false⟩,⟨⟨(some 20),.move (.tmp 6),3,"",⟨[]⟩,none⟩,none,false⟩,⟨⟨(some 21),.indexAddr 73 (.tmp 3) (.tmp 20),0,"",⟨[]⟩,none⟩,none,false⟩,⟨⟨(some 22),.load 3 (.tmp 21),3,"",⟨[]⟩,none⟩,none,false⟩,⟨⟨(some 23),.move (.tmp 7),3,"",⟨[]⟩,none⟩,none,false⟩,⟨⟨(some 24),.binOp .mul 3 (.tmp 22) (.tmp 23) 3,3,"",⟨[]⟩,none⟩,none,false⟩,⟨⟨(some 25),.binOp .add 3 (.tmp 19) (.tmp 24) 3,3,"",⟨[]⟩,none⟩,none,false⟩,⟨⟨(some 5),.assign (.tmp 25),3,"",⟨[]⟩,none⟩,none,false⟩]))) (.ops false [⟨⟨(some 26),.binOp .add 3 (.tmp 14) (.const (.int .i64 1)) 3,3,"",⟨[]⟩,none⟩,none,false⟩,⟨⟨(some 14),.move (.tmp 26),3,"",⟨[]⟩,none⟩,none,false⟩]))))))) (.seq (.ops false [⟨⟨(some 27),.move (.tmp 5),3,"",⟨[]⟩,none⟩,none,false⟩,⟨⟨(some 4),.assign (.tmp 27),3,"",⟨[]⟩,none⟩,none,false⟩]) .ret))))
theorem Try.s66_eq : Try.f66.body.map sOf = some Try.s66 := by kernel_rfl
theorem Try.s67_eq : Try.f67.body.map sOf = some Try.s67 := by kernel_rfl
theorem Try.s18_eq : Try.f18.body.map sOf = some Try.s18 := by kernel_rfl
theorem Try.s57_eq : Try.f57.body.map sOf = some Try.s57 := by kernel_rfl
theorem Try.s59_eq : Try.f59.body.map sOf = some Try.s59 := by kernel_rfl
theorem Try.s60_eq : Try.f60.body.map sOf = some Try.s60 := by kernel_rfl
theorem Try.s70_eq : Try.f70.body.map sOf = some Try.s70 := by kernel_rfl
theorem Try.s110_eq : Try.f110.body.map sOf = some Try.s110 := by kernel_rfl
theorem Try.s73_eq : Try.f73.body.map sOf = some Try.s73 := by kernel_rfl
theorem Try.s76_eq : Try.f76.body.map sOf = some Try.s76 := by kernel_rfl
end Go.Proofs

namespace Go.Proofs
open Go Go.RowKit Go.Sim
set_option maxRecDepth 100000
structure AudN where
  st : List Int
  co : List Int
  lost : Int
  sure : Int
def audB (A : AudN) : Bool := inR 1 A.st.length 4 && (A.st.all (fun n => inR 1 n 8) && (decide ((A.co.length : Int) = (A.st.length : Int)) && (A.co.all (fun n => inR 0 n 1000) && (inR 1 A.lost A.st.sum && inR 0 A.sure 1000))))
theorem isStock_ok (n : Int) (w : AW) : CallT Try.prog Try.T1 (.fn (.func 66) #[]) #[.int .i64 n] w (Ret (.bool (inR 1 n 8)) fun w' => w = w') := by
  refine callT_code rfl Try.func66 rfl Try.s66_eq rfl ?_
  unfold Try.s66
  simp -dsimp -implicitDefEqProofs (maxSteps := 2000000) (disch := first | assumption | omega | (simp only [nx]; omega) | ((repeat refine Fresh.push ?_ _); assumption) | (simp only [smA]; done) | (simp [oneCell, AW.next_push]; done) | fail) only [go_sem, Nat.reduceEqDiff, reduceIte, Nat.reduceAdd, Int.toNat_natCast, Nat.add_zero, Owes_true, Try.results66]
  apply callV_of (e := rfl)
  · exact within_ok _ _ _ _
  rintro _ _ ⟨rfl, rfl⟩
  simp -dsimp -implicitDefEqProofs (maxSteps := 2000000) (disch := first | assumption | omega | (simp only [nx]; omega) | ((repeat refine Fresh.push ?_ _); assumption) | (simp only [smA]; done) | (simp [oneCell, AW.next_push]; done) | fail) only [go_sem, Nat.reduceEqDiff, reduceIte, Nat.reduceAdd, Int.toNat_natCast, Nat.add_zero, Owes_true, Try.results66]
  exact ⟨rfl, rfl⟩
theorem isCost_ok (n : Int) (w : AW) : CallT Try.prog Try.T1 (.fn (.func 67) #[]) #[.int .i64 n] w (Ret (.bool (inR 0 n 1000)) fun w' => w = w') := by
  refine callT_code rfl Try.func67 rfl Try.s67_eq rfl ?_
  unfold Try.s67
  simp -dsimp -implicitDefEqProofs (maxSteps := 2000000) (disch := first | assumption | omega | (simp only [nx]; omega) | ((repeat refine Fresh.push ?_ _); assumption) | (simp only [smA]; done) | (simp [oneCell, AW.next_push]; done) | fail) only [go_sem, Nat.reduceEqDiff, reduceIte, Nat.reduceAdd, Int.toNat_natCast, Nat.add_zero, Owes_true, Try.results67]
  apply callV_of (e := rfl)
  · exact within_ok _ _ _ _
  rintro _ _ ⟨rfl, rfl⟩
  simp -dsimp -implicitDefEqProofs (maxSteps := 2000000) (disch := first | assumption | omega | (simp only [nx]; omega) | ((repeat refine Fresh.push ?_ _); assumption) | (simp only [smA]; done) | (simp [oneCell, AW.next_push]; done) | fail) only [go_sem, Nat.reduceEqDiff, reduceIte, Nat.reduceAdd, Int.toNat_natCast, Nat.add_zero, Owes_true, Try.results67]
  exact ⟨rfl, rfl⟩
def audE (A : AudN) : Int := if audB A then 0 else 100
theorem small_st {L : List Int} (hl : inR 1 (L.length : Int) 4 = true) (h : L.all (fun n => inR 1 n 8) = true) : smallL L := by
  rw [List.all_eq_true] at h
  have := (inR_iff _ _ _).1 hl
  exact ⟨fun x hx => by have := (inR_iff _ _ _).1 (h x hx); omega, by omega⟩
def audC (p q : Option Addr) (a c : Nat) (A : AudN) : List Value := [.slice p A.st.length a, .slice q A.co.length c, .int .i64 A.lost, .int .i64 A.sure]
set_option maxHeartbeats 8000000 in
theorem Check_ok (A : AudN) (p q : Option Addr) (a c : Nat) (w : AW) (f : Fresh w) (hs : ArrOf w 1 icells (.slice p A.st.length a) A.st) (hc : ArrOf w 1 icells (.slice q A.co.length c) A.co) :
    CallT Try.prog Try.T1 (.fn (.func 18) #[]) #[.agg (audC p q a c A).toArray] w (Ret (.int .i64 (audE A)) (Grown w)) := by
  have g1 := (Grown.refl f).push (.cells (audC p q a c A) 24 w.next 0 0)
  have O1 := Own.new f 24 (audC p q a c A)
  have hs0 := same_fn0 66
  have hs1 := same_fn0 67
  have fin : ∀ b : Bool, audB A = b → audE A = if b then 0 else 100 := fun b h => by unfold audE; rw [h]
  refine callT_code rfl Try.func18 rfl Try.s18_eq rfl ?_
  unfold Try.s18
  unfold audC at *
  simp -dsimp -implicitDefEqProofs (maxSteps := 2000000) (disch := first | assumption | omega | (simp only [nx]; omega) | ((repeat refine Fresh.push ?_ _); assumption) | (simp only [smA]; done) | (simp [oneCell, AW.next_push]; done) | fail) only [go_sem, Nat.reduceEqDiff, reduceIte, Nat.reduceAdd, Int.toNat_natCast, Nat.add_zero, Owes_true, Try.results18]
  generalize w.push (.cells [.slice p A.st.length a, .slice q A.co.length c, .int .i64 A.lost, .int .i64 A.sure] 24 w.next 0 0) = w1 at *
  have c0 := O1.cell (o := 0) rfl rfl
  have c1 := O1.cell (o := 1) rfl rfl
  have c2 := O1.cell (o := 2) rfl rfl
  have c3 := O1.cell (o := 3) rfl rfl
  have hle11 : WLe w1 w1 := (Grown.refl g1.2).1.wle g1.2
  apply callV_of (e := rfl)
  · exact within_ok _ _ _ _
  rintro _ _ ⟨rfl, rfl⟩
  cases h1 : inR 1 (A.st.length : Int) 4 with
  | false =>
    simp -dsimp -implicitDefEqProofs (maxSteps := 2000000) (disch := first | assumption | omega | (simp only [nx]; omega) | ((repeat refine Fresh.push ?_ _); assumption) | (simp only [smA]; done) | (simp [oneCell, AW.next_push]; done) | fail) only [go_sem, Nat.reduceEqDiff, reduceIte, Nat.reduceAdd, Int.toNat_natCast, Nat.add_zero, Owes_true, h1, hle11, Try.results18]
    exact ⟨by rw [fin false (by simp [audB, h1])]; rfl, g1⟩
  | true =>
  simp -dsimp -implicitDefEqProofs (maxSteps := 2000000) (disch := first | assumption | omega | (simp only [nx]; omega) | ((repeat refine Fresh.push ?_ _); assumption) | (simp only [smA]; done) | (simp [oneCell, AW.next_push]; done) | fail) only [go_sem, Nat.reduceEqDiff, reduceIte, Nat.reduceAdd, Int.toNat_natCast, Nat.add_zero, Owes_true, h1, hle11, Nat.zero_add, c0, c1, c2, c3, hs0, hs1]
  apply callV_of (e := rfl)
  · exact all_ok 66 #[] _ A.st _ w1 g1.2 ⟨hs0, fun n w' _ => isStock_ok n w'⟩ (hs.grown g1)
  rintro _ w2 ⟨rfl, g2⟩
  have gg2 := g1.trans g2
  have O2 := O1.keep g2.1
  have d0 := O2.cell (o := 0) rfl rfl
  have d1 := O2.cell (o := 1) rfl rfl
  have d2 := O2.cell (o := 2) rfl rfl
  have d3 := O2.cell (o := 3) rfl rfl
  have hle2 : WLe w1 w2 := g2.1.wle g1.2
  cases h2 : A.st.all (fun n => inR 1 n 8) with
  | false =>
    simp -dsimp -implicitDefEqProofs (maxSteps := 2000000) (disch := first | assumption | omega | (simp only [nx]; omega) | ((repeat refine Fresh.push ?_ _); assumption) | (simp only [smA]; done) | (simp [oneCell, AW.next_push]; done) | fail) only [go_sem, Nat.reduceEqDiff, reduceIte, Nat.reduceAdd, Int.toNat_natCast, Nat.add_zero, Owes_true, h2, hle2, Try.results18]
    exact ⟨by rw [fin false (by unfold audB; rw [h1, h2]; rfl)]; rfl, gg2⟩
  | true =>
  cases h3 : decide ((A.co.length : Int) = (A.st.length : Int)) with
  | false =>
    simp -dsimp -implicitDefEqProofs (maxSteps := 2000000) (disch := first | assumption | omega | (simp only [nx]; omega) | ((repeat refine Fresh.push ?_ _); assumption) | (simp only [smA]; done) | (simp [oneCell, AW.next_push]; done) | fail) only [go_sem, Nat.reduceEqDiff, reduceIte, Nat.reduceAdd, Int.toNat_natCast, Nat.add_zero, Owes_true, h2, h3, hle2, d0, d1, Nat.zero_add, Try.results18]
    exact ⟨by rw [fin false (by unfold audB; rw [h1, h2, h3]; rfl)]; rfl, gg2⟩
  | true =>
  simp -dsimp -implicitDefEqProofs (maxSteps := 2000000) (disch := first | assumption | omega | (simp only [nx]; omega) | ((repeat refine Fresh.push ?_ _); assumption) | (simp only [smA]; done) | (simp [oneCell, AW.next_push]; done) | fail) only [go_sem, Nat.reduceEqDiff, reduceIte, Nat.reduceAdd, Int.toNat_natCast, Nat.add_zero, Owes_true, h2, h3, hle2, d0, d1, Nat.zero_add, hs1]
  apply callV_of (e := rfl)
  · exact all_ok 67 #[] _ A.co _ w2 gg2.2 ⟨hs1, fun n w' _ => isCost_ok n w'⟩ (hc.grown gg2)
  rintro _ w3 ⟨rfl, g3⟩
  have gg3 := gg2.trans g3
  have O3 := O2.keep g3.1
  have f0 := O3.cell (o := 0) rfl rfl
  have f2 := O3.cell (o := 2) rfl rfl
  have f3 := O3.cell (o := 3) rfl rfl
  have hle3 : WLe w2 w3 := g3.1.wle gg2.2
  have hle33 : WLe w3 w3 := (Grown.refl gg3.2).1.wle gg3.2
  cases h4 : A.co.all (fun n => inR 0 n 1000) with
  | false =>
    simp -dsimp -implicitDefEqProofs (maxSteps := 2000000) (disch := first | assumption | omega | (simp only [nx]; omega) | ((repeat refine Fresh.push ?_ _); assumption) | (simp only [smA]; done) | (simp [oneCell, AW.next_push]; done) | fail) only [go_sem, Nat.reduceEqDiff, reduceIte, Nat.reduceAdd, Int.toNat_natCast, Nat.add_zero, Owes_true, h4, hle3, Try.results18]
    exact ⟨by rw [fin false (by unfold audB; rw [h1, h2, h3, h4]; rfl)]; rfl, gg3⟩
  | true =>
  simp -dsimp -implicitDefEqProofs (maxSteps := 2000000) (disch := first | assumption | omega | (simp only [nx]; omega) | ((repeat refine Fresh.push ?_ _); assumption) | (simp only [smA]; done) | (simp [oneCell, AW.next_push]; done) | fail) only [go_sem, Nat.reduceEqDiff, reduceIte, Nat.reduceAdd, Int.toNat_natCast, Nat.add_zero, Owes_true, h4, hle3, f0, f2, f3, Nat.zero_add]
  apply callV_of (e := rfl)
  · exact sum_ok A.st _ w3 (hs.grown gg3)
  rintro _ _ ⟨rfl, s, rfl, hsum⟩
  obtain rfl := hsum (small_st h1 h2)
  simp -dsimp -implicitDefEqProofs (maxSteps := 2000000) (disch := first | assumption | omega | (simp only [nx]; omega) | ((repeat refine Fresh.push ?_ _); assumption) | (simp only [smA]; done) | (simp [oneCell, AW.next_push]; done) | fail) only [go_sem, Nat.reduceEqDiff, reduceIte, Nat.reduceAdd, Int.toNat_natCast, Nat.add_zero, Owes_true, h4, hle33, f0, f2, f3, Nat.zero_add]
  apply callV_of (e := rfl)
  · exact within_ok _ _ _ _
  rintro _ _ ⟨rfl, rfl⟩
  cases h5 : inR 1 A.lost A.st.sum with
  | false =>
    simp -dsimp -implicitDefEqProofs (maxSteps := 2000000) (disch := first | assumption | omega | (simp only [nx]; omega) | ((repeat refine Fresh.push ?_ _); assumption) | (simp only [smA]; done) | (simp [oneCell, AW.next_push]; done) | fail) only [go_sem, Nat.reduceEqDiff, reduceIte, Nat.reduceAdd, Int.toNat_natCast, Nat.add_zero, Owes_true, h5, hle33, Try.results18]
    exact ⟨by rw [fin false (by unfold audB; rw [h1, h2, h3, h4, h5]; rfl)]; rfl, gg3⟩
  | true =>
  simp -dsimp -implicitDefEqProofs (maxSteps := 2000000) (disch := first | assumption | omega | (simp only [nx]; omega) | ((repeat refine Fresh.push ?_ _); assumption) | (simp only [smA]; done) | (simp [oneCell, AW.next_push]; done) | fail) only [go_sem, Nat.reduceEqDiff, reduceIte, Nat.reduceAdd, Int.toNat_natCast, Nat.add_zero, Owes_true, h5, hle33, f3, Nat.zero_add]
  apply callV_of (e := rfl)
  · exact within_ok _ _ _ _
  rintro _ _ ⟨rfl, rfl⟩
  cases h6 : inR 0 A.sure 1000 with
  | false =>
    simp -dsimp -implicitDefEqProofs (maxSteps := 2000000) (disch := first | assumption | omega | (simp only [nx]; omega) | ((repeat refine Fresh.push ?_ _); assumption) | (simp only [smA]; done) | (simp [oneCell, AW.next_push]; done) | fail) only [go_sem, Nat.reduceEqDiff, reduceIte, Nat.reduceAdd, Int.toNat_natCast, Nat.add_zero, Owes_true, h6, hle33, Try.results18]
    exact ⟨by rw [fin false (by unfold audB; rw [h1, h2, h3, h4, h5, h6]; rfl)]; rfl, gg3⟩
  | true =>
    simp -dsimp -implicitDefEqProofs (maxSteps := 2000000) (disch := first | assumption | omega | (simp only [nx]; omega) | ((repeat refine Fresh.push ?_ _); assumption) | (simp only [smA]; done) | (simp [oneCell, AW.next_push]; done) | fail) only [go_sem, Nat.reduceEqDiff, reduceIte, Nat.reduceAdd, Int.toNat_natCast, Nat.add_zero, Owes_true, h6, hle33, Try.results18]
    exact ⟨by rw [fin true (by unfold audB; rw [h1, h2, h3, h4, h5, h6]; rfl)]; rfl, gg3⟩
end Go.Proofs

namespace Go.Proofs
open Go Go.RowKit Go.Sim
set_option maxRecDepth 100000
def chs : Nat → Nat → Nat
  | _, 0 => 1
  | 0, _ + 1 => 0
  | n + 1, k + 1 => chs n k + chs n (k + 1)
def triI : List Int := (List.range 81).map fun i => (chs (i / 9) (i % 9) : Int)
def triC : List Value := triI.flatMap icells
theorem triI_at {i j : Nat} (hi : i < 9) (hj : j < 9) : triI[9 * i + j]? = some (chs i j : Int) := by
  unfold triI
  rw [List.getElem?_map, List.getElem?_range (by omega)]
  have h1 : (9 * i + j) / 9 = i := by omega
  have h2 : (9 * i + j) % 9 = j := by omega
  rw [Option.map_some, h1, h2]
theorem triC_at {i j : Nat} (hi : i < 9) (hj : j < 9) : triC[9 * i + j]? = some (.int .i64 (chs i j : Int)) := by
  unfold triC
  rw [flat_icells, List.getElem?_map, triI_at hi hj]; rfl
theorem triangle_ok (w : AW) : CallT Try.prog Try.T1 (.fn (.func 106) #[]) #[] w (Ret (.agg triC.toArray) fun w' => w = w') :=
  callT_told (w' := w) rfl ⟨rfl, rfl⟩
theorem bldQ119 (u x l s : Value) : bldQ [(0, 4), (4, 81)] [.slice none 0 0, .slice none 0 0, .int .i64 0, .int .i64 0, .int .i64 0, .int .i64 0, .int .i64 0, .int .i64 0, .int .i64 0, .int .i64 0, .int .i64 0, .int .i64 0, .int .i64 0, .int .i64 0, .int .i64 0, .int .i64 0, .int .i64 0, .int .i64 0, .int .i64 0, .int .i64 0, .int .i64 0, .int .i64 0, .int .i64 0, .int .i64 0, .int .i64 0, .int .i64 0, .int .i64 0, .int .i64 0, .int .i64 0, .int .i64 0, .int .i64 0, .int .i64 0, .int .i64 0, .int .i64 0, .int .i64 0, .int .i64 0, .int .i64 0, .int .i64 0, .int .i64 0, .int .i64 0, .int .i64 0, .int .i64 0, .int .i64 0, .int .i64 0, .int .i64 0, .int .i64 0, .int .i64 0, .int .i64 0, .int .i64 0, .int .i64 0, .int .i64 0, .int .i64 0, .int .i64 0, .int .i64 0, .int .i64 0, .int .i64 0, .int .i64 0, .int .i64 0, .int .i64 0, .int .i64 0, .int .i64 0, .int .i64 0, .int .i64 0, .int .i64 0, .int .i64 0, .int .i64 0, .int .i64 0, .int .i64 0, .int .i64 0, .int .i64 0, .int .i64 0, .int .i64 0, .int .i64 0, .int .i64 0, .int .i64 0, .int .i64 0, .int .i64 0, .int .i64 0, .int .i64 0, .int .i64 0, .int .i64 0, .int .i64 0, .int .i64 0, .int .i64 0, .int .i64 0] [(0, .agg #[u, x, l, s]), (1, .agg triC.toArray)] = some (.agg (([u, x, l, s] : List Value) ++ triC).toArray) := by kernel_rfl
end Go.Proofs

namespace Go.Sim
open Go Go.RowKit
theorem loadAll {w : AW} {b n : Nat} {e : TypeId} {c : List Value} (h : Own w b e c) (hn : c.length = n) (h1 : ∀ v ∈ c, oneCell v = true) : loadV w true n (.pointer (some ⟨b, 0, none⟩)) = some (.agg c.toArray) := by
  subst hn
  rw [loadV_row, aCells_of c 0 fun i v hv => by rw [Nat.zero_add]; exact h.cell hv (h1 v (List.mem_of_getElem? hv))]
end Go.Sim

namespace Go.Proofs
open Go Go.RowKit Go.Sim
set_option maxRecDepth 100000
def SearchAt (w : AW) (b : Nat) (p q : Option Addr) (a c : Nat) (A : AudN) : Prop := Own w b 119 (audC p q a c A ++ triC)
theorem SearchAt.c0 {w : AW} {b : Nat} {p q : Option Addr} {a c : Nat} {A : AudN} (h : SearchAt w b p q a c A) : w.cell? ⟨b, 0, none⟩ = some (.slice p A.st.length a) := Own.cell h (o := 0) rfl rfl
theorem SearchAt.c1 {w : AW} {b : Nat} {p q : Option Addr} {a c : Nat} {A : AudN} (h : SearchAt w b p q a c A) : w.cell? ⟨b, 1, none⟩ = some (.slice q A.co.length c) := Own.cell h (o := 1) rfl rfl
theorem SearchAt.c2 {w : AW} {b : Nat} {p q : Option Addr} {a c : Nat} {A : AudN} (h : SearchAt w b p q a c A) : w.cell? ⟨b, 2, none⟩ = some (.int .i64 A.lost) := Own.cell h (o := 2) rfl rfl
theorem SearchAt.c3 {w : AW} {b : Nat} {p q : Option Addr} {a c : Nat} {A : AudN} (h : SearchAt w b p q a c A) : w.cell? ⟨b, 3, none⟩ = some (.int .i64 A.sure) := Own.cell h (o := 3) rfl rfl
theorem SearchAt.tri {w : AW} {b : Nat} {p q : Option Addr} {a c : Nat} {A : AudN} (h : SearchAt w b p q a c A) {i j : Nat} (hi : i < 9) (hj : j < 9) : w.cell? ⟨b, 4 + i * 9 + j * 1, none⟩ = some (.int .i64 (chs i j : Int)) := by
  refine Own.cell h ?_ rfl
  rw [show 4 + i * 9 + j * 1 = (audC p q a c A).length + (9 * i + j) by simp [audC]; omega, List.getElem?_append_right (by omega), Nat.add_sub_cancel_left]
  exact triC_at hi hj
theorem SearchAt.keep {w w' : AW} {b : Nat} {p q : Option Addr} {a c : Nat} {A : AudN} (h : SearchAt w b p q a c A) (k : Keep w.next w w') : SearchAt w' b p q a c A := Own.keep h k
theorem same_all : ∀ {xs : List Value}, (∀ x ∈ xs, same 11 x x = true) → same.all 11 xs xs = true
  | [], _ => rfl
  | x :: xs, h => by
    simp only [same.all, h x List.mem_cons_self, same_all fun y hy => h y (List.mem_cons_of_mem _ hy), Bool.and_self]
theorem same_i11 (n : Int) : same 11 (.int .i64 n) (.int .i64 n) = true := by simp [same, intEq_eq]
theorem same_s11 (p : Option Addr) (n c : Nat) : same 11 (.slice p n c) (.slice p n c) = true := by
  cases p with
  | none => simp [same]
  | some a => obtain ⟨b, o, s⟩ := a; cases s <;> simp [same]
theorem same_aud (p q : Option Addr) (a c : Nat) (A : AudN) : ∀ x ∈ audC p q a c A, same 11 x x = true := by
  intro x hx
  simp only [audC, List.mem_cons, List.not_mem_nil, or_false] at hx
  rcases hx with rfl | rfl | rfl | rfl
  · exact same_s11 _ _ _
  · exact same_s11 _ _ _
  · exact same_i11 _
  · exact same_i11 _
theorem same_ints11 (L : List Int) : ∀ x ∈ L.flatMap icells, same 11 x x = true := by
  intro x hx
  obtain ⟨y, _, hy⟩ := List.mem_flatMap.1 hx
  simp only [icells, List.mem_singleton] at hy
  subst hy; exact same_i11 y
theorem same_audV (p q : Option Addr) (a c : Nat) (A : AudN) : same 12 (.agg (audC p q a c A).toArray) (.agg (audC p q a c A).toArray) = true := by
  have := same_all (same_aud p q a c A)
  simp only [same, this]
theorem same_triV : same 12 (.agg triC.toArray) (.agg triC.toArray) = true := by
  have := same_all (same_ints11 triI)
  unfold triC
  simp only [same, this]
theorem same_seaV (p q : Option Addr) (a c : Nat) (A : AudN) : same 12 (.agg (audC p q a c A ++ triC).toArray) (.agg (audC p q a c A ++ triC).toArray) = true := by
  have := same_all (xs := audC p q a c A ++ triC) fun x hx => by
    rcases List.mem_append.1 hx with h | h
    · exact same_aud p q a c A x h
    · exact same_ints11 triI x h
  simp only [same, this]
theorem same_ptV (l : List Int) : same 12 (.agg (l.flatMap icells).toArray) (.agg (l.flatMap icells).toArray) = true := by
  have := same_all (same_ints11 l)
  simp only [same, this]
set_option maxHeartbeats 4000000 in
theorem searchOf_ok (A : AudN) (p q : Option Addr) (a c : Nat) (w : AW) (f : Fresh w) :
    CallT Try.prog Try.T1 (.fn (.func 57) #[]) #[.agg (audC p q a c A).toArray] w (fun v w' => ∃ b, v = .pointer (some ⟨b, 0, none⟩) ∧ w.next ≤ b ∧ SearchAt w' b p q a c A ∧ Grown w w') := by
  have g1 := (Grown.refl f).push (.cells (audC p q a c A) 24 w.next 0 0)
  have O1 := Own.new f 24 (audC p q a c A)
  have g2 := g1.push (.cells (audC p q a c A ++ triC) 119 (w.next + 1) 0 0)
  have O2 := Own.new g1.2 119 (audC p q a c A ++ triC)
  rw [AW.next_push] at O2
  have s1 := same_audV p q a c A
  have s2 := same_triV
  have s3 := same_seaV p q a c A
  have hle : WLe (w.push (.cells (audC p q a c A) 24 w.next 0 0)) (w.push (.cells (audC p q a c A) 24 w.next 0 0)) := (Grown.refl g1.2).1.wle g1.2
  refine callT_code rfl Try.func57 rfl Try.s57_eq rfl ?_
  unfold Try.s57
  unfold audC at *
  simp only [List.cons_append, List.nil_append] at s3 O2 g2
  simp -dsimp -implicitDefEqProofs (maxSteps := 2000000) (disch := first | assumption | omega | (simp only [nx]; omega) | ((repeat refine Fresh.push ?_ _); assumption) | (simp only [smA]; done) | (simp [oneCell, AW.next_push]; done) | fail) only [go_sem, Nat.reduceEqDiff, reduceIte, Nat.reduceAdd, Int.toNat_natCast, Nat.add_zero, Owes_true, Try.results57, s1]
  apply callV_of (e := rfl)
  · exact triangle_ok _
  rintro _ _ ⟨rfl, rfl⟩
  simp -dsimp -implicitDefEqProofs (maxSteps := 2000000) (disch := first | assumption | omega | (simp only [nx]; omega) | ((repeat refine Fresh.push ?_ _); assumption) | (simp only [smA]; done) | (simp [oneCell, AW.next_push]; done) | fail) only [go_sem, Nat.reduceEqDiff, reduceIte, Nat.reduceAdd, Int.toNat_natCast, Nat.add_zero, Owes_true, Try.results57, s1, s2, s3, hle, bldQ119]
  exact ⟨w.next + 1, rfl, by omega, by unfold SearchAt audC; exact O2, g2⟩
def padI (l : List Int) : List Int := l ++ List.replicate (4 - l.length) 0
theorem padI_len {l : List Int} (h : l.length ≤ 4) : (padI l).length = 4 := by simp [padI]; omega
theorem padI_at (l : List Int) (i : Nat) : W (padI l) i = W l i := by
  unfold padI W List.getD
  by_cases h : i < l.length
  · rw [List.getElem?_append_left h]
  · rw [List.getElem?_append_right (by omega), List.getElem?_eq_none (show l.length ≤ i by omega), List.getElem?_replicate]
    split <;> rfl
def aV (l : List Int) : Value := .agg (l.flatMap icells).toArray
end Go.Proofs

namespace Go.Proofs
open Go Go.RowKit Go.Sim
set_option maxRecDepth 100000
theorem chs_le {n k : Nat} (hn : n < 9) (hk : k < 9) : chs n k ≤ 70 := by
  have : ∀ n, n < 9 → ∀ k, k < 9 → chs n k ≤ 70 := by decide +kernel
  exact this n hn k hk
def missTo (S P L : List Int) : Nat → Nat
  | 0 => 1
  | i + 1 => missTo S P L i * chs (W S i - W L i).toNat (W P i).toNat
def missI (S P L : List Int) : Nat := missTo S P L S.length
def FitS (S P : List Int) : Prop := ∀ i, i < S.length → 0 ≤ W P i ∧ W P i ≤ W S i
def okS (S : List Int) : Prop := 1 ≤ S.length ∧ S.length ≤ 4 ∧ ∀ i, i < S.length → 1 ≤ W S i ∧ W S i ≤ 8
theorem missTo_le {S P L : List Int} (hS : okS S) (hP : FitS S P) (hL : FitS S L) : ∀ i, i ≤ S.length → missTo S P L i ≤ 70 ^ i
  | 0, _ => by simp [missTo]
  | i + 1, h => by
    have ih := missTo_le hS hP hL i (by omega)
    have a := hS.2.2 i (by omega)
    have b := hP i (by omega)
    have c := hL i (by omega)
    have := chs_le (n := (W S i - W L i).toNat) (k := (W P i).toNat) (by omega) (by omega)
    rw [missTo, Nat.pow_succ]
    exact Nat.mul_le_mul ih this
theorem missTo_b {S P L : List Int} (hS : okS S) (hP : FitS S P) (hL : FitS S L) {i : Nat} (h : i ≤ S.length) : missTo S P L i ≤ 24010000 := by
  have := missTo_le hS hP hL i h
  have h4 := hS.2.1
  exact Nat.le_trans this (Nat.le_trans (Nat.pow_le_pow_right (by omega) (show i ≤ 4 by omega)) (by decide))
theorem Try.ia73 (t : Tmps) (w : AW) (x y : Operand) : fast (prg Try.prog) t w (.indexAddr 73 x y) = indexA 1 4 (ev t x) (ev t y) := fast_indexAddrA Try.ty73 Try.ty3
theorem Try.ia116 (t : Tmps) (w : AW) (x y : Operand) : fast (prg Try.prog) t w (.indexAddr 116 x y) = indexA 9 9 (ev t x) (ev t y) := fast_indexAddrA Try.ty116 Try.ty114
theorem Try.ia114 (t : Tmps) (w : AW) (x y : Operand) : fast (prg Try.prog) t w (.indexAddr 114 x y) = indexA 1 9 (ev t x) (ev t y) := fast_indexAddrA Try.ty114 Try.ty3
theorem Try.bd73 (t : Tmps) (w : AW) : fast (prg Try.prog) t w (.build 73 ⟨[]⟩) = some (.agg #[.int .i64 0, .int .i64 0, .int .i64 0, .int .i64 0]) := by kernel_rfl
attribute [go_sem] Try.ia73 Try.ia116 Try.ia114 Try.bd73
set_option maxHeartbeats 8000000 in
theorem miss_ok (A : AudN) (hS : okS A.st) (P L : List Int) (hP4 : P.length = 4) (hL4 : L.length = 4) (hP : FitS A.st P) (hL : FitS A.st L) (b : Nat) (p q : Option Addr) (a c : Nat) (w : AW) (f : Fresh w) (hb : SearchAt w b p q a c A) (hs : ArrOf w 1 icells (.slice p A.st.length a) A.st) :
    CallT Try.prog Try.T1 (.fn (.func 59) #[]) #[.pointer (some ⟨b, 0, none⟩), aV P, aV L] w (Ret (.int .i64 (missI A.st P L : Int)) (Grown w)) := by
  have g1 := (Grown.refl f).push (.cells (P.flatMap icells) 73 w.next 0 0)
  have O1 := Own.new f 73 (P.flatMap icells)
  have g2 := g1.push (.cells (L.flatMap icells) 73 (w.next + 1) 0 0)
  have O2 := Own.new g1.2 73 (L.flatMap icells)
  rw [AW.next_push] at O2
  have O1' := O1.push (.cells (L.flatMap icells) 73 (w.next + 1) 0 0)
  have hb2 := hb.keep g2.1
  have d0 := hb2.c0
  unfold aV
  refine callT_code rfl Try.func59 rfl Try.s59_eq rfl ?_
  unfold Try.s59
  simp -dsimp -implicitDefEqProofs (maxSteps := 2000000) (disch := first | assumption | omega | (simp only [nx]; omega) | ((repeat refine Fresh.push ?_ _); assumption) | (simp only [smA]; done) | (simp [oneCell, AW.next_push]; done) | fail) only [go_sem, Nat.reduceEqDiff, reduceIte, Nat.reduceAdd, Int.toNat_natCast, Nat.add_zero, Owes_true, Try.results59]
  generalize (w.push (.cells (P.flatMap icells) 73 w.next 0 0)).push (.cells (L.flatMap icells) 73 (w.next + 1) 0 0) = w2 at *
  simp -dsimp -implicitDefEqProofs (maxSteps := 2000000) (disch := first | assumption | omega | (simp only [nx]; omega) | ((repeat refine Fresh.push ?_ _); assumption) | (simp only [smA]; done) | (simp [oneCell, AW.next_push]; done) | fail) only [go_sem, Nat.reduceEqDiff, reduceIte, Nat.reduceAdd, Int.toNat_natCast, Nat.add_zero, Owes_true, Nat.zero_add, d0]
  obtain ⟨_, _, epd, _, _, hat⟩ := hs.open
  injection epd with epd1 epd2 epd3
  subst epd1 epd3
  refine loopR (fun k t ds w3 => ∃ i : Nat, i ≤ A.st.length ∧ k = A.st.length - i ∧ ds = [] ∧ ev t (.tmp 0) = .pointer (some ⟨b, 0, none⟩) ∧ ev t (.tmp 4) = .pointer (some ⟨w.next, 0, none⟩) ∧ ev t (.tmp 5) = .pointer (some ⟨w.next + 1, 0, none⟩) ∧ ev t (.tmp 7) = .int .i64 (missTo A.st P L i : Int) ∧ ev t (.tmp 14) = .slice p A.st.length a ∧ ev t (.tmp 15) = .int .i64 (A.st.length : Int) ∧ ev t (.tmp 16) = .int .i64 (i : Int) ∧ w2 = w3) (A.st.length) ?_ ?_
  · refine ⟨0, by omega, by omega, rfl, ?_, ?_, ?_, ?_, ?_, ?_, ?_, rfl⟩ <;> simp -dsimp -implicitDefEqProofs (maxSteps := 2000000) (disch := first | assumption | omega | (simp only [nx]; omega) | ((repeat refine Fresh.push ?_ _); assumption) | (simp only [smA]; done) | (simp [oneCell, AW.next_push]; done) | fail) only [go_sem, Nat.reduceEqDiff, reduceIte, Nat.reduceAdd, Int.toNat_natCast, Nat.add_zero, Owes_true] <;> rfl
  rintro k t ds w3 ⟨i, hii, rfl, rfl, e0, e4, e5, e7, e14, e15, e16, hw⟩
  subst hw
  by_cases hlt : (i : Int) < (A.st.length : Int)
  case neg =>
    obtain rfl : i = A.st.length := by omega
    simp -dsimp -implicitDefEqProofs (maxSteps := 2000000) (disch := first | assumption | omega | (simp only [nx]; omega) | ((repeat refine Fresh.push ?_ _); assumption) | (simp only [smA]; done) | (simp [oneCell, AW.next_push]; done) | fail) only [go_sem, Nat.reduceEqDiff, reduceIte, Nat.reduceAdd, Int.toNat_natCast, Nat.add_zero, Owes_true, Try.results59, e0, e7, e14, e15, e16, hlt]
    exact ⟨rfl, g2⟩
  have hlt' : i < A.st.length := by omega
  obtain ⟨b1, o1, rfl, hb1, hcell⟩ := hat i hlt'
  have a0 := hcell w2 g2.1 0 _ rfl
  rw [Nat.add_zero, ← W_at hlt'] at a0
  have hSi := hS.2.2 i hlt'
  have hPi := hP i hlt'
  have hLi := hL i hlt'
  have hi4 : i < 4 := by have := hS.2.1; omega
  have cP := O1'.icell (i := i) (by omega)
  have cL := O2.icell (i := i) (by omega)
  obtain ⟨x, hx⟩ : ∃ x : Nat, W A.st i - W L i = (x : Int) := ⟨(W A.st i - W L i).toNat, by omega⟩
  obtain ⟨y, hy⟩ : ∃ y : Nat, W P i = (y : Int) := ⟨(W P i).toNat, by omega⟩
  have ct := hb2.tri (i := x) (j := y) (by omega) (by omega)
  have hns : missTo A.st P L (i + 1) = missTo A.st P L i * chs x y := by rw [missTo, hx, hy]; rfl
  have hbd := missTo_b hS hP hL (i := i + 1) (by omega)
  have hbd0 := missTo_b hS hP hL (i := i) (by omega)
  have hch := chs_le (n := x) (k := y) (by omega) (by omega)
  rw [hns] at hbd
  have hcast : (missTo A.st P L i : Int) * (chs x y : Int) = ((missTo A.st P L i * chs x y : Nat) : Int) := by push_cast; rfl
  have iP : indexA 1 4 (.pointer (some ⟨w.next, 0, none⟩)) (.int .i64 (i : Int)) = some (.pointer (some ⟨w.next, i, none⟩)) := by rw [indexA_eq hi4]; simp
  have iL : indexA 1 4 (.pointer (some ⟨w.next + 1, 0, none⟩)) (.int .i64 (i : Int)) = some (.pointer (some ⟨w.next + 1, i, none⟩)) := by rw [indexA_eq hi4]; simp
  have i9 : indexA 9 9 (.pointer (some ⟨b, 4, none⟩)) (.int .i64 (x : Int)) = some (.pointer (some ⟨b, 4 + x * 9, none⟩)) := indexA_eq (by omega)
  have i9' : indexA 1 9 (.pointer (some ⟨b, 4 + x * 9, none⟩)) (.int .i64 (y : Int)) = some (.pointer (some ⟨b, 4 + x * 9 + y * 1, none⟩)) := indexA_eq (by omega)
  rw [hy] at cP
  generalize hmm : missTo A.st P L i = m at *
  simp -dsimp -implicitDefEqProofs (maxSteps := 2000000) (disch := first | assumption | omega | (simp only [nx]; omega) | ((repeat refine Fresh.push ?_ _); assumption) | (simp only [smA]; done) | (simp [oneCell, AW.next_push]; done) | fail) only [go_sem, Nat.reduceEqDiff, reduceIte, Nat.reduceAdd, Int.toNat_natCast, Nat.add_zero, Owes_true, Try.results59, e0, e4, e5, e7, e14, e15, e16, hlt, indexV_eq, a0, iP, iL, cP, cL, hx, i9, i9', ct, hcast, Nat.zero_add]
  refine ⟨_, by omega, i + 1, by omega, rfl, rfl, by (simp -dsimp -implicitDefEqProofs (maxSteps := 2000000) (disch := first | assumption | omega | (simp only [nx]; omega) | ((repeat refine Fresh.push ?_ _); assumption) | (simp only [smA]; done) | (simp [oneCell, AW.next_push]; done) | fail) only [go_sem, Nat.reduceEqDiff, reduceIte, Nat.reduceAdd, Int.toNat_natCast, Nat.add_zero, Owes_true, e0, hns, hcast]; try rfl), by (simp -dsimp -implicitDefEqProofs (maxSteps := 2000000) (disch := first | assumption | omega | (simp only [nx]; omega) | ((repeat refine Fresh.push ?_ _); assumption) | (simp only [smA]; done) | (simp [oneCell, AW.next_push]; done) | fail) only [go_sem, Nat.reduceEqDiff, reduceIte, Nat.reduceAdd, Int.toNat_natCast, Nat.add_zero, Owes_true, e4, hns, hcast]; try rfl), by (simp -dsimp -implicitDefEqProofs (maxSteps := 2000000) (disch := first | assumption | omega | (simp only [nx]; omega) | ((repeat refine Fresh.push ?_ _); assumption) | (simp only [smA]; done) | (simp [oneCell, AW.next_push]; done) | fail) only [go_sem, Nat.reduceEqDiff, reduceIte, Nat.reduceAdd, Int.toNat_natCast, Nat.add_zero, Owes_true, e5, hns, hcast]; try rfl), by (simp -dsimp -implicitDefEqProofs (maxSteps := 2000000) (disch := first | assumption | omega | (simp only [nx]; omega) | ((repeat refine Fresh.push ?_ _); assumption) | (simp only [smA]; done) | (simp [oneCell, AW.next_push]; done) | fail) only [go_sem, Nat.reduceEqDiff, reduceIte, Nat.reduceAdd, Int.toNat_natCast, Nat.add_zero, Owes_true, e7, hns, hcast]; try rfl), by (simp -dsimp -implicitDefEqProofs (maxSteps := 2000000) (disch := first | assumption | omega | (simp only [nx]; omega) | ((repeat refine Fresh.push ?_ _); assumption) | (simp only [smA]; done) | (simp [oneCell, AW.next_push]; done) | fail) only [go_sem, Nat.reduceEqDiff, reduceIte, Nat.reduceAdd, Int.toNat_natCast, Nat.add_zero, Owes_true, e14, hns, hcast]; try rfl), by (simp -dsimp -implicitDefEqProofs (maxSteps := 2000000) (disch := first | assumption | omega | (simp only [nx]; omega) | ((repeat refine Fresh.push ?_ _); assumption) | (simp only [smA]; done) | (simp [oneCell, AW.next_push]; done) | fail) only [go_sem, Nat.reduceEqDiff, reduceIte, Nat.reduceAdd, Int.toNat_natCast, Nat.add_zero, Owes_true, e15, hns, hcast]; try rfl), by (simp -dsimp -implicitDefEqProofs (maxSteps := 2000000) (disch := first | assumption | omega | (simp only [nx]; omega) | ((repeat refine Fresh.push ?_ _); assumption) | (simp only [smA]; done) | (simp [oneCell, AW.next_push]; done) | fail) only [go_sem, Nat.reduceEqDiff, reduceIte, Nat.reduceAdd, Int.toNat_natCast, Nat.add_zero, Owes_true, e16, hns, hcast]; try rfl), rfl⟩
end Go.Proofs

namespace Go.Proofs
open Go Go.RowKit Go.Sim
set_option maxRecDepth 100000
def fitTo (S l : List Int) (i : Nat) : Bool := (List.range i).all fun j => inR 0 (W l j) (W S j)
def fitB (S l : List Int) : Bool := decide ((l.length : Int) = (S.length : Int)) && fitTo S l l.length
end Go.Proofs

namespace Go.Proofs
open Go Go.RowKit Go.Sim
set_option maxRecDepth 100000
theorem missTo_ext {S P P' L L' : List Int} (hP : ∀ i, W P i = W P' i) (hL : ∀ i, W L i = W L' i) : ∀ i, missTo S P L i = missTo S P' L' i
  | 0 => rfl
  | i + 1 => by rw [missTo, missTo, missTo_ext hP hL i, hP, hL]
theorem missI_padP (S P L : List Int) : missI S (padI P) L = missI S P L := missTo_ext (padI_at P) (fun _ => rfl) _
def zero4 : List Int := [0, 0, 0, 0]
theorem W_zero4 (i : Nat) : W zero4 i = W [] i := padI_at [] i
theorem W_nil (i : Nat) : W [] i = 0 := by simp [W, List.getD]
theorem fit_zero {S : List Int} (hS : okS S) : FitS S zero4 := fun i hi => by rw [W_zero4, W_nil]; have := hS.2.2 i hi; omega
theorem fit_pad {S P : List Int} (h : FitS S P) : FitS S (padI P) := fun i hi => by rw [padI_at]; exact h i hi
theorem audB_ok {A : AudN} (h : audB A = true) : okS A.st ∧ A.co.length = A.st.length ∧ (∀ i, i < A.st.length → 0 ≤ W A.co i ∧ W A.co i ≤ 1000) ∧ 1 ≤ A.lost ∧ A.lost ≤ A.st.sum ∧ 0 ≤ A.sure ∧ A.sure ≤ 1000 := by
  unfold audB at h
  simp only [Bool.and_eq_true, inR_iff, List.all_eq_true, decide_eq_true_eq] at h
  obtain ⟨h1, h2, h3, h4, h5, h6⟩ := h
  refine ⟨⟨by omega, by omega, fun i hi => ?_⟩, by omega, fun i hi => ?_, h5.1, h5.2, h6.1, h6.2⟩
  · rw [W_at hi]; exact h2 _ (List.getElem_mem hi)
  · rw [W_at (by omega)]; exact h4 _ (List.getElem_mem (by omega))
def allI (S P : List Int) : Nat := missI S P []
theorem allS_ok (A : AudN) (hS : okS A.st) (P : List Int) (hP4 : P.length = 4) (hP : FitS A.st P) (b : Nat) (p q : Option Addr) (a c : Nat) (w : AW) (f : Fresh w) (hb : SearchAt w b p q a c A) (hs : ArrOf w 1 icells (.slice p A.st.length a) A.st) :
    CallT Try.prog Try.T1 (.fn (.func 60) #[]) #[.pointer (some ⟨b, 0, none⟩), aV P] w (Ret (.int .i64 (allI A.st P : Int)) (Grown w)) := by
  have g1 := (Grown.refl f).push (.cells (P.flatMap icells) 73 w.next 0 0)
  have O1 := Own.new f 73 (P.flatMap icells)
  have hld := loadAll O1 (n := 4) (by rw [icells_flat_len]; exact hP4) (icells_ones P)
  have hm := miss_ok A hS P zero4 hP4 rfl hP (fit_zero hS) b p q a c _ g1.2 (hb.keep g1.1) (hs.grown g1)
  have hz : missI A.st P zero4 = allI A.st P := missTo_ext (fun _ => rfl) W_zero4 _
  rw [hz] at hm
  unfold aV at *
  refine callT_code rfl Try.func60 rfl Try.s60_eq rfl ?_
  unfold Try.s60
  simp -dsimp -implicitDefEqProofs (maxSteps := 2000000) (disch := first | assumption | omega | (simp only [nx]; omega) | ((repeat refine Fresh.push ?_ _); assumption) | (simp only [smA]; done) | (simp [oneCell, AW.next_push]; done) | fail) only [go_sem, Nat.reduceEqDiff, reduceIte, Nat.reduceAdd, Int.toNat_natCast, Nat.add_zero, Owes_true, Try.results60, hld]
  apply callV_of (e := rfl)
  · exact hm
  rintro _ w2 ⟨rfl, g2⟩
  simp -dsimp -implicitDefEqProofs (maxSteps := 2000000) (disch := first | assumption | omega | (simp only [nx]; omega) | ((repeat refine Fresh.push ?_ _); assumption) | (simp only [smA]; done) | (simp [oneCell, AW.next_push]; done) | fail) only [go_sem, Nat.reduceEqDiff, reduceIte, Nat.reduceAdd, Int.toNat_natCast, Nat.add_zero, Owes_true, Try.results60]
  exact ⟨rfl, g1.trans g2⟩
theorem put4 {w : AW} (f : Fresh w) {P : List Int} (h4 : P.length = 4) : ∃ w6, storeV (w.push (.cells [.int .i64 0, .int .i64 0, .int .i64 0, .int .i64 0] 73 w.next 0 0)) true 4 (.pointer (some ⟨w.next, 0, none⟩)) (.agg (P.flatMap icells).toArray) = some w6 ∧ Own w6 w.next 73 (P.flatMap icells) ∧ Grown w w6 ∧ w6.next = w.next + 1 := by
  have g1 := (Grown.refl f).push (.cells [.int .i64 0, .int .i64 0, .int .i64 0, .int .i64 0] 73 w.next 0 0)
  have O1 := Own.new f 73 [.int .i64 0, .int .i64 0, .int .i64 0, .int .i64 0]
  have hpl : (P.flatMap icells).length = 4 := by rw [icells_flat_len, h4]
  have st := storeV_own (o := 0) (l := P.flatMap icells) (size := 4) O1 hpl (by omega) (by simp) (List.all_eq_true.2 (icells_ones _))
  have hcut : setsL [.int .i64 0, .int .i64 0, .int .i64 0, .int .i64 0] 0 (P.flatMap icells) = P.flatMap icells := by
    rw [setsL_cut _ _ _ (by rw [hpl]; simp), hpl]; simp
  rw [hcut] at st
  have m := MutS.put (S := fun j => j = w.next) g1.2 rfl O1.lt (.cells (P.flatMap icells) 73 w.next 0 0)
  exact ⟨_, st, O1.put _, ⟨g1.1.trans (m.keep (fun j h => by omega) g1.1.next), m.fresh⟩, by rw [AW.next_put, AW.next_push]⟩
end Go.Proofs

namespace Go.Proofs
open Go Go.Sim
def fromTo (a b : Int) : List Int := (List.range (b - a + 1).toNat).map fun (i : Nat) => a + (i : Int)
theorem fromTo_mem {a b x : Int} : x ∈ fromTo a b ↔ a ≤ x ∧ x ≤ b := by
  unfold fromTo
  rw [List.mem_map]
  constructor
  · rintro ⟨i, hi, rfl⟩
    rw [List.mem_range] at hi
    omega
  · intro h
    exact ⟨(x - a).toNat, by rw [List.mem_range]; omega, by omega⟩
def listsL : List Int → Int → Int → List (List Int)
  | [], _, _ => [[]]
  | s :: S, lo, hi => (fromTo (max 0 (lo - S.sum)) (min s hi)).flatMap fun n => (listsL S (lo - n) (hi - n)).map (n :: ·)
theorem sum_nn : ∀ {L : List Int}, (∀ x ∈ L, 0 ≤ x) → 0 ≤ L.sum
  | [], _ => by simp
  | x :: L, h => by
    have := sum_nn (L := L) fun y hy => h y (List.mem_cons_of_mem _ hy)
    have := h x List.mem_cons_self
    rw [List.sum_cons]; omega
theorem listsL_mem : ∀ {S : List Int} {lo hi : Int} (t : List Int), (∀ x ∈ S, 0 ≤ x) → lo ≤ S.sum → 0 ≤ hi → (t ∈ listsL S lo hi ↔ t.length = S.length ∧ FitS S t ∧ lo ≤ t.sum ∧ t.sum ≤ hi)
  | [], lo, hi, t, _, h1, h2 => by
    simp only [listsL, List.mem_singleton, List.length_nil, List.length_eq_zero_iff]
    constructor
    · rintro rfl
      exact ⟨rfl, fun i hi => by simp at hi, by simpa using h1, by simpa using h2⟩
    · exact fun h => h.1
  | s :: S, lo, hi, t, hS, h1, h2 => by
    have hS2 : ∀ x ∈ S, 0 ≤ x := fun x hx => hS x (List.mem_cons_of_mem _ hx)
    have hs := hS s List.mem_cons_self
    have hsn := sum_nn hS2
    rw [List.sum_cons] at h1
    simp only [listsL, List.mem_flatMap, List.mem_map, fromTo_mem]
    constructor
    · rintro ⟨n, ⟨hn1, hn2⟩, u, hu, rfl⟩
      obtain ⟨a, b, c, d⟩ := (listsL_mem u hS2 (by omega) (by omega)).1 hu
      refine ⟨by simp [a], fun i hi => ?_, by rw [List.sum_cons]; omega, by rw [List.sum_cons]; omega⟩
      cases i with
      | zero => simp only [W, List.getD, List.getElem?_cons_zero, Option.getD_some]; omega
      | succ i =>
        have := b i (by simpa using hi)
        simpa [W, List.getD] using this
    · rintro ⟨a, b, c, d⟩
      cases t with
      | nil => simp at a
      | cons n u =>
        have hn := b 0 (by simp)
        simp only [W, List.getD, List.getElem?_cons_zero, Option.getD_some] at hn
        have hu : FitS S u := fun i hi => by
          have := b (i + 1) (by simpa using hi)
          simpa [W, List.getD] using this
        have hul : u.length = S.length := by simpa using a
        have hus := fit_sum hul hu
        rw [List.sum_cons] at c d
        exact ⟨n, ⟨by omega, by omega⟩, u, (listsL_mem u hS2 (by omega) (by omega)).2 ⟨hul, hu, by omega, by omega⟩, rfl⟩
where
  fit_sum : ∀ {S u : List Int}, u.length = S.length → FitS S u → 0 ≤ u.sum ∧ u.sum ≤ S.sum
    | [], [], _, _ => by simp
    | [], _ :: _, h, _ => by simp at h
    | _ :: _, [], h, _ => by simp at h
    | s :: S, x :: u, h, hf => by
      have hx := hf 0 (by simp)
      simp only [W, List.getD, List.getElem?_cons_zero, Option.getD_some] at hx
      have := fit_sum (S := S) (u := u) (by simpa using h) fun i hi => by
        have := hf (i + 1) (by simpa using hi)
        simpa [W, List.getD] using this
      rw [List.sum_cons, List.sum_cons]; omega
end Go.Proofs

namespace Go.Proofs
open Go Go.RowKit Go.Sim
set_option maxRecDepth 100000
end Go.Proofs

namespace Go.Proofs
open Go Go.RowKit Go.Sim
set_option maxRecDepth 100000
theorem ArrOf.takeI {w : AW} {p : Option Addr} {n c a : Nat} {L : List Int} (h : ArrOf w 1 icells (.slice p n c) L) (ha : a ≤ L.length) : ArrOf w 1 icells (.slice p a c) (L.take a) := by
  obtain ⟨p', n', cap, e, hn, hc, hm, hat⟩ := h
  injection e with e1 e2 e3
  subst e1 e2 e3
  rw [List.length_map] at hn
  refine ⟨_, _, _, rfl, by rw [List.length_map, List.length_take]; omega, by omega, hm, fun h0 => ?_⟩
  obtain ⟨b, o, e, hb, hcell⟩ := hat (by omega)
  refine ⟨b, o, e, hb, fun i j r x hi hx => hcell i j r x ?_ hx⟩
  rw [List.map_take, List.getElem?_take] at hi
  split at hi
  · exact hi
  · cases hi
theorem RowA.to {B : Nat} {w : AW} {v : Value} {L : List Int} {a : Nat} (h : RowA B w v L) (h1 : 1 ≤ L.length) (ha : a ≤ L.length) (hl : L.length ≤ 1048576) : ∃ b, v = .slice (some ⟨b, 0, none⟩) L.length L.length ∧ sliceV w 1 v none (some (.int .i64 (a : Int))) = some (.slice (some ⟨b, 0, none⟩) a L.length) ∧ ArrOf w 1 icells (.slice (some ⟨b, 0, none⟩) a L.length) (L.take a) := by
  have hA := h.arr hl
  rcases h with ⟨_, h, _⟩ | ⟨b, r, rfl, _, _, _, _, hb, _⟩
  · omega
  refine ⟨b, rfl, ?_, Go.Proofs.ArrOf.takeI hA ha⟩
  have b1 : Nat.ble 0 a = true := Nat.ble_eq_true_of_le (Nat.zero_le _)
  have b2 : Nat.ble a L.length = true := Nat.ble_eq_true_of_le ha
  show sliceV w 1 (.slice (some ⟨b, 0, none⟩) L.length L.length) none (some (.int .i64 (Int.ofNat a))) = _
  have b3 : Nat.beq 1 1 = true := rfl
  simp only [sliceV, natOr, b1, b2, hb, Bool.and_self, b3, Bool.true_or, Nat.zero_mul, Nat.zero_add, Nat.sub_zero]
def Drawn (e : Int) (L : List Int) (w : AW) : Value → AW → Prop := fun v w' => Grown w w' ∧ ∃ (p : Option Addr) (m c : Nat), v = .tuple #[.slice p m c, .int .i64 e] ∧ (e ≠ 0 → Value.slice p m c = .slice none 0 0) ∧ (e = 0 → ArrOf w' 1 icells (.slice p m c) L)
def DrawnR (e : Int) (L : List Int) (w : AW) : Value → AW → Prop := fun v w' => Grown w w' ∧ ∃ (p : Option Addr) (m c : Nat), v = .tuple #[.slice p m c, .int .i64 e] ∧ (e ≠ 0 → Value.slice p m c = .slice none 0 0) ∧ (e = 0 → ArrOf w' 1 icells (.slice p m c) L) ∧
  (e = 0 → ∃ (b : Nat) (F : List Int), p = some ⟨b, 0, none⟩ ∧ c = F.length ∧ m ≤ F.length ∧ F.take m = L ∧ F.length ≤ 8 ∧ RowA w.next w' (.slice (some ⟨b, 0, none⟩) F.length F.length) F)
theorem DrawnR.drawn {e : Int} {L : List Int} {w w' : AW} {v : Value} (h : DrawnR e L w v w') : Drawn e L w v w' := by
  obtain ⟨g, p, m, c, h1, h2, h3, _⟩ := h
  exact ⟨g, p, m, c, h1, h2, h3⟩
theorem RowA.weak {B C : Nat} {w : AW} {v : Value} {L : List Int} (h : RowA B w v L) (k : C ≤ B) : RowA C w v L := by
  rcases h with h | ⟨b, r, a1, a2, a3, a4, a5, a6, a7, a9, a8⟩
  · exact .inl h
  · exact .inr ⟨b, r, a1, by omega, a3, by omega, a5, a6, a7, a9, fun j hj => let ⟨c1, c2⟩ := a8 j hj; ⟨by omega, c2⟩⟩
theorem sum_nonneg : ∀ {L : List Int}, (∀ x ∈ L, 0 ≤ x) → 0 ≤ L.sum
  | [], _ => by simp
  | x :: L, h => by
    have := sum_nonneg (L := L) fun y hy => h y (List.mem_cons_of_mem _ hy)
    have := h x List.mem_cons_self
    rw [List.sum_cons]; omega
theorem sum_small : ∀ {L : List Int}, smallL L → L.sum ≤ (L.length : Int) * 65536
  | [], _ => by simp
  | x :: L, h => by
    have := sum_small (L := L) ⟨fun y hy => h.1 y (List.mem_cons_of_mem _ hy), by have := h.2; rw [List.length_cons] at this; omega⟩
    have := h.1 x List.mem_cons_self
    rw [List.sum_cons, List.length_cons]; push_cast
    omega
end Go.Proofs

namespace Go.Proofs
open Go Go.RowKit Go.Sim
set_option maxRecDepth 100000
end Go.Proofs

namespace Go.Proofs
open Go Go.RowKit Go.Sim
set_option maxRecDepth 100000
theorem W_set {A : List Int} {i j : Nat} {x : Int} (h : i < A.length) : W (A.set i x) j = if j = i then x else W A j := by
  unfold W List.getD
  by_cases q : j = i
  · subst q; simp [h]
  · rw [List.getElem?_set_ne (fun e => q e.symm), if_neg q]
end Go.Proofs
