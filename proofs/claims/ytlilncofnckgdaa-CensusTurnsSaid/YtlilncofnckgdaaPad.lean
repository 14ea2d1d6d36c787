/- This program: its code, contracts, numbers, part 4. -/
import Derived.Test.YtlilncofnckgdaaPac
import Derived.Test.YtlilncofnckgdaaNa
import Derived.Test.YtlilncofnckgdaaPaa
import Derived.Test.YtlilncofnckgdaaSf
import Derived.Test.YtlilncofnckgdaaCz
import Derived.Test.YtlilncofnckgdaaNc
set_option linter.unusedVariables false
set_option linter.unusedSimpArgs false
namespace Go.Proofs
open Go Go.RowKit Go.Sim
set_option maxRecDepth 100000
def Try.s94 : SC := (.seq (.ops false [⟨⟨(some 2),.alloc 101,0,"",⟨[]⟩,none⟩,none,false⟩]) (.seq (.ops false [⟨⟨(some 3),.move (.tmp 0),22,"",⟨[]⟩,none⟩,none,false⟩,⟨⟨(some 4),.makeMap 99 none,99,"",⟨[]⟩,none⟩,none,false⟩,⟨⟨(some 5),.build 101 ⟨[(0,(.tmp 3)),(1,(.tmp 4))]⟩,101,"",⟨[]⟩,none⟩,none,false⟩,⟨⟨none,.store 101 (.tmp 2) (.tmp 5),0,"",⟨[]⟩,none⟩,none,false⟩]) .ret))
def Try.s95 : SC := (.seq (.ops false [⟨⟨(some 2),.assign (.const (.bool false)),4,"",⟨[]⟩,none⟩,none,false⟩]) (.seq (.ops false [⟨⟨(some 3),.move (.tmp 0),22,"",⟨[]⟩,none⟩,none,false⟩,⟨⟨(some 4),.call ⟨.builtin .len,⟨[(.tmp 3)]⟩,⟨[22]⟩⟩,3,"",⟨[]⟩,none⟩,none,false⟩,⟨⟨(some 5),.call ⟨.value (.func 64),⟨[(.tmp 4),(.const (.int .i64 1)),(.const (.int .i64 5))]⟩,⟨[3,3,3]⟩⟩,4,"",⟨[]⟩,none⟩,none,false⟩,⟨⟨(some 6),.move (.tmp 5),4,"",⟨[]⟩,none⟩,none,false⟩,⟨⟨(some 7),.move (.tmp 0),22,"",⟨[]⟩,none⟩,some ((some 6),true),false⟩,⟨⟨(some 8),.call ⟨.value (.func 65),⟨[(.tmp 7),(.func 120)]⟩,⟨[22,79]⟩⟩,4,"",⟨[]⟩,none⟩,some ((some 6),true),false⟩,⟨⟨(some 9),.pick (.tmp 6) (.tmp 8) (.const (.bool false)),4,"",⟨[]⟩,none⟩,none,false⟩,⟨⟨(some 2),.assign (.tmp 9),4,"",⟨[]⟩,none⟩,none,false⟩]) .ret))
def Try.s96 : SC := (.seq (.ops false [⟨⟨(some 2),.box 101 (.tmp 0),0,"",⟨[]⟩,none⟩,none,false⟩,⟨⟨(some 4),.assign (.const (.bool false)),4,"",⟨[]⟩,none⟩,none,false⟩]) (.seq (.ops false [⟨⟨(some 5),.move (.tmp 1),3,"",⟨[]⟩,none⟩,none,false⟩,⟨⟨(some 6),.fieldAddr 101 (.tmp 2) 0,0,"",⟨[]⟩,none⟩,none,false⟩,⟨⟨(some 7),.load 22 (.tmp 6),22,"",⟨[]⟩,none⟩,none,false⟩,⟨⟨(some 8),.call ⟨.builtin .len,⟨[(.tmp 7)]⟩,⟨[22]⟩⟩,3,"",⟨[]⟩,none⟩,none,false⟩,⟨⟨(some 9),.binOp .sub 3 (.tmp 8) (.const (.int .i64 1)) 3,3,"",⟨[]⟩,none⟩,none,false⟩,⟨⟨(some 10),.call ⟨.value (.func 64),⟨[(.tmp 5),(.const (.int .i64 0)),(.tmp 9)]⟩,⟨[3,3,3]⟩⟩,4,"",⟨[]⟩,none⟩,none,false⟩,⟨⟨(some 4),.assign (.tmp 10),4,"",⟨[]⟩,none⟩,none,false⟩]) .ret))
def Try.s97 : SC := (.seq (.ops false [⟨⟨(some 3),.box 101 (.tmp 0),0,"",⟨[]⟩,none⟩,none,false⟩,⟨⟨(some 4),.box 104 (.tmp 1),0,"",⟨[]⟩,none⟩,none,false⟩,⟨⟨(some 6),.alloc 104,0,"",⟨[]⟩,none⟩,none,false⟩,⟨⟨(some 7),.assign (.const (.bool false)),4,"",⟨[]⟩,none⟩,none,false⟩]) (.seq (.ops false [⟨⟨(some 8),.assign (.const (.bool true)),4,"",⟨[]⟩,none⟩,none,false⟩]) (.seq (.seq (.ops false [⟨⟨(some 11),.fieldAddr 101 (.tmp 3) 0,0,"",⟨[]⟩,none⟩,none,false⟩,⟨⟨(some 12),.load 22 (.tmp 11),22,"",⟨[]⟩,none⟩,none,false⟩,⟨⟨(some 13),.call ⟨.builtin .len,⟨[(.tmp 12)]⟩,⟨[22]⟩⟩,3,"",⟨[]⟩,none⟩,none,false⟩,⟨⟨(some 14),.move (.const (.int .i64 0)),3,"",⟨[]⟩,none⟩,none,false⟩]) (.block 0 (.loop (.seq (.ops false [⟨⟨(some 15),.binOp .lss 3 (.tmp 14) (.tmp 13) 3,0,"",⟨[]⟩,none⟩,none,false⟩]) (.seq (.cond (.tmp 15) .skip (.exit 0)) (.seq (.block 1 (.seq (.ops false [⟨⟨(some 16),.move (.tmp 14),3,"",⟨[]⟩,none⟩,none,false⟩,⟨⟨(some 17),.indexAddr 22 (.tmp 12) (.tmp 14),0,"",⟨[]⟩,none⟩,none,false⟩,⟨⟨(some 18),.load 3 (.tmp 17),3,"",⟨[]⟩,none⟩,none,false⟩,⟨⟨(some 9),.assign (.tmp 16),3,"",⟨[]⟩,none⟩,none,false⟩,⟨⟨(some 10),.assign (.tmp 18),3,"",⟨[]⟩,none⟩,none,false⟩]) (.seq (.ops false [⟨⟨(some 19),.move (.tmp 9),3,"",⟨[]⟩,none⟩,none,false⟩,⟨⟨(some 20),.indexAddr 104 (.tmp 4) (.tmp 19),0,"",⟨[]⟩,none⟩,none,false⟩,⟨⟨(some 21),.load 3 (.tmp 20),3,"",⟨[]⟩,none⟩,none,false⟩,⟨⟨(some 22),.binOp .add 3 (.tmp 21) (.const (.int .i64 1)) 3,3,"",⟨[]⟩,none⟩,none,false⟩,⟨⟨(some 23),.indexAddr 104 (.tmp 4) (.tmp 19),0,"",⟨[]⟩,none⟩,none,false⟩,⟨⟨none,.store 3 (.tmp 23) (.tmp 22),0,"",⟨[]⟩,none⟩,none,false⟩]) (.seq (.seq (.ops false [⟨⟨(some 24),.move (.tmp 9),3,"",⟨[]⟩,none⟩,none,false⟩,⟨⟨(some 25),.move (.tmp 2),3,"",⟨[]⟩,none⟩,none,false⟩,⟨⟨(some 26),.binOp .eql 3 (.tmp 24) (.tmp 25) 3,4,"",⟨[]⟩,none⟩,none,false⟩]) (.cond (.tmp 26) (.ops false [⟨⟨(some 27),.move (.tmp 9),3,"",⟨[]⟩,none⟩,none,false⟩,⟨⟨(some 28),.indexAddr 104 (.tmp 4) (.tmp 27),0,"",⟨[]⟩,none⟩,none,false⟩,⟨⟨none,.store 3 (.tmp 28) (.const (.int .i64 0)),0,"",⟨[]⟩,none⟩,none,false⟩]) .skip)) (.ops false [⟨⟨(some 29),.move (.tmp 8),4,"",⟨[]⟩,none⟩,none,false⟩,⟨⟨(some 30),.move (.tmp 29),4,"",⟨[]⟩,none⟩,none,false⟩,⟨⟨(some 31),.move (.tmp 9),3,"",⟨[]⟩,none⟩,some ((some 30),true),false⟩,⟨⟨(some 32),.indexAddr 104 (.tmp 4) (.tmp 31),0,"",⟨[]⟩,none⟩,some ((some 30),true),false⟩,⟨⟨(some 33),.load 3 (.tmp 32),3,"",⟨[]⟩,none⟩,some ((some 30),true),false⟩,⟨⟨(some 34),.move (.tmp 10),3,"",⟨[]⟩,none⟩,some ((some 30),true),false⟩,⟨⟨(some 35),.binOp .lss 3 (.tmp 33) (.tmp 34) 3,4,"",⟨[]⟩,none⟩,some ((some 30),true),false⟩,⟨⟨(some 36),.pick (.tmp 30) (.tmp 35) (.const (.bool false)),4,"",⟨[]⟩,none⟩,none,false⟩,⟨⟨(some 8),.assign (.tmp 36),4,"",⟨[]⟩,none⟩,none,false⟩]))))) (.ops false [⟨⟨(some 37),.binOp .add 3 (.tmp 14) (.const (.int .i64 1)) 3,3,"",⟨[]⟩,none⟩,none,false⟩,⟨⟨(some 14),.move (.tmp 37),3,"",⟨[]⟩,none⟩,none,false⟩]))))))) (.seq (.ops false [⟨⟨(some 38),.load 104 (.tmp 4),104,"",⟨[]⟩,none⟩,none,false⟩,⟨⟨(some 39),.move (.tmp 8),4,"",⟨[]⟩,none⟩,none,false⟩,⟨⟨none,.store 104 (.tmp 6) (.tmp 38),0,"",⟨[]⟩,none⟩,none,false⟩,⟨⟨(some 7),.assign (.tmp 39),4,"",⟨[]⟩,none⟩,none,false⟩]) .ret))))
def Try.s100 : SC := (.seq (.ops false [⟨⟨(some 2),.box 101 (.tmp 0),0,"",⟨[]⟩,none⟩,none,false⟩,⟨⟨(some 3),.box 104 (.tmp 1),0,"",⟨[]⟩,none⟩,none,false⟩,⟨⟨(some 4),.assign (.const (.int .i64 0)),3,"",⟨[]⟩,none⟩,none,false⟩]) (.seq (.seq (.ops false [⟨⟨(some 13),.fieldAddr 101 (.tmp 2) 1,0,"",⟨[]⟩,none⟩,none,false⟩,⟨⟨(some 14),.load 99 (.tmp 13),99,"",⟨[]⟩,none⟩,none,false⟩,⟨⟨(some 15),.load 104 (.tmp 3),104,"",⟨[]⟩,none⟩,none,false⟩,⟨⟨(some 16),.lookup 99 (.tmp 14) (.tmp 15) true,127,"",⟨[]⟩,none⟩,none,false⟩,⟨⟨(some 12),.move (.tmp 16),127,"",⟨[]⟩,none⟩,none,false⟩,⟨⟨(some 17),.extract (.tmp 12) 0,3,"",⟨[]⟩,none⟩,none,false⟩,⟨⟨(some 18),.extract (.tmp 12) 1,4,"",⟨[]⟩,none⟩,none,false⟩,⟨⟨(some 5),.assign (.tmp 17),3,"",⟨[]⟩,none⟩,none,false⟩,⟨⟨(some 6),.assign (.tmp 18),4,"",⟨[]⟩,none⟩,none,false⟩]) (.seq (.ops false [⟨⟨(some 19),.move (.tmp 6),4,"",⟨[]⟩,none⟩,none,false⟩]) (.cond (.tmp 19) (.seq (.ops false [⟨⟨(some 20),.move (.tmp 5),3,"",⟨[]⟩,none⟩,none,false⟩,⟨⟨(some 4),.assign (.tmp 20),3,"",⟨[]⟩,none⟩,none,false⟩]) .ret) .skip))) (.seq (.ops false [⟨⟨(some 21),.fieldAddr 101 (.tmp 2) 1,0,"",⟨[]⟩,none⟩,none,false⟩,⟨⟨(some 22),.load 99 (.tmp 21),99,"",⟨[]⟩,none⟩,none,false⟩,⟨⟨(some 23),.load 104 (.tmp 3),104,"",⟨[]⟩,none⟩,none,false⟩,⟨⟨none,.mapUpdate 99 (.tmp 22) (.tmp 23) (.const (.int .i64 9223372036854775807)),0,"",⟨[]⟩,none⟩,none,false⟩]) (.seq (.ops false [⟨⟨(some 7),.assign (.const (.int .i64 0)),3,"",⟨[]⟩,none⟩,none,false⟩]) (.seq (.seq (.ops false [⟨⟨(some 24),.fieldAddr 101 (.tmp 2) 0,0,"",⟨[]⟩,none⟩,none,false⟩,⟨⟨(some 25),.load 22 (.tmp 24),22,"",⟨[]⟩,none⟩,none,false⟩,⟨⟨(some 26),.call ⟨.builtin .len,⟨[(.tmp 25)]⟩,⟨[22]⟩⟩,3,"",⟨[]⟩,none⟩,none,false⟩,⟨⟨(some 27),.move (.const (.int .i64 0)),3,"",⟨[]⟩,none⟩,none,false⟩]) (.block 0 (.loop (.seq (.ops false [⟨⟨(some 28),.binOp .lss 3 (.tmp 27) (.tmp 26) 3,0,"",⟨[]⟩,none⟩,none,false⟩]) (.seq (.cond (.tmp 28) .skip (.exit 0)) (.seq (.block 1 (.seq (.ops false [⟨⟨(some 29),.move (.tmp 27),3,"",⟨[]⟩,none⟩,none,false⟩,⟨⟨(some 8),.assign (.tmp 29),3,"",⟨[]⟩,none⟩,none,false⟩]) (.seq (.ops false [⟨⟨(some 31),.load 101 (.tmp 2),101,"",⟨[]⟩,none⟩,none,false⟩,⟨⟨(some 32),.load 104 (.tmp 3),104,"",⟨[]⟩,none⟩,none,false⟩,⟨⟨(some 33),.move (.tmp 8),3,"",⟨[]⟩,none⟩,none,false⟩,⟨⟨(some 34),.call ⟨.value (.func 97),⟨[(.tmp 31),(.tmp 32),(.tmp 33)]⟩,⟨[101,104,3]⟩⟩,105,"",⟨[]⟩,none⟩,none,false⟩,⟨⟨(some 30),.move (.tmp 34),105,"",⟨[]⟩,none⟩,none,false⟩,⟨⟨(some 35),.extract (.tmp 30) 0,104,"",⟨[]⟩,none⟩,none,false⟩,⟨⟨(some 36),.extract (.tmp 30) 1,4,"",⟨[]⟩,none⟩,none,false⟩,⟨⟨(some 9),.alloc 104,0,"",⟨[]⟩,none⟩,none,false⟩,⟨⟨none,.store 104 (.tmp 9) (.tmp 35),0,"",⟨[]⟩,none⟩,none,false⟩,⟨⟨(some 10),.assign (.tmp 36),4,"",⟨[]⟩,none⟩,none,false⟩]) (.seq (.seq (.ops false [⟨⟨(some 37),.move (.tmp 10),4,"",⟨[]⟩,none⟩,none,false⟩,⟨⟨(some 38),.unOp .not 4 (.tmp 37),4,"",⟨[]⟩,none⟩,none,false⟩]) (.cond (.tmp 38) (.exit 1) .skip)) (.seq (.ops false [⟨⟨(some 39),.load 101 (.tmp 2),101,"",⟨[]⟩,none⟩,none,false⟩,⟨⟨(some 40),.load 104 (.tmp 9),104,"",⟨[]⟩,none⟩,none,false⟩,⟨⟨(some 41),.call ⟨.value (.func 100),⟨[(.tmp 39),(.tmp 40)]⟩,⟨[101,104]⟩⟩,3,"",⟨[]⟩,none⟩,none,false⟩,⟨⟨(some 11),.assign (.tmp 41),3,"",⟨[]⟩,none⟩,none,false⟩]) (.seq (.seq (.ops false [⟨⟨(some 42),.move (.tmp 11),3,"",⟨[]⟩,none⟩,none,false⟩,⟨⟨(some 43),.binOp .eql 3 (.tmp 42) (.const (.int .i64 9223372036854775807)) 3,4,"",⟨[]⟩,none⟩,none,false⟩]) (.cond (.tmp 43) (.seq (.ops false [⟨⟨(some 4),.assign (.const (.int .i64 9223372036854775807)),3,"",⟨[]⟩,none⟩,none,false⟩]) .ret) .skip)) (.ops false [⟨⟨(some 44),.move (.tmp 7),3,"",⟨[]⟩,none⟩,none,false⟩,⟨⟨(some 45),.move (.tmp 11),3,"",⟨[]⟩,none⟩,none,false⟩,⟨⟨(some 46),.binOp .add 3 (.tmp 45) (.const (.int .i64 1)) 3,3,"",⟨[]⟩,none⟩,none,false⟩,⟨⟨(some 47),.call ⟨.builtin .max,⟨[(.tmp 44),(.tmp 46)]⟩,⟨[3,3]⟩⟩,3,"",⟨[]⟩,none⟩,none,false⟩,⟨⟨(some 7),.assign (.tmp 47),3,"",⟨[]⟩,none⟩,none,false⟩]))))))) (.ops false [⟨⟨(some 48),.binOp .add 3 (.tmp 27) (.const (.int .i64 1)) 3,3,"",⟨[]⟩,none⟩,none,false⟩,⟨⟨(some 27),.move (.tmp 48),3,"",⟨[]⟩,none⟩,none,false⟩]))))))) (.seq (.ops false [⟨⟨(some 49),.fieldAddr 101 (.tmp 2) 1,0,"",⟨[]⟩,none⟩,none,false⟩,⟨⟨(some 50),.load 99 (.tmp 49),99,"",⟨[]⟩,none⟩,none,false⟩,⟨⟨(some 51),.load 104 (.tmp 3),104,"",⟨[]⟩,none⟩,none,false⟩,⟨⟨(some 52),.move (.tmp 7),3,"",⟨[]⟩,none⟩,none,false⟩,⟨⟨none,.mapUpdate 99 (.tmp 50) (.tmp 51) (.tmp 52),0,"",⟨[]⟩,none⟩,none,false⟩]) (.seq (.ops false [⟨⟨(some 53),.move (.tmp 7),3,"",⟨[]⟩,none⟩,none,false⟩,⟨⟨(some 4),.assign (.tmp 53),3,"",⟨[]⟩,none⟩,none,false⟩]) .ret)))))))
def Try.s44 : SC := (.seq (.ops false [⟨⟨(some 2),.assign (.const (.int .i64 0)),3,"",⟨[]⟩,none⟩,none,false⟩,⟨⟨(some 3),.assign (.const (.int .i64 0)),25,"",⟨[]⟩,none⟩,none,false⟩]) (.seq (.seq (.ops false [⟨⟨(some 5),.move (.tmp 0),22,"",⟨[]⟩,none⟩,none,false⟩,⟨⟨(some 6),.call ⟨.value (.func 95),⟨[(.tmp 5)]⟩,⟨[22]⟩⟩,4,"",⟨[]⟩,none⟩,none,false⟩,⟨⟨(some 7),.unOp .not 4 (.tmp 6),4,"",⟨[]⟩,none⟩,none,false⟩]) (.cond (.tmp 7) (.seq (.ops false [⟨⟨(some 2),.assign (.const (.int .i64 0)),3,"",⟨[]⟩,none⟩,none,false⟩,⟨⟨(some 3),.assign (.const (.int .i64 105)),25,"",⟨[]⟩,none⟩,none,false⟩]) .ret) .skip)) (.seq (.ops false [⟨⟨(some 8),.move (.tmp 0),22,"",⟨[]⟩,none⟩,none,false⟩,⟨⟨(some 9),.call ⟨.value (.func 94),⟨[(.tmp 8)]⟩,⟨[22]⟩⟩,101,"",⟨[]⟩,none⟩,none,false⟩,⟨⟨(some 10),.build 104 ⟨[]⟩,104,"",⟨[]⟩,none⟩,none,false⟩,⟨⟨(some 11),.call ⟨.value (.func 100),⟨[(.tmp 9),(.tmp 10)]⟩,⟨[101,104]⟩⟩,3,"",⟨[]⟩,none⟩,none,false⟩,⟨⟨(some 4),.assign (.tmp 11),3,"",⟨[]⟩,none⟩,none,false⟩]) (.seq (.seq (.ops false [⟨⟨(some 12),.move (.tmp 4),3,"",⟨[]⟩,none⟩,none,false⟩,⟨⟨(some 13),.binOp .eql 3 (.tmp 12) (.const (.int .i64 9223372036854775807)) 3,4,"",⟨[]⟩,none⟩,none,false⟩]) (.cond (.tmp 13) (.seq (.ops false [⟨⟨(some 2),.assign (.const (.int .i64 0)),3,"",⟨[]⟩,none⟩,none,false⟩,⟨⟨(some 3),.assign (.const (.int .i64 4)),25,"",⟨[]⟩,none⟩,none,false⟩]) .ret) .skip)) (.seq (.ops false [⟨⟨(some 14),.move (.tmp 4),3,"",⟨[]⟩,none⟩,none,false⟩,⟨⟨(some 2),.assign (.tmp 14),3,"",⟨[]⟩,none⟩,none,false⟩,⟨⟨(some 3),.assign (.const (.int .i64 0)),25,"",⟨[]⟩,none⟩,none,false⟩]) .ret)))))
def Try.s40 : SC := (.seq (.ops false [⟨⟨(some 4),.assign (.const (.bool false)),4,"",⟨[]⟩,none⟩,none,false⟩,⟨⟨(some 5),.assign (.const (.int .i64 0)),25,"",⟨[]⟩,none⟩,none,false⟩]) (.seq (.ops false [⟨⟨(some 12),.move (.tmp 0),22,"",⟨[]⟩,none⟩,none,false⟩,⟨⟨(some 13),.call ⟨.value (.func 94),⟨[(.tmp 12)]⟩,⟨[22]⟩⟩,101,"",⟨[]⟩,none⟩,none,false⟩,⟨⟨(some 6),.alloc 101,0,"",⟨[]⟩,none⟩,none,false⟩,⟨⟨none,.store 101 (.tmp 6) (.tmp 13),0,"",⟨[]⟩,none⟩,none,false⟩]) (.seq (.seq (.ops false [⟨⟨(some 14),.move (.tmp 0),22,"",⟨[]⟩,none⟩,none,false⟩,⟨⟨(some 15),.call ⟨.value (.func 95),⟨[(.tmp 14)]⟩,⟨[22]⟩⟩,4,"",⟨[]⟩,none⟩,none,false⟩,⟨⟨(some 16),.unOp .not 4 (.tmp 15),4,"",⟨[]⟩,none⟩,none,false⟩,⟨⟨(some 17),.move (.tmp 16),4,"",⟨[]⟩,none⟩,none,false⟩,⟨⟨(some 18),.move (.tmp 1),22,"",⟨[]⟩,none⟩,some ((some 17),false),false⟩,⟨⟨(some 19),.call ⟨.builtin .len,⟨[(.tmp 18)]⟩,⟨[22]⟩⟩,3,"",⟨[]⟩,none⟩,some ((some 17),false),false⟩,⟨⟨(some 20),.binOp .gtr 3 (.tmp 19) (.const (.int .i64 64)) 3,4,"",⟨[]⟩,none⟩,some ((some 17),false),false⟩,⟨⟨(some 21),.pick (.tmp 17) (.const (.bool true)) (.tmp 20),4,"",⟨[]⟩,none⟩,none,false⟩,⟨⟨(some 22),.move (.tmp 21),4,"",⟨[]⟩,none⟩,none,false⟩,⟨⟨(some 23),.move (.tmp 1),22,"",⟨[]⟩,none⟩,some ((some 22),false),false⟩,⟨⟨(some 24),.load 101 (.tmp 6),101,"",⟨[]⟩,none⟩,some ((some 22),false),false⟩,⟨⟨(some 25),.makeFunc (.func 96) ⟨[(.tmp 24)]⟩ ⟨[]⟩,79,"",⟨[]⟩,none⟩,some ((some 22),false),false⟩,⟨⟨(some 26),.call ⟨.value (.func 65),⟨[(.tmp 23),(.tmp 25)]⟩,⟨[22,79]⟩⟩,4,"",⟨[]⟩,none⟩,some ((some 22),false),false⟩,⟨⟨(some 27),.unOp .not 4 (.tmp 26),4,"",⟨[]⟩,none⟩,some ((some 22),false),false⟩,⟨⟨(some 28),.pick (.tmp 22) (.const (.bool true)) (.tmp 27),4,"",⟨[]⟩,none⟩,none,false⟩]) (.cond (.tmp 28) (.seq (.ops false [⟨⟨(some 4),.assign (.const (.bool false)),4,"",⟨[]⟩,none⟩,none,false⟩,⟨⟨(some 5),.assign (.const (.int .i64 105)),25,"",⟨[]⟩,none⟩,none,false⟩]) .ret) .skip)) (.seq (.ops false [⟨⟨(some 7),.alloc 104,0,"",⟨[]⟩,none⟩,none,false⟩]) (.seq (.seq (.ops false [⟨⟨(some 29),.move (.tmp 1),22,"",⟨[]⟩,none⟩,none,false⟩,⟨⟨(some 30),.call ⟨.builtin .len,⟨[(.tmp 29)]⟩,⟨[22]⟩⟩,3,"",⟨[]⟩,none⟩,none,false⟩,⟨⟨(some 31),.move (.const (.int .i64 0)),3,"",⟨[]⟩,none⟩,none,false⟩]) (.block 0 (.loop (.seq (.ops false [⟨⟨(some 32),.binOp .lss 3 (.tmp 31) (.tmp 30) 3,0,"",⟨[]⟩,none⟩,none,false⟩]) (.seq (.cond (.tmp 32) .skip (.exit 0)) (.seq (.block 1 (.seq (.ops false [⟨⟨(some 33),.indexAddr 22 (.tmp 29) (.tmp 31),0,"",⟨[]⟩,none⟩,none,false⟩,⟨⟨(some 34),.load 3 (.tmp 33),3,"",⟨[]⟩,none⟩,none,false⟩,⟨⟨(some 9),.assign (.tmp 34),3,"",⟨[]⟩,none⟩,none,false⟩]) (.seq (.ops false [⟨⟨(some 36),.load 101 (.tmp 6),101,"",⟨[]⟩,none⟩,none,false⟩,⟨⟨(some 37),.load 104 (.tmp 7),104,"",⟨[]⟩,none⟩,none,false⟩,⟨⟨(some 38),.move (.tmp 9),3,"",⟨[]⟩,none⟩,none,false⟩,⟨⟨(some 39),.call ⟨.value (.func 97),⟨[(.tmp 36),(.tmp 37),(.tmp 38)]⟩,⟨[101,104,3]⟩⟩,105,"",⟨[]⟩,none⟩,none,false⟩,⟨⟨(some 35),.move (.tmp 39),105,"",⟨[]⟩,none⟩,none,false⟩,⟨⟨(some 40),.extract (.tmp 35) 0,104,"",⟨[]⟩,none⟩,none,false⟩,⟨⟨(some 41),.extract (.tmp 35) 1,4,"",⟨[]⟩,none⟩,none,false⟩,⟨⟨(some 10),.alloc 104,0,"",⟨[]⟩,none⟩,none,false⟩,⟨⟨none,.store 104 (.tmp 10) (.tmp 40),0,"",⟨[]⟩,none⟩,none,false⟩,⟨⟨(some 11),.assign (.tmp 41),4,"",⟨[]⟩,none⟩,none,false⟩]) (.seq (.seq (.ops false [⟨⟨(some 42),.move (.tmp 11),4,"",⟨[]⟩,none⟩,none,false⟩,⟨⟨(some 43),.unOp .not 4 (.tmp 42),4,"",⟨[]⟩,none⟩,none,false⟩]) (.cond (.tmp 43) (.seq (.ops false [⟨⟨(some 4),.assign (.const (.bool false)),4,"",⟨[]⟩,none⟩,none,false⟩,⟨⟨(some 5),.assign (.const (.int .i64 0)),25,"",⟨[]⟩,none⟩,none,false⟩]) .ret) .skip)) (.ops false [⟨⟨(some 44),.load 104 (.tmp 10),104,"",⟨[]⟩,none⟩,none,false⟩,⟨⟨none,.store 104 (.tmp 7) (.tmp 44),0,"",⟨[]⟩,none⟩,none,false⟩]))))) (.ops false [⟨⟨(some 45),.binOp .add 3 (.tmp 31) (.const (.int .i64 1)) 3,3,"",⟨[]⟩,none⟩,none,false⟩,⟨⟨(some 31),.move (.tmp 45),3,"",⟨[]⟩,none⟩,none,false⟩]))))))) (.seq (.ops false [⟨⟨(some 4),.assign (.const (.bool true)),4,"",⟨[]⟩,none⟩,none,false⟩,⟨⟨(some 5),.assign (.const (.int .i64 0)),25,"",⟨[]⟩,none⟩,none,false⟩]) .ret))))))
def Try.s42 : SC := (.seq (.ops false [⟨⟨(some 4),.assign (.const (.slice none 0 0)),22,"",⟨[]⟩,none⟩,none,false⟩,⟨⟨(some 5),.assign (.const (.int .i64 0)),25,"",⟨[]⟩,none⟩,none,false⟩]) (.seq (.seq (.ops false [⟨⟨(some 13),.move (.tmp 0),22,"",⟨[]⟩,none⟩,none,false⟩,⟨⟨(some 14),.call ⟨.value (.func 95),⟨[(.tmp 13)]⟩,⟨[22]⟩⟩,4,"",⟨[]⟩,none⟩,none,false⟩,⟨⟨(some 15),.unOp .not 4 (.tmp 14),4,"",⟨[]⟩,none⟩,none,false⟩]) (.cond (.tmp 15) (.seq (.ops false [⟨⟨(some 4),.assign (.const (.slice none 0 0)),22,"",⟨[]⟩,none⟩,none,false⟩,⟨⟨(some 5),.assign (.const (.int .i64 105)),25,"",⟨[]⟩,none⟩,none,false⟩]) .ret) .skip)) (.seq (.seq (.ops false [⟨⟨(some 16),.move (.tmp 1),3,"",⟨[]⟩,none⟩,none,false⟩,⟨⟨(some 17),.call ⟨.value (.func 64),⟨[(.tmp 16),(.const (.int .i64 0)),(.const (.int .i64 64))]⟩,⟨[3,3,3]⟩⟩,4,"",⟨[]⟩,none⟩,none,false⟩,⟨⟨(some 18),.unOp .not 4 (.tmp 17),4,"",⟨[]⟩,none⟩,none,false⟩]) (.cond (.tmp 18) (.seq (.ops false [⟨⟨(some 4),.assign (.const (.slice none 0 0)),22,"",⟨[]⟩,none⟩,none,false⟩,⟨⟨(some 5),.assign (.const (.int .i64 7)),25,"",⟨[]⟩,none⟩,none,false⟩]) .ret) .skip)) (.seq (.ops false [⟨⟨(some 19),.move (.tmp 0),22,"",⟨[]⟩,none⟩,none,false⟩,⟨⟨(some 20),.call ⟨.value (.func 94),⟨[(.tmp 19)]⟩,⟨[22]⟩⟩,101,"",⟨[]⟩,none⟩,none,false⟩,⟨⟨(some 6),.alloc 101,0,"",⟨[]⟩,none⟩,none,false⟩,⟨⟨none,.store 101 (.tmp 6) (.tmp 20),0,"",⟨[]⟩,none⟩,none,false⟩]) (.seq (.ops false [⟨⟨(some 7),.alloc 104,0,"",⟨[]⟩,none⟩,none,false⟩]) (.seq (.seq (.ops false [⟨⟨(some 21),.load 101 (.tmp 6),101,"",⟨[]⟩,none⟩,none,false⟩,⟨⟨(some 22),.load 104 (.tmp 7),104,"",⟨[]⟩,none⟩,none,false⟩,⟨⟨(some 23),.call ⟨.value (.func 100),⟨[(.tmp 21),(.tmp 22)]⟩,⟨[101,104]⟩⟩,3,"",⟨[]⟩,none⟩,none,false⟩,⟨⟨(some 24),.binOp .neq 3 (.tmp 23) (.const (.int .i64 9223372036854775807)) 3,4,"",⟨[]⟩,none⟩,none,false⟩]) (.cond (.tmp 24) (.seq (.ops false [⟨⟨(some 4),.assign (.const (.slice none 0 0)),22,"",⟨[]⟩,none⟩,none,false⟩,⟨⟨(some 5),.assign (.const (.int .i64 4)),25,"",⟨[]⟩,none⟩,none,false⟩]) .ret) .skip)) (.seq (.ops false [⟨⟨(some 25),.load 101 (.tmp 6),101,"",⟨[]⟩,none⟩,none,false⟩,⟨⟨(some 26),.makeFunc (.func 101) ⟨[(.tmp 25)]⟩ ⟨[]⟩,106,"",⟨[]⟩,none⟩,none,false⟩,⟨⟨(some 8),.assign (.tmp 26),106,"",⟨[]⟩,none⟩,none,false⟩]) (.seq (.ops false [⟨⟨(some 9),.assign (.const (.slice none 0 0)),22,"",⟨[]⟩,none⟩,none,false⟩]) (.seq .skip (.seq (.seq (.ops false [⟨⟨(some 27),.move (.tmp 1),3,"",⟨[]⟩,none⟩,none,false⟩,⟨⟨(some 28),.move (.const (.int .i64 0)),3,"",⟨[]⟩,none⟩,none,false⟩]) (.block 0 (.loop (.seq (.ops false [⟨⟨(some 29),.binOp .lss 3 (.tmp 28) (.tmp 27) 3,4,"",⟨[]⟩,none⟩,none,false⟩]) (.seq (.cond (.tmp 29) .skip (.exit 0)) (.seq (.block 1 (.seq (.ops false [⟨⟨(some 30),.move (.tmp 0),22,"",⟨[]⟩,none⟩,none,false⟩,⟨⟨(some 31),.call ⟨.builtin .len,⟨[(.tmp 30)]⟩,⟨[22]⟩⟩,3,"",⟨[]⟩,none⟩,none,false⟩,⟨⟨(some 32),.move (.const (.int .i64 0)),3,"",⟨[]⟩,none⟩,none,false⟩]) (.block 2 (.loop (.seq (.ops false [⟨⟨(some 33),.binOp .lss 3 (.tmp 32) (.tmp 31) 3,0,"",⟨[]⟩,none⟩,none,false⟩]) (.seq (.cond (.tmp 33) .skip (.exit 2)) (.seq (.block 3 (.seq (.ops false [⟨⟨(some 34),.move (.tmp 32),3,"",⟨[]⟩,none⟩,none,false⟩,⟨⟨(some 10),.assign (.tmp 34),3,"",⟨[]⟩,none⟩,none,false⟩]) (.seq (.ops false [⟨⟨(some 36),.move (.tmp 8),106,"",⟨[]⟩,none⟩,none,false⟩,⟨⟨(some 37),.load 104 (.tmp 7),104,"",⟨[]⟩,none⟩,none,false⟩,⟨⟨(some 38),.move (.tmp 10),3,"",⟨[]⟩,none⟩,none,false⟩,⟨⟨(some 39),.call ⟨.value (.tmp 36),⟨[(.tmp 37),(.tmp 38)]⟩,⟨[104,3]⟩⟩,105,"",⟨[]⟩,none⟩,none,false⟩,⟨⟨(some 35),.move (.tmp 39),105,"",⟨[]⟩,none⟩,none,false⟩,⟨⟨(some 40),.extract (.tmp 35) 0,104,"",⟨[]⟩,none⟩,none,false⟩,⟨⟨(some 41),.extract (.tmp 35) 1,4,"",⟨[]⟩,none⟩,none,false⟩,⟨⟨(some 11),.alloc 104,0,"",⟨[]⟩,none⟩,none,false⟩,⟨⟨none,.store 104 (.tmp 11) (.tmp 40),0,"",⟨[]⟩,none⟩,none,false⟩,⟨⟨(some 12),.assign (.tmp 41),4,"",⟨[]⟩,none⟩,none,false⟩]) (.seq (.ops false [⟨⟨(some 42),.move (.tmp 12),4,"",⟨[]⟩,none⟩,none,false⟩]) (.cond (.tmp 42) (.seq (.ops true [⟨⟨(some 43),.move (.tmp 9),22,"",⟨[]⟩,none⟩,none,true⟩,⟨⟨(some 44),.move (.tmp 10),3,"",⟨[]⟩,none⟩,none,true⟩,⟨⟨(some 45),.buildSlice 22 1 ⟨[(0,(.tmp 44))]⟩,22,"",⟨[]⟩,none⟩,none,true⟩,⟨⟨(some 47),.load 104 (.tmp 11),104,"",⟨[]⟩,none⟩,none,true⟩,⟨⟨(some 46),.call ⟨.builtin .append,⟨[(.tmp 43),(.tmp 45)]⟩,⟨[22,22]⟩⟩,22,"",⟨[]⟩,none⟩,none,true⟩,⟨⟨(some 9),.assign (.tmp 46),22,"",⟨[]⟩,none⟩,none,true⟩,⟨⟨none,.store 104 (.tmp 7) (.tmp 47),0,"",⟨[]⟩,none⟩,none,false⟩]) (.exit 1)) .skip))))) (.ops false [⟨⟨(some 48),.binOp .add 3 (.tmp 32) (.const (.int .i64 1)) 3,3,"",⟨[]⟩,none⟩,none,false⟩,⟨⟨(some 32),.move (.tmp 48),3,"",⟨[]⟩,none⟩,none,false⟩])))))))) (.ops false [⟨⟨(some 49),.binOp .add 3 (.tmp 28) (.const (.int .i64 1)) 3,3,"",⟨[]⟩,none⟩,none,false⟩,⟨⟨(some 28),.move (.tmp 49),3,"",⟨[]⟩,none⟩,none,false⟩]))))))) (.seq (.ops false [⟨⟨(some 50),.move (.tmp 9),22,"",⟨[]⟩,none⟩,none,false⟩,⟨⟨(some 4),.assign (.tmp 50),22,"",⟨[]⟩,none⟩,none,false⟩,⟨⟨(some 5),.assign (.const (.int .i64 0)),25,"",⟨[]⟩,none⟩,none,false⟩]) .ret)))))))))))
def Try.s120 : SC := (.seq (.ops false [⟨⟨(some 2),.assign (.const (.bool false)),4,"",⟨[]⟩,none⟩,none,false⟩]) (.seq (.ops false [⟨⟨(some 3),.move (.tmp 0),3,"",⟨[]⟩,none⟩,none,false⟩,⟨⟨(some 4),.call ⟨.value (.func 64),⟨[(.tmp 3),(.const (.int .i64 1)),(.const (.int .i64 8))]⟩,⟨[3,3,3]⟩⟩,4,"",⟨[]⟩,none⟩,none,false⟩,⟨⟨(some 2),.assign (.tmp 4),4,"",⟨[]⟩,none⟩,none,false⟩]) .ret))
theorem Try.s94_eq : Try.f94.body.map sOf = some Try.s94 := by kernel_rfl
theorem Try.s95_eq : Try.f95.body.map sOf = some Try.s95 := by kernel_rfl
theorem Try.s96_eq : Try.f96.body.map sOf = some Try.s96 := by kernel_rfl
theorem Try.s97_eq : Try.f97.body.map sOf = some Try.s97 := by kernel_rfl
theorem Try.s100_eq : Try.f100.body.map sOf = some Try.s100 := by kernel_rfl
theorem Try.s44_eq : Try.f44.body.map sOf = some Try.s44 := by kernel_rfl
theorem Try.s40_eq : Try.f40.body.map sOf = some Try.s40 := by kernel_rfl
theorem Try.s42_eq : Try.f42.body.map sOf = some Try.s42 := by kernel_rfl
theorem Try.s120_eq : Try.f120.body.map sOf = some Try.s120 := by kernel_rfl
end Go.Proofs

namespace Go.Proofs
open Go Go.RowKit Go.Sim
set_option maxRecDepth 100000
theorem Try.und104 : Try.prog.underlying 104 = some (.array 5 3) := by kernel_rfl
theorem eq104 (xs ys : List Int) (hx : xs.length = 5) (hy : ys.length = 5) : prun Try.prog (Go.Op.equal 104 (aV xs) (aV ys)) = some (decide (xs = ys)) := by
  unfold aV
  rw [flat_icells, flat_icells]
  exact eqArr Try.und104 Try.size3 Try.und3 Try.agg3 9998 xs ys hx hy
theorem fine104 (e : Bool) {a : List Int} (h : a.length = 5) : keyFine Try.prog 104 e (aV a) = true := by
  obtain ⟨x0, x1, x2, x3, x4, rfl⟩ := five h
  cases e <;> kernel_rfl
theorem flat_age {a : List Int} (h : a.length = 5) : flat 6 (aV a) = true := by
  obtain ⟨x0, x1, x2, x3, x4, rfl⟩ := five h
  rfl
theorem bits_age {a : List Int} (h : a.length = 5) : Instr.sameBits 10000 (aV a) (aV a) = true := by
  obtain ⟨x0, x1, x2, x3, x4, rfl⟩ := five h
  unfold aV
  simp [icells, Instr.sameBits]
theorem aV_inj {a b : List Int} (ha : a.length = 5) (hb : b.length = 5) (h : aV a = aV b) : a = b := by
  obtain ⟨x0, x1, x2, x3, x4, rfl⟩ := five ha
  obtain ⟨y0, y1, y2, y3, y4, rfl⟩ := five hb
  unfold aV at h
  simpa [icells] using h
structure KnowsA (M : MemoA) (es : List MapEntry) : Prop where
  right : ∀ e ∈ es, ∃ a n, a.length = 5 ∧ e.key = aV a ∧ e.val = .int .i64 n ∧ M a = some n
  all : ∀ a n, M a = some n → ∃ e ∈ es, e.key = aV a
  once : es.Pairwise fun x y => x.key ≠ y.key
def MapAt (w : AW) (r : Nat) (M : MemoA) : Prop := ∃ es clock, w.blk r = some (.map es clock) ∧ KnowsA M es.toList
theorem MapAt.blk {w w' : AW} {r : Nat} {M : MemoA} (h : MapAt w r M) (k : w'.blk r = w.blk r) : MapAt w' r M := by
  obtain ⟨es, clock, a, b⟩ := h
  exact ⟨es, clock, by rw [k]; exact a, b⟩
theorem ask_age {M : MemoA} {a : List Int} (ha : a.length = 5) : ∀ {es : List MapEntry} (i : Nat), (∀ e ∈ es, ∃ b n, b.length = 5 ∧ e.key = aV b ∧ e.val = .int .i64 n ∧ M b = some n) →
    (findAskQ Try.prog 104 (aV a) es i = some none ∧ ∀ e ∈ es, e.key ≠ aV a) ∨ ∃ j n, i ≤ j ∧ findAskQ Try.prog 104 (aV a) es i = some (some (j, .int .i64 n)) ∧ M a = some n ∧ ∃ e, es[j - i]? = some e ∧ e.key = aV a
  | [], i, _ => .inl ⟨rfl, fun e he => by simp at he⟩
  | e :: es, i, h => by
    obtain ⟨b, n, hb, hke, hv, hM⟩ := h e List.mem_cons_self
    have ht := ask_age ha (es := es) (i + 1) fun x hx => h x (List.mem_cons_of_mem _ hx)
    have hq := eq104 a b ha hb
    have hfl := flat_age hb
    simp only [findAskQ, hke, hfl, hq]
    by_cases he : a = b
    · subst he
      rw [decide_eq_true rfl]
      exact .inr ⟨i, n, Nat.le_refl _, by simp only [hv], hM, e, by simp, hke⟩
    · rw [decide_eq_false he]
      rcases ht with ⟨q, qn⟩ | ⟨j, m, hj, q, hm, e', g1, g2⟩
      · refine .inl ⟨q, fun x hx hxe => ?_⟩
        rcases List.mem_cons.1 hx with rfl | hx
        · rw [hke] at hxe
          exact he (aV_inj hb ha hxe).symm
        · exact qn x hx hxe
      · exact .inr ⟨j, m, by omega, q, hm, e', by rw [show j - i = (j - (i + 1)) + 1 from by omega]; simpa using g1, g2⟩
theorem MapAt.lookup {w : AW} {r : Nat} {M : MemoA} (h : MapAt w r M) {a : List Int} (ha : a.length = 5) :
    (∃ n, M a = some n ∧ lookupA Try.prog w 104 (.array 5 3) (.int .i64 0) (.map (some r)) (aV a) true = some (.tuple #[.int .i64 n, .bool true])) ∨ (M a = none ∧ lookupA Try.prog w 104 (.array 5 3) (.int .i64 0) (.map (some r)) (aV a) true = some (.tuple #[.int .i64 0, .bool false])) := by
  obtain ⟨es, clock, hb, he⟩ := h
  have hf := fine104 es.isEmpty ha
  have hfl := flat_age ha
  rcases ask_age ha 0 he.right with ⟨q, qn⟩ | ⟨j, n, _, q, hm, _⟩
  · right
    refine ⟨?_, by simp only [lookupA, aggKey, hfl, hb, hf, q, Bool.and_self]⟩
    cases hM : M a with
    | none => rfl
    | some n =>
      obtain ⟨e, h1, h2⟩ := he.all a n hM
      exact absurd h2 (qn e h1)
  · left
    exact ⟨n, hm, by simp only [lookupA, aggKey, hfl, hb, hf, q, Bool.and_self]⟩
theorem MapAt.update {w : AW} {r : Nat} {M : MemoA} (f : Fresh w) (h : MapAt w r M) (hr : r < w.next) {a : List Int} (ha : a.length = 5) (v : Int) :
    ∃ w', updateV (prg Try.prog) w 99 (.map (some r)) (aV a) (.int .i64 v) = some w' ∧ MapAt w' r (putM M a v) ∧ MutS (fun j => j = r) w w' ∧ w'.next = w.next := by
  obtain ⟨es, clock, hb, he⟩ := h
  have hf := fine104 false ha
  have hfl := flat_age ha
  have hput : ∀ b, (w.put r b).blk r = some b := fun b => by rw [AW.blk_put _ _ _ _ (Trie.in_ _) (Trie.in_ _), if_pos rfl]
  rcases ask_age ha 0 he.right with ⟨q, qn⟩ | ⟨j, n, _, q, hm, e, g1, g2⟩
  · refine ⟨w.put r (.map (es.push { key := aV a, val := .int .i64 v, born := clock }) (clock + 1)), ?_, ⟨_, _, hput _, ?_⟩, MutS.put (S := fun j => j = r) f rfl hr _, AW.next_put _ _ _⟩
    · simp only [updateV, Try.ty99, Try.ty104, hb, simpleKey, aggKey, hfl, show (prg Try.prog).p = Try.prog from rfl, hf, q, Bool.and_self]
    · rw [Array.toList_push]
      refine ⟨fun x hx => ?_, fun b m hbm => ?_, ?_⟩
      · rcases List.mem_append.1 hx with hx1 | hx1
        · obtain ⟨b, m, a1, a2, a3, a4⟩ := he.right x hx1
          refine ⟨b, m, a1, a2, a3, ?_⟩
          rw [putM_ne _ (fun z => qn x hx1 (by rw [← z]; exact a2))]; exact a4
        · rw [List.mem_singleton] at hx1
          subst hx1
          exact ⟨a, v, ha, rfl, rfl, putM_at _ _ _⟩
      · by_cases z : b = a
        · subst z; exact ⟨_, List.mem_append_right _ List.mem_cons_self, rfl⟩
        · rw [putM_ne _ z] at hbm
          obtain ⟨x, h1, h2⟩ := he.all b m hbm
          exact ⟨x, List.mem_append_left _ h1, h2⟩
      · rw [List.pairwise_append]
        exact ⟨he.once, List.pairwise_singleton _ _, fun x hx y hy => by rw [List.mem_singleton] at hy; subst hy; exact qn x hx⟩
  · rw [Nat.sub_zero] at g1
    have hbt : Instr.sameBits 10000 e.key (aV a) = true := by rw [g2]; exact bits_age ha
    have hjl : j < es.toList.length := by
      rcases Nat.lt_or_ge j es.toList.length with z | z
      · exact z
      · rw [List.getElem?_eq_none z] at g1; cases g1
    have hje : es.toList[j] = e := by rw [List.getElem?_eq_getElem hjl] at g1; injection g1
    have hkey : ∀ k (hk : k < es.toList.length), (es.toList.modify j fun e => { e with key := aV a, val := .int .i64 v })[k]'(by rw [List.length_modify]; exact hk) = if j = k then { es.toList[k] with key := aV a, val := .int .i64 v } else es.toList[k] := fun k hk => List.getElem_modify ..
    have hkk : ∀ k (hk : k < es.toList.length), ((es.toList.modify j fun e => { e with key := aV a, val := .int .i64 v })[k]'(by rw [List.length_modify]; exact hk)).key = es.toList[k].key := fun k hk => by
      rw [hkey k hk]
      split
      · rename_i z; subst z; simp only []; rw [hje]; exact g2.symm
      · rfl
    have hmap : (es.toList.modify j fun e => { e with key := aV a, val := .int .i64 v }).map (·.key) = es.toList.map (·.key) := by
      refine List.ext_getElem (by simp) fun k h1 h2 => ?_
      rw [List.getElem_map, List.getElem_map]
      exact hkk k (by simpa using h2)
    have honce : ∀ k (hk : k < es.toList.length), es.toList[k].key = aV a → k = j := fun k hk hkk => by
      have hp := List.pairwise_iff_getElem.1 he.once
      rcases Nat.lt_trichotomy k j with z | z | z
      · exact absurd (by rw [hkk, hje, g2]) (hp k j hk hjl z)
      · exact z
      · exact absurd (by rw [hkk, hje, g2]) (hp j k hjl hk z)
    refine ⟨w.put r (.map (es.modify j fun e => { e with key := aV a, val := .int .i64 v }) clock), ?_, ⟨_, _, hput _, ?_⟩, MutS.put (S := fun j => j = r) f rfl hr _, AW.next_put _ _ _⟩
    · simp only [updateV, Try.ty99, Try.ty104, hb, simpleKey, aggKey, hfl, show (prg Try.prog).p = Try.prog from rfl, hf, q, Bool.and_self, g1, hbt]
    · rw [Array.toList_modify]
      refine ⟨fun x hx => ?_, fun b m hbm => ?_, ?_⟩
      · obtain ⟨k, hk, rfl⟩ := List.getElem_of_mem hx
        have hk' : k < es.toList.length := by rw [List.length_modify] at hk; exact hk
        rw [hkey k hk']
        split
        · exact ⟨a, v, ha, rfl, rfl, putM_at _ _ _⟩
        · rename_i z
          obtain ⟨b, m, a1, a2, a3, a4⟩ := he.right _ (List.getElem_mem hk')
          refine ⟨b, m, a1, a2, a3, ?_⟩
          rw [putM_ne _ (fun y => by subst y; exact z (honce k hk' a2).symm)]; exact a4
      · have : ∃ x ∈ es.toList, x.key = aV b := by
          by_cases z : b = a
          · subst z; exact ⟨e, by rw [← hje]; exact List.getElem_mem _, g2⟩
          · rw [putM_ne _ z] at hbm; exact he.all b m hbm
        obtain ⟨x, h1, h2⟩ := this
        obtain ⟨k, hk, rfl⟩ := List.getElem_of_mem h1
        exact ⟨_, List.getElem_mem (by rw [List.length_modify]; exact hk), by rw [hkk k hk]; exact h2⟩
      · have hp : (es.toList.map (·.key)).Pairwise (fun x y => x ≠ y) := List.pairwise_map.2 he.once
        rw [← hmap] at hp
        exact List.pairwise_map.1 hp
theorem map_new {w : AW} {r : Nat} (h : w.blk r = some (.map #[] 0)) : MapAt w r (fun _ => none) := ⟨#[], 0, h, ⟨fun e he => by simp at he, fun a n h => (by cases h), List.Pairwise.nil⟩⟩
end Go.Proofs

namespace Go.Proofs
open Go Go.RowKit Go.Sim
set_option maxRecDepth 100000
abbrev pt (b : Nat) : Value := .pointer (some ⟨b, 0, none⟩)
theorem Try.ia104 (t : Tmps) (w : AW) (x y : Operand) : fast (prg Try.prog) t w (.indexAddr 104 x y) = indexA 1 5 (ev t x) (ev t y) := fast_indexAddrA Try.ty104 Try.ty3
theorem Try.lk99 (t : Tmps) (w : AW) (x k : Operand) : fast (prg Try.prog) t w (.lookup 99 x k true) = lookupA Try.prog w 104 (.array 5 3) (.int .i64 0) (ev t x) (ev t k) true := by
  simp only [fast, Try.ty99, Try.ty104, Try.ty3, simpleKey]; rfl
theorem Try.bd104 (t : Tmps) (w : AW) : fast (prg Try.prog) t w (.build 104 ⟨[]⟩) = some (.agg #[.int .i64 0, .int .i64 0, .int .i64 0, .int .i64 0, .int .i64 0]) := by kernel_rfl
attribute [go_sem] Try.ia104 Try.lk99 Try.bd104
theorem isPeriod_ok (n : Int) (w : AW) : CallT Try.prog Try.T1 (.fn (.func 120) #[]) #[.int .i64 n] w (Ret (.bool (inR 1 n 8)) fun w' => w = w') := by
  refine callT_code rfl Try.func120 rfl Try.s120_eq rfl ?_
  unfold Try.s120
  simp -dsimp -implicitDefEqProofs (maxSteps := 2000000) (disch := first | assumption | omega | (simp only [nx]; omega) | ((repeat refine Fresh.push ?_ _); assumption) | (simp only [smA]; done) | (simp [oneCell, AW.next_push]; done) | fail) only [go_sem, Nat.reduceEqDiff, reduceIte, Nat.reduceAdd, Int.toNat_natCast, Nat.add_zero, Owes_true, Try.results120]
  apply callV_of (e := rfl)
  · exact within_ok _ _ _ _
  rintro _ _ ⟨rfl, rfl⟩
  simp -dsimp -implicitDefEqProofs (maxSteps := 2000000) (disch := first | assumption | omega | (simp only [nx]; omega) | ((repeat refine Fresh.push ?_ _); assumption) | (simp only [smA]; done) | (simp [oneCell, AW.next_push]; done) | fail) only [go_sem, Nat.reduceEqDiff, reduceIte, Nat.reduceAdd, Int.toNat_natCast, Nat.add_zero, Owes_true, Try.results120]
  exact ⟨rfl, rfl⟩
theorem arePeriods_ok (L : List Int) (v : Value) (w : AW) (f : Fresh w) (hs : ArrOf w 1 icells v L) :
    CallT Try.prog Try.T1 (.fn (.func 95) #[]) #[v] w (Ret (.bool (perB L)) (Grown w)) := by
  obtain ⟨pp, cp, rfl, _⟩ := id hs.open
  have hs0 := same_fn0 120
  refine callT_code rfl Try.func95 rfl Try.s95_eq rfl ?_
  unfold Try.s95
  simp -dsimp -implicitDefEqProofs (maxSteps := 2000000) (disch := first | assumption | omega | (simp only [nx]; omega) | ((repeat refine Fresh.push ?_ _); assumption) | (simp only [smA]; done) | (simp [oneCell, AW.next_push]; done) | fail) only [go_sem, Nat.reduceEqDiff, reduceIte, Nat.reduceAdd, Int.toNat_natCast, Nat.add_zero, Owes_true, Try.results95]
  apply callV_of (e := rfl)
  · exact within_ok _ _ _ _
  rintro _ _ ⟨rfl, rfl⟩
  cases hr : inR 1 (L.length : Int) 5 with
  | false =>
    simp -dsimp -implicitDefEqProofs (maxSteps := 2000000) (disch := first | assumption | omega | (simp only [nx]; omega) | ((repeat refine Fresh.push ?_ _); assumption) | (simp only [smA]; done) | (simp [oneCell, AW.next_push]; done) | fail) only [go_sem, Nat.reduceEqDiff, reduceIte, Nat.reduceAdd, Int.toNat_natCast, Nat.add_zero, Owes_true, Try.results95, hs0]
    exact ⟨by simp [perB, hr], Grown.refl f⟩
  | true =>
    simp -dsimp -implicitDefEqProofs (maxSteps := 2000000) (disch := first | assumption | omega | (simp only [nx]; omega) | ((repeat refine Fresh.push ?_ _); assumption) | (simp only [smA]; done) | (simp [oneCell, AW.next_push]; done) | fail) only [go_sem, Nat.reduceEqDiff, reduceIte, Nat.reduceAdd, Int.toNat_natCast, Nat.add_zero, Owes_true, Try.results95, hs0]
    apply callV_of (e := rfl)
    · exact all_ok 120 #[] _ L _ w f ⟨hs0, fun n w' _ => isPeriod_ok n w'⟩ hs
    rintro _ w2 ⟨rfl, g⟩
    simp -dsimp -implicitDefEqProofs (maxSteps := 2000000) (disch := first | assumption | omega | (simp only [nx]; omega) | ((repeat refine Fresh.push ?_ _); assumption) | (simp only [smA]; done) | (simp [oneCell, AW.next_push]; done) | fail) only [go_sem, Nat.reduceEqDiff, reduceIte, Nat.reduceAdd, Int.toNat_natCast, Nat.add_zero, Owes_true, Try.results95]
    exact ⟨by simp [perB, hr], g⟩
def whl (p : Option Addr) (n c bm : Nat) : Value := .agg #[.slice p n c, .map (some bm)]
theorem wheelOf_ok (p : Option Addr) (n c : Nat) (w : AW) (f : Fresh w) : CallT Try.prog Try.T1 (.fn (.func 94) #[]) #[.slice p n c] w (fun v w' => ∃ bm, v = whl p n c bm ∧ w.next ≤ bm ∧ bm < w'.next ∧ MapAt w' bm (fun _ => none) ∧ Grown w w') := by
  have g1 := (Grown.refl f).push (.cells [.slice none 0 0, .map none] 101 w.next 0 0)
  have O1 := Own.new f 101 [.slice none 0 0, .map none]
  have g2 := g1.push (.map #[] 0)
  have O2 := O1.push (.map #[] 0)
  have nx1 : (w.push (.cells [.slice none 0 0, .map none] 101 w.next 0 0)).next = w.next + 1 := AW.next_push _ _
  have nx2 : ((w.push (.cells [.slice none 0 0, .map none] 101 w.next 0 0)).push (.map #[] 0)).next = w.next + 1 + 1 := by rw [AW.next_push, nx1]
  have hmp : ((w.push (.cells [.slice none 0 0, .map none] 101 w.next 0 0)).push (.map #[] 0)).blk (w.next + 1) = some (.map #[] 0) := by
    rw [AW.blk_push _ _ _ (Trie.in_ _) (Trie.in_ _), if_pos nx1.symm]
  have st := storeV_own (o := 0) (l := [.slice p n c, .map (some (w.next + 1))]) (size := 2) O2 rfl (by omega) (by simp) rfl
  have m := MutS.put (S := fun j => j = w.next) g2.2 rfl O2.lt (.cells [.slice p n c, .map (some (w.next + 1))] 101 w.next 0 0)
  have O3 := O2.put [.slice p n c, .map (some (w.next + 1))]
  have hcut : setsL [.slice none 0 0, .map none] 0 [.slice p n c, .map (some (w.next + 1))] = [.slice p n c, .map (some (w.next + 1))] := rfl
  rw [hcut] at st
  have hld := loadAll O3 (n := 2) rfl (by simp [oneCell])
  refine callT_code rfl Try.func94 rfl Try.s94_eq rfl ?_
  unfold Try.s94
  simp -dsimp -implicitDefEqProofs (maxSteps := 2000000) (disch := first | assumption | omega | (simp only [nx]; omega) | ((repeat refine Fresh.push ?_ _); assumption) | (simp only [smA]; done) | (simp [oneCell, AW.next_push]; done) | fail) only [go_sem, Nat.reduceEqDiff, reduceIte, Nat.reduceAdd, Int.toNat_natCast, Nat.add_zero, Owes_true, Try.results94, st, hld]
  refine ⟨w.next + 1, rfl, by omega, by first | omega | (rw [AW.next_put]; omega), map_new ?_, g2.1.trans (m.keep (fun j q => by omega) g2.1.next), m.fresh⟩
  rw [m.blk _ (by omega) (by omega)]; exact hmp
theorem isRoom_ok (p : Option Addr) (k c bm : Nat) (h1 : 1 ≤ k) (h2 : k ≤ 1000) (n : Int) (w : AW) (f : Fresh w) : CallT Try.prog Try.T1 (.fn (.func 96) #[]) #[whl p k c bm, .int .i64 n] w (Ret (.bool (inR 0 n ((k : Int) - 1))) (Grown w)) := by
  have g1 := (Grown.refl f).push (.cells [.slice p k c, .map (some bm)] 101 w.next 0 0)
  have O1 := Own.new f 101 [.slice p k c, .map (some bm)]
  have c0 := O1.cell (o := 0) rfl rfl
  unfold whl
  refine callT_code rfl Try.func96 rfl Try.s96_eq rfl ?_
  unfold Try.s96
  simp -dsimp -implicitDefEqProofs (maxSteps := 2000000) (disch := first | assumption | omega | (simp only [nx]; omega) | ((repeat refine Fresh.push ?_ _); assumption) | (simp only [smA]; done) | (simp [oneCell, AW.next_push]; done) | fail) only [go_sem, Nat.reduceEqDiff, reduceIte, Nat.reduceAdd, Int.toNat_natCast, Nat.add_zero, Owes_true, Try.results96, c0, Nat.zero_add]
  apply callV_of (e := rfl)
  · exact within_ok _ _ _ _
  rintro _ _ ⟨rfl, rfl⟩
  simp -dsimp -implicitDefEqProofs (maxSteps := 2000000) (disch := first | assumption | omega | (simp only [nx]; omega) | ((repeat refine Fresh.push ?_ _); assumption) | (simp only [smA]; done) | (simp [oneCell, AW.next_push]; done) | fail) only [go_sem, Nat.reduceEqDiff, reduceIte, Nat.reduceAdd, Int.toNat_natCast, Nat.add_zero, Owes_true, Try.results96]
  exact ⟨rfl, g1⟩
theorem set5 {w : AW} {b : Nat} {C : List Int} (f : Fresh w) (h : Own w b 104 (C.flatMap icells)) (hC : C.length = 5) {i : Nat} (hi : i < 5) (x : Int) :
    ∃ w', storeV w false 1 (.pointer (some ⟨b, i, none⟩)) (.int .i64 x) = some w' ∧ Own w' b 104 ((C.set i x).flatMap icells) ∧ MutS (fun j => j = b) w w' ∧ w'.next = w.next := by
  have st := storeV_own1 (o := i) (v := .int .i64 x) h (by rw [icells_flat_len, hC]; exact hi) rfl
  have O := h.put (setL (C.flatMap icells) i (.int .i64 x))
  have m := MutS.put (S := fun j => j = b) f rfl h.lt (.cells (setL (C.flatMap icells) i (.int .i64 x)) 104 b 0 0)
  rw [setL_ic] at st O m
  exact ⟨_, st, O, m, AW.next_put _ _ _⟩
theorem full5 {w : AW} {b : Nat} {c : List Value} {C : List Int} (f : Fresh w) (h : Own w b 104 c) (hc : c.length = 5) (hC : C.length = 5) :
    ∃ w', storeV w true 5 (.pointer (some ⟨b, 0, none⟩)) (.agg (C.flatMap icells).toArray) = some w' ∧ Own w' b 104 (C.flatMap icells) ∧ MutS (fun j => j = b) w w' ∧ w'.next = w.next := by
  have hpl : (C.flatMap icells).length = 5 := by rw [icells_flat_len, hC]
  have st := storeV_own (o := 0) (l := C.flatMap icells) (size := 5) h hpl (by omega) (by omega) (List.all_eq_true.2 (icells_ones _))
  have hcut : setsL c 0 (C.flatMap icells) = C.flatMap icells := by
    rw [setsL_cut _ _ _ (by omega), hpl, List.drop_eq_nil_of_le (by omega)]; simp
  rw [hcut] at st
  exact ⟨_, st, h.put _, MutS.put (S := fun j => j = b) f rfl h.lt _, AW.next_put _ _ _⟩
def partA (S a : List Int) (r : Int) (k : Nat) : List Int := (List.range 5).map fun i => if i < k then W (aftI S a r) i else W a i
theorem part_len (S a : List Int) (r : Int) (k : Nat) : (partA S a r k).length = 5 := by simp [partA]
theorem part_at {S a : List Int} {r : Int} {k i : Nat} (h : i < 5) : W (partA S a r k) i = if i < k then W (aftI S a r) i else W a i := by
  rw [W_at (by rw [part_len]; exact h)]; simp [partA]
theorem ext5 {a b : List Int} (ha : a.length = 5) (hb : b.length = 5) (h : ∀ i, i < 5 → W a i = W b i) : a = b := by
  refine List.ext_getElem (by omega) fun i h1 h2 => ?_
  have := h i (by omega)
  rw [W_at h1, W_at h2] at this
  exact this
theorem part_zero {S a : List Int} {r : Int} (ha : a.length = 5) : partA S a r 0 = a := ext5 (part_len _ _ _ _) ha fun i hi => by rw [part_at hi, if_neg (by omega)]
theorem part_all {S a : List Int} {r : Int} (hS : S.length ≤ 5) : partA S a r S.length = aftI S a r := ext5 (part_len _ _ _ _) (aft_len _ _ _) fun i hi => by
  rw [part_at hi]
  split
  · rfl
  · rename_i h; rw [aft_at hi, if_neg h]
theorem part_succ {S a : List Int} {r : Int} {k : Nat} (hk : k < 5) : (partA S a r k).set k (W (aftI S a r) k) = partA S a r (k + 1) := ext5 (by rw [List.length_set]; exact part_len _ _ _ _) (part_len _ _ _ _) fun i hi => by
  rw [W_set (by rw [part_len]; exact hk), part_at hi, part_at hi]
  by_cases e : i = k
  · subst e; rw [if_pos rfl, if_pos (by omega)]
  · rw [if_neg e]
    by_cases q : i < k
    · rw [if_pos q, if_pos (by omega)]
    · rw [if_neg q, if_neg (by omega)]
def keptTo (S a : List Int) (r : Int) (k : Nat) : Bool := (List.range k).all fun i => decide (W (aftI S a r) i < W S i)
theorem keptTo_succ (S a : List Int) (r : Int) (k : Nat) : keptTo S a r (k + 1) = (keptTo S a r k && decide (W (aftI S a r) k < W S k)) := by
  unfold keptTo; rw [List.range_succ, List.all_append]; simp
set_option maxHeartbeats 16000000 in
theorem after_ok (S a : List Int) (r : Int) (hS : S.length ≤ 5) (ha : a.length = 5) (hb : ∀ i, 0 ≤ W a i ∧ W a i ≤ 1000) (p : Option Addr) (c bm : Nat) (w : AW) (f : Fresh w) (hs : ArrOf w 1 icells (.slice p S.length c) S) :
    CallT Try.prog Try.T1 (.fn (.func 97) #[]) #[whl p S.length c bm, aV a, .int .i64 r] w (Ret (.tuple #[aV (aftI S a r), .bool (keptB S a r)]) (Grown w)) := by
  have g1 := (Grown.refl f).push (.cells [.slice p S.length c, .map (some bm)] 101 w.next 0 0)
  have O1 := Own.new f 101 [.slice p S.length c, .map (some bm)]
  have g2 := g1.push (.cells (a.flatMap icells) 104 (w.next + 1) 0 0)
  have O2 := Own.new g1.2 104 (a.flatMap icells)
  have g3 := g2.push (.cells [.int .i64 0, .int .i64 0, .int .i64 0, .int .i64 0, .int .i64 0] 104 (w.next + 1 + 1) 0 0)
  have O3 := Own.new g2.2 104 [.int .i64 0, .int .i64 0, .int .i64 0, .int .i64 0, .int .i64 0]
  simp only [AW.next_push] at O2 O3
  have O1' := (O1.push (.cells (a.flatMap icells) 104 (w.next + 1) 0 0)).push (.cells [.int .i64 0, .int .i64 0, .int .i64 0, .int .i64 0, .int .i64 0] 104 (w.next + 1 + 1) 0 0)
  have O2' := O2.push (.cells [.int .i64 0, .int .i64 0, .int .i64 0, .int .i64 0, .int .i64 0] 104 (w.next + 1 + 1) 0 0)
  have c0 := O1'.cell (o := 0) rfl rfl
  unfold whl aV
  refine callT_code rfl Try.func97 rfl Try.s97_eq rfl ?_
  unfold Try.s97
  simp -dsimp -implicitDefEqProofs (maxSteps := 2000000) (disch := first | assumption | omega | (simp only [nx]; omega) | ((repeat refine Fresh.push ?_ _); assumption) | (simp only [smA]; done) | (simp [oneCell, AW.next_push]; done) | fail) only [go_sem, Nat.reduceEqDiff, reduceIte, Nat.reduceAdd, Int.toNat_natCast, Nat.add_zero, Owes_true, Try.results97]
  generalize ((w.push (.cells [.slice p S.length c, .map (some bm)] 101 w.next 0 0)).push (.cells (a.flatMap icells) 104 (w.next + 1) 0 0)).push (.cells [.int .i64 0, .int .i64 0, .int .i64 0, .int .i64 0, .int .i64 0] 104 (w.next + 1 + 1) 0 0) = w3 at *
  try simp -dsimp -implicitDefEqProofs (maxSteps := 2000000) (disch := first | assumption | omega | (simp only [nx]; omega) | ((repeat refine Fresh.push ?_ _); assumption) | (simp only [smA]; done) | (simp [oneCell, AW.next_push]; done) | fail) only [go_sem, Nat.reduceEqDiff, reduceIte, Nat.reduceAdd, Int.toNat_natCast, Nat.add_zero, Owes_true, Try.results97, c0, Nat.zero_add]
  have hk3 := g3.1
  have hf3 := g3.2
  rw [← part_zero (S := S) (r := r) ha] at O2'
  obtain ⟨_, _, epd, _, _, hat⟩ := hs.open
  injection epd with epd1 epd2 epd3
  subst epd1 epd3
  refine loopR (fun k t ds w4 => ∃ i : Nat, i ≤ S.length ∧ k = S.length - i ∧ ds = [] ∧ ev t (.tmp 2) = .int .i64 r ∧ ev t (.tmp 4) = pt (w.next + 1) ∧ ev t (.tmp 6) = pt (w.next + 1 + 1) ∧ ev t (.tmp 8) = .bool (keptTo S a r i) ∧ ev t (.tmp 12) = .slice p S.length c ∧ ev t (.tmp 13) = .int .i64 (S.length : Int) ∧ ev t (.tmp 14) = .int .i64 (i : Int) ∧ Own w4 (w.next + 1) 104 ((partA S a r i).flatMap icells) ∧ Own w4 (w.next + 1 + 1) 104 [.int .i64 0, .int .i64 0, .int .i64 0, .int .i64 0, .int .i64 0] ∧ Keep w.next w w4 ∧ Fresh w4) (S.length) ?_ ?_
  · refine ⟨0, by omega, by omega, rfl, ?_, ?_, ?_, ?_, ?_, ?_, ?_, O2', O3, hk3, hf3⟩ <;> simp -dsimp -implicitDefEqProofs (maxSteps := 2000000) (disch := first | assumption | omega | (simp only [nx]; omega) | ((repeat refine Fresh.push ?_ _); assumption) | (simp only [smA]; done) | (simp [oneCell, AW.next_push]; done) | fail) only [go_sem, Nat.reduceEqDiff, reduceIte, Nat.reduceAdd, Int.toNat_natCast, Nat.add_zero, Owes_true] <;> rfl
  rintro k t ds w4 ⟨i, hii, rfl, rfl, e2, e4, e6, e8, e12, e13, e14, P2, P3, k4, f4⟩
  by_cases hlt : (i : Int) < (S.length : Int)
  case neg =>
    obtain rfl : i = S.length := by omega
    have hld := loadAll P2 (n := 5) (by rw [icells_flat_len, part_len]) (icells_ones _)
    rw [part_all hS] at hld
    obtain ⟨w5, st, P3', m5, n5⟩ := full5 f4 P3 rfl (C := aftI S a r) (aft_len _ _ _)
    have hld5 := loadAll P3' (n := 5) (by rw [icells_flat_len, aft_len]) (icells_ones _)
    simp -dsimp -implicitDefEqProofs (maxSteps := 2000000) (disch := first | assumption | omega | (simp only [nx]; omega) | ((repeat refine Fresh.push ?_ _); assumption) | (simp only [smA]; done) | (simp [oneCell, AW.next_push]; done) | fail) only [go_sem, Nat.reduceEqDiff, reduceIte, Nat.reduceAdd, Int.toNat_natCast, Nat.add_zero, Owes_true, Try.results97, e4, e6, e8, e12, e13, e14, hlt, hld, st, hld5]
    exact ⟨rfl, k4.trans (m5.keep (fun j q => by omega) k4.next), m5.fresh⟩
  have hlt' : i < S.length := by omega
  obtain ⟨b1, o1, rfl, hb1, hcell⟩ := hat i hlt'
  have a0 := hcell w4 k4 0 _ rfl
  rw [Nat.add_zero, ← W_at hlt'] at a0
  have cP := P2.icell (i := i) (by rw [part_len]; omega)
  rw [part_at (by omega), if_neg (by omega)] at cP
  have iP : indexA 1 5 (pt (w.next + 1)) (.int .i64 (i : Int)) = some (.pointer (some ⟨w.next + 1, i, none⟩)) := by rw [indexA_eq (by omega)]; simp
  have hbi := hb i
  obtain ⟨w5, s5, P25, m5, n5⟩ := set5 f4 P2 (part_len _ _ _ _) (i := i) (by omega) (W a i + 1)
  have P35 := m5.own P3 (by omega)
  have k5 := k4.trans (m5.keep (B := w.next) (fun j q => by omega) k4.next)
  have haf := aft_at (S := S) (a := a) (r := r) (i := i) (by omega)
  rw [if_pos hlt'] at haf
  have c5 := P25.icell (i := i) (by rw [List.length_set, part_len]; omega)
  rw [W_set (by rw [part_len]; omega), if_pos rfl] at c5
  have hks := keptTo_succ S a r i
  by_cases hir : (i : Int) = r
  · have hd : decide ((i : Int) = r) = true := decide_eq_true hir
    rw [if_pos hir] at haf
    obtain ⟨w6, s6, P26, m6, n6⟩ := set5 m5.fresh P25 (by rw [List.length_set]; exact part_len _ _ _ _) (i := i) (by omega) 0
    have P36 := m6.own P35 (by omega)
    have k6 := k5.trans (m6.keep (B := w.next) (fun j q => by omega) k5.next)
    have c6 := P26.icell (i := i) (by rw [List.length_set, List.length_set, part_len]; omega)
    rw [W_set (by rw [List.length_set, part_len]; omega), if_pos rfl] at c6
    rw [List.set_set, ← haf, part_succ (by omega)] at P26
    rw [haf] at hks
    cases hkt : keptTo S a r i with
    | false =>
      rw [hkt] at hks e8
      simp -dsimp -implicitDefEqProofs (maxSteps := 2000000) (disch := first | assumption | omega | (simp only [nx]; omega) | ((repeat refine Fresh.push ?_ _); assumption) | (simp only [smA]; done) | (simp [oneCell, AW.next_push]; done) | fail) only [go_sem, Nat.reduceEqDiff, reduceIte, Nat.reduceAdd, Int.toNat_natCast, Nat.add_zero, Owes_true, Try.results97, e2, e4, e6, e8, e12, e13, e14, hlt, indexV_eq, a0, cP, iP, s5, hd, s6, c6]
      refine ⟨_, by omega, i + 1, by omega, rfl, rfl, by (simp -dsimp -implicitDefEqProofs (maxSteps := 2000000) (disch := first | assumption | omega | (simp only [nx]; omega) | ((repeat refine Fresh.push ?_ _); assumption) | (simp only [smA]; done) | (simp [oneCell, AW.next_push]; done) | fail) only [go_sem, Nat.reduceEqDiff, reduceIte, Nat.reduceAdd, Int.toNat_natCast, Nat.add_zero, Owes_true, e2, hks]; try rfl), by (simp -dsimp -implicitDefEqProofs (maxSteps := 2000000) (disch := first | assumption | omega | (simp only [nx]; omega) | ((repeat refine Fresh.push ?_ _); assumption) | (simp only [smA]; done) | (simp [oneCell, AW.next_push]; done) | fail) only [go_sem, Nat.reduceEqDiff, reduceIte, Nat.reduceAdd, Int.toNat_natCast, Nat.add_zero, Owes_true, e4, hks]; try rfl), by (simp -dsimp -implicitDefEqProofs (maxSteps := 2000000) (disch := first | assumption | omega | (simp only [nx]; omega) | ((repeat refine Fresh.push ?_ _); assumption) | (simp only [smA]; done) | (simp [oneCell, AW.next_push]; done) | fail) only [go_sem, Nat.reduceEqDiff, reduceIte, Nat.reduceAdd, Int.toNat_natCast, Nat.add_zero, Owes_true, e6, hks]; try rfl), by (simp -dsimp -implicitDefEqProofs (maxSteps := 2000000) (disch := first | assumption | omega | (simp only [nx]; omega) | ((repeat refine Fresh.push ?_ _); assumption) | (simp only [smA]; done) | (simp [oneCell, AW.next_push]; done) | fail) only [go_sem, Nat.reduceEqDiff, reduceIte, Nat.reduceAdd, Int.toNat_natCast, Nat.add_zero, Owes_true, e8, hks]; try rfl), by (simp -dsimp -implicitDefEqProofs (maxSteps := 2000000) (disch := first | assumption | omega | (simp only [nx]; omega) | ((repeat refine Fresh.push ?_ _); assumption) | (simp only [smA]; done) | (simp [oneCell, AW.next_push]; done) | fail) only [go_sem, Nat.reduceEqDiff, reduceIte, Nat.reduceAdd, Int.toNat_natCast, Nat.add_zero, Owes_true, e12, hks]; try rfl), by (simp -dsimp -implicitDefEqProofs (maxSteps := 2000000) (disch := first | assumption | omega | (simp only [nx]; omega) | ((repeat refine Fresh.push ?_ _); assumption) | (simp only [smA]; done) | (simp [oneCell, AW.next_push]; done) | fail) only [go_sem, Nat.reduceEqDiff, reduceIte, Nat.reduceAdd, Int.toNat_natCast, Nat.add_zero, Owes_true, e13, hks]; try rfl), by (simp -dsimp -implicitDefEqProofs (maxSteps := 2000000) (disch := first | assumption | omega | (simp only [nx]; omega) | ((repeat refine Fresh.push ?_ _); assumption) | (simp only [smA]; done) | (simp [oneCell, AW.next_push]; done) | fail) only [go_sem, Nat.reduceEqDiff, reduceIte, Nat.reduceAdd, Int.toNat_natCast, Nat.add_zero, Owes_true, e14, hks]; try rfl), P26, P36, k6, m6.fresh⟩
    | true =>
      rw [hkt] at hks e8
      simp -dsimp -implicitDefEqProofs (maxSteps := 2000000) (disch := first | assumption | omega | (simp only [nx]; omega) | ((repeat refine Fresh.push ?_ _); assumption) | (simp only [smA]; done) | (simp [oneCell, AW.next_push]; done) | fail) only [go_sem, Nat.reduceEqDiff, reduceIte, Nat.reduceAdd, Int.toNat_natCast, Nat.add_zero, Owes_true, Try.results97, e2, e4, e6, e8, e12, e13, e14, hlt, indexV_eq, a0, cP, iP, s5, hd, s6, c6]
      refine ⟨_, by omega, i + 1, by omega, rfl, rfl, by (simp -dsimp -implicitDefEqProofs (maxSteps := 2000000) (disch := first | assumption | omega | (simp only [nx]; omega) | ((repeat refine Fresh.push ?_ _); assumption) | (simp only [smA]; done) | (simp [oneCell, AW.next_push]; done) | fail) only [go_sem, Nat.reduceEqDiff, reduceIte, Nat.reduceAdd, Int.toNat_natCast, Nat.add_zero, Owes_true, e2, hks]; try rfl), by (simp -dsimp -implicitDefEqProofs (maxSteps := 2000000) (disch := first | assumption | omega | (simp only [nx]; omega) | ((repeat refine Fresh.push ?_ _); assumption) | (simp only [smA]; done) | (simp [oneCell, AW.next_push]; done) | fail) only [go_sem, Nat.reduceEqDiff, reduceIte, Nat.reduceAdd, Int.toNat_natCast, Nat.add_zero, Owes_true, e4, hks]; try rfl), by (simp -dsimp -implicitDefEqProofs (maxSteps := 2000000) (disch := first | assumption | omega | (simp only [nx]; omega) | ((repeat refine Fresh.push ?_ _); assumption) | (simp only [smA]; done) | (simp [oneCell, AW.next_push]; done) | fail) only [go_sem, Nat.reduceEqDiff, reduceIte, Nat.reduceAdd, Int.toNat_natCast, Nat.add_zero, Owes_true, e6, hks]; try rfl), by (simp -dsimp -implicitDefEqProofs (maxSteps := 2000000) (disch := first | assumption | omega | (simp only [nx]; omega) | ((repeat refine Fresh.push ?_ _); assumption) | (simp only [smA]; done) | (simp [oneCell, AW.next_push]; done) | fail) only [go_sem, Nat.reduceEqDiff, reduceIte, Nat.reduceAdd, Int.toNat_natCast, Nat.add_zero, Owes_true, e8, hks]; try rfl), by (simp -dsimp -implicitDefEqProofs (maxSteps := 2000000) (disch := first | assumption | omega | (simp only [nx]; omega) | ((repeat refine Fresh.push ?_ _); assumption) | (simp only [smA]; done) | (simp [oneCell, AW.next_push]; done) | fail) only [go_sem, Nat.reduceEqDiff, reduceIte, Nat.reduceAdd, Int.toNat_natCast, Nat.add_zero, Owes_true, e12, hks]; try rfl), by (simp -dsimp -implicitDefEqProofs (maxSteps := 2000000) (disch := first | assumption | omega | (simp only [nx]; omega) | ((repeat refine Fresh.push ?_ _); assumption) | (simp only [smA]; done) | (simp [oneCell, AW.next_push]; done) | fail) only [go_sem, Nat.reduceEqDiff, reduceIte, Nat.reduceAdd, Int.toNat_natCast, Nat.add_zero, Owes_true, e13, hks]; try rfl), by (simp -dsimp -implicitDefEqProofs (maxSteps := 2000000) (disch := first | assumption | omega | (simp only [nx]; omega) | ((repeat refine Fresh.push ?_ _); assumption) | (simp only [smA]; done) | (simp [oneCell, AW.next_push]; done) | fail) only [go_sem, Nat.reduceEqDiff, reduceIte, Nat.reduceAdd, Int.toNat_natCast, Nat.add_zero, Owes_true, e14, hks]; try rfl), P26, P36, k6, m6.fresh⟩
  · have hd : decide ((i : Int) = r) = false := decide_eq_false hir
    rw [if_neg hir] at haf
    rw [← haf, part_succ (by omega)] at P25
    rw [haf] at hks
    cases hkt : keptTo S a r i with
    | false =>
      rw [hkt] at hks e8
      simp -dsimp -implicitDefEqProofs (maxSteps := 2000000) (disch := first | assumption | omega | (simp only [nx]; omega) | ((repeat refine Fresh.push ?_ _); assumption) | (simp only [smA]; done) | (simp [oneCell, AW.next_push]; done) | fail) only [go_sem, Nat.reduceEqDiff, reduceIte, Nat.reduceAdd, Int.toNat_natCast, Nat.add_zero, Owes_true, Try.results97, e2, e4, e6, e8, e12, e13, e14, hlt, indexV_eq, a0, cP, iP, s5, hd, c5]
      refine ⟨_, by omega, i + 1, by omega, rfl, rfl, by (simp -dsimp -implicitDefEqProofs (maxSteps := 2000000) (disch := first | assumption | omega | (simp only [nx]; omega) | ((repeat refine Fresh.push ?_ _); assumption) | (simp only [smA]; done) | (simp [oneCell, AW.next_push]; done) | fail) only [go_sem, Nat.reduceEqDiff, reduceIte, Nat.reduceAdd, Int.toNat_natCast, Nat.add_zero, Owes_true, e2, hks]; try rfl), by (simp -dsimp -implicitDefEqProofs (maxSteps := 2000000) (disch := first | assumption | omega | (simp only [nx]; omega) | ((repeat refine Fresh.push ?_ _); assumption) | (simp only [smA]; done) | (simp [oneCell, AW.next_push]; done) | fail) only [go_sem, Nat.reduceEqDiff, reduceIte, Nat.reduceAdd, Int.toNat_natCast, Nat.add_zero, Owes_true, e4, hks]; try rfl), by (simp -dsimp -implicitDefEqProofs (maxSteps := 2000000) (disch := first | assumption | omega | (simp only [nx]; omega) | ((repeat refine Fresh.push ?_ _); assumption) | (simp only [smA]; done) | (simp [oneCell, AW.next_push]; done) | fail) only [go_sem, Nat.reduceEqDiff, reduceIte, Nat.reduceAdd, Int.toNat_natCast, Nat.add_zero, Owes_true, e6, hks]; try rfl), by (simp -dsimp -implicitDefEqProofs (maxSteps := 2000000) (disch := first | assumption | omega | (simp only [nx]; omega) | ((repeat refine Fresh.push ?_ _); assumption) | (simp only [smA]; done) | (simp [oneCell, AW.next_push]; done) | fail) only [go_sem, Nat.reduceEqDiff, reduceIte, Nat.reduceAdd, Int.toNat_natCast, Nat.add_zero, Owes_true, e8, hks]; try rfl), by (simp -dsimp -implicitDefEqProofs (maxSteps := 2000000) (disch := first | assumption | omega | (simp only [nx]; omega) | ((repeat refine Fresh.push ?_ _); assumption) | (simp only [smA]; done) | (simp [oneCell, AW.next_push]; done) | fail) only [go_sem, Nat.reduceEqDiff, reduceIte, Nat.reduceAdd, Int.toNat_natCast, Nat.add_zero, Owes_true, e12, hks]; try rfl), by (simp -dsimp -implicitDefEqProofs (maxSteps := 2000000) (disch := first | assumption | omega | (simp only [nx]; omega) | ((repeat refine Fresh.push ?_ _); assumption) | (simp only [smA]; done) | (simp [oneCell, AW.next_push]; done) | fail) only [go_sem, Nat.reduceEqDiff, reduceIte, Nat.reduceAdd, Int.toNat_natCast, Nat.add_zero, Owes_true, e13, hks]; try rfl), by (simp -dsimp -implicitDefEqProofs (maxSteps := 2000000) (disch := first | assumption | omega | (simp only [nx]; omega) | ((repeat refine Fresh.push ?_ _); assumption) | (simp only [smA]; done) | (simp [oneCell, AW.next_push]; done) | fail) only [go_sem, Nat.reduceEqDiff, reduceIte, Nat.reduceAdd, Int.toNat_natCast, Nat.add_zero, Owes_true, e14, hks]; try rfl), P25, P35, k5, m5.fresh⟩
    | true =>
      rw [hkt] at hks e8
      simp -dsimp -implicitDefEqProofs (maxSteps := 2000000) (disch := first | assumption | omega | (simp only [nx]; omega) | ((repeat refine Fresh.push ?_ _); assumption) | (simp only [smA]; done) | (simp [oneCell, AW.next_push]; done) | fail) only [go_sem, Nat.reduceEqDiff, reduceIte, Nat.reduceAdd, Int.toNat_natCast, Nat.add_zero, Owes_true, Try.results97, e2, e4, e6, e8, e12, e13, e14, hlt, indexV_eq, a0, cP, iP, s5, hd, c5]
      refine ⟨_, by omega, i + 1, by omega, rfl, rfl, by (simp -dsimp -implicitDefEqProofs (maxSteps := 2000000) (disch := first | assumption | omega | (simp only [nx]; omega) | ((repeat refine Fresh.push ?_ _); assumption) | (simp only [smA]; done) | (simp [oneCell, AW.next_push]; done) | fail) only [go_sem, Nat.reduceEqDiff, reduceIte, Nat.reduceAdd, Int.toNat_natCast, Nat.add_zero, Owes_true, e2, hks]; try rfl), by (simp -dsimp -implicitDefEqProofs (maxSteps := 2000000) (disch := first | assumption | omega | (simp only [nx]; omega) | ((repeat refine Fresh.push ?_ _); assumption) | (simp only [smA]; done) | (simp [oneCell, AW.next_push]; done) | fail) only [go_sem, Nat.reduceEqDiff, reduceIte, Nat.reduceAdd, Int.toNat_natCast, Nat.add_zero, Owes_true, e4, hks]; try rfl), by (simp -dsimp -implicitDefEqProofs (maxSteps := 2000000) (disch := first | assumption | omega | (simp only [nx]; omega) | ((repeat refine Fresh.push ?_ _); assumption) | (simp only [smA]; done) | (simp [oneCell, AW.next_push]; done) | fail) only [go_sem, Nat.reduceEqDiff, reduceIte, Nat.reduceAdd, Int.toNat_natCast, Nat.add_zero, Owes_true, e6, hks]; try rfl), by (simp -dsimp -implicitDefEqProofs (maxSteps := 2000000) (disch := first | assumption | omega | (simp only [nx]; omega) | ((repeat refine Fresh.push ?_ _); assumption) | (simp only [smA]; done) | (simp [oneCell, AW.next_push]; done) | fail) only [go_sem, Nat.reduceEqDiff, reduceIte, Nat.reduceAdd, Int.toNat_natCast, Nat.add_zero, Owes_true, e8, hks]; try rfl), by (simp -dsimp -implicitDefEqProofs (maxSteps := 2000000) (disch := first | assumption | omega | (simp only [nx]; omega) | ((repeat refine Fresh.push ?_ _); assumption) | (simp only [smA]; done) | (simp [oneCell, AW.next_push]; done) | fail) only [go_sem, Nat.reduceEqDiff, reduceIte, Nat.reduceAdd, Int.toNat_natCast, Nat.add_zero, Owes_true, e12, hks]; try rfl), by (simp -dsimp -implicitDefEqProofs (maxSteps := 2000000) (disch := first | assumption | omega | (simp only [nx]; omega) | ((repeat refine Fresh.push ?_ _); assumption) | (simp only [smA]; done) | (simp [oneCell, AW.next_push]; done) | fail) only [go_sem, Nat.reduceEqDiff, reduceIte, Nat.reduceAdd, Int.toNat_natCast, Nat.add_zero, Owes_true, e13, hks]; try rfl), by (simp -dsimp -implicitDefEqProofs (maxSteps := 2000000) (disch := first | assumption | omega | (simp only [nx]; omega) | ((repeat refine Fresh.push ?_ _); assumption) | (simp only [smA]; done) | (simp [oneCell, AW.next_push]; done) | fail) only [go_sem, Nat.reduceEqDiff, reduceIte, Nat.reduceAdd, Int.toNat_natCast, Nat.add_zero, Owes_true, e14, hks]; try rfl), P25, P35, k5, m5.fresh⟩
end Go.Proofs

namespace Go.Proofs
open Go Go.RowKit Go.Sim
set_option maxRecDepth 100000
set_option maxHeartbeats 32000000 in
theorem lasts_ok {S : List Int} (hS : perB S = true) {W1 : AW} {p : Option Addr} {c bm : Nat} (hs : ArrOf W1 1 icells (.slice p S.length c) S) (hbm : W1.next ≤ bm) :
    ∀ (N : Nat) (M : MemoA) (K : List (List Int)) (a : List Int) (w : AW), cntN M < N → StOk S a → InvM S M K → LeadS S K a → Fresh w → Keep W1.next W1 w → bm < w.next → MapAt w bm M →
    CallT Try.prog Try.T1 (.fn (.func 100) #[]) #[whl p S.length c bm, aV a] w (fun v w' => ∃ x M', v = .int .i64 x ∧ LastP S a M' x ∧ ExtM M M' ∧ InvM S M' K ∧ MapAt w' bm M' ∧ MutS (fun j => j = bm) w w') := by
  intro N
  induction N with
  | zero =>
    intro M K a w hN
    omega
  | succ N ih =>
    intro M K a w hN ha hI hL f hk hb hM
    have h5 := (perB_iff.1 hS).1
    have g1 := (Grown.refl f).push (.cells [.slice p S.length c, .map (some bm)] 101 w.next 0 0)
    have O1 := Own.new f 101 [.slice p S.length c, .map (some bm)]
    have g2 := g1.push (.cells (a.flatMap icells) 104 (w.next + 1) 0 0)
    have O2 := Own.new g1.2 104 (a.flatMap icells)
    simp only [AW.next_push] at O2
    have O1' := O1.push (.cells (a.flatMap icells) 104 (w.next + 1) 0 0)
    have nx2 : ((w.push (.cells [.slice p S.length c, .map (some bm)] 101 w.next 0 0)).push (.cells (a.flatMap icells) 104 (w.next + 1) 0 0)).next = w.next + 1 + 1 := by simp only [AW.next_push]
    have hM2 : MapAt _ bm M := hM.blk (g2.1.blk bm hb)
    have c1 := O1'.cell (o := 1) rfl rfl
    have hld := loadAll O2 (n := 5) (by rw [icells_flat_len, ha.len]) (icells_ones _)
    have hb2 : bm < ((w.push (.cells [.slice p S.length c, .map (some bm)] 101 w.next 0 0)).push (.cells (a.flatMap icells) 104 (w.next + 1) 0 0)).next := by omega
    unfold whl aV
    refine callT_code rfl Try.func100 rfl Try.s100_eq rfl ?_
    unfold Try.s100
    rcases hM2.lookup ha.len with ⟨n, hMa, hlk⟩ | ⟨hMa, hlk⟩
    · unfold aV at hlk
      simp -dsimp -implicitDefEqProofs (maxSteps := 2000000) (disch := first | assumption | omega | (simp only [nx]; omega) | ((repeat refine Fresh.push ?_ _); assumption) | (simp only [smA]; done) | (simp [oneCell, AW.next_push]; done) | fail) only [go_sem, Nat.reduceEqDiff, reduceIte, Nat.reduceAdd, Int.toNat_natCast, Nat.add_zero, Owes_true, Try.results100, c1, hld, hlk, Nat.zero_add]
      exact ⟨n, M, rfl, last_known hI hL hMa, ExtM.refl _, hI, hM2, MutS.of g2⟩
    obtain ⟨w3, hup, hM3, m3, n3⟩ := hM2.update g2.2 hb2 ha.len FV
    unfold aV at hlk hup
    have O13 := m3.own O1' (by omega)
    have O23 := m3.own O2 (by omega)
    have m03 : MutS (fun j => j = bm) w w3 := (MutS.of g2).trans m3 (Within.refl _ _)
    have c0 := O13.cell (o := 0) rfl rfl
    unfold FV at hup
    simp -dsimp -implicitDefEqProofs (maxSteps := 2000000) (disch := first | assumption | omega | (simp only [nx]; omega) | ((repeat refine Fresh.push ?_ _); assumption) | (simp only [smA]; done) | (simp [oneCell, AW.next_push]; done) | fail) only [go_sem, Nat.reduceEqDiff, reduceIte, Nat.reduceAdd, Int.toNat_natCast, Nat.add_zero, Owes_true, Try.results100, c1, hld, hlk, hup, c0, Nat.zero_add]
    have hN3 : cntN (putM M a FV) < N := by have := put_cntN FV hMa (st_mem hS ha); omega
    have hI3 := inv_push hI hMa
    refine loopR (fun k t ds w4 => ∃ i : Nat, i ≤ S.length ∧ k = S.length - i ∧ ds = [] ∧ ev t (.tmp 2) = pt w.next ∧ ev t (.tmp 3) = pt (w.next + 1) ∧ ev t (.tmp 25) = .slice p S.length c ∧ ev t (.tmp 26) = .int .i64 (S.length : Int) ∧ ev t (.tmp 27) = .int .i64 (i : Int) ∧ ∃ (M2 : MemoA) (mm : Nat), ev t (.tmp 7) = .int .i64 (mm : Int) ∧ MostTo S a i mm ∧ mm ≤ cntF M2 + 1 ∧ ExtM (putM M a FV) M2 ∧ InvM S M2 (a :: K) ∧ MapAt w4 bm M2 ∧ Own w4 w.next 101 [.slice p S.length c, .map (some bm)] ∧ Own w4 (w.next + 1) 104 (a.flatMap icells) ∧ MutS (fun j => j = bm) w w4) (S.length) ?_ ?_
    · refine ⟨0, by omega, by omega, rfl, ?_, ?_, ?_, ?_, ?_, putM M a FV, 0, by simp -dsimp -implicitDefEqProofs (maxSteps := 2000000) (disch := first | assumption | omega | (simp only [nx]; omega) | ((repeat refine Fresh.push ?_ _); assumption) | (simp only [smA]; done) | (simp [oneCell, AW.next_push]; done) | fail) only [go_sem, Nat.reduceEqDiff, reduceIte, Nat.reduceAdd, Int.toNat_natCast, Nat.add_zero, Owes_true]; rfl, most_zero S a, by omega, ExtM.refl _, hI3, hM3, O13, O23, m03⟩ <;> simp -dsimp -implicitDefEqProofs (maxSteps := 2000000) (disch := first | assumption | omega | (simp only [nx]; omega) | ((repeat refine Fresh.push ?_ _); assumption) | (simp only [smA]; done) | (simp [oneCell, AW.next_push]; done) | fail) only [go_sem, Nat.reduceEqDiff, reduceIte, Nat.reduceAdd, Int.toNat_natCast, Nat.add_zero, Owes_true] <;> rfl
    rintro k t ds w4 ⟨i, hii, rfl, rfl, e2, e3, e25, e26, e27, M2, mm, e7, hmo, hmc, hE, hI4, hM4, P1, P2, m04⟩
    have f4 := m04.fresh
    have hb4 : bm < w4.next := by have := m04.next; omega
    have hcf := cntF_le M2
    by_cases hlt : (i : Int) < (S.length : Int)
    case neg =>
      obtain rfl : i = S.length := by omega
      have hmax := most_all hmo
      have hMa2 : M2 a = some FV := hE a FV (putM_at _ _ _)
      have hv : (mm : Int) ≠ FV := fv_big (by omega)
      have hcl := put_cntF hv hMa2 (st_mem hS ha)
      obtain ⟨w5, hup5, hM5, m5, n5⟩ := hM4.update f4 hb4 ha.len (mm : Int)
      unfold aV at hup5
      have d1 := P1.cell (o := 1) rfl rfl
      have hld4 := loadAll P2 (n := 5) (by rw [icells_flat_len, ha.len]) (icells_ones _)
      simp -dsimp -implicitDefEqProofs (maxSteps := 2000000) (disch := first | assumption | omega | (simp only [nx]; omega) | ((repeat refine Fresh.push ?_ _); assumption) | (simp only [smA]; done) | (simp [oneCell, AW.next_push]; done) | fail) only [go_sem, Nat.reduceEqDiff, reduceIte, Nat.reduceAdd, Int.toNat_natCast, Nat.add_zero, Owes_true, Try.results100, e2, e3, e7, e25, e26, e27, hlt, d1, hld4, hup5, Nat.zero_add]
      refine ⟨mm, putM M2 a mm, rfl, .inr ⟨hv, by omega, by omega, by simpa using hmax⟩, fun x v hx => ?_, inv_pop hI4 hmax hv (by omega) (by omega), hM5, m04.trans m5 (Within.refl _ _)⟩
      have hne : x ≠ a := fun z => by subst z; rw [hMa] at hx; cases hx
      rw [putM_ne _ hne]
      exact hE x v (by rw [putM_ne _ hne]; exact hx)
    have hlt' : i < S.length := by omega
    have hldw := loadAll P1 (n := 2) rfl (by simp [oneCell])
    have hlda := loadAll P2 (n := 5) (by rw [icells_flat_len, ha.len]) (icells_ones _)
    have hk4 : Keep W1.next W1 w4 := hk.trans (m04.keep (fun j q => by omega) hk.next)
    have haf := after_ok S a (i : Int) h5.2 ha.len (fun j => by have := st_in hS ha j; omega) p c bm w4 f4 (hs.kept hk4)
    unfold whl aV at haf
    simp -dsimp -implicitDefEqProofs (maxSteps := 2000000) (disch := first | assumption | omega | (simp only [nx]; omega) | ((repeat refine Fresh.push ?_ _); assumption) | (simp only [smA]; done) | (simp [oneCell, AW.next_push]; done) | fail) only [go_sem, Nat.reduceEqDiff, reduceIte, Nat.reduceAdd, Int.toNat_natCast, Nat.add_zero, Owes_true, Try.results100, e2, e3, e7, e25, e26, e27, hlt, hldw, hlda, Nat.zero_add]
    apply callV_of (e := rfl)
    · exact haf
    rintro _ w5 ⟨rfl, g5⟩
    have g6 := (Grown.refl g5.2).push (.cells [.int .i64 0, .int .i64 0, .int .i64 0, .int .i64 0, .int .i64 0] 104 w5.next 0 0)
    have O6 := Own.new g5.2 104 [.int .i64 0, .int .i64 0, .int .i64 0, .int .i64 0, .int .i64 0]
    obtain ⟨w7, st7, O7, m7, n7⟩ := full5 g6.2 O6 rfl (C := aftI S a (i : Int)) (aft_len _ _ _)
    have hkn5 := g5.1.next
    have m47 : MutS (fun j => j = bm) w4 w7 := ((MutS.of g5).trans (MutS.of g6) (Within.refl _ _)).trans m7 (fun j q => .inr (by omega))
    have m07 := m04.trans m47 (Within.refl _ _)
    have P17 := m47.own P1 (by omega)
    have P27 := m47.own P2 (by omega)
    have hM7 : MapAt w7 bm M2 := hM4.blk (by rw [m7.blk _ (by have := g6.1.next; omega) (by omega), g6.1.blk _ (by omega), g5.1.blk _ hb4])
    simp -dsimp -implicitDefEqProofs (maxSteps := 2000000) (disch := first | assumption | omega | (simp only [nx]; omega) | ((repeat refine Fresh.push ?_ _); assumption) | (simp only [smA]; done) | (simp [oneCell, AW.next_push]; done) | fail) only [go_sem, Nat.reduceEqDiff, reduceIte, Nat.reduceAdd, Int.toNat_natCast, Nat.add_zero, Owes_true, Try.results100, e2, e3, e7, e25, e26, e27, st7]
    cases hkp : keptB S a (i : Int) with
    | false =>
      simp -dsimp -implicitDefEqProofs (maxSteps := 2000000) (disch := first | assumption | omega | (simp only [nx]; omega) | ((repeat refine Fresh.push ?_ _); assumption) | (simp only [smA]; done) | (simp [oneCell, AW.next_push]; done) | fail) only [go_sem, Nat.reduceEqDiff, reduceIte, Nat.reduceAdd, Int.toNat_natCast, Nat.add_zero, Owes_true, Try.results100, e2, e3, e7, e25, e26, e27]
      refine ⟨_, by omega, i + 1, by omega, rfl, rfl, by (simp -dsimp -implicitDefEqProofs (maxSteps := 2000000) (disch := first | assumption | omega | (simp only [nx]; omega) | ((repeat refine Fresh.push ?_ _); assumption) | (simp only [smA]; done) | (simp [oneCell, AW.next_push]; done) | fail) only [go_sem, Nat.reduceEqDiff, reduceIte, Nat.reduceAdd, Int.toNat_natCast, Nat.add_zero, Owes_true, e2]; try rfl), by (simp -dsimp -implicitDefEqProofs (maxSteps := 2000000) (disch := first | assumption | omega | (simp only [nx]; omega) | ((repeat refine Fresh.push ?_ _); assumption) | (simp only [smA]; done) | (simp [oneCell, AW.next_push]; done) | fail) only [go_sem, Nat.reduceEqDiff, reduceIte, Nat.reduceAdd, Int.toNat_natCast, Nat.add_zero, Owes_true, e3]; try rfl), by (simp -dsimp -implicitDefEqProofs (maxSteps := 2000000) (disch := first | assumption | omega | (simp only [nx]; omega) | ((repeat refine Fresh.push ?_ _); assumption) | (simp only [smA]; done) | (simp [oneCell, AW.next_push]; done) | fail) only [go_sem, Nat.reduceEqDiff, reduceIte, Nat.reduceAdd, Int.toNat_natCast, Nat.add_zero, Owes_true, e25]; try rfl), by (simp -dsimp -implicitDefEqProofs (maxSteps := 2000000) (disch := first | assumption | omega | (simp only [nx]; omega) | ((repeat refine Fresh.push ?_ _); assumption) | (simp only [smA]; done) | (simp [oneCell, AW.next_push]; done) | fail) only [go_sem, Nat.reduceEqDiff, reduceIte, Nat.reduceAdd, Int.toNat_natCast, Nat.add_zero, Owes_true, e26]; try rfl), by (simp -dsimp -implicitDefEqProofs (maxSteps := 2000000) (disch := first | assumption | omega | (simp only [nx]; omega) | ((repeat refine Fresh.push ?_ _); assumption) | (simp only [smA]; done) | (simp [oneCell, AW.next_push]; done) | fail) only [go_sem, Nat.reduceEqDiff, reduceIte, Nat.reduceAdd, Int.toNat_natCast, Nat.add_zero, Owes_true, e27]; try rfl), M2, mm, (by simp -dsimp -implicitDefEqProofs (maxSteps := 2000000) (disch := first | assumption | omega | (simp only [nx]; omega) | ((repeat refine Fresh.push ?_ _); assumption) | (simp only [smA]; done) | (simp [oneCell, AW.next_push]; done) | fail) only [go_sem, Nat.reduceEqDiff, reduceIte, Nat.reduceAdd, Int.toNat_natCast, Nat.add_zero, Owes_true, e7]), most_skip hmo hkp, hmc, hE, hI4, hM7, P17, P27, m07⟩
    | true =>
    have hld7 := loadAll O7 (n := 5) (by rw [icells_flat_len, aft_len]) (icells_ones _)
    have hldw7 := loadAll P17 (n := 2) rfl (by simp [oneCell])
    have hrec := ih M2 (a :: K) (aftI S a (i : Int)) w7 (by have := hE.cntN; omega) (st_aft hS ha hkp) hI4 (lead_push hL ⟨by omega, by omega⟩ hkp) m07.fresh (hk.trans (m07.keep (fun j q => by omega) hk.next)) (by have := m07.next; omega) hM7
    unfold whl aV at hrec
    simp -dsimp -implicitDefEqProofs (maxSteps := 2000000) (disch := first | assumption | omega | (simp only [nx]; omega) | ((repeat refine Fresh.push ?_ _); assumption) | (simp only [smA]; done) | (simp [oneCell, AW.next_push]; done) | fail) only [go_sem, Nat.reduceEqDiff, reduceIte, Nat.reduceAdd, Int.toNat_natCast, Nat.add_zero, Owes_true, Try.results100, e2, e3, e7, e25, e26, e27, hld7, hldw7, Nat.zero_add]
    apply callV_of (e := rfl)
    · exact hrec
    rintro _ w8 ⟨x, M3, rfl, hLP, hE3, hI8, hM8, m78⟩
    have m08 := m07.trans m78 (Within.refl _ _)
    have P18 := m78.own P17 (by have := P17.lt; omega)
    have P28 := m78.own P27 (by have := P27.lt; omega)
    have hEE := hE.trans hE3
    rcases hLP with ⟨hx, hinf⟩ | ⟨hx, hx0, hxc, hxm⟩
    · have hd : decide (x = 9223372036854775807) = true := decide_eq_true hx
      have hia : infP S a := inf_path (t := [(i : Int)]) (run_cons.2 ⟨⟨by omega, by omega⟩, hkp, rfl⟩) rfl hinf
      simp -dsimp -implicitDefEqProofs (maxSteps := 2000000) (disch := first | assumption | omega | (simp only [nx]; omega) | ((repeat refine Fresh.push ?_ _); assumption) | (simp only [smA]; done) | (simp [oneCell, AW.next_push]; done) | fail) only [go_sem, Nat.reduceEqDiff, reduceIte, Nat.reduceAdd, Int.toNat_natCast, Nat.add_zero, Owes_true, Try.results100, e2, e3, e7, e25, e26, e27, hd]
      exact ⟨FV, M3, rfl, .inl ⟨rfl, hia⟩, (put_ext FV hMa).trans hEE, inv_pop_inf hI8 hia, hM8, m08⟩
    · have hd : decide (x = 9223372036854775807) = false := decide_eq_false hx
      have hcf3 := cntF_le M3
      have hcc := hE3.cntF
      have hmx : max (mm : Int) (x + 1) = ((max mm (x.toNat + 1) : Nat) : Int) := by omega
      simp -dsimp -implicitDefEqProofs (maxSteps := 2000000) (disch := first | assumption | omega | (simp only [nx]; omega) | ((repeat refine Fresh.push ?_ _); assumption) | (simp only [smA]; done) | (simp [oneCell, AW.next_push]; done) | fail) only [go_sem, Nat.reduceEqDiff, reduceIte, Nat.reduceAdd, Int.toNat_natCast, Nat.add_zero, Owes_true, Try.results100, e2, e3, e7, e25, e26, e27, hd, hmx]
      refine ⟨_, by omega, i + 1, by omega, rfl, rfl, by (simp -dsimp -implicitDefEqProofs (maxSteps := 2000000) (disch := first | assumption | omega | (simp only [nx]; omega) | ((repeat refine Fresh.push ?_ _); assumption) | (simp only [smA]; done) | (simp [oneCell, AW.next_push]; done) | fail) only [go_sem, Nat.reduceEqDiff, reduceIte, Nat.reduceAdd, Int.toNat_natCast, Nat.add_zero, Owes_true, e2]; try rfl), by (simp -dsimp -implicitDefEqProofs (maxSteps := 2000000) (disch := first | assumption | omega | (simp only [nx]; omega) | ((repeat refine Fresh.push ?_ _); assumption) | (simp only [smA]; done) | (simp [oneCell, AW.next_push]; done) | fail) only [go_sem, Nat.reduceEqDiff, reduceIte, Nat.reduceAdd, Int.toNat_natCast, Nat.add_zero, Owes_true, e3]; try rfl), by (simp -dsimp -implicitDefEqProofs (maxSteps := 2000000) (disch := first | assumption | omega | (simp only [nx]; omega) | ((repeat refine Fresh.push ?_ _); assumption) | (simp only [smA]; done) | (simp [oneCell, AW.next_push]; done) | fail) only [go_sem, Nat.reduceEqDiff, reduceIte, Nat.reduceAdd, Int.toNat_natCast, Nat.add_zero, Owes_true, e25]; try rfl), by (simp -dsimp -implicitDefEqProofs (maxSteps := 2000000) (disch := first | assumption | omega | (simp only [nx]; omega) | ((repeat refine Fresh.push ?_ _); assumption) | (simp only [smA]; done) | (simp [oneCell, AW.next_push]; done) | fail) only [go_sem, Nat.reduceEqDiff, reduceIte, Nat.reduceAdd, Int.toNat_natCast, Nat.add_zero, Owes_true, e26]; try rfl), by (simp -dsimp -implicitDefEqProofs (maxSteps := 2000000) (disch := first | assumption | omega | (simp only [nx]; omega) | ((repeat refine Fresh.push ?_ _); assumption) | (simp only [smA]; done) | (simp [oneCell, AW.next_push]; done) | fail) only [go_sem, Nat.reduceEqDiff, reduceIte, Nat.reduceAdd, Int.toNat_natCast, Nat.add_zero, Owes_true, e27]; try rfl), M3, max mm (x.toNat + 1), (by simp -dsimp -implicitDefEqProofs (maxSteps := 2000000) (disch := first | assumption | omega | (simp only [nx]; omega) | ((repeat refine Fresh.push ?_ _); assumption) | (simp only [smA]; done) | (simp [oneCell, AW.next_push]; done) | fail) only [go_sem, Nat.reduceEqDiff, reduceIte, Nat.reduceAdd, Int.toNat_natCast, Nat.add_zero, Owes_true, e7, hmx]), most_step hmo hlt' hkp hxm, (by omega), hEE, hI8, hM8, P18, P28, m08⟩
end Go.Proofs

namespace Go.Proofs
open Go Go.RowKit Go.Sim
set_option maxRecDepth 100000
theorem same_s10 (p : Option Addr) (n c : Nat) : same 10 (.slice p n c) (.slice p n c) = true := by
  cases p with
  | none => simp [same]
  | some a => obtain ⟨b, o, s⟩ := a; cases s <;> simp [same]
theorem same_whl (p : Option Addr) (m c bm : Nat) : same 11 (whl p m c bm) (whl p m c bm) = true := by unfold whl; simp [same, same.all, same_s10]
theorem same_fn96 (p : Option Addr) (m c bm : Nat) : same 12 (.func (.func 96) #[whl p m c bm] #[]) (.func (.func 96) #[whl p m c bm] #[]) = true := by
  have := same_whl p m c bm
  simp [same, same.all, this]
section
variable (p : Option Addr) (m c bm : Nat) (h1 : 1 ≤ m) (h2 : m ≤ 1000)
include h1 h2
theorem roomBad_ok (n : Int) (b : Nat) (w : AW) (f : Fresh w) (h : Own w b 79 [.func (.func 96) #[whl p m c bm] #[]]) : CallT Try.prog Try.T1 (.fn (.func 109) #[.pointer (some ⟨b, 0, none⟩)]) #[.int .i64 n] w (Ret (.bool (!inR 0 n ((m : Int) - 1))) (Grown w)) := by
  have c0 := h.cell (o := 0) rfl rfl
  have hs := same_fn96 p m c bm
  have hr := isRoom_ok p m c bm h1 h2 n w f
  unfold whl at *
  refine callT_code rfl Try.func109 rfl Try.s109_eq rfl ?_
  unfold Try.s109
  simp -dsimp -implicitDefEqProofs (maxSteps := 2000000) (disch := first | assumption | omega | (simp only [nx]; omega) | ((repeat refine Fresh.push ?_ _); assumption) | (simp only [smA]; done) | (simp [oneCell, AW.next_push]; done) | fail) only [go_sem, Nat.reduceEqDiff, reduceIte, Nat.reduceAdd, Int.toNat_natCast, Nat.add_zero, Owes_true, Try.results109, c0, Nat.zero_add, hs]
  apply callV_of (e := rfl)
  · exact hr
  rintro _ _ ⟨rfl, g⟩
  simp -dsimp -implicitDefEqProofs (maxSteps := 2000000) (disch := first | assumption | omega | (simp only [nx]; omega) | ((repeat refine Fresh.push ?_ _); assumption) | (simp only [smA]; done) | (simp [oneCell, AW.next_push]; done) | fail) only [go_sem, Nat.reduceEqDiff, reduceIte, Nat.reduceAdd, Int.toNat_natCast, Nat.add_zero, Owes_true, Try.results109]
  exact ⟨rfl, g⟩
theorem roomIdx_ok (l : List Int) (v : Value) (b : Nat) (w : AW) (f : Fresh w) (hs : ArrOf w 1 icells v l) (h : Own w b 79 [.func (.func 96) #[whl p m c bm] #[]]) :
    CallT Try.prog Try.T1 (.fn (.func 123) #[]) #[v, .func (.func 109) #[] #[.pointer (some ⟨b, 0, none⟩)]] w (fun r w' => Grown w w' ∧ ∃ n : Int, r = .int .i64 n ∧ decide (n ≥ 0) = !l.all fun x => inR 0 x ((m : Int) - 1)) := by
  obtain ⟨pp, cp, rfl, _, _, hat⟩ := hs.open
  have hfn := same_fn 109 b
  refine callT_code rfl Try.func123 rfl Try.s123_eq rfl ?_
  unfold Try.s123
  simp -dsimp -implicitDefEqProofs (maxSteps := 2000000) (disch := first | assumption | omega | (simp only [nx]; omega) | ((repeat refine Fresh.push ?_ _); assumption) | (simp only [smA]; done) | (simp [oneCell, AW.next_push]; done) | fail) only [go_sem, Nat.reduceEqDiff, reduceIte, Nat.reduceAdd, Int.toNat_natCast, Nat.add_zero, Owes_true, Try.results123]
  refine loopR (fun k t ds w1 => ∃ i : Nat, i ≤ l.length ∧ k = l.length - i ∧ ds = [] ∧ ev t (.tmp 0) = .slice pp l.length cp ∧ ev t (.tmp 1) = .func (.func 109) #[] #[.pointer (some ⟨b, 0, none⟩)] ∧ ev t (.tmp 6) = .slice pp l.length cp ∧ ev t (.tmp 7) = .int .i64 (l.length : Int) ∧ ev t (.tmp 8) = .int .i64 (i : Int) ∧ Grown w w1 ∧ (l.take i).all (fun x => inR 0 x ((m : Int) - 1)) = true) (l.length) ?_ ?_
  · refine ⟨0, by omega, by omega, rfl, ?_, ?_, ?_, ?_, ?_, Grown.refl f, rfl⟩ <;> simp -dsimp -implicitDefEqProofs (maxSteps := 2000000) (disch := first | assumption | omega | (simp only [nx]; omega) | ((repeat refine Fresh.push ?_ _); assumption) | (simp only [smA]; done) | (simp [oneCell, AW.next_push]; done) | fail) only [go_sem, Nat.reduceEqDiff, reduceIte, Nat.reduceAdd, Int.toNat_natCast, Nat.add_zero, Owes_true] <;> rfl
  rintro k t ds w1 ⟨i, hii, rfl, rfl, e0, e1, e6, e7, e8, hw, ha⟩
  by_cases hlt : (i : Int) < (l.length : Int)
  case neg =>
    obtain rfl : i = l.length := by omega
    rw [List.take_of_length_le (Nat.le_refl _)] at ha
    simp -dsimp -implicitDefEqProofs (maxSteps := 2000000) (disch := first | assumption | omega | (simp only [nx]; omega) | ((repeat refine Fresh.push ?_ _); assumption) | (simp only [smA]; done) | (simp [oneCell, AW.next_push]; done) | fail) only [go_sem, Nat.reduceEqDiff, reduceIte, Nat.reduceAdd, Int.toNat_natCast, Nat.add_zero, Owes_true, Try.results123, e0, e1, e6, e7, e8, hlt]
    exact ⟨hw, -1, rfl, by rw [ha]; rfl⟩
  have hlt' : i < l.length := by omega
  obtain ⟨b1, o1, rfl, hb1, hcell⟩ := hat i hlt'
  have a0 := hcell w1 hw.1 0 _ rfl
  rw [Nat.add_zero] at a0
  simp -dsimp -implicitDefEqProofs (maxSteps := 2000000) (disch := first | assumption | omega | (simp only [nx]; omega) | ((repeat refine Fresh.push ?_ _); assumption) | (simp only [smA]; done) | (simp [oneCell, AW.next_push]; done) | fail) only [go_sem, Nat.reduceEqDiff, reduceIte, Nat.reduceAdd, Int.toNat_natCast, Nat.add_zero, Owes_true, Try.results123, e0, e1, e6, e7, e8, hlt, indexV_eq, a0, hfn]
  apply callV_of (e := rfl)
  · exact roomBad_ok p m c bm h1 h2 _ b w1 hw.2 (h.keep hw.1)
  rintro _ w2 ⟨rfl, g2⟩
  cases hq : inR 0 l[i] ((m : Int) - 1) with
  | true =>
    simp -dsimp -implicitDefEqProofs (maxSteps := 2000000) (disch := first | assumption | omega | (simp only [nx]; omega) | ((repeat refine Fresh.push ?_ _); assumption) | (simp only [smA]; done) | (simp [oneCell, AW.next_push]; done) | fail) only [go_sem, Nat.reduceEqDiff, reduceIte, Nat.reduceAdd, Int.toNat_natCast, Nat.add_zero, Owes_true, Try.results123, hq, e0, e1, e6, e7, e8]
    refine ⟨_, by omega, i + 1, by omega, rfl, rfl, by (simp -dsimp -implicitDefEqProofs (maxSteps := 2000000) (disch := first | assumption | omega | (simp only [nx]; omega) | ((repeat refine Fresh.push ?_ _); assumption) | (simp only [smA]; done) | (simp [oneCell, AW.next_push]; done) | fail) only [go_sem, Nat.reduceEqDiff, reduceIte, Nat.reduceAdd, Int.toNat_natCast, Nat.add_zero, Owes_true, e0]; try rfl), by (simp -dsimp -implicitDefEqProofs (maxSteps := 2000000) (disch := first | assumption | omega | (simp only [nx]; omega) | ((repeat refine Fresh.push ?_ _); assumption) | (simp only [smA]; done) | (simp [oneCell, AW.next_push]; done) | fail) only [go_sem, Nat.reduceEqDiff, reduceIte, Nat.reduceAdd, Int.toNat_natCast, Nat.add_zero, Owes_true, e1]; try rfl), by (simp -dsimp -implicitDefEqProofs (maxSteps := 2000000) (disch := first | assumption | omega | (simp only [nx]; omega) | ((repeat refine Fresh.push ?_ _); assumption) | (simp only [smA]; done) | (simp [oneCell, AW.next_push]; done) | fail) only [go_sem, Nat.reduceEqDiff, reduceIte, Nat.reduceAdd, Int.toNat_natCast, Nat.add_zero, Owes_true, e6]; try rfl), by (simp -dsimp -implicitDefEqProofs (maxSteps := 2000000) (disch := first | assumption | omega | (simp only [nx]; omega) | ((repeat refine Fresh.push ?_ _); assumption) | (simp only [smA]; done) | (simp [oneCell, AW.next_push]; done) | fail) only [go_sem, Nat.reduceEqDiff, reduceIte, Nat.reduceAdd, Int.toNat_natCast, Nat.add_zero, Owes_true, e7]; try rfl), by (simp -dsimp -implicitDefEqProofs (maxSteps := 2000000) (disch := first | assumption | omega | (simp only [nx]; omega) | ((repeat refine Fresh.push ?_ _); assumption) | (simp only [smA]; done) | (simp [oneCell, AW.next_push]; done) | fail) only [go_sem, Nat.reduceEqDiff, reduceIte, Nat.reduceAdd, Int.toNat_natCast, Nat.add_zero, Owes_true, e8]; try rfl), hw.trans g2, by rw [List.take_succ_eq_append_getElem hlt', List.all_append, ha]; simp [hq]⟩
  | false =>
    simp -dsimp -implicitDefEqProofs (maxSteps := 2000000) (disch := first | assumption | omega | (simp only [nx]; omega) | ((repeat refine Fresh.push ?_ _); assumption) | (simp only [smA]; done) | (simp [oneCell, AW.next_push]; done) | fail) only [go_sem, Nat.reduceEqDiff, reduceIte, Nat.reduceAdd, Int.toNat_natCast, Nat.add_zero, Owes_true, Try.results123, hq, e0, e1, e6, e7, e8]
    refine ⟨hw.trans g2, i, rfl, ?_⟩
    have : l.all (fun x => inR 0 x ((m : Int) - 1)) = false := List.all_eq_false.2 ⟨l[i], List.getElem_mem _, by rw [hq]; simp⟩
    rw [this]
    exact decide_eq_true (by omega)
theorem roomAll_ok (l : List Int) (v : Value) (w : AW) (f : Fresh w) (hs : ArrOf w 1 icells v l) :
    CallT Try.prog Try.T1 (.fn (.func 65) #[]) #[v, .func (.func 96) #[whl p m c bm] #[]] w (Ret (.bool (l.all fun x => inR 0 x ((m : Int) - 1))) (Grown w)) := by
  obtain ⟨pp, cp, rfl, _⟩ := id hs.open
  have hfn := same_fn 109 w.next
  have hs0 := same_fn96 p m c bm
  have gg := (Grown.refl f).push (.cells [.func (.func 96) #[whl p m c bm] #[]] 79 w.next 0 0)
  have hO := Own.new f 79 [.func (.func 96) #[whl p m c bm] #[]]
  have hix := roomIdx_ok p m c bm h1 h2 l _ w.next _ gg.2 (hs.grown gg) hO
  have hcon : CallT Try.prog Try.T1 (.fn (.func 108) #[]) #[.slice pp l.length cp, .func (.func 109) #[] #[.pointer (some ⟨w.next, 0, none⟩)]] (w.push (.cells [.func (.func 96) #[whl p m c bm] #[]] 79 w.next 0 0)) (Ret (.bool (!l.all fun x => inR 0 x ((m : Int) - 1))) (Grown w)) := by
    refine callT_code rfl Try.func108 rfl Try.s108_eq rfl ?_
    unfold Try.s108
    simp -dsimp -implicitDefEqProofs (maxSteps := 2000000) (disch := first | assumption | omega | (simp only [nx]; omega) | ((repeat refine Fresh.push ?_ _); assumption) | (simp only [smA]; done) | (simp [oneCell, AW.next_push]; done) | fail) only [go_sem, Nat.reduceEqDiff, reduceIte, Nat.reduceAdd, Int.toNat_natCast, Nat.add_zero, Owes_true, Try.results108, hfn]
    apply callV_of (e := rfl)
    · exact hix
    rintro _ w2 ⟨g2, n, rfl, hn⟩
    simp -dsimp -implicitDefEqProofs (maxSteps := 2000000) (disch := first | assumption | omega | (simp only [nx]; omega) | ((repeat refine Fresh.push ?_ _); assumption) | (simp only [smA]; done) | (simp [oneCell, AW.next_push]; done) | fail) only [go_sem, Nat.reduceEqDiff, reduceIte, Nat.reduceAdd, Int.toNat_natCast, Nat.add_zero, Owes_true, Try.results108, hn]
    exact ⟨rfl, gg.trans g2⟩
  refine callT_code rfl Try.func65 rfl Try.s65_eq rfl ?_
  unfold Try.s65
  simp -dsimp -implicitDefEqProofs (maxSteps := 2000000) (disch := first | assumption | omega | (simp only [nx]; omega) | ((repeat refine Fresh.push ?_ _); assumption) | (simp only [smA]; done) | (simp [oneCell, AW.next_push]; done) | fail) only [go_sem, Nat.reduceEqDiff, reduceIte, Nat.reduceAdd, Int.toNat_natCast, Nat.add_zero, Owes_true, Try.results65, hfn, hs0]
  apply callV_of (e := rfl)
  · exact hcon
  rintro _ w2 ⟨rfl, g2⟩
  simp -dsimp -implicitDefEqProofs (maxSteps := 2000000) (disch := first | assumption | omega | (simp only [nx]; omega) | ((repeat refine Fresh.push ?_ _); assumption) | (simp only [smA]; done) | (simp [oneCell, AW.next_push]; done) | fail) only [go_sem, Nat.reduceEqDiff, reduceIte, Nat.reduceAdd, Int.toNat_natCast, Nat.add_zero, Owes_true, Try.results65]
  exact ⟨by rw [Bool.not_not], g2⟩
end
def kepB (S T : List Int) : Bool := perB S && (decide ((T.length : Int) ≤ 64) && T.all fun x => inR 0 x ((S.length : Int) - 1))
def kepV (S T : List Int) : Bool := kepB S T && runB S zero5 T
def kepE (S T : List Int) : Int := if kepB S T then 0 else 105
set_option maxHeartbeats 16000000 in
theorem Keeps_ok (S T : List Int) (u v : Value) (w : AW) (f : Fresh w) (hu : ArrOf w 1 icells u S) (hv : ArrOf w 1 icells v T) :
    CallT Try.prog Try.T1 (.fn (.func 40) #[]) #[u, v] w (Ret (.tuple #[.bool (kepV S T), .int .i64 (kepE S T)]) (Grown w)) := by
  obtain ⟨pu, cu, rfl, _⟩ := id hu.open
  obtain ⟨pv, cv, rfl, _, _, hat⟩ := id hv.open
  have hw0 := wheelOf_ok pu S.length cu w f
  refine callT_code rfl Try.func40 rfl Try.s40_eq rfl ?_
  unfold Try.s40
  simp -dsimp -implicitDefEqProofs (maxSteps := 2000000) (disch := first | assumption | omega | (simp only [nx]; omega) | ((repeat refine Fresh.push ?_ _); assumption) | (simp only [smA]; done) | (simp [oneCell, AW.next_push]; done) | fail) only [go_sem, Nat.reduceEqDiff, reduceIte, Nat.reduceAdd, Int.toNat_natCast, Nat.add_zero, Owes_true, Try.results40]
  apply callV_of (e := rfl)
  · exact hw0
  rintro _ w1 ⟨bm, rfl, hb1, hb2, _, g1⟩
  have g2 := g1.push (.cells [.slice none 0 0, .map none] 101 w1.next 0 0)
  have O2 := Own.new g1.2 101 [.slice none 0 0, .map none]
  have st := storeV_own (o := 0) (l := [.slice pu S.length cu, .map (some bm)]) (size := 2) O2 rfl (by omega) (by simp) rfl
  have m3 := MutS.put (S := fun j => j = w1.next) g2.2 rfl O2.lt (.cells [.slice pu S.length cu, .map (some bm)] 101 w1.next 0 0)
  have O3 := O2.put [.slice pu S.length cu, .map (some bm)]
  have hcut : setsL [.slice none 0 0, .map none] 0 [.slice pu S.length cu, .map (some bm)] = [.slice pu S.length cu, .map (some bm)] := rfl
  rw [hcut] at st
  have hn1 := g1.1.next
  have g3 : Grown w _ := ⟨g2.1.trans (m3.keep (B := w.next) (fun j q => by omega) g2.1.next), m3.fresh⟩
  unfold whl
  simp -dsimp -implicitDefEqProofs (maxSteps := 2000000) (disch := first | assumption | omega | (simp only [nx]; omega) | ((repeat refine Fresh.push ?_ _); assumption) | (simp only [smA]; done) | (simp [oneCell, AW.next_push]; done) | fail) only [go_sem, Nat.reduceEqDiff, reduceIte, Nat.reduceAdd, Int.toNat_natCast, Nat.add_zero, Owes_true, Try.results40, st]
  generalize (w1.push (.cells [.slice none 0 0, .map none] 101 w1.next 0 0)).put w1.next (.cells [.slice pu S.length cu, .map (some bm)] 101 w1.next 0 0) = w3 at *
  apply callV_of (e := rfl)
  · exact arePeriods_ok S _ w3 g3.2 (hu.grown g3)
  rintro _ w4 ⟨rfl, g4⟩
  have gg4 := g3.trans g4
  have O4 := O3.keep g4.1
  cases hp : perB S with
  | false =>
    have h1 : kepB S T = false := by unfold kepB; rw [hp]; rfl
    simp -dsimp -implicitDefEqProofs (maxSteps := 2000000) (disch := first | assumption | omega | (simp only [nx]; omega) | ((repeat refine Fresh.push ?_ _); assumption) | (simp only [smA]; done) | (simp [oneCell, AW.next_push]; done) | fail) only [go_sem, Nat.reduceEqDiff, reduceIte, Nat.reduceAdd, Int.toNat_natCast, Nat.add_zero, Owes_true, Try.results40, hp]
    exact ⟨by simp [kepV, kepE, h1], gg4⟩
  | true =>
  have h5 := (perB_iff.1 hp).1
  by_cases hl : (T.length : Int) > 64
  · have h1 : kepB S T = false := by unfold kepB; rw [hp, decide_eq_false (by omega)]; rfl
    simp -dsimp -implicitDefEqProofs (maxSteps := 2000000) (disch := first | assumption | omega | (simp only [nx]; omega) | ((repeat refine Fresh.push ?_ _); assumption) | (simp only [smA]; done) | (simp [oneCell, AW.next_push]; done) | fail) only [go_sem, Nat.reduceEqDiff, reduceIte, Nat.reduceAdd, Int.toNat_natCast, Nat.add_zero, Owes_true, Try.results40, hp, hl]
    exact ⟨by simp [kepV, kepE, h1], gg4⟩
  have hld4 := loadAll O4 (n := 2) rfl (by simp [oneCell])
  have hfn96 := same_fn96 pu S.length cu bm
  have hra := roomAll_ok pu S.length cu bm h5.1 (by omega) T _ w4 gg4.2 (hv.grown gg4)
  unfold whl at hfn96 hra
  simp -dsimp -implicitDefEqProofs (maxSteps := 2000000) (disch := first | assumption | omega | (simp only [nx]; omega) | ((repeat refine Fresh.push ?_ _); assumption) | (simp only [smA]; done) | (simp [oneCell, AW.next_push]; done) | fail) only [go_sem, Nat.reduceEqDiff, reduceIte, Nat.reduceAdd, Int.toNat_natCast, Nat.add_zero, Owes_true, Try.results40, hp, hl, hld4, hfn96]
  apply callV_of (e := rfl)
  · exact hra
  rintro _ w5 ⟨rfl, g5⟩
  have gg5 := gg4.trans g5
  have O5 := O4.keep g5.1
  cases hr : T.all fun x => inR 0 x ((S.length : Int) - 1) with
  | false =>
    have h1 : kepB S T = false := by unfold kepB; rw [hp, hr]; simp
    simp -dsimp -implicitDefEqProofs (maxSteps := 2000000) (disch := first | assumption | omega | (simp only [nx]; omega) | ((repeat refine Fresh.push ?_ _); assumption) | (simp only [smA]; done) | (simp [oneCell, AW.next_push]; done) | fail) only [go_sem, Nat.reduceEqDiff, reduceIte, Nat.reduceAdd, Int.toNat_natCast, Nat.add_zero, Owes_true, Try.results40, hp, hl]
    exact ⟨by simp [kepV, kepE, h1], gg5⟩
  | true =>
  have h1 : kepB S T = true := by unfold kepB; rw [hp, hr, decide_eq_true (by omega)]; rfl
  have hE : kepE S T = 0 := by unfold kepE; rw [if_pos h1]
  have hV : kepV S T = runB S zero5 T := by unfold kepV; rw [h1]; rfl
  rw [hE, hV]
  have hin := List.all_eq_true.1 hr
  have g6 := gg5.push (.cells [.int .i64 0, .int .i64 0, .int .i64 0, .int .i64 0, .int .i64 0] 104 w5.next 0 0)
  have O6 := Own.new gg5.2 104 [.int .i64 0, .int .i64 0, .int .i64 0, .int .i64 0, .int .i64 0]
  have O5' := O5.push (.cells [.int .i64 0, .int .i64 0, .int .i64 0, .int .i64 0, .int .i64 0] 104 w5.next 0 0)
  have nx6 : (w5.push (.cells [.int .i64 0, .int .i64 0, .int .i64 0, .int .i64 0, .int .i64 0] 104 w5.next 0 0)).next = w5.next + 1 := AW.next_push _ _
  simp -dsimp -implicitDefEqProofs (maxSteps := 2000000) (disch := first | assumption | omega | (simp only [nx]; omega) | ((repeat refine Fresh.push ?_ _); assumption) | (simp only [smA]; done) | (simp [oneCell, AW.next_push]; done) | fail) only [go_sem, Nat.reduceEqDiff, reduceIte, Nat.reduceAdd, Int.toNat_natCast, Nat.add_zero, Owes_true, Try.results40, hp, hl]
  generalize w5.push (.cells [.int .i64 0, .int .i64 0, .int .i64 0, .int .i64 0, .int .i64 0] 104 w5.next 0 0) = w6 at *
  have hn5 := gg5.1.next
  have hn3 := O3.lt
  have hn4 := O4.lt
  have hlt5 := O5.lt
  refine loopR (fun k t ds w7 => ∃ i : Nat, i ≤ T.length ∧ k = T.length - i ∧ ds = [] ∧ ev t (.tmp 6) = pt w1.next ∧ ev t (.tmp 7) = pt w5.next ∧ ev t (.tmp 29) = .slice pv T.length cv ∧ ev t (.tmp 30) = .int .i64 (T.length : Int) ∧ ev t (.tmp 31) = .int .i64 (i : Int) ∧ runB S zero5 (T.take i) = true ∧ Own w7 w1.next 101 [.slice pu S.length cu, .map (some bm)] ∧ Own w7 w5.next 104 ((endI S zero5 (T.take i)).flatMap icells) ∧ Keep w.next w w7 ∧ Fresh w7) (T.length) ?_ ?_
  · refine ⟨0, by omega, by omega, rfl, ?_, ?_, ?_, ?_, ?_, rfl, O5', O6, g6.1, g6.2⟩ <;> simp -dsimp -implicitDefEqProofs (maxSteps := 2000000) (disch := first | assumption | omega | (simp only [nx]; omega) | ((repeat refine Fresh.push ?_ _); assumption) | (simp only [smA]; done) | (simp [oneCell, AW.next_push]; done) | fail) only [go_sem, Nat.reduceEqDiff, reduceIte, Nat.reduceAdd, Int.toNat_natCast, Nat.add_zero, Owes_true] <;> rfl
  rintro k t ds w7 ⟨i, hii, rfl, rfl, e6, e7, e29, e30, e31, hrun, P1, P2, k7, f7⟩
  by_cases hlt : (i : Int) < (T.length : Int)
  case neg =>
    obtain rfl : i = T.length := by omega
    rw [List.take_of_length_le (Nat.le_refl _)] at hrun
    simp -dsimp -implicitDefEqProofs (maxSteps := 2000000) (disch := first | assumption | omega | (simp only [nx]; omega) | ((repeat refine Fresh.push ?_ _); assumption) | (simp only [smA]; done) | (simp [oneCell, AW.next_push]; done) | fail) only [go_sem, Nat.reduceEqDiff, reduceIte, Nat.reduceAdd, Int.toNat_natCast, Nat.add_zero, Owes_true, Try.results40, e6, e7, e29, e30, e31, hlt]
    exact ⟨by rw [hrun], k7, f7⟩
  have hlt' : i < T.length := by omega
  obtain ⟨b1, o1, rfl, hb1', hcell⟩ := hat i hlt'
  have a0 := hcell w7 k7 0 _ rfl
  rw [Nat.add_zero] at a0
  have hTi := (inR_iff _ _ _).1 (hin _ (List.getElem_mem hlt'))
  have hst := st_end hp (st_zero hp) hrun
  have hsucc : T.take (i + 1) = T.take i ++ [T[i]] := List.take_succ_eq_append_getElem hlt'
  obtain ⟨a, hae⟩ : ∃ a, a = endI S zero5 (T.take i) := ⟨_, rfl⟩
  rw [← hae] at P2 hst
  have hldw := loadAll P1 (n := 2) rfl (by simp [oneCell])
  have hlda := loadAll P2 (n := 5) (by rw [icells_flat_len, hst.len]) (icells_ones _)
  have haf := after_ok S a T[i] h5.2 hst.len (fun j => by have := st_in hp hst j; omega) pu cu bm w7 f7 (hu.kept k7)
  unfold whl aV at haf
  simp -dsimp -implicitDefEqProofs (maxSteps := 2000000) (disch := first | assumption | omega | (simp only [nx]; omega) | ((repeat refine Fresh.push ?_ _); assumption) | (simp only [smA]; done) | (simp [oneCell, AW.next_push]; done) | fail) only [go_sem, Nat.reduceEqDiff, reduceIte, Nat.reduceAdd, Int.toNat_natCast, Nat.add_zero, Owes_true, Try.results40, e6, e7, e29, e30, e31, hlt, indexV_eq, a0, hldw, hlda, Nat.zero_add]
  apply callV_of (e := rfl)
  · exact haf
  rintro _ w8 ⟨rfl, g8⟩
  have g9 := (Grown.refl g8.2).push (.cells [.int .i64 0, .int .i64 0, .int .i64 0, .int .i64 0, .int .i64 0] 104 w8.next 0 0)
  have O9 := Own.new g8.2 104 [.int .i64 0, .int .i64 0, .int .i64 0, .int .i64 0, .int .i64 0]
  obtain ⟨w9, st9, O9', m9, n9⟩ := full5 g9.2 O9 rfl (C := aftI S a T[i]) (aft_len _ _ _)
  have hn8 := g8.1.next
  have hP1 := P1.lt
  have hP2 := P2.lt
  have m79 : MutS (fun _ => False) w7 w9 := ((MutS.of g8).trans (MutS.of g9) (Within.refl _ _)).trans m9 (fun j q => .inr (by omega))
  have P19 := m79.own P1 id
  have P29 := m79.own P2 id
  have k9 := k7.trans (m79.keep (B := w.next) (fun j q => q.elim) k7.next)
  simp -dsimp -implicitDefEqProofs (maxSteps := 2000000) (disch := first | assumption | omega | (simp only [nx]; omega) | ((repeat refine Fresh.push ?_ _); assumption) | (simp only [smA]; done) | (simp [oneCell, AW.next_push]; done) | fail) only [go_sem, Nat.reduceEqDiff, reduceIte, Nat.reduceAdd, Int.toNat_natCast, Nat.add_zero, Owes_true, Try.results40, e6, e7, e29, e30, e31, st9]
  have hrs : runB S a [T[i]] = keptB S a T[i] := by
    have h0 : inR 0 T[i] ((S.length : Int) - 1) = true := hin _ (List.getElem_mem hlt')
    simp [runB, h0]
  cases hkp : keptB S a T[i] with
  | false =>
    have hF : runB S zero5 T = false := by
      cases hT : runB S zero5 T with
      | false => rfl
      | true =>
        have := run_take hT (i + 1)
        rw [hsucc, run_append, ← hae, hrs, hkp] at this
        exact absurd this.2 (by simp)
    simp -dsimp -implicitDefEqProofs (maxSteps := 2000000) (disch := first | assumption | omega | (simp only [nx]; omega) | ((repeat refine Fresh.push ?_ _); assumption) | (simp only [smA]; done) | (simp [oneCell, AW.next_push]; done) | fail) only [go_sem, Nat.reduceEqDiff, reduceIte, Nat.reduceAdd, Int.toNat_natCast, Nat.add_zero, Owes_true, Try.results40, e6, e7, e29, e30, e31]
    exact ⟨by rw [hF], k9, m79.fresh⟩
  | true =>
  have hld9 := loadAll O9' (n := 5) (by rw [icells_flat_len, aft_len]) (icells_ones _)
  obtain ⟨w10, st10, P210, m10, n10⟩ := full5 m79.fresh P29 (by rw [icells_flat_len, hst.len]) (C := aftI S a T[i]) (aft_len _ _ _)
  have P110 := m10.own P19 (by omega)
  have k10 := k9.trans (m10.keep (B := w.next) (fun j q => by omega) k9.next)
  have hrn : runB S zero5 (T.take (i + 1)) = true := by rw [hsucc, run_append, ← hae, hrs]; exact ⟨hrun, hkp⟩
  have hen : endI S zero5 (T.take (i + 1)) = aftI S a T[i] := by rw [hsucc, end_append, ← hae]; rfl
  rw [← hen] at P210
  simp -dsimp -implicitDefEqProofs (maxSteps := 2000000) (disch := first | assumption | omega | (simp only [nx]; omega) | ((repeat refine Fresh.push ?_ _); assumption) | (simp only [smA]; done) | (simp [oneCell, AW.next_push]; done) | fail) only [go_sem, Nat.reduceEqDiff, reduceIte, Nat.reduceAdd, Int.toNat_natCast, Nat.add_zero, Owes_true, Try.results40, e6, e7, e29, e30, e31, hld9, st10]
  refine ⟨_, by omega, i + 1, by omega, rfl, rfl, by (simp -dsimp -implicitDefEqProofs (maxSteps := 2000000) (disch := first | assumption | omega | (simp only [nx]; omega) | ((repeat refine Fresh.push ?_ _); assumption) | (simp only [smA]; done) | (simp [oneCell, AW.next_push]; done) | fail) only [go_sem, Nat.reduceEqDiff, reduceIte, Nat.reduceAdd, Int.toNat_natCast, Nat.add_zero, Owes_true, e6]; try rfl), by (simp -dsimp -implicitDefEqProofs (maxSteps := 2000000) (disch := first | assumption | omega | (simp only [nx]; omega) | ((repeat refine Fresh.push ?_ _); assumption) | (simp only [smA]; done) | (simp [oneCell, AW.next_push]; done) | fail) only [go_sem, Nat.reduceEqDiff, reduceIte, Nat.reduceAdd, Int.toNat_natCast, Nat.add_zero, Owes_true, e7]; try rfl), by (simp -dsimp -implicitDefEqProofs (maxSteps := 2000000) (disch := first | assumption | omega | (simp only [nx]; omega) | ((repeat refine Fresh.push ?_ _); assumption) | (simp only [smA]; done) | (simp [oneCell, AW.next_push]; done) | fail) only [go_sem, Nat.reduceEqDiff, reduceIte, Nat.reduceAdd, Int.toNat_natCast, Nat.add_zero, Owes_true, e29]; try rfl), by (simp -dsimp -implicitDefEqProofs (maxSteps := 2000000) (disch := first | assumption | omega | (simp only [nx]; omega) | ((repeat refine Fresh.push ?_ _); assumption) | (simp only [smA]; done) | (simp [oneCell, AW.next_push]; done) | fail) only [go_sem, Nat.reduceEqDiff, reduceIte, Nat.reduceAdd, Int.toNat_natCast, Nat.add_zero, Owes_true, e30]; try rfl), by (simp -dsimp -implicitDefEqProofs (maxSteps := 2000000) (disch := first | assumption | omega | (simp only [nx]; omega) | ((repeat refine Fresh.push ?_ _); assumption) | (simp only [smA]; done) | (simp [oneCell, AW.next_push]; done) | fail) only [go_sem, Nat.reduceEqDiff, reduceIte, Nat.reduceAdd, Int.toNat_natCast, Nat.add_zero, Owes_true, e31]; try rfl), hrn, P110, P210, k10, m10.fresh⟩
set_option maxHeartbeats 8000000 in
theorem Lasts_ok (S : List Int) (u : Value) (w : AW) (f : Fresh w) (hu : ArrOf w 1 icells u S) :
    CallT Try.prog Try.T1 (.fn (.func 44) #[]) #[u] w (fun r w' => Grown w w' ∧ ∃ n e : Int, r = .tuple #[.int .i64 n, .int .i64 e] ∧ ((perB S = false ∧ n = 0 ∧ e = 105) ∨ (perB S = true ∧ infP S zero5 ∧ n = 0 ∧ e = 4) ∨ (perB S = true ∧ e = 0 ∧ 0 ≤ n ∧ n ≤ 32768 ∧ maxP S zero5 n.toNat))) := by
  obtain ⟨pu, cu, rfl, _⟩ := id hu.open
  refine callT_code rfl Try.func44 rfl Try.s44_eq rfl ?_
  unfold Try.s44
  simp -dsimp -implicitDefEqProofs (maxSteps := 2000000) (disch := first | assumption | omega | (simp only [nx]; omega) | ((repeat refine Fresh.push ?_ _); assumption) | (simp only [smA]; done) | (simp [oneCell, AW.next_push]; done) | fail) only [go_sem, Nat.reduceEqDiff, reduceIte, Nat.reduceAdd, Int.toNat_natCast, Nat.add_zero, Owes_true, Try.results44]
  apply callV_of (e := rfl)
  · exact arePeriods_ok S _ w f hu
  rintro _ w1 ⟨rfl, g1⟩
  cases hp : perB S with
  | false =>
    simp -dsimp -implicitDefEqProofs (maxSteps := 2000000) (disch := first | assumption | omega | (simp only [nx]; omega) | ((repeat refine Fresh.push ?_ _); assumption) | (simp only [smA]; done) | (simp [oneCell, AW.next_push]; done) | fail) only [go_sem, Nat.reduceEqDiff, reduceIte, Nat.reduceAdd, Int.toNat_natCast, Nat.add_zero, Owes_true, Try.results44]
    exact ⟨g1, 0, 105, rfl, .inl ⟨trivial, rfl, rfl⟩⟩
  | true =>
  simp -dsimp -implicitDefEqProofs (maxSteps := 2000000) (disch := first | assumption | omega | (simp only [nx]; omega) | ((repeat refine Fresh.push ?_ _); assumption) | (simp only [smA]; done) | (simp [oneCell, AW.next_push]; done) | fail) only [go_sem, Nat.reduceEqDiff, reduceIte, Nat.reduceAdd, Int.toNat_natCast, Nat.add_zero, Owes_true, Try.results44]
  apply callV_of (e := rfl)
  · exact wheelOf_ok pu S.length cu w1 g1.2
  rintro _ w2 ⟨bm, rfl, hb1, hb2, hM, g2⟩
  have gg2 := g1.trans g2
  have hn1 := g1.1.next
  have hla := lasts_ok hp (W1 := w1) (hu.grown g1) hb1 (cntN (fun _ => none) + 1) (fun _ => none) [] zero5 w2 (by omega) (st_zero hp) (fun x v h => by cases h) (fun s h => by cases h) gg2.2 g2.1 hb2 hM
  unfold aV at hla
  have hz : (zero5.flatMap icells).toArray = #[.int .i64 0, .int .i64 0, .int .i64 0, .int .i64 0, .int .i64 0] := rfl
  rw [hz] at hla
  simp -dsimp -implicitDefEqProofs (maxSteps := 2000000) (disch := first | assumption | omega | (simp only [nx]; omega) | ((repeat refine Fresh.push ?_ _); assumption) | (simp only [smA]; done) | (simp [oneCell, AW.next_push]; done) | fail) only [go_sem, Nat.reduceEqDiff, reduceIte, Nat.reduceAdd, Int.toNat_natCast, Nat.add_zero, Owes_true, Try.results44]
  apply callV_of (e := rfl)
  · exact hla
  rintro _ w3 ⟨x, M3, rfl, hLP, _, _, _, m3⟩
  have gg3 : Grown w w3 := ⟨gg2.1.trans (m3.keep (B := w.next) (fun j q => by omega) gg2.1.next), m3.fresh⟩
  rcases hLP with ⟨hx, hinf⟩ | ⟨hx, hx0, hxc, hxm⟩
  · have hd : decide (x = 9223372036854775807) = true := decide_eq_true hx
    simp -dsimp -implicitDefEqProofs (maxSteps := 2000000) (disch := first | assumption | omega | (simp only [nx]; omega) | ((repeat refine Fresh.push ?_ _); assumption) | (simp only [smA]; done) | (simp [oneCell, AW.next_push]; done) | fail) only [go_sem, Nat.reduceEqDiff, reduceIte, Nat.reduceAdd, Int.toNat_natCast, Nat.add_zero, Owes_true, Try.results44, hd]
    exact ⟨gg3, 0, 4, rfl, .inr (.inl ⟨trivial, hinf, rfl, rfl⟩)⟩
  · have hd : decide (x = 9223372036854775807) = false := decide_eq_false hx
    have := cntF_le M3
    simp -dsimp -implicitDefEqProofs (maxSteps := 2000000) (disch := first | assumption | omega | (simp only [nx]; omega) | ((repeat refine Fresh.push ?_ _); assumption) | (simp only [smA]; done) | (simp [oneCell, AW.next_push]; done) | fail) only [go_sem, Nat.reduceEqDiff, reduceIte, Nat.reduceAdd, Int.toNat_natCast, Nat.add_zero, Owes_true, Try.results44, hd]
    exact ⟨gg3, x, 0, rfl, .inr (.inr ⟨trivial, rfl, hx0, by omega, hxm⟩)⟩
end Go.Proofs

namespace Go.Proofs
open Go Go.RowKit Go.Sim
set_option maxRecDepth 100000
noncomputable def Try.s101r2 : Array Oper := match Try.f101.body with
  | some c => regionAt 2 c
  | none => #[]
noncomputable def Try.s101 : SC :=
 (.seq
  (.ops false [
    ⟨⟨(some 3), .box 101 (.tmp 0), 0, "", ⟨[]⟩, none⟩, none, false⟩,
    ⟨⟨(some 4), .box 104 (.tmp 1), 0, "", ⟨[]⟩, none⟩, none, false⟩,
    ⟨⟨(some 6), .alloc 104, 0, "", ⟨[]⟩, none⟩, none, false⟩,
    ⟨⟨(some 7), .assign (.const (.bool false)), 4, "", ⟨[]⟩, none⟩, none, false⟩])
  (.seq
   (.ops false [
     ⟨⟨(some 11), .load 101 (.tmp 3), 101, "", ⟨[]⟩, none⟩, none, false⟩,
     ⟨⟨(some 12), .load 104 (.tmp 4), 104, "", ⟨[]⟩, none⟩, none, false⟩,
     ⟨⟨(some 13), .move (.tmp 2), 3, "", ⟨[]⟩, none⟩, none, false⟩,
     ⟨⟨(some 14), .call ⟨.value (.func 97), ⟨[(.tmp 11), (.tmp 12), (.tmp 13)]⟩, ⟨[101, 104, 3]⟩⟩, 105, "", ⟨[]⟩, none⟩, none, false⟩,
     ⟨⟨(some 10), .move (.tmp 14), 105, "", ⟨[]⟩, none⟩, none, false⟩,
     ⟨⟨(some 15), .extract (.tmp 10) 0, 104, "", ⟨[]⟩, none⟩, none, false⟩,
     ⟨⟨(some 16), .extract (.tmp 10) 1, 4, "", ⟨[]⟩, none⟩, none, false⟩,
     ⟨⟨(some 8), .alloc 104, 0, "", ⟨[]⟩, none⟩, none, false⟩,
     ⟨⟨none, .store 104 (.tmp 8) (.tmp 15), 0, "", ⟨[]⟩, none⟩, none, false⟩,
     ⟨⟨(some 9), .assign (.tmp 16), 4, "", ⟨[]⟩, none⟩, none, false⟩])
   (.seq
    (.raw (.region 2 Try.s101r2 true))
    .ret)))
def Try.x101r2 : List XOp := [
  ⟨⟨⟨(some 17), .load 104 (.tmp 8), 104, "", ⟨[]⟩, none⟩, none, false⟩, 0, 0, false, some (104, (.tmp 8))⟩,
  ⟨⟨⟨(some 18), .move (.tmp 9), 4, "", ⟨[]⟩, none⟩, none, false⟩, 1, 0, false, none⟩,
  ⟨⟨⟨(some 19), .move (.tmp 18), 4, "", ⟨[]⟩, none⟩, none, false⟩, 2, 0, false, none⟩,
  ⟨⟨⟨(some 20), .load 101 (.tmp 3), 101, "", ⟨[]⟩, none⟩, some ((some 19), true), false⟩, 3, 0, false, some (101, (.tmp 3))⟩,
  ⟨⟨⟨(some 21), .load 104 (.tmp 8), 104, "", ⟨[]⟩, none⟩, some ((some 19), true), false⟩, 4, 0, false, some (104, (.tmp 8))⟩,
  ⟨⟨⟨(some 22), .call ⟨.value (.func 100), ⟨[(.tmp 20), (.tmp 21)]⟩, ⟨[101, 104]⟩⟩, 3, "", ⟨[]⟩, none⟩, some ((some 19), true), false⟩, 5, 30, true, none⟩,
  ⟨⟨⟨(some 23), .binOp .eql 3 (.tmp 22) (.const (.int .i64 9223372036854775807)) 3, 4, "", ⟨[]⟩, none⟩, some ((some 19), true), false⟩, 6, 0, false, none⟩,
  ⟨⟨⟨(some 24), .pick (.tmp 19) (.tmp 23) (.const (.bool false)), 4, "", ⟨[]⟩, none⟩, none, false⟩, 7, 0, false, none⟩,
  ⟨⟨⟨none, .store 104 (.tmp 6) (.tmp 17), 0, "", ⟨[]⟩, none⟩, none, false⟩, 8, 63, true, none⟩,
  ⟨⟨⟨(some 7), .assign (.tmp 24), 4, "", ⟨[]⟩, none⟩, none, false⟩, 9, 0, false, none⟩]
theorem Try.s101_eq : Try.f101.body.map (sOfX [2]) = some Try.s101 := by kernel_rfl
theorem Try.x101r2_eq : xRegion Try.s101r2 = some Try.x101r2 := by kernel_rfl
theorem Try.x101r2_kinds : xkinds Try.x101r2 = true := by kernel_rfl
end Go.Proofs

namespace Go.Proofs
open Go Go.RowKit Go.Sim
set_option maxRecDepth 100000
set_option maxHeartbeats 32000000 in
theorem endless_ok {S : List Int} (hS : perB S = true) {W1 : AW} {p : Option Addr} {c bm : Nat} (hs : ArrOf W1 1 icells (.slice p S.length c) S) (hbm : W1.next ≤ bm) (M : MemoA) (a : List Int) (r : Nat) (hr : r < S.length) (w : AW) (ha : StOk S a) (hI : InvM S M []) (f : Fresh w) (hk : Keep W1.next W1 w) (hb : bm < w.next) (hM : MapAt w bm M) :
    CallT Try.prog Try.T1 (.fn (.func 101) #[]) #[whl p S.length c bm, aV a, .int .i64 (r : Int)] w (fun v w' => ∃ (g : Bool) (M' : MemoA), v = .tuple #[aV (aftI S a (r : Int)), .bool g] ∧ (g = true ↔ keptB S a (r : Int) = true ∧ infP S (aftI S a (r : Int))) ∧ InvM S M' [] ∧ MapAt w' bm M' ∧ MutS (fun j => j = bm) w w') := by
  have h5 := (perB_iff.1 hS).1
  have g1 := (Grown.refl f).push (.cells [.slice p S.length c, .map (some bm)] 101 w.next 0 0)
  have O1 := Own.new f 101 [.slice p S.length c, .map (some bm)]
  have g2 := g1.push (.cells (a.flatMap icells) 104 (w.next + 1) 0 0)
  have O2 := Own.new g1.2 104 (a.flatMap icells)
  have g3 := g2.push (.cells [.int .i64 0, .int .i64 0, .int .i64 0, .int .i64 0, .int .i64 0] 104 (w.next + 1 + 1) 0 0)
  have O3 := Own.new g2.2 104 [.int .i64 0, .int .i64 0, .int .i64 0, .int .i64 0, .int .i64 0]
  simp only [AW.next_push] at O2 O3
  have O1' := (O1.push (.cells (a.flatMap icells) 104 (w.next + 1) 0 0)).push (.cells [.int .i64 0, .int .i64 0, .int .i64 0, .int .i64 0, .int .i64 0] 104 (w.next + 1 + 1) 0 0)
  have O2' := O2.push (.cells [.int .i64 0, .int .i64 0, .int .i64 0, .int .i64 0, .int .i64 0] 104 (w.next + 1 + 1) 0 0)
  have nx3 : (((w.push (.cells [.slice p S.length c, .map (some bm)] 101 w.next 0 0)).push (.cells (a.flatMap icells) 104 (w.next + 1) 0 0)).push (.cells [.int .i64 0, .int .i64 0, .int .i64 0, .int .i64 0, .int .i64 0] 104 (w.next + 1 + 1) 0 0)).next = w.next + 1 + 1 + 1 := by simp only [AW.next_push]
  have hldw := loadAll O1' (n := 2) rfl (by simp [oneCell])
  have hlda := loadAll O2' (n := 5) (by rw [icells_flat_len, ha.len]) (icells_ones _)
  have hM3 : MapAt _ bm M := hM.blk (g3.1.blk bm hb)
  have hk3 := hk.trans (g3.1.mono hk.next)
  have haf := after_ok S a (r : Int) h5.2 ha.len (fun j => by have := st_in hS ha j; omega) p c bm _ g3.2 (hs.kept hk3)
  unfold whl aV at *
  refine callT_codeX [2] rfl Try.func101 rfl Try.s101_eq rfl ?_
  unfold Try.s101
  simp -dsimp -implicitDefEqProofs (maxSteps := 2000000) (disch := first | assumption | omega | (simp only [nx]; omega) | ((repeat refine Fresh.push ?_ _); assumption) | (simp only [smA]; done) | (simp [oneCell, AW.next_push]; done) | fail) only [go_sem, Nat.reduceEqDiff, reduceIte, Nat.reduceAdd, Int.toNat_natCast, Nat.add_zero, Owes_true, Try.results101, hldw, hlda, Nat.zero_add]
  generalize ((w.push (.cells [.slice p S.length c, .map (some bm)] 101 w.next 0 0)).push (.cells (a.flatMap icells) 104 (w.next + 1) 0 0)).push (.cells [.int .i64 0, .int .i64 0, .int .i64 0, .int .i64 0, .int .i64 0] 104 (w.next + 1 + 1) 0 0) = w3 at *
  apply callV_of (e := rfl)
  · exact haf
  rintro _ w4 ⟨rfl, g4⟩
  have gg4 := g3.trans g4
  have hn4 := g4.1.next
  have g5 := (Grown.refl g4.2).push (.cells [.int .i64 0, .int .i64 0, .int .i64 0, .int .i64 0, .int .i64 0] 104 w4.next 0 0)
  have O5 := Own.new g4.2 104 [.int .i64 0, .int .i64 0, .int .i64 0, .int .i64 0, .int .i64 0]
  obtain ⟨w6, st6, O6, m6, n6⟩ := full5 g5.2 O5 rfl (C := aftI S a (r : Int)) (aft_len _ _ _)
  have m46 : MutS (fun _ => False) w4 w6 := (MutS.of g5).trans m6 (fun j q => .inr (by omega))
  have P1 := m46.own (O1'.keep g4.1) id
  have P3 := m46.own (O3.keep g4.1) id
  have hb3 : bm < w3.next := by omega
  have hM6 : MapAt w6 bm M := hM3.blk (by rw [m46.blk _ (by omega) id]; exact g4.1.blk _ hb3)
  have m06 : MutS (fun j => j = bm) w w6 := ((MutS.of gg4).trans m46 (fun j q => q.elim))
  simp -dsimp -implicitDefEqProofs (maxSteps := 2000000) (disch := first | assumption | omega | (simp only [nx]; omega) | ((repeat refine Fresh.push ?_ _); assumption) | (simp only [smA]; done) | (simp [oneCell, AW.next_push]; done) | fail) only [go_sem, Nat.reduceEqDiff, reduceIte, Nat.reduceAdd, Int.toNat_natCast, Nat.add_zero, Owes_true, Try.results101, st6]
  show CodeT _ _ _ _ _ _ _ _
  refine codeT_regX Try.x101r2_eq Try.x101r2_kinds ?_
  unfold Try.x101r2
  have hld6 := loadAll O6 (n := 5) (by rw [icells_flat_len, aft_len]) (icells_ones _)
  have hldw6 := loadAll P1 (n := 2) rfl (by simp [oneCell])
  have hsa := same_ptV (aftI S a (r : Int))
  cases hkp : keptB S a (r : Int) with
  | false =>
    obtain ⟨w7, st7, P37, m7, n7⟩ := full5 m06.fresh P3 rfl (C := aftI S a (r : Int)) (aft_len _ _ _)
    have hld7 := loadAll P37 (n := 5) (by rw [icells_flat_len, aft_len]) (icells_ones _)
    simp -dsimp -implicitDefEqProofs (maxSteps := 2000000) (disch := first | assumption | omega | (simp only [nx]; omega) | ((repeat refine Fresh.push ?_ _); assumption) | (simp only [smA]; done) | (simp [oneCell, AW.next_push]; done) | fail) only [go_sem, Nat.reduceEqDiff, reduceIte, Nat.reduceAdd, Int.toNat_natCast, Nat.add_zero, Owes_true, hld6, hldw6, hsa, st7]
    refine ⟨⟨.inl (show Nat.testBit 63 0 = true by decide), trivial⟩, ?_⟩
    simp -dsimp -implicitDefEqProofs (maxSteps := 2000000) (disch := first | assumption | omega | (simp only [nx]; omega) | ((repeat refine Fresh.push ?_ _); assumption) | (simp only [smA]; done) | (simp [oneCell, AW.next_push]; done) | fail) only [go_sem, Nat.reduceEqDiff, reduceIte, Nat.reduceAdd, Int.toNat_natCast, Nat.add_zero, Owes_true, Try.results101, hld7]
    exact ⟨false, M, rfl, by simp, hI, hM6.blk (m7.blk _ (by have := m06.next; omega) (by omega)), m06.trans m7 (fun j q => .inr (by omega))⟩
  | true =>
  have hrec := lasts_ok hS hs hbm (cntN M + 1) M [] (aftI S a (r : Int)) w6 (by omega) (st_aft hS ha hkp) hI (fun s h => by cases h) m06.fresh (hk.trans (m06.keep (fun j q => by omega) hk.next)) (by have := m06.next; omega) hM6
  unfold whl aV at hrec
  have hsw : same 12 (.agg #[.slice p S.length c, .map (some bm)]) (.agg #[.slice p S.length c, .map (some bm)]) = true := by
    have := same_s11 p S.length c
    simp [same, same.all, this]
  simp -dsimp -implicitDefEqProofs (maxSteps := 2000000) (disch := first | assumption | omega | (simp only [nx]; omega) | ((repeat refine Fresh.push ?_ _); assumption) | (simp only [smA]; done) | (simp [oneCell, AW.next_push]; done) | fail) only [go_sem, Nat.reduceEqDiff, reduceIte, Nat.reduceAdd, Int.toNat_natCast, Nat.add_zero, Owes_true, hld6, hldw6, hsa, hsw]
  apply callV_of (e := rfl)
  · exact hrec
  rintro _ w7 ⟨x, M7, rfl, hLP, hE7, hI7, hM7, m67⟩
  have m07 := m06.trans m67 (Within.refl _ _)
  have hb6 : bm < w4.next := by omega
  have O67 := m67.own O6 (by omega)
  have hld67 := loadAll O67 (n := 5) (by rw [icells_flat_len, aft_len]) (icells_ones _)
  have P37 := m67.own P3 (by omega)
  obtain ⟨w8, st8, P38, m8, n8⟩ := full5 m07.fresh P37 rfl (C := aftI S a (r : Int)) (aft_len _ _ _)
  have hld8 := loadAll P38 (n := 5) (by rw [icells_flat_len, aft_len]) (icells_ones _)
  have m08 : MutS (fun j => j = bm) w w8 := m07.trans m8 (fun j q => .inr (by omega))
  have hM8 : MapAt w8 bm M7 := hM7.blk (m8.blk _ (by have := m07.next; omega) (by omega))
  simp -dsimp -implicitDefEqProofs (maxSteps := 2000000) (disch := first | assumption | omega | (simp only [nx]; omega) | ((repeat refine Fresh.push ?_ _); assumption) | (simp only [smA]; done) | (simp [oneCell, AW.next_push]; done) | fail) only [go_sem, Nat.reduceEqDiff, reduceIte, Nat.reduceAdd, Int.toNat_natCast, Nat.add_zero, Owes_true]
  refine ⟨⟨.inl (show Nat.testBit 30 4 = true by decide), .inl (show Nat.testBit 30 3 = true by decide), .inr fun inf hinf => ?_, trivial⟩, ?_⟩
  · rw [Try.ty104] at hinf
    injection hinf with hinf
    subst hinf
    simp -dsimp -implicitDefEqProofs (maxSteps := 2000000) (disch := first | assumption | omega | (simp only [nx]; omega) | ((repeat refine Fresh.push ?_ _); assumption) | (simp only [smA]; done) | (simp [oneCell, AW.next_push]; done) | fail) only [go_sem, Nat.reduceEqDiff, reduceIte, Nat.reduceAdd, Int.toNat_natCast, Nat.add_zero, Owes_true, hld67, hld6]
  by_cases hx : x = 9223372036854775807
  · have hd : decide (x = 9223372036854775807) = true := decide_eq_true hx
    have hinf : infP S (aftI S a (r : Int)) := by
      rcases hLP with ⟨_, q⟩ | ⟨q, _⟩
      · exact q
      · exact absurd hx q
    simp -dsimp -implicitDefEqProofs (maxSteps := 2000000) (disch := first | assumption | omega | (simp only [nx]; omega) | ((repeat refine Fresh.push ?_ _); assumption) | (simp only [smA]; done) | (simp [oneCell, AW.next_push]; done) | fail) only [go_sem, Nat.reduceEqDiff, reduceIte, Nat.reduceAdd, Int.toNat_natCast, Nat.add_zero, Owes_true, hd, st8, hsa]
    refine ⟨⟨.inl (show Nat.testBit 63 4 = true by decide), .inl (show Nat.testBit 63 3 = true by decide), .inl (show Nat.testBit 63 0 = true by decide), trivial⟩, ?_⟩
    simp -dsimp -implicitDefEqProofs (maxSteps := 2000000) (disch := first | assumption | omega | (simp only [nx]; omega) | ((repeat refine Fresh.push ?_ _); assumption) | (simp only [smA]; done) | (simp [oneCell, AW.next_push]; done) | fail) only [go_sem, Nat.reduceEqDiff, reduceIte, Nat.reduceAdd, Int.toNat_natCast, Nat.add_zero, Owes_true, Try.results101, hld8]
    exact ⟨true, M7, rfl, by simp [hinf], hI7, hM8, m08⟩
  · have hd : decide (x = 9223372036854775807) = false := decide_eq_false hx
    have hinf : ¬ infP S (aftI S a (r : Int)) := by
      rcases hLP with ⟨q, _⟩ | ⟨_, _, _, q⟩
      · exact absurd q hx
      · exact fun z => inf_not_max z q
    simp -dsimp -implicitDefEqProofs (maxSteps := 2000000) (disch := first | assumption | omega | (simp only [nx]; omega) | ((repeat refine Fresh.push ?_ _); assumption) | (simp only [smA]; done) | (simp [oneCell, AW.next_push]; done) | fail) only [go_sem, Nat.reduceEqDiff, reduceIte, Nat.reduceAdd, Int.toNat_natCast, Nat.add_zero, Owes_true, hd, st8, hsa]
    refine ⟨⟨.inl (show Nat.testBit 63 4 = true by decide), .inl (show Nat.testBit 63 3 = true by decide), .inl (show Nat.testBit 63 0 = true by decide), trivial⟩, ?_⟩
    simp -dsimp -implicitDefEqProofs (maxSteps := 2000000) (disch := first | assumption | omega | (simp only [nx]; omega) | ((repeat refine Fresh.push ?_ _); assumption) | (simp only [smA]; done) | (simp [oneCell, AW.next_push]; done) | fail) only [go_sem, Nat.reduceEqDiff, reduceIte, Nat.reduceAdd, Int.toNat_natCast, Nat.add_zero, Owes_true, Try.results101, hld8]
    exact ⟨false, M7, rfl, by simp [hinf], hI7, hM8, m08⟩
end Go.Proofs

namespace Go.Proofs
open Go Go.RowKit Go.Sim
set_option maxRecDepth 100000
end Go.Proofs
