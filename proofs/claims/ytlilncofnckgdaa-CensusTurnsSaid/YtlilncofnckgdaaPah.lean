/- This program: its code, contracts, numbers, part 8. -/
import Derived.Test.YtlilncofnckgdaaPac
import Derived.Test.YtlilncofnckgdaaNa
import Derived.Test.YtlilncofnckgdaaPaf
import Derived.Test.YtlilncofnckgdaaPag
set_option linter.unusedVariables false
set_option linter.unusedSimpArgs false
namespace Go.Proofs
open Go Go.RowKit Go.Sim
set_option maxRecDepth 100000
def Try.s98 : SC := (.seq (.ops false [⟨⟨(some 2),.assign (.const (.bool false)),4,"",⟨[]⟩,none⟩,none,false⟩]) (.seq (.ops false [⟨⟨(some 5),.move (.tmp 0),22,"",⟨[]⟩,none⟩,none,false⟩,⟨⟨(some 6),.call ⟨.builtin .len,⟨[(.tmp 5)]⟩,⟨[22]⟩⟩,3,"",⟨[]⟩,none⟩,none,false⟩,⟨⟨(some 7),.call ⟨.value (.func 46),⟨[(.const (.int .i64 1)),(.tmp 6),(.const (.int .i64 5))]⟩,⟨[3,3,3]⟩⟩,4,"",⟨[]⟩,none⟩,none,false⟩,⟨⟨(some 3),.assign (.tmp 7),4,"",⟨[]⟩,none⟩,none,false⟩]) (.seq (.seq (.ops false [⟨⟨(some 4),.assign (.const (.int .i64 0)),3,"",⟨[]⟩,none⟩,none,false⟩]) (.block 0 (.loop (.seq (.seq (.ops false [⟨⟨(some 8),.move (.tmp 4),3,"",⟨[]⟩,none⟩,none,false⟩,⟨⟨(some 9),.move (.tmp 0),22,"",⟨[]⟩,none⟩,none,false⟩,⟨⟨(some 10),.call ⟨.builtin .len,⟨[(.tmp 9)]⟩,⟨[22]⟩⟩,3,"",⟨[]⟩,none⟩,none,false⟩,⟨⟨(some 11),.binOp .lss 3 (.tmp 8) (.tmp 10) 3,4,"",⟨[]⟩,none⟩,none,false⟩]) (.cond (.tmp 11) .skip (.exit 0))) (.seq (.block 1 (.ops false [⟨⟨(some 14),.move (.tmp 3),4,"",⟨[]⟩,none⟩,none,false⟩,⟨⟨(some 15),.move (.tmp 14),4,"",⟨[]⟩,none⟩,none,false⟩,⟨⟨(some 16),.move (.tmp 0),22,"",⟨[]⟩,none⟩,some ((some 15),true),false⟩,⟨⟨(some 17),.move (.tmp 4),3,"",⟨[]⟩,none⟩,some ((some 15),true),false⟩,⟨⟨(some 18),.indexAddr 22 (.tmp 16) (.tmp 17),0,"",⟨[]⟩,none⟩,some ((some 15),true),false⟩,⟨⟨(some 19),.load 3 (.tmp 18),3,"",⟨[]⟩,none⟩,some ((some 15),true),false⟩,⟨⟨(some 20),.call ⟨.value (.func 46),⟨[(.const (.int .i64 1)),(.tmp 19),(.const (.int .i64 8))]⟩,⟨[3,3,3]⟩⟩,4,"",⟨[]⟩,none⟩,some ((some 15),true),false⟩,⟨⟨(some 21),.pick (.tmp 15) (.tmp 20) (.const (.bool false)),4,"",⟨[]⟩,none⟩,none,false⟩,⟨⟨(some 3),.assign (.tmp 21),4,"",⟨[]⟩,none⟩,none,false⟩])) (.ops false [⟨⟨(some 12),.move (.tmp 4),3,"",⟨[]⟩,none⟩,none,false⟩,⟨⟨(some 13),.binOp .add 3 (.tmp 12) (.const (.int .i64 1)) 3,3,"",⟨[]⟩,none⟩,none,false⟩,⟨⟨(some 4),.assign (.tmp 13),3,"",⟨[]⟩,none⟩,none,false⟩])))))) (.seq (.ops false [⟨⟨(some 22),.move (.tmp 3),4,"",⟨[]⟩,none⟩,none,false⟩,⟨⟨(some 2),.assign (.tmp 22),4,"",⟨[]⟩,none⟩,none,false⟩]) .ret))))
def Try.s99 : SC := (.seq (.ops false [⟨⟨(some 6),.assign (.const (.slice none 0 0)),22,"",⟨[]⟩,none⟩,none,false⟩,⟨⟨(some 7),.assign (.const (.bool false)),4,"",⟨[]⟩,none⟩,none,false⟩]) (.seq (.ops false [⟨⟨(some 8),.assign (.const (.slice none 0 0)),22,"",⟨[]⟩,none⟩,none,false⟩]) (.seq (.seq (.ops false [⟨⟨(some 9),.assign (.const (.int .i64 0)),3,"",⟨[]⟩,none⟩,none,false⟩]) (.block 0 (.loop (.seq (.seq (.ops false [⟨⟨(some 11),.move (.tmp 9),3,"",⟨[]⟩,none⟩,none,false⟩,⟨⟨(some 12),.move (.tmp 1),22,"",⟨[]⟩,none⟩,none,false⟩,⟨⟨(some 13),.call ⟨.builtin .len,⟨[(.tmp 12)]⟩,⟨[22]⟩⟩,3,"",⟨[]⟩,none⟩,none,false⟩,⟨⟨(some 14),.binOp .lss 3 (.tmp 11) (.tmp 13) 3,4,"",⟨[]⟩,none⟩,none,false⟩]) (.cond (.tmp 14) .skip (.exit 0))) (.seq (.block 1 (.seq (.ops false [⟨⟨(some 17),.move (.tmp 1),22,"",⟨[]⟩,none⟩,none,false⟩,⟨⟨(some 18),.move (.tmp 9),3,"",⟨[]⟩,none⟩,none,false⟩,⟨⟨(some 19),.indexAddr 22 (.tmp 17) (.tmp 18),0,"",⟨[]⟩,none⟩,none,false⟩,⟨⟨(some 20),.load 3 (.tmp 19),3,"",⟨[]⟩,none⟩,none,false⟩,⟨⟨(some 21),.binOp .add 3 (.tmp 20) (.const (.int .i64 1)) 3,3,"",⟨[]⟩,none⟩,none,false⟩,⟨⟨(some 10),.assign (.tmp 21),3,"",⟨[]⟩,none⟩,none,false⟩]) (.seq (.seq (.ops false [⟨⟨(some 22),.move (.tmp 9),3,"",⟨[]⟩,none⟩,none,false⟩,⟨⟨(some 23),.move (.tmp 2),3,"",⟨[]⟩,none⟩,none,false⟩,⟨⟨(some 24),.binOp .eql 3 (.tmp 22) (.tmp 23) 3,4,"",⟨[]⟩,none⟩,none,false⟩]) (.cond (.tmp 24) (.ops false [⟨⟨(some 10),.assign (.const (.int .i64 0)),3,"",⟨[]⟩,none⟩,none,false⟩]) .skip)) (.seq (.seq (.ops false [⟨⟨(some 25),.move (.tmp 10),3,"",⟨[]⟩,none⟩,none,false⟩,⟨⟨(some 26),.move (.tmp 0),22,"",⟨[]⟩,none⟩,none,false⟩,⟨⟨(some 27),.move (.tmp 9),3,"",⟨[]⟩,none⟩,none,false⟩,⟨⟨(some 28),.indexAddr 22 (.tmp 26) (.tmp 27),0,"",⟨[]⟩,none⟩,none,false⟩,⟨⟨(some 29),.load 3 (.tmp 28),3,"",⟨[]⟩,none⟩,none,false⟩,⟨⟨(some 30),.binOp .geq 3 (.tmp 25) (.tmp 29) 3,4,"",⟨[]⟩,none⟩,none,false⟩]) (.cond (.tmp 30) (.seq (.ops false [⟨⟨(some 6),.assign (.const (.slice none 0 0)),22,"",⟨[]⟩,none⟩,none,false⟩,⟨⟨(some 7),.assign (.const (.bool false)),4,"",⟨[]⟩,none⟩,none,false⟩]) .ret) .skip)) (.ops false [⟨⟨(some 31),.move (.tmp 8),22,"",⟨[]⟩,none⟩,none,false⟩,⟨⟨(some 32),.move (.tmp 10),3,"",⟨[]⟩,none⟩,none,false⟩,⟨⟨(some 33),.buildSlice 22 1 ⟨[(0,(.tmp 32))]⟩,22,"",⟨[]⟩,none⟩,none,false⟩,⟨⟨(some 34),.call ⟨.builtin .append,⟨[(.tmp 31),(.tmp 33)]⟩,⟨[22,22]⟩⟩,22,"",⟨[]⟩,none⟩,none,false⟩,⟨⟨(some 8),.assign (.tmp 34),22,"",⟨[]⟩,none⟩,none,false⟩]))))) (.ops false [⟨⟨(some 15),.move (.tmp 9),3,"",⟨[]⟩,none⟩,none,false⟩,⟨⟨(some 16),.binOp .add 3 (.tmp 15) (.const (.int .i64 1)) 3,3,"",⟨[]⟩,none⟩,none,false⟩,⟨⟨(some 9),.assign (.tmp 16),3,"",⟨[]⟩,none⟩,none,false⟩])))))) (.seq (.ops false [⟨⟨(some 35),.move (.tmp 8),22,"",⟨[]⟩,none⟩,none,false⟩,⟨⟨(some 6),.assign (.tmp 35),22,"",⟨[]⟩,none⟩,none,false⟩,⟨⟨(some 7),.assign (.const (.bool true)),4,"",⟨[]⟩,none⟩,none,false⟩]) .ret))))
def Try.s104 : SC := (.seq (.ops false [⟨⟨(some 4),.assign (.const (.int .i64 0)),3,"",⟨[]⟩,none⟩,none,false⟩]) (.seq (.ops false [⟨⟨(some 5),.assign (.const (.int .i64 0)),3,"",⟨[]⟩,none⟩,none,false⟩]) (.seq (.seq (.ops false [⟨⟨(some 6),.assign (.const (.int .i64 0)),3,"",⟨[]⟩,none⟩,none,false⟩]) (.block 0 (.loop (.seq (.seq (.ops false [⟨⟨(some 7),.move (.tmp 6),3,"",⟨[]⟩,none⟩,none,false⟩,⟨⟨(some 8),.move (.tmp 1),22,"",⟨[]⟩,none⟩,none,false⟩,⟨⟨(some 9),.call ⟨.builtin .len,⟨[(.tmp 8)]⟩,⟨[22]⟩⟩,3,"",⟨[]⟩,none⟩,none,false⟩,⟨⟨(some 10),.binOp .lss 3 (.tmp 7) (.tmp 9) 3,4,"",⟨[]⟩,none⟩,none,false⟩]) (.cond (.tmp 10) .skip (.exit 0))) (.seq (.block 1 (.ops true [⟨⟨(some 13),.move (.tmp 5),3,"",⟨[]⟩,none⟩,none,true⟩,⟨⟨(some 14),.move (.tmp 0),22,"",⟨[]⟩,none⟩,none,true⟩,⟨⟨(some 15),.move (.tmp 6),3,"",⟨[]⟩,none⟩,none,true⟩,⟨⟨(some 16),.indexAddr 22 (.tmp 14) (.tmp 15),0,"",⟨[]⟩,none⟩,none,true⟩,⟨⟨(some 17),.load 3 (.tmp 16),3,"",⟨[]⟩,none⟩,none,true⟩,⟨⟨(some 18),.binOp .mul 3 (.tmp 13) (.tmp 17) 3,3,"",⟨[]⟩,none⟩,none,true⟩,⟨⟨(some 19),.move (.tmp 1),22,"",⟨[]⟩,none⟩,none,true⟩,⟨⟨(some 20),.move (.tmp 6),3,"",⟨[]⟩,none⟩,none,true⟩,⟨⟨(some 21),.indexAddr 22 (.tmp 19) (.tmp 20),0,"",⟨[]⟩,none⟩,none,true⟩,⟨⟨(some 22),.load 3 (.tmp 21),3,"",⟨[]⟩,none⟩,none,true⟩,⟨⟨(some 23),.binOp .add 3 (.tmp 18) (.tmp 22) 3,3,"",⟨[]⟩,none⟩,none,true⟩,⟨⟨(some 5),.assign (.tmp 23),3,"",⟨[]⟩,none⟩,none,true⟩])) (.ops false [⟨⟨(some 11),.move (.tmp 6),3,"",⟨[]⟩,none⟩,none,false⟩,⟨⟨(some 12),.binOp .add 3 (.tmp 11) (.const (.int .i64 1)) 3,3,"",⟨[]⟩,none⟩,none,false⟩,⟨⟨(some 6),.assign (.tmp 12),3,"",⟨[]⟩,none⟩,none,false⟩])))))) (.seq (.ops false [⟨⟨(some 24),.move (.tmp 5),3,"",⟨[]⟩,none⟩,none,false⟩,⟨⟨(some 4),.assign (.tmp 24),3,"",⟨[]⟩,none⟩,none,false⟩]) .ret))))
def Try.s122 : SC := (.seq (.ops false [⟨⟨(some 4),.assign (.const (.slice none 0 0)),22,"",⟨[]⟩,none⟩,none,false⟩]) (.seq (.ops false [⟨⟨(some 7),.move (.tmp 0),22,"",⟨[]⟩,none⟩,none,false⟩,⟨⟨(some 8),.call ⟨.builtin .len,⟨[(.tmp 7)]⟩,⟨[22]⟩⟩,3,"",⟨[]⟩,none⟩,none,false⟩,⟨⟨(some 9),.makeSlice 22 (.tmp 8) (.tmp 8),22,"",⟨[]⟩,none⟩,none,false⟩,⟨⟨(some 5),.assign (.tmp 9),22,"",⟨[]⟩,none⟩,none,false⟩]) (.seq (.seq (.ops false [⟨⟨(some 10),.move (.tmp 0),22,"",⟨[]⟩,none⟩,none,false⟩,⟨⟨(some 11),.call ⟨.builtin .len,⟨[(.tmp 10)]⟩,⟨[22]⟩⟩,3,"",⟨[]⟩,none⟩,none,false⟩,⟨⟨(some 12),.binOp .sub 3 (.tmp 11) (.const (.int .i64 1)) 3,3,"",⟨[]⟩,none⟩,none,false⟩,⟨⟨(some 6),.assign (.tmp 12),3,"",⟨[]⟩,none⟩,none,false⟩]) (.block 0 (.loop (.seq (.seq (.ops false [⟨⟨(some 13),.move (.tmp 6),3,"",⟨[]⟩,none⟩,none,false⟩,⟨⟨(some 14),.binOp .geq 3 (.tmp 13) (.const (.int .i64 0)) 3,4,"",⟨[]⟩,none⟩,none,false⟩]) (.cond (.tmp 14) .skip (.exit 0))) (.seq (.block 1 (.seq (.ops false [⟨⟨(some 17),.move (.tmp 5),22,"",⟨[]⟩,none⟩,none,false⟩,⟨⟨(some 18),.move (.tmp 6),3,"",⟨[]⟩,none⟩,none,false⟩,⟨⟨(some 19),.move (.tmp 1),3,"",⟨[]⟩,none⟩,none,false⟩,⟨⟨(some 20),.move (.tmp 0),22,"",⟨[]⟩,none⟩,none,false⟩,⟨⟨(some 21),.move (.tmp 6),3,"",⟨[]⟩,none⟩,none,false⟩,⟨⟨(some 22),.indexAddr 22 (.tmp 20) (.tmp 21),0,"",⟨[]⟩,none⟩,none,false⟩,⟨⟨(some 23),.load 3 (.tmp 22),3,"",⟨[]⟩,none⟩,none,false⟩,⟨⟨(some 24),.binOp .rem 3 (.tmp 19) (.tmp 23) 3,3,"",⟨[]⟩,none⟩,none,false⟩,⟨⟨(some 25),.indexAddr 22 (.tmp 17) (.tmp 18),0,"",⟨[]⟩,none⟩,none,false⟩,⟨⟨none,.store 3 (.tmp 25) (.tmp 24),0,"",⟨[]⟩,none⟩,none,false⟩]) (.ops false [⟨⟨(some 26),.move (.tmp 1),3,"",⟨[]⟩,none⟩,none,false⟩,⟨⟨(some 27),.move (.tmp 0),22,"",⟨[]⟩,none⟩,none,false⟩,⟨⟨(some 28),.move (.tmp 6),3,"",⟨[]⟩,none⟩,none,false⟩,⟨⟨(some 29),.indexAddr 22 (.tmp 27) (.tmp 28),0,"",⟨[]⟩,none⟩,none,false⟩,⟨⟨(some 30),.load 3 (.tmp 29),3,"",⟨[]⟩,none⟩,none,false⟩,⟨⟨(some 31),.binOp .quo 3 (.tmp 26) (.tmp 30) 3,3,"",⟨[]⟩,none⟩,none,false⟩,⟨⟨(some 1),.assign (.tmp 31),3,"",⟨[]⟩,none⟩,none,false⟩]))) (.ops false [⟨⟨(some 15),.move (.tmp 6),3,"",⟨[]⟩,none⟩,none,false⟩,⟨⟨(some 16),.binOp .sub 3 (.tmp 15) (.const (.int .i64 1)) 3,3,"",⟨[]⟩,none⟩,none,false⟩,⟨⟨(some 6),.assign (.tmp 16),3,"",⟨[]⟩,none⟩,none,false⟩])))))) (.seq (.ops false [⟨⟨(some 32),.move (.tmp 5),22,"",⟨[]⟩,none⟩,none,false⟩,⟨⟨(some 4),.assign (.tmp 32),22,"",⟨[]⟩,none⟩,none,false⟩]) .ret))))
def Try.s121 : SC := (.seq (.ops false [⟨⟨(some 3),.box 111 (.tmp 0),0,"",⟨[]⟩,none⟩,none,false⟩,⟨⟨(some 6),.assign (.const (.bool false)),4,"",⟨[]⟩,none⟩,none,false⟩]) (.seq (.seq (.ops false [⟨⟨(some 7),.assign (.const (.int .i64 0)),3,"",⟨[]⟩,none⟩,none,false⟩]) (.block 0 (.loop (.seq (.seq (.ops false [⟨⟨(some 10),.move (.tmp 7),3,"",⟨[]⟩,none⟩,none,false⟩,⟨⟨(some 11),.fieldAddr 111 (.tmp 3) 0,0,"",⟨[]⟩,none⟩,none,false⟩,⟨⟨(some 12),.load 22 (.tmp 11),22,"",⟨[]⟩,none⟩,none,false⟩,⟨⟨(some 13),.call ⟨.builtin .len,⟨[(.tmp 12)]⟩,⟨[22]⟩⟩,3,"",⟨[]⟩,none⟩,none,false⟩,⟨⟨(some 14),.binOp .lss 3 (.tmp 10) (.tmp 13) 3,4,"",⟨[]⟩,none⟩,none,false⟩]) (.cond (.tmp 14) .skip (.exit 0))) (.seq (.block 1 (.seq (.ops false [⟨⟨(some 18),.fieldAddr 111 (.tmp 3) 0,0,"",⟨[]⟩,none⟩,none,false⟩,⟨⟨(some 19),.load 22 (.tmp 18),22,"",⟨[]⟩,none⟩,none,false⟩,⟨⟨(some 20),.move (.tmp 1),22,"",⟨[]⟩,none⟩,none,false⟩,⟨⟨(some 21),.move (.tmp 7),3,"",⟨[]⟩,none⟩,none,false⟩,⟨⟨(some 22),.call ⟨.value (.func 99),⟨[(.tmp 19),(.tmp 20),(.tmp 21)]⟩,⟨[22,22,3]⟩⟩,107,"",⟨[]⟩,none⟩,none,false⟩,⟨⟨(some 17),.move (.tmp 22),107,"",⟨[]⟩,none⟩,none,false⟩,⟨⟨(some 23),.extract (.tmp 17) 0,22,"",⟨[]⟩,none⟩,none,false⟩,⟨⟨(some 24),.extract (.tmp 17) 1,4,"",⟨[]⟩,none⟩,none,false⟩,⟨⟨(some 8),.assign (.tmp 23),22,"",⟨[]⟩,none⟩,none,false⟩,⟨⟨(some 9),.assign (.tmp 24),4,"",⟨[]⟩,none⟩,none,false⟩]) (.seq (.ops true [⟨⟨(some 25),.move (.tmp 9),4,"",⟨[]⟩,none⟩,none,true⟩,⟨⟨(some 26),.move (.tmp 25),4,"",⟨[]⟩,none⟩,none,true⟩,⟨⟨(some 27),.fieldAddr 111 (.tmp 3) 1,0,"",⟨[]⟩,none⟩,some ((some 26),true),true⟩,⟨⟨(some 28),.load 22 (.tmp 27),22,"",⟨[]⟩,none⟩,some ((some 26),true),true⟩,⟨⟨(some 29),.fieldAddr 111 (.tmp 3) 0,0,"",⟨[]⟩,none⟩,some ((some 26),true),true⟩,⟨⟨(some 30),.load 22 (.tmp 29),22,"",⟨[]⟩,none⟩,some ((some 26),true),true⟩,⟨⟨(some 31),.move (.tmp 8),22,"",⟨[]⟩,none⟩,some ((some 26),true),true⟩,⟨⟨(some 35),.move (.tmp 2),3,"",⟨[]⟩,none⟩,some ((some 26),true),true⟩,⟨⟨(some 32),.call ⟨.value (.func 104),⟨[(.tmp 30),(.tmp 31)]⟩,⟨[22,22]⟩⟩,3,"",⟨[]⟩,none⟩,some ((some 26),true),true⟩,⟨⟨(some 33),.indexAddr 22 (.tmp 28) (.tmp 32),0,"",⟨[]⟩,none⟩,some ((some 26),true),true⟩,⟨⟨(some 34),.load 3 (.tmp 33),3,"",⟨[]⟩,none⟩,some ((some 26),true),true⟩,⟨⟨(some 36),.binOp .geq 3 (.tmp 34) (.tmp 35) 3,4,"",⟨[]⟩,none⟩,some ((some 26),true),true⟩,⟨⟨(some 37),.pick (.tmp 26) (.tmp 36) (.const (.bool false)),4,"",⟨[]⟩,none⟩,none,true⟩]) (.cond (.tmp 37) (.seq (.ops false [⟨⟨(some 6),.assign (.const (.bool true)),4,"",⟨[]⟩,none⟩,none,false⟩]) .ret) .skip)))) (.ops false [⟨⟨(some 15),.move (.tmp 7),3,"",⟨[]⟩,none⟩,none,false⟩,⟨⟨(some 16),.binOp .add 3 (.tmp 15) (.const (.int .i64 1)) 3,3,"",⟨[]⟩,none⟩,none,false⟩,⟨⟨(some 7),.assign (.tmp 16),3,"",⟨[]⟩,none⟩,none,false⟩])))))) (.seq (.ops false [⟨⟨(some 6),.assign (.const (.bool false)),4,"",⟨[]⟩,none⟩,none,false⟩]) .ret)))
def Try.s102 : SC := (.seq (.ops false [⟨⟨(some 2),.alloc 111,0,"",⟨[]⟩,none⟩,none,false⟩]) (.seq (.ops false [⟨⟨(some 3),.assign (.const (.int .i64 1)),3,"",⟨[]⟩,none⟩,none,false⟩]) (.seq (.seq (.ops false [⟨⟨(some 4),.assign (.const (.int .i64 0)),3,"",⟨[]⟩,none⟩,none,false⟩]) (.block 0 (.loop (.seq (.seq (.ops false [⟨⟨(some 13),.move (.tmp 4),3,"",⟨[]⟩,none⟩,none,false⟩,⟨⟨(some 14),.move (.tmp 0),22,"",⟨[]⟩,none⟩,none,false⟩,⟨⟨(some 15),.call ⟨.builtin .len,⟨[(.tmp 14)]⟩,⟨[22]⟩⟩,3,"",⟨[]⟩,none⟩,none,false⟩,⟨⟨(some 16),.binOp .lss 3 (.tmp 13) (.tmp 15) 3,4,"",⟨[]⟩,none⟩,none,false⟩]) (.cond (.tmp 16) .skip (.exit 0))) (.seq (.block 1 (.ops false [⟨⟨(some 19),.move (.tmp 3),3,"",⟨[]⟩,none⟩,none,false⟩,⟨⟨(some 20),.move (.tmp 0),22,"",⟨[]⟩,none⟩,none,false⟩,⟨⟨(some 21),.move (.tmp 4),3,"",⟨[]⟩,none⟩,none,false⟩,⟨⟨(some 22),.indexAddr 22 (.tmp 20) (.tmp 21),0,"",⟨[]⟩,none⟩,none,false⟩,⟨⟨(some 23),.load 3 (.tmp 22),3,"",⟨[]⟩,none⟩,none,false⟩,⟨⟨(some 24),.binOp .mul 3 (.tmp 19) (.tmp 23) 3,3,"",⟨[]⟩,none⟩,none,false⟩,⟨⟨(some 3),.assign (.tmp 24),3,"",⟨[]⟩,none⟩,none,false⟩])) (.ops false [⟨⟨(some 17),.move (.tmp 4),3,"",⟨[]⟩,none⟩,none,false⟩,⟨⟨(some 18),.binOp .add 3 (.tmp 17) (.const (.int .i64 1)) 3,3,"",⟨[]⟩,none⟩,none,false⟩,⟨⟨(some 4),.assign (.tmp 18),3,"",⟨[]⟩,none⟩,none,false⟩])))))) (.seq (.ops false [⟨⟨(some 25),.move (.tmp 0),22,"",⟨[]⟩,none⟩,none,false⟩,⟨⟨(some 26),.move (.tmp 3),3,"",⟨[]⟩,none⟩,none,false⟩,⟨⟨(some 27),.makeSlice 22 (.tmp 26) (.tmp 26),22,"",⟨[]⟩,none⟩,none,false⟩,⟨⟨(some 28),.build 111 ⟨[(0,(.tmp 25)),(1,(.tmp 27))]⟩,111,"",⟨[]⟩,none⟩,none,false⟩,⟨⟨(some 5),.alloc 111,0,"",⟨[]⟩,none⟩,none,false⟩,⟨⟨none,.store 111 (.tmp 5) (.tmp 28),0,"",⟨[]⟩,none⟩,none,false⟩]) (.seq (.ops false [⟨⟨(some 6),.assign (.const (.int .i64 0)),3,"",⟨[]⟩,none⟩,none,false⟩]) (.block 2 (.loop (.seq (.block 3 (.seq (.ops false [⟨⟨(some 31),.fieldAddr 111 (.tmp 5) 1,0,"",⟨[]⟩,none⟩,none,false⟩,⟨⟨(some 32),.load 22 (.tmp 31),22,"",⟨[]⟩,none⟩,none,false⟩,⟨⟨(some 7),.assign (.tmp 32),22,"",⟨[]⟩,none⟩,none,false⟩]) (.seq (.ops false [⟨⟨(some 8),.assign (.const (.slice none 0 0)),22,"",⟨[]⟩,none⟩,none,false⟩]) (.seq (.seq (.ops false [⟨⟨(some 9),.assign (.const (.int .i64 0)),3,"",⟨[]⟩,none⟩,none,false⟩]) (.block 4 (.loop (.seq (.seq (.ops false [⟨⟨(some 33),.move (.tmp 9),3,"",⟨[]⟩,none⟩,none,false⟩,⟨⟨(some 34),.move (.tmp 3),3,"",⟨[]⟩,none⟩,none,false⟩,⟨⟨(some 35),.binOp .lss 3 (.tmp 33) (.tmp 34) 3,4,"",⟨[]⟩,none⟩,none,false⟩]) (.cond (.tmp 35) .skip (.exit 4))) (.seq (.block 5 (.seq (.ops true [⟨⟨(some 38),.move (.tmp 7),22,"",⟨[]⟩,none⟩,none,true⟩,⟨⟨(some 39),.move (.tmp 9),3,"",⟨[]⟩,none⟩,none,true⟩,⟨⟨(some 40),.indexAddr 22 (.tmp 38) (.tmp 39),0,"",⟨[]⟩,none⟩,none,true⟩,⟨⟨(some 41),.load 3 (.tmp 40),3,"",⟨[]⟩,none⟩,none,true⟩,⟨⟨(some 42),.move (.tmp 6),3,"",⟨[]⟩,none⟩,none,true⟩,⟨⟨(some 43),.binOp .eql 3 (.tmp 41) (.tmp 42) 3,4,"",⟨[]⟩,none⟩,none,true⟩,⟨⟨(some 44),.move (.tmp 43),4,"",⟨[]⟩,none⟩,none,true⟩,⟨⟨(some 45),.load 111 (.tmp 5),111,"",⟨[]⟩,none⟩,some ((some 44),true),true⟩,⟨⟨(some 46),.move (.tmp 0),22,"",⟨[]⟩,none⟩,some ((some 44),true),true⟩,⟨⟨(some 47),.move (.tmp 9),3,"",⟨[]⟩,none⟩,some ((some 44),true),true⟩,⟨⟨(some 49),.move (.tmp 6),3,"",⟨[]⟩,none⟩,some ((some 44),true),true⟩,⟨⟨(some 48),.call ⟨.value (.func 122),⟨[(.tmp 46),(.tmp 47)]⟩,⟨[22,3]⟩⟩,22,"",⟨[]⟩,none⟩,some ((some 44),true),true⟩,⟨⟨(some 50),.call ⟨.value (.func 121),⟨[(.tmp 45),(.tmp 48),(.tmp 49)]⟩,⟨[111,22,3]⟩⟩,4,"",⟨[]⟩,none⟩,some ((some 44),true),false⟩,⟨⟨(some 51),.pick (.tmp 44) (.tmp 50) (.const (.bool false)),4,"",⟨[]⟩,none⟩,none,true⟩]) (.cond (.tmp 51) (.ops false [⟨⟨(some 52),.move (.tmp 8),22,"",⟨[]⟩,none⟩,none,false⟩,⟨⟨(some 53),.move (.tmp 9),3,"",⟨[]⟩,none⟩,none,false⟩,⟨⟨(some 54),.buildSlice 22 1 ⟨[(0,(.tmp 53))]⟩,22,"",⟨[]⟩,none⟩,none,false⟩,⟨⟨(some 55),.call ⟨.builtin .append,⟨[(.tmp 52),(.tmp 54)]⟩,⟨[22,22]⟩⟩,22,"",⟨[]⟩,none⟩,none,false⟩,⟨⟨(some 8),.assign (.tmp 55),22,"",⟨[]⟩,none⟩,none,false⟩]) .skip))) (.ops false [⟨⟨(some 36),.move (.tmp 9),3,"",⟨[]⟩,none⟩,none,false⟩,⟨⟨(some 37),.binOp .add 3 (.tmp 36) (.const (.int .i64 1)) 3,3,"",⟨[]⟩,none⟩,none,false⟩,⟨⟨(some 9),.assign (.tmp 37),3,"",⟨[]⟩,none⟩,none,false⟩])))))) (.seq (.ops false [⟨⟨(some 10),.assign (.const (.int .i64 0)),3,"",⟨[]⟩,none⟩,none,false⟩]) (.seq (.seq (.ops false [⟨⟨(some 11),.assign (.const (.int .i64 0)),3,"",⟨[]⟩,none⟩,none,false⟩]) (.block 6 (.loop (.seq (.seq (.ops false [⟨⟨(some 56),.move (.tmp 11),3,"",⟨[]⟩,none⟩,none,false⟩,⟨⟨(some 57),.move (.tmp 3),3,"",⟨[]⟩,none⟩,none,false⟩,⟨⟨(some 58),.binOp .lss 3 (.tmp 56) (.tmp 57) 3,4,"",⟨[]⟩,none⟩,none,false⟩]) (.cond (.tmp 58) .skip (.exit 6))) (.seq (.block 7 (.seq (.ops false [⟨⟨(some 61),.move (.tmp 7),22,"",⟨[]⟩,none⟩,none,false⟩,⟨⟨(some 62),.move (.tmp 11),3,"",⟨[]⟩,none⟩,none,false⟩,⟨⟨(some 63),.indexAddr 22 (.tmp 61) (.tmp 62),0,"",⟨[]⟩,none⟩,none,false⟩,⟨⟨(some 64),.load 3 (.tmp 63),3,"",⟨[]⟩,none⟩,none,false⟩,⟨⟨(some 65),.move (.tmp 6),3,"",⟨[]⟩,none⟩,none,false⟩,⟨⟨(some 66),.binOp .eql 3 (.tmp 64) (.tmp 65) 3,4,"",⟨[]⟩,none⟩,none,false⟩]) (.cond (.tmp 66) (.ops false [⟨⟨(some 67),.move (.tmp 10),3,"",⟨[]⟩,none⟩,none,false⟩,⟨⟨(some 68),.binOp .add 3 (.tmp 67) (.const (.int .i64 1)) 3,3,"",⟨[]⟩,none⟩,none,false⟩,⟨⟨(some 10),.assign (.tmp 68),3,"",⟨[]⟩,none⟩,none,false⟩]) .skip))) (.ops false [⟨⟨(some 59),.move (.tmp 11),3,"",⟨[]⟩,none⟩,none,false⟩,⟨⟨(some 60),.binOp .add 3 (.tmp 59) (.const (.int .i64 1)) 3,3,"",⟨[]⟩,none⟩,none,false⟩,⟨⟨(some 11),.assign (.tmp 60),3,"",⟨[]⟩,none⟩,none,false⟩])))))) (.seq (.seq (.ops false [⟨⟨(some 12),.assign (.const (.int .i64 0)),3,"",⟨[]⟩,none⟩,none,false⟩]) (.block 8 (.loop (.seq (.seq (.ops false [⟨⟨(some 69),.move (.tmp 12),3,"",⟨[]⟩,none⟩,none,false⟩,⟨⟨(some 70),.move (.tmp 8),22,"",⟨[]⟩,none⟩,none,false⟩,⟨⟨(some 71),.call ⟨.builtin .len,⟨[(.tmp 70)]⟩,⟨[22]⟩⟩,3,"",⟨[]⟩,none⟩,none,false⟩,⟨⟨(some 72),.binOp .lss 3 (.tmp 69) (.tmp 71) 3,4,"",⟨[]⟩,none⟩,none,false⟩]) (.cond (.tmp 72) .skip (.exit 8))) (.seq (.block 9 (.ops false [⟨⟨(some 75),.move (.tmp 7),22,"",⟨[]⟩,none⟩,none,false⟩,⟨⟨(some 76),.move (.tmp 8),22,"",⟨[]⟩,none⟩,none,false⟩,⟨⟨(some 77),.move (.tmp 12),3,"",⟨[]⟩,none⟩,none,false⟩,⟨⟨(some 78),.indexAddr 22 (.tmp 76) (.tmp 77),0,"",⟨[]⟩,none⟩,none,false⟩,⟨⟨(some 79),.load 3 (.tmp 78),3,"",⟨[]⟩,none⟩,none,false⟩,⟨⟨(some 80),.move (.tmp 6),3,"",⟨[]⟩,none⟩,none,false⟩,⟨⟨(some 81),.binOp .add 3 (.tmp 80) (.const (.int .i64 1)) 3,3,"",⟨[]⟩,none⟩,none,false⟩,⟨⟨(some 82),.indexAddr 22 (.tmp 75) (.tmp 79),0,"",⟨[]⟩,none⟩,none,false⟩,⟨⟨none,.store 3 (.tmp 82) (.tmp 81),0,"",⟨[]⟩,none⟩,none,false⟩])) (.ops false [⟨⟨(some 73),.move (.tmp 12),3,"",⟨[]⟩,none⟩,none,false⟩,⟨⟨(some 74),.binOp .add 3 (.tmp 73) (.const (.int .i64 1)) 3,3,"",⟨[]⟩,none⟩,none,false⟩,⟨⟨(some 12),.assign (.tmp 74),3,"",⟨[]⟩,none⟩,none,false⟩])))))) (.seq (.ops false [⟨⟨(some 83),.move (.tmp 8),22,"",⟨[]⟩,none⟩,none,false⟩,⟨⟨(some 84),.call ⟨.builtin .len,⟨[(.tmp 83)]⟩,⟨[22]⟩⟩,3,"",⟨[]⟩,none⟩,none,false⟩,⟨⟨(some 85),.move (.tmp 10),3,"",⟨[]⟩,none⟩,none,false⟩,⟨⟨(some 86),.binOp .eql 3 (.tmp 84) (.tmp 85) 3,4,"",⟨[]⟩,none⟩,none,false⟩]) (.cond (.tmp 86) (.seq (.ops false [⟨⟨(some 87),.load 111 (.tmp 5),111,"",⟨[]⟩,none⟩,none,false⟩,⟨⟨none,.store 111 (.tmp 2) (.tmp 87),0,"",⟨[]⟩,none⟩,none,false⟩]) .ret) .skip))))))))) (.ops false [⟨⟨(some 29),.move (.tmp 6),3,"",⟨[]⟩,none⟩,none,false⟩,⟨⟨(some 30),.binOp .add 3 (.tmp 29) (.const (.int .i64 1)) 3,3,"",⟨[]⟩,none⟩,none,false⟩,⟨⟨(some 6),.assign (.tmp 30),3,"",⟨[]⟩,none⟩,none,false⟩])))))))))
def Try.s103 : SC := (.seq (.ops false [⟨⟨(some 2),.box 111 (.tmp 0),0,"",⟨[]⟩,none⟩,none,false⟩,⟨⟨(some 4),.assign (.const (.bool false)),4,"",⟨[]⟩,none⟩,none,false⟩]) (.seq (.ops false [⟨⟨(some 5),.assign (.const (.int .i64 0)),3,"",⟨[]⟩,none⟩,none,false⟩]) (.seq (.seq (.ops false [⟨⟨(some 6),.assign (.const (.int .i64 0)),3,"",⟨[]⟩,none⟩,none,false⟩]) (.block 0 (.loop (.seq (.seq (.ops false [⟨⟨(some 8),.move (.tmp 6),3,"",⟨[]⟩,none⟩,none,false⟩,⟨⟨(some 9),.fieldAddr 111 (.tmp 2) 1,0,"",⟨[]⟩,none⟩,none,false⟩,⟨⟨(some 10),.load 22 (.tmp 9),22,"",⟨[]⟩,none⟩,none,false⟩,⟨⟨(some 11),.call ⟨.builtin .len,⟨[(.tmp 10)]⟩,⟨[22]⟩⟩,3,"",⟨[]⟩,none⟩,none,false⟩,⟨⟨(some 12),.binOp .lss 3 (.tmp 8) (.tmp 11) 3,4,"",⟨[]⟩,none⟩,none,false⟩]) (.cond (.tmp 12) .skip (.exit 0))) (.seq (.block 1 (.ops false [⟨⟨(some 15),.move (.tmp 5),3,"",⟨[]⟩,none⟩,none,false⟩,⟨⟨(some 16),.fieldAddr 111 (.tmp 2) 1,0,"",⟨[]⟩,none⟩,none,false⟩,⟨⟨(some 17),.load 22 (.tmp 16),22,"",⟨[]⟩,none⟩,none,false⟩,⟨⟨(some 18),.move (.tmp 6),3,"",⟨[]⟩,none⟩,none,false⟩,⟨⟨(some 19),.indexAddr 22 (.tmp 17) (.tmp 18),0,"",⟨[]⟩,none⟩,none,false⟩,⟨⟨(some 20),.load 3 (.tmp 19),3,"",⟨[]⟩,none⟩,none,false⟩,⟨⟨(some 21),.call ⟨.builtin .max,⟨[(.tmp 15),(.tmp 20)]⟩,⟨[3,3]⟩⟩,3,"",⟨[]⟩,none⟩,none,false⟩,⟨⟨(some 5),.assign (.tmp 21),3,"",⟨[]⟩,none⟩,none,false⟩])) (.ops false [⟨⟨(some 13),.move (.tmp 6),3,"",⟨[]⟩,none⟩,none,false⟩,⟨⟨(some 14),.binOp .add 3 (.tmp 13) (.const (.int .i64 1)) 3,3,"",⟨[]⟩,none⟩,none,false⟩,⟨⟨(some 6),.assign (.tmp 14),3,"",⟨[]⟩,none⟩,none,false⟩])))))) (.seq (.ops false [⟨⟨(some 22),.fieldAddr 111 (.tmp 2) 0,0,"",⟨[]⟩,none⟩,none,false⟩,⟨⟨(some 23),.load 22 (.tmp 22),22,"",⟨[]⟩,none⟩,none,false⟩,⟨⟨(some 24),.move (.tmp 1),22,"",⟨[]⟩,none⟩,none,false⟩,⟨⟨(some 25),.call ⟨.value (.func 104),⟨[(.tmp 23),(.tmp 24)]⟩,⟨[22,22]⟩⟩,3,"",⟨[]⟩,none⟩,none,false⟩,⟨⟨(some 7),.assign (.tmp 25),3,"",⟨[]⟩,none⟩,none,false⟩]) (.seq (.ops false [⟨⟨(some 26),.fieldAddr 111 (.tmp 2) 1,0,"",⟨[]⟩,none⟩,none,false⟩,⟨⟨(some 27),.load 22 (.tmp 26),22,"",⟨[]⟩,none⟩,none,false⟩,⟨⟨(some 28),.move (.tmp 7),3,"",⟨[]⟩,none⟩,none,false⟩,⟨⟨(some 29),.indexAddr 22 (.tmp 27) (.tmp 28),0,"",⟨[]⟩,none⟩,none,false⟩,⟨⟨(some 30),.load 3 (.tmp 29),3,"",⟨[]⟩,none⟩,none,false⟩,⟨⟨(some 31),.move (.tmp 5),3,"",⟨[]⟩,none⟩,none,false⟩,⟨⟨(some 32),.binOp .eql 3 (.tmp 30) (.tmp 31) 3,4,"",⟨[]⟩,none⟩,none,false⟩,⟨⟨(some 33),.move (.tmp 32),4,"",⟨[]⟩,none⟩,none,false⟩,⟨⟨(some 34),.load 111 (.tmp 2),111,"",⟨[]⟩,none⟩,some ((some 33),true),false⟩,⟨⟨(some 35),.move (.tmp 1),22,"",⟨[]⟩,none⟩,some ((some 33),true),false⟩,⟨⟨(some 36),.move (.tmp 5),3,"",⟨[]⟩,none⟩,some ((some 33),true),false⟩,⟨⟨(some 37),.call ⟨.value (.func 121),⟨[(.tmp 34),(.tmp 35),(.tmp 36)]⟩,⟨[111,22,3]⟩⟩,4,"",⟨[]⟩,none⟩,some ((some 33),true),false⟩,⟨⟨(some 38),.pick (.tmp 33) (.tmp 37) (.const (.bool false)),4,"",⟨[]⟩,none⟩,none,false⟩,⟨⟨(some 4),.assign (.tmp 38),4,"",⟨[]⟩,none⟩,none,false⟩]) .ret)))))
def Try.s45 : SC := (.seq (.ops false [⟨⟨(some 2),.assign (.const (.int .i64 0)),3,"",⟨[]⟩,none⟩,none,false⟩,⟨⟨(some 3),.assign (.const (.int .i64 0)),25,"",⟨[]⟩,none⟩,none,false⟩]) (.seq (.seq (.ops false [⟨⟨(some 6),.move (.tmp 0),22,"",⟨[]⟩,none⟩,none,false⟩,⟨⟨(some 7),.call ⟨.value (.func 98),⟨[(.tmp 6)]⟩,⟨[22]⟩⟩,4,"",⟨[]⟩,none⟩,none,false⟩,⟨⟨(some 8),.unOp .not 4 (.tmp 7),4,"",⟨[]⟩,none⟩,none,false⟩]) (.cond (.tmp 8) (.seq (.ops false [⟨⟨(some 2),.assign (.const (.int .i64 0)),3,"",⟨[]⟩,none⟩,none,false⟩,⟨⟨(some 3),.assign (.const (.int .i64 105)),25,"",⟨[]⟩,none⟩,none,false⟩]) .ret) .skip)) (.seq (.ops false [⟨⟨(some 9),.move (.tmp 0),22,"",⟨[]⟩,none⟩,none,false⟩,⟨⟨(some 10),.call ⟨.value (.func 102),⟨[(.tmp 9)]⟩,⟨[22]⟩⟩,111,"",⟨[]⟩,none⟩,none,false⟩,⟨⟨(some 4),.alloc 111,0,"",⟨[]⟩,none⟩,none,false⟩,⟨⟨none,.store 111 (.tmp 4) (.tmp 10),0,"",⟨[]⟩,none⟩,none,false⟩]) (.seq (.ops false [⟨⟨(some 11),.move (.tmp 0),22,"",⟨[]⟩,none⟩,none,false⟩,⟨⟨(some 12),.call ⟨.builtin .len,⟨[(.tmp 11)]⟩,⟨[22]⟩⟩,3,"",⟨[]⟩,none⟩,none,false⟩,⟨⟨(some 13),.makeSlice 22 (.tmp 12) (.tmp 12),22,"",⟨[]⟩,none⟩,none,false⟩,⟨⟨(some 5),.assign (.tmp 13),22,"",⟨[]⟩,none⟩,none,false⟩]) (.seq (.seq (.ops false [⟨⟨(some 14),.load 111 (.tmp 4),111,"",⟨[]⟩,none⟩,none,false⟩,⟨⟨(some 15),.move (.tmp 5),22,"",⟨[]⟩,none⟩,none,false⟩,⟨⟨(some 16),.call ⟨.value (.func 103),⟨[(.tmp 14),(.tmp 15)]⟩,⟨[111,22]⟩⟩,4,"",⟨[]⟩,none⟩,none,false⟩]) (.cond (.tmp 16) (.seq (.ops false [⟨⟨(some 2),.assign (.const (.int .i64 0)),3,"",⟨[]⟩,none⟩,none,false⟩,⟨⟨(some 3),.assign (.const (.int .i64 4)),25,"",⟨[]⟩,none⟩,none,false⟩]) .ret) .skip)) (.seq (.ops true [⟨⟨(some 17),.fieldAddr 111 (.tmp 4) 1,0,"",⟨[]⟩,none⟩,none,true⟩,⟨⟨(some 18),.load 22 (.tmp 17),22,"",⟨[]⟩,none⟩,none,true⟩,⟨⟨(some 19),.move (.tmp 0),22,"",⟨[]⟩,none⟩,none,true⟩,⟨⟨(some 20),.move (.tmp 5),22,"",⟨[]⟩,none⟩,none,true⟩,⟨⟨(some 21),.call ⟨.value (.func 104),⟨[(.tmp 19),(.tmp 20)]⟩,⟨[22,22]⟩⟩,3,"",⟨[]⟩,none⟩,none,true⟩,⟨⟨(some 22),.indexAddr 22 (.tmp 18) (.tmp 21),0,"",⟨[]⟩,none⟩,none,true⟩,⟨⟨(some 23),.load 3 (.tmp 22),3,"",⟨[]⟩,none⟩,none,true⟩,⟨⟨(some 2),.assign (.tmp 23),3,"",⟨[]⟩,none⟩,none,true⟩,⟨⟨(some 3),.assign (.const (.int .i64 0)),25,"",⟨[]⟩,none⟩,none,true⟩]) .ret))))))
def Try.s43 : SC := (.seq (.ops false [⟨⟨(some 4),.assign (.const (.slice none 0 0)),22,"",⟨[]⟩,none⟩,none,false⟩,⟨⟨(some 5),.assign (.const (.int .i64 0)),25,"",⟨[]⟩,none⟩,none,false⟩]) (.seq (.seq (.ops false [⟨⟨(some 13),.move (.tmp 0),22,"",⟨[]⟩,none⟩,none,false⟩,⟨⟨(some 14),.call ⟨.value (.func 98),⟨[(.tmp 13)]⟩,⟨[22]⟩⟩,4,"",⟨[]⟩,none⟩,none,false⟩,⟨⟨(some 15),.unOp .not 4 (.tmp 14),4,"",⟨[]⟩,none⟩,none,false⟩]) (.cond (.tmp 15) (.seq (.ops false [⟨⟨(some 4),.assign (.const (.slice none 0 0)),22,"",⟨[]⟩,none⟩,none,false⟩,⟨⟨(some 5),.assign (.const (.int .i64 105)),25,"",⟨[]⟩,none⟩,none,false⟩]) .ret) .skip)) (.seq (.seq (.ops false [⟨⟨(some 16),.move (.tmp 1),3,"",⟨[]⟩,none⟩,none,false⟩,⟨⟨(some 17),.call ⟨.value (.func 46),⟨[(.const (.int .i64 0)),(.tmp 16),(.const (.int .i64 64))]⟩,⟨[3,3,3]⟩⟩,4,"",⟨[]⟩,none⟩,none,false⟩,⟨⟨(some 18),.unOp .not 4 (.tmp 17),4,"",⟨[]⟩,none⟩,none,false⟩]) (.cond (.tmp 18) (.seq (.ops false [⟨⟨(some 4),.assign (.const (.slice none 0 0)),22,"",⟨[]⟩,none⟩,none,false⟩,⟨⟨(some 5),.assign (.const (.int .i64 7)),25,"",⟨[]⟩,none⟩,none,false⟩]) .ret) .skip)) (.seq (.ops false [⟨⟨(some 19),.move (.tmp 0),22,"",⟨[]⟩,none⟩,none,false⟩,⟨⟨(some 20),.call ⟨.value (.func 102),⟨[(.tmp 19)]⟩,⟨[22]⟩⟩,111,"",⟨[]⟩,none⟩,none,false⟩,⟨⟨(some 6),.alloc 111,0,"",⟨[]⟩,none⟩,none,false⟩,⟨⟨none,.store 111 (.tmp 6) (.tmp 20),0,"",⟨[]⟩,none⟩,none,false⟩]) (.seq (.ops false [⟨⟨(some 21),.move (.tmp 0),22,"",⟨[]⟩,none⟩,none,false⟩,⟨⟨(some 22),.call ⟨.builtin .len,⟨[(.tmp 21)]⟩,⟨[22]⟩⟩,3,"",⟨[]⟩,none⟩,none,false⟩,⟨⟨(some 23),.makeSlice 22 (.tmp 22) (.tmp 22),22,"",⟨[]⟩,none⟩,none,false⟩,⟨⟨(some 7),.assign (.tmp 23),22,"",⟨[]⟩,none⟩,none,false⟩]) (.seq (.seq (.ops false [⟨⟨(some 24),.load 111 (.tmp 6),111,"",⟨[]⟩,none⟩,none,false⟩,⟨⟨(some 25),.move (.tmp 7),22,"",⟨[]⟩,none⟩,none,false⟩,⟨⟨(some 26),.call ⟨.value (.func 103),⟨[(.tmp 24),(.tmp 25)]⟩,⟨[111,22]⟩⟩,4,"",⟨[]⟩,none⟩,none,false⟩,⟨⟨(some 27),.unOp .not 4 (.tmp 26),4,"",⟨[]⟩,none⟩,none,false⟩]) (.cond (.tmp 27) (.seq (.ops false [⟨⟨(some 4),.assign (.const (.slice none 0 0)),22,"",⟨[]⟩,none⟩,none,false⟩,⟨⟨(some 5),.assign (.const (.int .i64 4)),25,"",⟨[]⟩,none⟩,none,false⟩]) .ret) .skip)) (.seq (.ops false [⟨⟨(some 8),.assign (.const (.slice none 0 0)),22,"",⟨[]⟩,none⟩,none,false⟩]) (.seq (.seq (.ops false [⟨⟨(some 9),.assign (.const (.int .i64 0)),3,"",⟨[]⟩,none⟩,none,false⟩]) (.block 0 (.loop (.seq (.seq (.ops false [⟨⟨(some 28),.move (.tmp 9),3,"",⟨[]⟩,none⟩,none,false⟩,⟨⟨(some 29),.move (.tmp 1),3,"",⟨[]⟩,none⟩,none,false⟩,⟨⟨(some 30),.binOp .lss 3 (.tmp 28) (.tmp 29) 3,4,"",⟨[]⟩,none⟩,none,false⟩]) (.cond (.tmp 30) .skip (.exit 0))) (.seq (.block 1 (.seq (.ops false [⟨⟨(some 10),.assign (.const (.int .i64 0)),3,"",⟨[]⟩,none⟩,none,false⟩]) (.block 2 (.loop (.seq (.seq (.ops false [⟨⟨(some 33),.move (.tmp 10),3,"",⟨[]⟩,none⟩,none,false⟩,⟨⟨(some 34),.move (.tmp 0),22,"",⟨[]⟩,none⟩,none,false⟩,⟨⟨(some 35),.call ⟨.builtin .len,⟨[(.tmp 34)]⟩,⟨[22]⟩⟩,3,"",⟨[]⟩,none⟩,none,false⟩,⟨⟨(some 36),.binOp .lss 3 (.tmp 33) (.tmp 35) 3,4,"",⟨[]⟩,none⟩,none,false⟩]) (.cond (.tmp 36) .skip (.exit 2))) (.seq (.block 3 (.seq (.ops false [⟨⟨(some 40),.move (.tmp 0),22,"",⟨[]⟩,none⟩,none,false⟩,⟨⟨(some 41),.move (.tmp 7),22,"",⟨[]⟩,none⟩,none,false⟩,⟨⟨(some 42),.move (.tmp 10),3,"",⟨[]⟩,none⟩,none,false⟩,⟨⟨(some 43),.call ⟨.value (.func 99),⟨[(.tmp 40),(.tmp 41),(.tmp 42)]⟩,⟨[22,22,3]⟩⟩,107,"",⟨[]⟩,none⟩,none,false⟩,⟨⟨(some 39),.move (.tmp 43),107,"",⟨[]⟩,none⟩,none,false⟩,⟨⟨(some 44),.extract (.tmp 39) 0,22,"",⟨[]⟩,none⟩,none,false⟩,⟨⟨(some 45),.extract (.tmp 39) 1,4,"",⟨[]⟩,none⟩,none,false⟩,⟨⟨(some 11),.assign (.tmp 44),22,"",⟨[]⟩,none⟩,none,false⟩,⟨⟨(some 12),.assign (.tmp 45),4,"",⟨[]⟩,none⟩,none,false⟩]) (.seq (.ops false [⟨⟨(some 46),.move (.tmp 12),4,"",⟨[]⟩,none⟩,none,false⟩,⟨⟨(some 47),.move (.tmp 46),4,"",⟨[]⟩,none⟩,none,false⟩,⟨⟨(some 48),.load 111 (.tmp 6),111,"",⟨[]⟩,none⟩,some ((some 47),true),false⟩,⟨⟨(some 49),.move (.tmp 11),22,"",⟨[]⟩,none⟩,some ((some 47),true),false⟩,⟨⟨(some 50),.call ⟨.value (.func 103),⟨[(.tmp 48),(.tmp 49)]⟩,⟨[111,22]⟩⟩,4,"",⟨[]⟩,none⟩,some ((some 47),true),false⟩,⟨⟨(some 51),.pick (.tmp 47) (.tmp 50) (.const (.bool false)),4,"",⟨[]⟩,none⟩,none,false⟩]) (.cond (.tmp 51) (.seq (.ops false [⟨⟨(some 52),.move (.tmp 8),22,"",⟨[]⟩,none⟩,none,false⟩,⟨⟨(some 53),.move (.tmp 10),3,"",⟨[]⟩,none⟩,none,false⟩,⟨⟨(some 54),.buildSlice 22 1 ⟨[(0,(.tmp 53))]⟩,22,"",⟨[]⟩,none⟩,none,false⟩,⟨⟨(some 55),.call ⟨.builtin .append,⟨[(.tmp 52),(.tmp 54)]⟩,⟨[22,22]⟩⟩,22,"",⟨[]⟩,none⟩,none,false⟩,⟨⟨(some 56),.move (.tmp 11),22,"",⟨[]⟩,none⟩,none,false⟩,⟨⟨(some 8),.assign (.tmp 55),22,"",⟨[]⟩,none⟩,none,false⟩,⟨⟨(some 7),.assign (.tmp 56),22,"",⟨[]⟩,none⟩,none,false⟩]) (.exit 2)) .skip)))) (.ops false [⟨⟨(some 37),.move (.tmp 10),3,"",⟨[]⟩,none⟩,none,false⟩,⟨⟨(some 38),.binOp .add 3 (.tmp 37) (.const (.int .i64 1)) 3,3,"",⟨[]⟩,none⟩,none,false⟩,⟨⟨(some 10),.assign (.tmp 38),3,"",⟨[]⟩,none⟩,none,false⟩]))))))) (.ops false [⟨⟨(some 31),.move (.tmp 9),3,"",⟨[]⟩,none⟩,none,false⟩,⟨⟨(some 32),.binOp .add 3 (.tmp 31) (.const (.int .i64 1)) 3,3,"",⟨[]⟩,none⟩,none,false⟩,⟨⟨(some 9),.assign (.tmp 32),3,"",⟨[]⟩,none⟩,none,false⟩])))))) (.seq (.ops false [⟨⟨(some 57),.move (.tmp 8),22,"",⟨[]⟩,none⟩,none,false⟩,⟨⟨(some 4),.assign (.tmp 57),22,"",⟨[]⟩,none⟩,none,false⟩,⟨⟨(some 5),.assign (.const (.int .i64 0)),25,"",⟨[]⟩,none⟩,none,false⟩]) .ret)))))))))
def Try.s41 : SC := (.seq (.ops false [⟨⟨(some 4),.assign (.const (.bool false)),4,"",⟨[]⟩,none⟩,none,false⟩,⟨⟨(some 5),.assign (.const (.int .i64 0)),25,"",⟨[]⟩,none⟩,none,false⟩]) (.seq (.ops false [⟨⟨(some 12),.move (.tmp 0),22,"",⟨[]⟩,none⟩,none,false⟩,⟨⟨(some 13),.call ⟨.value (.func 98),⟨[(.tmp 12)]⟩,⟨[22]⟩⟩,4,"",⟨[]⟩,none⟩,none,false⟩,⟨⟨(some 14),.move (.tmp 13),4,"",⟨[]⟩,none⟩,none,false⟩,⟨⟨(some 15),.move (.tmp 1),22,"",⟨[]⟩,none⟩,some ((some 14),true),false⟩,⟨⟨(some 16),.call ⟨.builtin .len,⟨[(.tmp 15)]⟩,⟨[22]⟩⟩,3,"",⟨[]⟩,none⟩,some ((some 14),true),false⟩,⟨⟨(some 17),.binOp .leq 3 (.tmp 16) (.const (.int .i64 64)) 3,4,"",⟨[]⟩,none⟩,some ((some 14),true),false⟩,⟨⟨(some 18),.pick (.tmp 14) (.tmp 17) (.const (.bool false)),4,"",⟨[]⟩,none⟩,none,false⟩,⟨⟨(some 6),.assign (.tmp 18),4,"",⟨[]⟩,none⟩,none,false⟩]) (.seq (.seq (.ops false [⟨⟨(some 7),.assign (.const (.int .i64 0)),3,"",⟨[]⟩,none⟩,none,false⟩]) (.block 0 (.loop (.seq (.seq (.ops false [⟨⟨(some 19),.move (.tmp 7),3,"",⟨[]⟩,none⟩,none,false⟩,⟨⟨(some 20),.move (.tmp 1),22,"",⟨[]⟩,none⟩,none,false⟩,⟨⟨(some 21),.call ⟨.builtin .len,⟨[(.tmp 20)]⟩,⟨[22]⟩⟩,3,"",⟨[]⟩,none⟩,none,false⟩,⟨⟨(some 22),.binOp .lss 3 (.tmp 19) (.tmp 21) 3,4,"",⟨[]⟩,none⟩,none,false⟩]) (.cond (.tmp 22) .skip (.exit 0))) (.seq (.block 1 (.ops false [⟨⟨(some 25),.move (.tmp 6),4,"",⟨[]⟩,none⟩,none,false⟩,⟨⟨(some 26),.move (.tmp 25),4,"",⟨[]⟩,none⟩,none,false⟩,⟨⟨(some 27),.move (.tmp 1),22,"",⟨[]⟩,none⟩,some ((some 26),true),false⟩,⟨⟨(some 28),.move (.tmp 7),3,"",⟨[]⟩,none⟩,some ((some 26),true),false⟩,⟨⟨(some 29),.indexAddr 22 (.tmp 27) (.tmp 28),0,"",⟨[]⟩,none⟩,some ((some 26),true),false⟩,⟨⟨(some 30),.load 3 (.tmp 29),3,"",⟨[]⟩,none⟩,some ((some 26),true),false⟩,⟨⟨(some 31),.move (.tmp 0),22,"",⟨[]⟩,none⟩,some ((some 26),true),false⟩,⟨⟨(some 32),.call ⟨.builtin .len,⟨[(.tmp 31)]⟩,⟨[22]⟩⟩,3,"",⟨[]⟩,none⟩,some ((some 26),true),false⟩,⟨⟨(some 33),.binOp .sub 3 (.tmp 32) (.const (.int .i64 1)) 3,3,"",⟨[]⟩,none⟩,some ((some 26),true),false⟩,⟨⟨(some 34),.call ⟨.value (.func 46),⟨[(.const (.int .i64 0)),(.tmp 30),(.tmp 33)]⟩,⟨[3,3,3]⟩⟩,4,"",⟨[]⟩,none⟩,some ((some 26),true),false⟩,⟨⟨(some 35),.pick (.tmp 26) (.tmp 34) (.const (.bool false)),4,"",⟨[]⟩,none⟩,none,false⟩,⟨⟨(some 6),.assign (.tmp 35),4,"",⟨[]⟩,none⟩,none,false⟩])) (.ops false [⟨⟨(some 23),.move (.tmp 7),3,"",⟨[]⟩,none⟩,none,false⟩,⟨⟨(some 24),.binOp .add 3 (.tmp 23) (.const (.int .i64 1)) 3,3,"",⟨[]⟩,none⟩,none,false⟩,⟨⟨(some 7),.assign (.tmp 24),3,"",⟨[]⟩,none⟩,none,false⟩])))))) (.seq (.seq (.ops false [⟨⟨(some 36),.move (.tmp 6),4,"",⟨[]⟩,none⟩,none,false⟩,⟨⟨(some 37),.unOp .not 4 (.tmp 36),4,"",⟨[]⟩,none⟩,none,false⟩]) (.cond (.tmp 37) (.seq (.ops false [⟨⟨(some 4),.assign (.const (.bool false)),4,"",⟨[]⟩,none⟩,none,false⟩,⟨⟨(some 5),.assign (.const (.int .i64 105)),25,"",⟨[]⟩,none⟩,none,false⟩]) .ret) .skip)) (.seq (.ops false [⟨⟨(some 38),.move (.tmp 0),22,"",⟨[]⟩,none⟩,none,false⟩,⟨⟨(some 39),.call ⟨.builtin .len,⟨[(.tmp 38)]⟩,⟨[22]⟩⟩,3,"",⟨[]⟩,none⟩,none,false⟩,⟨⟨(some 40),.makeSlice 22 (.tmp 39) (.tmp 39),22,"",⟨[]⟩,none⟩,none,false⟩,⟨⟨(some 8),.assign (.tmp 40),22,"",⟨[]⟩,none⟩,none,false⟩]) (.seq (.seq (.ops false [⟨⟨(some 9),.assign (.const (.int .i64 0)),3,"",⟨[]⟩,none⟩,none,false⟩]) (.block 2 (.loop (.seq (.seq (.ops false [⟨⟨(some 41),.move (.tmp 9),3,"",⟨[]⟩,none⟩,none,false⟩,⟨⟨(some 42),.move (.tmp 1),22,"",⟨[]⟩,none⟩,none,false⟩,⟨⟨(some 43),.call ⟨.builtin .len,⟨[(.tmp 42)]⟩,⟨[22]⟩⟩,3,"",⟨[]⟩,none⟩,none,false⟩,⟨⟨(some 44),.binOp .lss 3 (.tmp 41) (.tmp 43) 3,4,"",⟨[]⟩,none⟩,none,false⟩]) (.cond (.tmp 44) .skip (.exit 2))) (.seq (.block 3 (.seq (.ops false [⟨⟨(some 48),.move (.tmp 0),22,"",⟨[]⟩,none⟩,none,false⟩,⟨⟨(some 49),.move (.tmp 8),22,"",⟨[]⟩,none⟩,none,false⟩,⟨⟨(some 50),.move (.tmp 1),22,"",⟨[]⟩,none⟩,none,false⟩,⟨⟨(some 51),.move (.tmp 9),3,"",⟨[]⟩,none⟩,none,false⟩,⟨⟨(some 52),.indexAddr 22 (.tmp 50) (.tmp 51),0,"",⟨[]⟩,none⟩,none,false⟩,⟨⟨(some 53),.load 3 (.tmp 52),3,"",⟨[]⟩,none⟩,none,false⟩,⟨⟨(some 54),.call ⟨.value (.func 99),⟨[(.tmp 48),(.tmp 49),(.tmp 53)]⟩,⟨[22,22,3]⟩⟩,107,"",⟨[]⟩,none⟩,none,false⟩,⟨⟨(some 47),.move (.tmp 54),107,"",⟨[]⟩,none⟩,none,false⟩,⟨⟨(some 55),.extract (.tmp 47) 0,22,"",⟨[]⟩,none⟩,none,false⟩,⟨⟨(some 56),.extract (.tmp 47) 1,4,"",⟨[]⟩,none⟩,none,false⟩,⟨⟨(some 10),.assign (.tmp 55),22,"",⟨[]⟩,none⟩,none,false⟩,⟨⟨(some 11),.assign (.tmp 56),4,"",⟨[]⟩,none⟩,none,false⟩]) (.seq (.seq (.ops false [⟨⟨(some 57),.move (.tmp 11),4,"",⟨[]⟩,none⟩,none,false⟩,⟨⟨(some 58),.unOp .not 4 (.tmp 57),4,"",⟨[]⟩,none⟩,none,false⟩]) (.cond (.tmp 58) (.seq (.ops false [⟨⟨(some 4),.assign (.const (.bool false)),4,"",⟨[]⟩,none⟩,none,false⟩,⟨⟨(some 5),.assign (.const (.int .i64 0)),25,"",⟨[]⟩,none⟩,none,false⟩]) .ret) .skip)) (.ops false [⟨⟨(some 59),.move (.tmp 10),22,"",⟨[]⟩,none⟩,none,false⟩,⟨⟨(some 8),.assign (.tmp 59),22,"",⟨[]⟩,none⟩,none,false⟩])))) (.ops false [⟨⟨(some 45),.move (.tmp 9),3,"",⟨[]⟩,none⟩,none,false⟩,⟨⟨(some 46),.binOp .add 3 (.tmp 45) (.const (.int .i64 1)) 3,3,"",⟨[]⟩,none⟩,none,false⟩,⟨⟨(some 9),.assign (.tmp 46),3,"",⟨[]⟩,none⟩,none,false⟩])))))) (.seq (.ops false [⟨⟨(some 4),.assign (.const (.bool true)),4,"",⟨[]⟩,none⟩,none,false⟩,⟨⟨(some 5),.assign (.const (.int .i64 0)),25,"",⟨[]⟩,none⟩,none,false⟩]) .ret)))))))
def Try.s7 : SC := (.seq (.ops false [⟨⟨(some 6),.assign (.const (.bool false)),4,"",⟨[]⟩,none⟩,none,false⟩]) (.seq (.ops false [⟨⟨(some 16),.move (.tmp 0),22,"",⟨[]⟩,none⟩,none,false⟩,⟨⟨(some 17),.move (.tmp 1),22,"",⟨[]⟩,none⟩,none,false⟩,⟨⟨(some 18),.call ⟨.value (.func 40),⟨[(.tmp 16),(.tmp 17)]⟩,⟨[22,22]⟩⟩,32,"",⟨[]⟩,none⟩,none,false⟩,⟨⟨(some 15),.move (.tmp 18),32,"",⟨[]⟩,none⟩,none,false⟩,⟨⟨(some 19),.extract (.tmp 15) 0,4,"",⟨[]⟩,none⟩,none,false⟩,⟨⟨(some 20),.extract (.tmp 15) 1,25,"",⟨[]⟩,none⟩,none,false⟩,⟨⟨(some 7),.assign (.tmp 19),4,"",⟨[]⟩,none⟩,none,false⟩,⟨⟨(some 8),.assign (.tmp 20),25,"",⟨[]⟩,none⟩,none,false⟩]) (.seq (.ops false [⟨⟨(some 22),.move (.tmp 0),22,"",⟨[]⟩,none⟩,none,false⟩,⟨⟨(some 23),.move (.tmp 1),22,"",⟨[]⟩,none⟩,none,false⟩,⟨⟨(some 24),.call ⟨.value (.func 41),⟨[(.tmp 22),(.tmp 23)]⟩,⟨[22,22]⟩⟩,32,"",⟨[]⟩,none⟩,none,false⟩,⟨⟨(some 21),.move (.tmp 24),32,"",⟨[]⟩,none⟩,none,false⟩,⟨⟨(some 25),.extract (.tmp 21) 0,4,"",⟨[]⟩,none⟩,none,false⟩,⟨⟨(some 26),.extract (.tmp 21) 1,25,"",⟨[]⟩,none⟩,none,false⟩,⟨⟨(some 9),.assign (.tmp 25),4,"",⟨[]⟩,none⟩,none,false⟩,⟨⟨(some 10),.assign (.tmp 26),25,"",⟨[]⟩,none⟩,none,false⟩]) (.seq (.seq (.ops false [⟨⟨(some 27),.move (.tmp 7),4,"",⟨[]⟩,none⟩,none,false⟩,⟨⟨(some 28),.move (.tmp 9),4,"",⟨[]⟩,none⟩,none,false⟩,⟨⟨(some 29),.binOp .neq 4 (.tmp 27) (.tmp 28) 4,4,"",⟨[]⟩,none⟩,none,false⟩,⟨⟨(some 30),.move (.tmp 29),4,"",⟨[]⟩,none⟩,none,false⟩,⟨⟨(some 31),.move (.tmp 8),25,"",⟨[]⟩,none⟩,some ((some 30),false),false⟩,⟨⟨(some 32),.move (.tmp 10),25,"",⟨[]⟩,none⟩,some ((some 30),false),false⟩,⟨⟨(some 33),.binOp .neq 25 (.tmp 31) (.tmp 32) 25,4,"",⟨[]⟩,none⟩,some ((some 30),false),false⟩,⟨⟨(some 34),.pick (.tmp 30) (.const (.bool true)) (.tmp 33),4,"",⟨[]⟩,none⟩,none,false⟩]) (.cond (.tmp 34) (.seq (.ops false [⟨⟨(some 6),.assign (.const (.bool false)),4,"",⟨[]⟩,none⟩,none,false⟩]) .ret) .skip)) (.seq (.ops false [⟨⟨(some 36),.move (.tmp 0),22,"",⟨[]⟩,none⟩,none,false⟩,⟨⟨(some 37),.move (.tmp 2),3,"",⟨[]⟩,none⟩,none,false⟩,⟨⟨(some 38),.call ⟨.value (.func 42),⟨[(.tmp 36),(.tmp 37)]⟩,⟨[22,3]⟩⟩,47,"",⟨[]⟩,none⟩,none,false⟩,⟨⟨(some 35),.move (.tmp 38),47,"",⟨[]⟩,none⟩,none,false⟩,⟨⟨(some 39),.extract (.tmp 35) 0,22,"",⟨[]⟩,none⟩,none,false⟩,⟨⟨(some 40),.extract (.tmp 35) 1,25,"",⟨[]⟩,none⟩,none,false⟩,⟨⟨(some 11),.assign (.tmp 39),22,"",⟨[]⟩,none⟩,none,false⟩,⟨⟨(some 8),.assign (.tmp 40),25,"",⟨[]⟩,none⟩,none,false⟩]) (.seq (.ops false [⟨⟨(some 42),.move (.tmp 0),22,"",⟨[]⟩,none⟩,none,false⟩,⟨⟨(some 43),.move (.tmp 2),3,"",⟨[]⟩,none⟩,none,false⟩,⟨⟨(some 44),.call ⟨.value (.func 43),⟨[(.tmp 42),(.tmp 43)]⟩,⟨[22,3]⟩⟩,47,"",⟨[]⟩,none⟩,none,false⟩,⟨⟨(some 41),.move (.tmp 44),47,"",⟨[]⟩,none⟩,none,false⟩,⟨⟨(some 45),.extract (.tmp 41) 0,22,"",⟨[]⟩,none⟩,none,false⟩,⟨⟨(some 46),.extract (.tmp 41) 1,25,"",⟨[]⟩,none⟩,none,false⟩,⟨⟨(some 12),.assign (.tmp 45),22,"",⟨[]⟩,none⟩,none,false⟩,⟨⟨(some 10),.assign (.tmp 46),25,"",⟨[]⟩,none⟩,none,false⟩]) (.seq (.seq (.ops false [⟨⟨(some 47),.move (.tmp 11),22,"",⟨[]⟩,none⟩,none,false⟩,⟨⟨(some 48),.move (.tmp 12),22,"",⟨[]⟩,none⟩,none,false⟩,⟨⟨(some 49),.call ⟨.value (.func 22),⟨[(.tmp 47),(.tmp 48)]⟩,⟨[22,22]⟩⟩,4,"",⟨[]⟩,none⟩,none,false⟩,⟨⟨(some 50),.unOp .not 4 (.tmp 49),4,"",⟨[]⟩,none⟩,none,false⟩,⟨⟨(some 51),.move (.tmp 50),4,"",⟨[]⟩,none⟩,none,false⟩,⟨⟨(some 52),.move (.tmp 8),25,"",⟨[]⟩,none⟩,some ((some 51),false),false⟩,⟨⟨(some 53),.move (.tmp 10),25,"",⟨[]⟩,none⟩,some ((some 51),false),false⟩,⟨⟨(some 54),.binOp .neq 25 (.tmp 52) (.tmp 53) 25,4,"",⟨[]⟩,none⟩,some ((some 51),false),false⟩,⟨⟨(some 55),.pick (.tmp 51) (.const (.bool true)) (.tmp 54),4,"",⟨[]⟩,none⟩,none,false⟩]) (.cond (.tmp 55) (.seq (.ops false [⟨⟨(some 6),.assign (.const (.bool false)),4,"",⟨[]⟩,none⟩,none,false⟩]) .ret) .skip)) (.seq (.ops false [⟨⟨(some 57),.move (.tmp 0),22,"",⟨[]⟩,none⟩,none,false⟩,⟨⟨(some 58),.call ⟨.value (.func 44),⟨[(.tmp 57)]⟩,⟨[22]⟩⟩,39,"",⟨[]⟩,none⟩,none,false⟩,⟨⟨(some 56),.move (.tmp 58),39,"",⟨[]⟩,none⟩,none,false⟩,⟨⟨(some 59),.extract (.tmp 56) 0,3,"",⟨[]⟩,none⟩,none,false⟩,⟨⟨(some 60),.extract (.tmp 56) 1,25,"",⟨[]⟩,none⟩,none,false⟩,⟨⟨(some 13),.assign (.tmp 59),3,"",⟨[]⟩,none⟩,none,false⟩,⟨⟨(some 8),.assign (.tmp 60),25,"",⟨[]⟩,none⟩,none,false⟩]) (.seq (.ops false [⟨⟨(some 62),.move (.tmp 0),22,"",⟨[]⟩,none⟩,none,false⟩,⟨⟨(some 63),.call ⟨.value (.func 45),⟨[(.tmp 62)]⟩,⟨[22]⟩⟩,39,"",⟨[]⟩,none⟩,none,false⟩,⟨⟨(some 61),.move (.tmp 63),39,"",⟨[]⟩,none⟩,none,false⟩,⟨⟨(some 64),.extract (.tmp 61) 0,3,"",⟨[]⟩,none⟩,none,false⟩,⟨⟨(some 65),.extract (.tmp 61) 1,25,"",⟨[]⟩,none⟩,none,false⟩,⟨⟨(some 14),.assign (.tmp 64),3,"",⟨[]⟩,none⟩,none,false⟩,⟨⟨(some 10),.assign (.tmp 65),25,"",⟨[]⟩,none⟩,none,false⟩]) (.seq (.ops false [⟨⟨(some 66),.move (.tmp 13),3,"",⟨[]⟩,none⟩,none,false⟩,⟨⟨(some 67),.move (.tmp 14),3,"",⟨[]⟩,none⟩,none,false⟩,⟨⟨(some 68),.binOp .eql 3 (.tmp 66) (.tmp 67) 3,4,"",⟨[]⟩,none⟩,none,false⟩,⟨⟨(some 69),.move (.tmp 68),4,"",⟨[]⟩,none⟩,none,false⟩,⟨⟨(some 70),.move (.tmp 8),25,"",⟨[]⟩,none⟩,some ((some 69),true),false⟩,⟨⟨(some 71),.move (.tmp 10),25,"",⟨[]⟩,none⟩,some ((some 69),true),false⟩,⟨⟨(some 72),.binOp .eql 25 (.tmp 70) (.tmp 71) 25,4,"",⟨[]⟩,none⟩,some ((some 69),true),false⟩,⟨⟨(some 73),.pick (.tmp 69) (.tmp 72) (.const (.bool false)),4,"",⟨[]⟩,none⟩,none,false⟩,⟨⟨(some 74),.move (.tmp 73),4,"",⟨[]⟩,none⟩,none,false⟩,⟨⟨(some 75),.call ⟨.value (.func 25),⟨[]⟩,⟨[]⟩⟩,4,"",⟨[]⟩,none⟩,some ((some 74),true),false⟩,⟨⟨(some 76),.pick (.tmp 74) (.tmp 75) (.const (.bool false)),4,"",⟨[]⟩,none⟩,none,false⟩,⟨⟨(some 6),.assign (.tmp 76),4,"",⟨[]⟩,none⟩,none,false⟩]) .ret))))))))))
theorem Try.s98_eq : Try.f98.body.map sOf = some Try.s98 := by kernel_rfl
theorem Try.s99_eq : Try.f99.body.map sOf = some Try.s99 := by kernel_rfl
theorem Try.s104_eq : Try.f104.body.map sOf = some Try.s104 := by kernel_rfl
theorem Try.s122_eq : Try.f122.body.map sOf = some Try.s122 := by kernel_rfl
theorem Try.s121_eq : Try.f121.body.map sOf = some Try.s121 := by kernel_rfl
theorem Try.s102_eq : Try.f102.body.map sOf = some Try.s102 := by kernel_rfl
theorem Try.s103_eq : Try.f103.body.map sOf = some Try.s103 := by kernel_rfl
theorem Try.s45_eq : Try.f45.body.map sOf = some Try.s45 := by kernel_rfl
theorem Try.s43_eq : Try.f43.body.map sOf = some Try.s43 := by kernel_rfl
theorem Try.s41_eq : Try.f41.body.map sOf = some Try.s41 := by kernel_rfl
theorem Try.s7_eq : Try.f7.body.map sOf = some Try.s7 := by kernel_rfl
end Go.Proofs

namespace Go.Proofs
open Go Go.RowKit Go.Sim
set_option maxRecDepth 100000
theorem period_ok (S : List Int) (v : Value) (w : AW) (hs : ArrOf w 1 icells v S) : CallT Try.prog Try.T1 (.fn (.func 98) #[]) #[v] w (Ret (.bool (perB S)) fun w' => w = w') := by
  obtain ⟨p, c, rfl, _, _, hat⟩ := hs.open
  refine callT_code rfl Try.func98 rfl Try.s98_eq rfl ?_
  unfold Try.s98
  simp -dsimp -implicitDefEqProofs (maxSteps := 2000000) (disch := first | assumption | omega | (simp only [nx]; omega) | ((repeat refine Fresh.push ?_ _); assumption) | (simp only [smA]; done) | (simp [oneCell, AW.next_push]; done) | fail) only [go_sem, Nat.reduceEqDiff, reduceIte, Nat.reduceAdd, Int.toNat_natCast, Nat.add_zero, Owes_true, Try.results98]
  apply callV_of (e := rfl)
  · exact From_ok _ _ _ w
  rintro _ _ ⟨rfl, rfl⟩
  simp -dsimp -implicitDefEqProofs (maxSteps := 2000000) (disch := first | assumption | omega | (simp only [nx]; omega) | ((repeat refine Fresh.push ?_ _); assumption) | (simp only [smA]; done) | (simp [oneCell, AW.next_push]; done) | fail) only [go_sem, Nat.reduceEqDiff, reduceIte, Nat.reduceAdd, Int.toNat_natCast, Nat.add_zero, Owes_true, Try.results98]
  refine loopR (fun k t ds w1 => ∃ i : Nat, i ≤ S.length ∧ k = S.length - i ∧ ds = [] ∧ ev t (.tmp 0) = .slice p S.length c ∧ ev t (.tmp 3) = .bool (inR 1 S.length 5 && (S.take i).all fun n => inR 1 n 8) ∧ ev t (.tmp 4) = .int .i64 (i : Int) ∧ w = w1) (S.length) ?_ ?_
  · refine ⟨0, by omega, by omega, rfl, ?_, ?_, ?_, rfl⟩ <;> simp -dsimp -implicitDefEqProofs (maxSteps := 2000000) (disch := first | assumption | omega | (simp only [nx]; omega) | ((repeat refine Fresh.push ?_ _); assumption) | (simp only [smA]; done) | (simp [oneCell, AW.next_push]; done) | fail) only [go_sem, Nat.reduceEqDiff, reduceIte, Nat.reduceAdd, Int.toNat_natCast, Nat.add_zero, Owes_true, List.take_zero, List.all_nil, Bool.and_true] <;> rfl
  rintro k t ds w1 ⟨i, hii, rfl, rfl, e0, e3, e4, hw⟩
  subst hw
  by_cases hlt : (i : Int) < (S.length : Int)
  case neg =>
    obtain rfl : i = S.length := by omega
    simp -dsimp -implicitDefEqProofs (maxSteps := 2000000) (disch := first | assumption | omega | (simp only [nx]; omega) | ((repeat refine Fresh.push ?_ _); assumption) | (simp only [smA]; done) | (simp [oneCell, AW.next_push]; done) | fail) only [go_sem, Nat.reduceEqDiff, reduceIte, Nat.reduceAdd, Int.toNat_natCast, Nat.add_zero, Owes_true, Try.results98, e0, e3, e4, hlt]
    exact ⟨by rw [List.take_length]; rfl, rfl⟩
  have hlt' : i < S.length := by omega
  obtain ⟨b1, o1, rfl, hb1', hcell⟩ := hat i hlt'
  have a0 := hcell w (.refl _ _) 0 _ rfl
  rw [Nat.add_zero] at a0
  have hsucc : (S.take (i + 1)).all (fun n => inR 1 n 8) = ((S.take i).all (fun n => inR 1 n 8) && inR 1 S[i] 8) := by
    rw [List.take_add_one, List.getElem?_eq_getElem hlt', List.all_append]; simp
  cases hq : (inR 1 S.length 5 && (S.take i).all fun n => inR 1 n 8) with
  | false =>
    have hn : (inR 1 S.length 5 && (S.take (i + 1)).all fun n => inR 1 n 8) = false := by rw [hsucc, ← Bool.and_assoc, hq]; rfl
    rw [hq] at e3
    simp -dsimp -implicitDefEqProofs (maxSteps := 2000000) (disch := first | assumption | omega | (simp only [nx]; omega) | ((repeat refine Fresh.push ?_ _); assumption) | (simp only [smA]; done) | (simp [oneCell, AW.next_push]; done) | fail) only [go_sem, Nat.reduceEqDiff, reduceIte, Nat.reduceAdd, Int.toNat_natCast, Nat.add_zero, Owes_true, Try.results98, e0, e3, e4, hlt]
    refine ⟨_, by omega, i + 1, by omega, rfl, rfl, by (simp -dsimp -implicitDefEqProofs (maxSteps := 2000000) (disch := first | assumption | omega | (simp only [nx]; omega) | ((repeat refine Fresh.push ?_ _); assumption) | (simp only [smA]; done) | (simp [oneCell, AW.next_push]; done) | fail) only [go_sem, Nat.reduceEqDiff, reduceIte, Nat.reduceAdd, Int.toNat_natCast, Nat.add_zero, Owes_true, e0, e3, hn]; try rfl), by (simp -dsimp -implicitDefEqProofs (maxSteps := 2000000) (disch := first | assumption | omega | (simp only [nx]; omega) | ((repeat refine Fresh.push ?_ _); assumption) | (simp only [smA]; done) | (simp [oneCell, AW.next_push]; done) | fail) only [go_sem, Nat.reduceEqDiff, reduceIte, Nat.reduceAdd, Int.toNat_natCast, Nat.add_zero, Owes_true, e3, e3, hn]; try rfl), by (simp -dsimp -implicitDefEqProofs (maxSteps := 2000000) (disch := first | assumption | omega | (simp only [nx]; omega) | ((repeat refine Fresh.push ?_ _); assumption) | (simp only [smA]; done) | (simp [oneCell, AW.next_push]; done) | fail) only [go_sem, Nat.reduceEqDiff, reduceIte, Nat.reduceAdd, Int.toNat_natCast, Nat.add_zero, Owes_true, e4, e3, hn]; try rfl), rfl⟩
  | true =>
    have hn : (inR 1 S.length 5 && (S.take (i + 1)).all fun n => inR 1 n 8) = inR 1 S[i] 8 := by rw [hsucc, ← Bool.and_assoc, hq]; rfl
    rw [hq] at e3
    simp -dsimp -implicitDefEqProofs (maxSteps := 2000000) (disch := first | assumption | omega | (simp only [nx]; omega) | ((repeat refine Fresh.push ?_ _); assumption) | (simp only [smA]; done) | (simp [oneCell, AW.next_push]; done) | fail) only [go_sem, Nat.reduceEqDiff, reduceIte, Nat.reduceAdd, Int.toNat_natCast, Nat.add_zero, Owes_true, Try.results98, e0, e3, e4, hlt, indexV_eq, a0]
    apply callV_of (e := rfl)
    · exact From_ok _ _ _ w
    rintro _ _ ⟨rfl, rfl⟩
    simp -dsimp -implicitDefEqProofs (maxSteps := 2000000) (disch := first | assumption | omega | (simp only [nx]; omega) | ((repeat refine Fresh.push ?_ _); assumption) | (simp only [smA]; done) | (simp [oneCell, AW.next_push]; done) | fail) only [go_sem, Nat.reduceEqDiff, reduceIte, Nat.reduceAdd, Int.toNat_natCast, Nat.add_zero, Owes_true, Try.results98, e0, e3, e4, hlt]
    refine ⟨_, by omega, i + 1, by omega, rfl, rfl, by (simp -dsimp -implicitDefEqProofs (maxSteps := 2000000) (disch := first | assumption | omega | (simp only [nx]; omega) | ((repeat refine Fresh.push ?_ _); assumption) | (simp only [smA]; done) | (simp [oneCell, AW.next_push]; done) | fail) only [go_sem, Nat.reduceEqDiff, reduceIte, Nat.reduceAdd, Int.toNat_natCast, Nat.add_zero, Owes_true, e0, hn]; try rfl), by (simp -dsimp -implicitDefEqProofs (maxSteps := 2000000) (disch := first | assumption | omega | (simp only [nx]; omega) | ((repeat refine Fresh.push ?_ _); assumption) | (simp only [smA]; done) | (simp [oneCell, AW.next_push]; done) | fail) only [go_sem, Nat.reduceEqDiff, reduceIte, Nat.reduceAdd, Int.toNat_natCast, Nat.add_zero, Owes_true, e3, hn]; try rfl), by (simp -dsimp -implicitDefEqProofs (maxSteps := 2000000) (disch := first | assumption | omega | (simp only [nx]; omega) | ((repeat refine Fresh.push ?_ _); assumption) | (simp only [smA]; done) | (simp [oneCell, AW.next_push]; done) | fail) only [go_sem, Nat.reduceEqDiff, reduceIte, Nat.reduceAdd, Int.toNat_natCast, Nat.add_zero, Owes_true, e4, hn]; try rfl), rfl⟩
def ageL (S a : List Int) : List Int := a.take S.length
theorem ageL_len {S a : List Int} (hS : perB S = true) (ha : StOk S a) : (ageL S a).length = S.length := by
  have := (perB_iff.1 hS).1
  have := ha.1
  simp [ageL]; omega
theorem ageL_at {S a : List Int} (hS : perB S = true) (ha : StOk S a) {i : Nat} (h : i < S.length) : W (ageL S a) i = W a i := by
  have := (perB_iff.1 hS).1
  have := ha.1
  have hl := ageL_len hS ha
  rw [W_at (by omega), W_at (by omega)]
  simp [ageL]
theorem kept_at {S a : List Int} {r : Int} (h : keptB S a r = true) {i : Nat} (hi : i < S.length) : W (aftI S a r) i < W S i := kept_iff.1 h i hi
set_option maxHeartbeats 16000000 in
theorem afterR_ok {S a : List Int} (hS : perB S = true) (ha : StOk S a) (r : Int) (p : Option Addr) (c : Nat) (v : Value) (w : AW) (f : Fresh w) (hs : ArrOf w 1 icells (.slice p S.length c) S) (hv : ArrOf w 1 icells v (ageL S a)) :
    CallT Try.prog Try.T1 (.fn (.func 99) #[]) #[.slice p S.length c, v, .int .i64 r] w (fun q w' => Grown w w' ∧ ∃ u : Value, q = .tuple #[u, .bool (keptB S a r)] ∧ (keptB S a r = true → ArrOf w' 1 icells u (ageL S (aftI S a r)))) := by
  obtain ⟨_, _, epd, _, _, hat⟩ := hs.open
  injection epd with epd1 epd2 epd3
  subst epd1 epd3
  have hl := ageL_len hS ha
  have h5 := (perB_iff.1 hS)
  obtain ⟨pv, cv, rfl, _, _, hatA⟩ := hv.open
  refine callT_code rfl Try.func99 rfl Try.s99_eq rfl ?_
  unfold Try.s99
  simp -dsimp -implicitDefEqProofs (maxSteps := 2000000) (disch := first | assumption | omega | (simp only [nx]; omega) | ((repeat refine Fresh.push ?_ _); assumption) | (simp only [smA]; done) | (simp [oneCell, AW.next_push]; done) | fail) only [go_sem, Nat.reduceEqDiff, reduceIte, Nat.reduceAdd, Int.toNat_natCast, Nat.add_zero, Owes_true, Try.results99]
  rw [hl]
  refine loopR (fun k t ds w1 => ∃ i : Nat, i ≤ S.length ∧ k = S.length - i ∧ ds = [] ∧ ev t (.tmp 0) = .slice p S.length c ∧ ev t (.tmp 1) = .slice pv S.length cv ∧ ev t (.tmp 2) = .int .i64 r ∧ ev t (.tmp 9) = .int .i64 (i : Int) ∧ ∃ x : Value, ev t (.tmp 8) = x ∧ AOwn w.next w1 3 1 x i (((aftI S a r).take i).flatMap icells) ∧ (∀ j, j < i → W (aftI S a r) j < W S j) ∧ Keep w.next w w1 ∧ Fresh w1) (S.length) ?_ ?_
  · refine ⟨0, by omega, by omega, rfl, ?_, ?_, ?_, ?_, .slice none 0 0, by simp -dsimp -implicitDefEqProofs (maxSteps := 2000000) (disch := first | assumption | omega | (simp only [nx]; omega) | ((repeat refine Fresh.push ?_ _); assumption) | (simp only [smA]; done) | (simp [oneCell, AW.next_push]; done) | fail) only [go_sem, Nat.reduceEqDiff, reduceIte, Nat.reduceAdd, Int.toNat_natCast, Nat.add_zero, Owes_true], .inl ⟨rfl, rfl, rfl⟩, fun j h => by omega, .refl _ _, f⟩ <;> simp -dsimp -implicitDefEqProofs (maxSteps := 2000000) (disch := first | assumption | omega | (simp only [nx]; omega) | ((repeat refine Fresh.push ?_ _); assumption) | (simp only [smA]; done) | (simp [oneCell, AW.next_push]; done) | fail) only [go_sem, Nat.reduceEqDiff, reduceIte, Nat.reduceAdd, Int.toNat_natCast, Nat.add_zero, Owes_true] <;> rfl
  rintro k t ds w1 ⟨i, hii, rfl, rfl, e0, e1, e2, e9, x, e8, hR, hk, k1, f1⟩
  by_cases hlt : (i : Int) < (S.length : Int)
  case neg =>
    obtain rfl : i = S.length := by omega
    have hkb : keptB S a r = true := kept_iff.2 hk
    simp -dsimp -implicitDefEqProofs (maxSteps := 2000000) (disch := first | assumption | omega | (simp only [nx]; omega) | ((repeat refine Fresh.push ?_ _); assumption) | (simp only [smA]; done) | (simp [oneCell, AW.next_push]; done) | fail) only [go_sem, Nat.reduceEqDiff, reduceIte, Nat.reduceAdd, Int.toNat_natCast, Nat.add_zero, Owes_true, Try.results99, e0, e1, e2, e8, e9, hlt]
    have hal : ((aftI S a r).take S.length).length = S.length := by rw [List.length_take, aft_len]; omega
    refine ⟨⟨k1, f1⟩, x, by rw [hkb], fun _ => ?_⟩
    exact AOwn.arr (L := (aftI S a r).take S.length) (by rw [hal]; exact hR) icells_len (by omega)
  have hlt' : i < S.length := by omega
  obtain ⟨b1, o1, rfl, hb1', hcell⟩ := hat i hlt'
  obtain ⟨b2, o2, rfl, hb2', hcell2⟩ := hatA i (by omega)
  have a0 := hcell w1 k1 0 _ rfl
  have a1 := hcell2 w1 k1 0 _ rfl
  rw [Nat.add_zero, ← W_at hlt'] at a0
  rw [Nat.add_zero, ← W_at (by omega), ageL_at hS ha hlt'] at a1
  have hSi := h5.2 i hlt'
  have hai := ha.2 i hlt'
  have haf : W (aftI S a r) i = if (i : Int) = r then 0 else W a i + 1 := by rw [aft_at (by omega), if_pos hlt']
  have hsucc : (aftI S a r).take (i + 1) = (aftI S a r).take i ++ [W (aftI S a r) i] := by
    rw [List.take_add_one, List.getElem?_eq_getElem (by rw [aft_len]; omega), W_at (by rw [aft_len]; omega)]; rfl
  have hkS : keptB S a r = true → W (aftI S a r) i < W S i := fun h => kept_at h hlt'
  have hxs : same 12 x x = true := AOwn.sameV hR
  have go : ∀ m : Int, m = W (aftI S a r) i → (m ≥ W S i → keptB S a r = false) := fun m hm h => by
    cases hq : keptB S a r with
    | false => rfl
    | true => have := hkS hq; omega
  have step : W (aftI S a r) i < W S i → ∃ v' w', append (prg Try.prog) (w1.push (.cells [.int .i64 (W (aftI S a r) i)] 3 w1.next 0 0)) 22 22 x (.slice (some ⟨w1.next, 0, none⟩) 1 1) = some (v', w') ∧ AOwn w.next w' 3 1 v' (i + 1) (((aftI S a r).take (i + 1)).flatMap icells) ∧ (∀ j, j < i + 1 → W (aftI S a r) j < W S j) ∧ Keep w.next w w' ∧ Fresh w' := fun hlt2 => by
    obtain ⟨v', w', h1, h2, h3, h4, _⟩ := append_one (e' := 3) Try.ty22 Try.ty3 rfl (by omega) (by omega) hR f1 k1.next (new := [.int .i64 (W (aftI S a r) i)]) rfl (fun y hy => by simp at hy; subst hy; rfl) (by omega)
    refine ⟨v', w', h1, ?_, fun j hj => ?_, k1.trans h3, h4⟩
    · rw [hsucc, List.flatMap_append]; exact h2
    · rcases Nat.lt_or_ge j i with q | q
      · exact hk j q
      · obtain rfl : j = i := by omega
        exact hlt2
  by_cases hr : (i : Int) = r
  · have hd : decide ((i : Int) = r) = true := decide_eq_true hr
    rw [if_pos hr] at haf
    have hS0 : ¬ (0 : Int) ≥ W S i := by omega
    obtain ⟨v', w', h1, h2, h3, h4, h5'⟩ := step (by omega)
    rw [haf] at h1
    simp -dsimp -implicitDefEqProofs (maxSteps := 2000000) (disch := first | assumption | omega | (simp only [nx]; omega) | ((repeat refine Fresh.push ?_ _); assumption) | (simp only [smA]; done) | (simp [oneCell, AW.next_push]; done) | fail) only [go_sem, Nat.reduceEqDiff, reduceIte, Nat.reduceAdd, Int.toNat_natCast, Nat.add_zero, Owes_true, Try.results99, e0, e1, e2, e8, e9, hlt, indexV_eq, a0, a1, hd, hS0, h1]
    refine ⟨_, by omega, i + 1, by omega, rfl, rfl, by (simp -dsimp -implicitDefEqProofs (maxSteps := 2000000) (disch := first | assumption | omega | (simp only [nx]; omega) | ((repeat refine Fresh.push ?_ _); assumption) | (simp only [smA]; done) | (simp [oneCell, AW.next_push]; done) | fail) only [go_sem, Nat.reduceEqDiff, reduceIte, Nat.reduceAdd, Int.toNat_natCast, Nat.add_zero, Owes_true, e0]; try rfl), by (simp -dsimp -implicitDefEqProofs (maxSteps := 2000000) (disch := first | assumption | omega | (simp only [nx]; omega) | ((repeat refine Fresh.push ?_ _); assumption) | (simp only [smA]; done) | (simp [oneCell, AW.next_push]; done) | fail) only [go_sem, Nat.reduceEqDiff, reduceIte, Nat.reduceAdd, Int.toNat_natCast, Nat.add_zero, Owes_true, e1]; try rfl), by (simp -dsimp -implicitDefEqProofs (maxSteps := 2000000) (disch := first | assumption | omega | (simp only [nx]; omega) | ((repeat refine Fresh.push ?_ _); assumption) | (simp only [smA]; done) | (simp [oneCell, AW.next_push]; done) | fail) only [go_sem, Nat.reduceEqDiff, reduceIte, Nat.reduceAdd, Int.toNat_natCast, Nat.add_zero, Owes_true, e2]; try rfl), by (simp -dsimp -implicitDefEqProofs (maxSteps := 2000000) (disch := first | assumption | omega | (simp only [nx]; omega) | ((repeat refine Fresh.push ?_ _); assumption) | (simp only [smA]; done) | (simp [oneCell, AW.next_push]; done) | fail) only [go_sem, Nat.reduceEqDiff, reduceIte, Nat.reduceAdd, Int.toNat_natCast, Nat.add_zero, Owes_true, e9]; try rfl), v', (by simp -dsimp -implicitDefEqProofs (maxSteps := 2000000) (disch := first | assumption | omega | (simp only [nx]; omega) | ((repeat refine Fresh.push ?_ _); assumption) | (simp only [smA]; done) | (simp [oneCell, AW.next_push]; done) | fail) only [go_sem, Nat.reduceEqDiff, reduceIte, Nat.reduceAdd, Int.toNat_natCast, Nat.add_zero, Owes_true]), h2, h3, h4, h5'⟩
  · have hd : decide ((i : Int) = r) = false := decide_eq_false hr
    rw [if_neg hr] at haf
    by_cases hge : W a i + 1 ≥ W S i
    · have hkf := go _ haf.symm hge
      simp -dsimp -implicitDefEqProofs (maxSteps := 2000000) (disch := first | assumption | omega | (simp only [nx]; omega) | ((repeat refine Fresh.push ?_ _); assumption) | (simp only [smA]; done) | (simp [oneCell, AW.next_push]; done) | fail) only [go_sem, Nat.reduceEqDiff, reduceIte, Nat.reduceAdd, Int.toNat_natCast, Nat.add_zero, Owes_true, Try.results99, e0, e1, e2, e8, e9, hlt, indexV_eq, a0, a1, hd, hge]
      exact ⟨⟨k1, f1⟩, _, by rw [hkf], fun h => by rw [hkf] at h; cases h⟩
    · obtain ⟨v', w', h1, h2, h3, h4, h5'⟩ := step (by omega)
      rw [haf] at h1
      simp -dsimp -implicitDefEqProofs (maxSteps := 2000000) (disch := first | assumption | omega | (simp only [nx]; omega) | ((repeat refine Fresh.push ?_ _); assumption) | (simp only [smA]; done) | (simp [oneCell, AW.next_push]; done) | fail) only [go_sem, Nat.reduceEqDiff, reduceIte, Nat.reduceAdd, Int.toNat_natCast, Nat.add_zero, Owes_true, Try.results99, e0, e1, e2, e8, e9, hlt, indexV_eq, a0, a1, hd, hge, h1]
      refine ⟨_, by omega, i + 1, by omega, rfl, rfl, by (simp -dsimp -implicitDefEqProofs (maxSteps := 2000000) (disch := first | assumption | omega | (simp only [nx]; omega) | ((repeat refine Fresh.push ?_ _); assumption) | (simp only [smA]; done) | (simp [oneCell, AW.next_push]; done) | fail) only [go_sem, Nat.reduceEqDiff, reduceIte, Nat.reduceAdd, Int.toNat_natCast, Nat.add_zero, Owes_true, e0]; try rfl), by (simp -dsimp -implicitDefEqProofs (maxSteps := 2000000) (disch := first | assumption | omega | (simp only [nx]; omega) | ((repeat refine Fresh.push ?_ _); assumption) | (simp only [smA]; done) | (simp [oneCell, AW.next_push]; done) | fail) only [go_sem, Nat.reduceEqDiff, reduceIte, Nat.reduceAdd, Int.toNat_natCast, Nat.add_zero, Owes_true, e1]; try rfl), by (simp -dsimp -implicitDefEqProofs (maxSteps := 2000000) (disch := first | assumption | omega | (simp only [nx]; omega) | ((repeat refine Fresh.push ?_ _); assumption) | (simp only [smA]; done) | (simp [oneCell, AW.next_push]; done) | fail) only [go_sem, Nat.reduceEqDiff, reduceIte, Nat.reduceAdd, Int.toNat_natCast, Nat.add_zero, Owes_true, e2]; try rfl), by (simp -dsimp -implicitDefEqProofs (maxSteps := 2000000) (disch := first | assumption | omega | (simp only [nx]; omega) | ((repeat refine Fresh.push ?_ _); assumption) | (simp only [smA]; done) | (simp [oneCell, AW.next_push]; done) | fail) only [go_sem, Nat.reduceEqDiff, reduceIte, Nat.reduceAdd, Int.toNat_natCast, Nat.add_zero, Owes_true, e9]; try rfl), v', (by simp -dsimp -implicitDefEqProofs (maxSteps := 2000000) (disch := first | assumption | omega | (simp only [nx]; omega) | ((repeat refine Fresh.push ?_ _); assumption) | (simp only [smA]; done) | (simp [oneCell, AW.next_push]; done) | fail) only [go_sem, Nat.reduceEqDiff, reduceIte, Nat.reduceAdd, Int.toNat_natCast, Nat.add_zero, Owes_true]), h2, h3, h4, h5'⟩
def numTo (S a : List Int) : Nat → Int
  | 0 => 0
  | i + 1 => numTo S a i * W S i + W a i
def prodTo (S : List Int) : Nat → Int
  | 0 => 1
  | i + 1 => prodTo S i * W S i
theorem prodT_in {S : List Int} (hS : perB S = true) : ∀ i, i ≤ S.length → 1 ≤ prodTo S i ∧ prodTo S i ≤ 8 ^ i
  | 0, _ => by simp [prodTo]
  | i + 1, h => by
    have ih := prodT_in hS i (by omega)
    have h1 := (perB_iff.1 hS).2 i (by omega)
    have a1 : 1 * 1 ≤ prodTo S i * W S i := Int.mul_le_mul (by omega) (by omega) (by omega) (by omega)
    have a2 : prodTo S i * W S i ≤ 8 ^ i * 8 := Int.mul_le_mul (by omega) (by omega) (by omega) (by omega)
    rw [prodTo, Int.pow_succ]
    exact ⟨by omega, a2⟩
theorem num_in {S a : List Int} (hS : perB S = true) (ha : StOk S a) : ∀ i, i ≤ S.length → 0 ≤ numTo S a i ∧ numTo S a i < prodTo S i
  | 0, _ => by simp [numTo, prodTo]
  | i + 1, h => by
    have ih := num_in hS ha i (by omega)
    have h1 := (perB_iff.1 hS).2 i (by omega)
    have h2 := ha.2 i (by omega)
    have a1 : 0 ≤ numTo S a i * W S i := Int.mul_nonneg ih.1 (by omega)
    have a2 : (numTo S a i + 1) * W S i ≤ prodTo S i * W S i := Int.mul_le_mul_of_nonneg_right (by omega) (by omega)
    rw [Int.add_mul, Int.one_mul] at a2
    simp only [numTo, prodTo]
    omega
theorem pow_fiveT {i : Nat} (h : i ≤ 5) : (8 : Int) ^ i ≤ 32768 := by
  have : ∀ i, i < 6 → (8 : Int) ^ i ≤ 32768 := by decide
  exact this i (by omega)
def sufT (S : List Int) (i : Nat) : Int := (S.drop i).foldr (· * ·) 1
theorem sufT_step {S : List Int} {i : Nat} (h : i < S.length) : sufT S i = W S i * sufT S (i + 1) := by
  unfold sufT; rw [List.drop_eq_getElem_cons h, List.foldr_cons, W_at h]
theorem sufT_end (S : List Int) : sufT S S.length = 1 := by unfold sufT; rw [List.drop_length]; rfl
theorem sufT_prod {S : List Int} : ∀ i, i ≤ S.length → prodTo S i * sufT S i = sufT S 0
  | 0, _ => by simp [prodTo]
  | i + 1, h => by
    rw [← sufT_prod i (by omega), sufT_step (i := i) (by omega), prodTo, Int.mul_assoc]
theorem sufT_all (S : List Int) : sufT S 0 = prodTo S S.length := by
  have := sufT_prod (S := S) S.length (Nat.le_refl _)
  rw [sufT_end, Int.mul_one] at this; exact this.symm
theorem sufT_pos {S : List Int} (hS : perB S = true) : ∀ k i, i + k = S.length → 1 ≤ sufT S i
  | 0, i, h => by obtain rfl : i = S.length := by omega
                  rw [sufT_end]; omega
  | k + 1, i, h => by
    have ih := sufT_pos hS k (i + 1) (by omega)
    have h1 := (perB_iff.1 hS).2 i (by omega)
    rw [sufT_step (by omega)]
    have a1 : 1 * 1 ≤ W S i * sufT S (i + 1) := Int.mul_le_mul (by omega) (by omega) (by omega) (by omega)
    omega
theorem quo_step {S : List Int} (hS : perB S = true) {i : Nat} (h : i < S.length) (m : Int) : m / sufT S (i + 1) / W S i = m / sufT S i := by
  have h1 := sufT_pos hS (S.length - (i + 1)) (i + 1) (by omega)
  rw [sufT_step h, Int.ediv_ediv, if_neg (fun q => by have := q.1; omega), Int.sub_zero, Int.mul_comm]
def decS (S : List Int) (m : Int) : List Int := (List.range 5).map fun i => if i < S.length then (m / sufT S (i + 1)) % W S i else 0
theorem decS_at {S : List Int} {m : Int} {i : Nat} (h : i < 5) : W (decS S m) i = if i < S.length then (m / sufT S (i + 1)) % W S i else 0 := by
  rw [W_at (by simp [decS]; exact h)]; simp [decS]
theorem decS_ok {S : List Int} (hS : perB S = true) (m : Int) : StOk S (decS S m) := by
  have h5 := perB_iff.1 hS
  refine ⟨by simp [decS], fun i hi => ?_, fun i hi => ?_⟩
  · have h1 := h5.2 i hi
    rw [decS_at (by omega), if_pos hi]
    exact ⟨Int.emod_nonneg _ (by omega), Int.emod_lt_of_pos _ (by omega)⟩
  · rcases Nat.lt_or_ge i 5 with q | q
    · rw [decS_at q, if_neg (by omega)]
    · exact W_out (by simp [decS]; exact q)
theorem num_dec {S : List Int} (hS : perB S = true) {m : Int} (h0 : 0 ≤ m) (hm : m < prodTo S S.length) : ∀ i, i ≤ S.length → numTo S (decS S m) i = m / sufT S i
  | 0, _ => by rw [sufT_all, Int.ediv_eq_zero_of_lt h0 hm]; rfl
  | i + 1, h => by
    have h5 := (perB_iff.1 hS).1
    rw [numTo, num_dec hS h0 hm i (by omega), ← quo_step hS (i := i) (by omega), decS_at (by omega), if_pos (by omega), Int.mul_comm, Int.mul_ediv_add_emod]
def numI (S a : List Int) : Int := numTo S a S.length
theorem numI_dec {S : List Int} (hS : perB S = true) {m : Int} (h0 : 0 ≤ m) (hm : m < prodTo S S.length) : numI S (decS S m) = m := by
  unfold numI; rw [num_dec hS h0 hm _ (Nat.le_refl _), sufT_end, Int.ediv_one]
theorem num_inj {S a b : List Int} (hS : perB S = true) (ha : StOk S a) (hb : StOk S b) : ∀ i, i ≤ S.length → numTo S a i = numTo S b i → ∀ j, j < i → W a j = W b j
  | 0, _, _, j, hj => by omega
  | i + 1, h, he, j, hj => by
    have h1 := (perB_iff.1 hS).2 i (by omega)
    have h2 := ha.2 i (by omega)
    have h3 := hb.2 i (by omega)
    rw [numTo, numTo] at he
    have m1 : (numTo S a i * W S i + W a i) % W S i = W a i := by rw [Int.add_comm, Int.add_mul_emod_self_right, Int.emod_eq_of_lt h2.1 h2.2]
    have m2 : (numTo S b i * W S i + W b i) % W S i = W b i := by rw [Int.add_comm, Int.add_mul_emod_self_right, Int.emod_eq_of_lt h3.1 h3.2]
    have d1 : (numTo S a i * W S i + W a i) / W S i = numTo S a i := by rw [Int.add_comm, Int.add_mul_ediv_right _ _ (by omega), Int.ediv_eq_zero_of_lt h2.1 h2.2, Int.zero_add]
    have d2 : (numTo S b i * W S i + W b i) / W S i = numTo S b i := by rw [Int.add_comm, Int.add_mul_ediv_right _ _ (by omega), Int.ediv_eq_zero_of_lt h3.1 h3.2, Int.zero_add]
    rcases Nat.lt_or_ge j i with q | q
    · exact num_inj hS ha hb i (by omega) (by rw [← d1, ← d2, he]) j q
    · obtain rfl : j = i := by omega
      rw [← m1, ← m2, he]
theorem dec_num {S a : List Int} (hS : perB S = true) (ha : StOk S a) : decS S (numI S a) = a := by
  have hn := num_in hS ha S.length (Nat.le_refl _)
  have hd := decS_ok hS (numI S a)
  have := num_inj hS hd ha S.length (Nat.le_refl _) (numI_dec hS hn.1 hn.2)
  refine ext5 hd.1 ha.1 fun i _ => ?_
  rcases Nat.lt_or_ge i S.length with q | q
  · exact this i q
  · rw [hd.3 i q, ha.3 i q]
end Go.Proofs

namespace Go.Proofs
open Go Go.RowKit Go.Sim
set_option maxRecDepth 100000
set_option maxHeartbeats 16000000 in
theorem number_ok {S a : List Int} (hS : perB S = true) (ha : StOk S a) (u v : Value) (w : AW) (hs : ArrOf w 1 icells u S) (hv : ArrOf w 1 icells v (ageL S a)) :
    CallT Try.prog Try.T1 (.fn (.func 104) #[]) #[u, v] w (Ret (.int .i64 (numI S a)) fun w' => w = w') := by
  obtain ⟨p, c, rfl, _, _, hat⟩ := hs.open
  have hl := ageL_len hS ha
  have h5 := (perB_iff.1 hS)
  obtain ⟨pv, cv, rfl, _, _, hatA⟩ := hv.open
  refine callT_code rfl Try.func104 rfl Try.s104_eq rfl ?_
  unfold Try.s104
  simp -dsimp -implicitDefEqProofs (maxSteps := 2000000) (disch := first | assumption | omega | (simp only [nx]; omega) | ((repeat refine Fresh.push ?_ _); assumption) | (simp only [smA]; done) | (simp [oneCell, AW.next_push]; done) | fail) only [go_sem, Nat.reduceEqDiff, reduceIte, Nat.reduceAdd, Int.toNat_natCast, Nat.add_zero, Owes_true, Try.results104]
  rw [hl]
  refine loopR (fun k t ds w1 => ∃ i : Nat, i ≤ S.length ∧ k = S.length - i ∧ ds = [] ∧ ev t (.tmp 0) = .slice p S.length c ∧ ev t (.tmp 1) = .slice pv S.length cv ∧ ev t (.tmp 5) = .int .i64 (numTo S a i) ∧ ev t (.tmp 6) = .int .i64 (i : Int) ∧ w = w1) (S.length) ?_ ?_
  · refine ⟨0, by omega, by omega, rfl, ?_, ?_, ?_, ?_, rfl⟩ <;> simp -dsimp -implicitDefEqProofs (maxSteps := 2000000) (disch := first | assumption | omega | (simp only [nx]; omega) | ((repeat refine Fresh.push ?_ _); assumption) | (simp only [smA]; done) | (simp [oneCell, AW.next_push]; done) | fail) only [go_sem, Nat.reduceEqDiff, reduceIte, Nat.reduceAdd, Int.toNat_natCast, Nat.add_zero, Owes_true] <;> rfl
  rintro k t ds w1 ⟨i, hii, rfl, rfl, e0, e1, e5, e6, hw⟩
  subst hw
  by_cases hlt : (i : Int) < (S.length : Int)
  case neg =>
    obtain rfl : i = S.length := by omega
    simp -dsimp -implicitDefEqProofs (maxSteps := 2000000) (disch := first | assumption | omega | (simp only [nx]; omega) | ((repeat refine Fresh.push ?_ _); assumption) | (simp only [smA]; done) | (simp [oneCell, AW.next_push]; done) | fail) only [go_sem, Nat.reduceEqDiff, reduceIte, Nat.reduceAdd, Int.toNat_natCast, Nat.add_zero, Owes_true, Try.results104, e0, e1, e5, e6, hlt]
    exact ⟨rfl, rfl⟩
  have hlt' : i < S.length := by omega
  obtain ⟨b1, o1, rfl, hb1', hcell⟩ := hat i hlt'
  obtain ⟨b2, o2, rfl, hb2', hcell2⟩ := hatA i (by omega)
  have a0 := hcell w (.refl _ _) 0 _ rfl
  have a1 := hcell2 w (.refl _ _) 0 _ rfl
  rw [Nat.add_zero, ← W_at hlt'] at a0
  rw [Nat.add_zero, ← W_at (by omega), ageL_at hS ha hlt'] at a1
  have hSi := h5.2 i hlt'
  have hai := ha.2 i hlt'
  have n0 := num_in hS ha i (by omega)
  have n1 := num_in hS ha (i + 1) (by omega)
  have p1 := prodT_in hS (i + 1) (by omega)
  have p2 := pow_fiveT (i := i + 1) (by omega)
  have hnx : numTo S a (i + 1) = numTo S a i * W S i + W a i := rfl
  rw [hnx] at n1
  have hm0 : 0 ≤ numTo S a i * W S i := Int.mul_nonneg n0.1 (by omega)
  generalize numTo S a i = N at *
  generalize hmm : N * W S i = M at *
  simp -dsimp -implicitDefEqProofs (maxSteps := 2000000) (disch := first | assumption | omega | (simp only [nx]; omega) | ((repeat refine Fresh.push ?_ _); assumption) | (simp only [smA]; done) | (simp [oneCell, AW.next_push]; done) | fail) only [go_sem, Nat.reduceEqDiff, reduceIte, Nat.reduceAdd, Int.toNat_natCast, Nat.add_zero, Owes_true, Try.results104, e0, e1, e5, e6, hlt, indexV_eq, a0, a1, hmm]
  refine ⟨_, by omega, i + 1, by omega, rfl, rfl, by (simp -dsimp -implicitDefEqProofs (maxSteps := 2000000) (disch := first | assumption | omega | (simp only [nx]; omega) | ((repeat refine Fresh.push ?_ _); assumption) | (simp only [smA]; done) | (simp [oneCell, AW.next_push]; done) | fail) only [go_sem, Nat.reduceEqDiff, reduceIte, Nat.reduceAdd, Int.toNat_natCast, Nat.add_zero, Owes_true, e0, hnx]; try rfl), by (simp -dsimp -implicitDefEqProofs (maxSteps := 2000000) (disch := first | assumption | omega | (simp only [nx]; omega) | ((repeat refine Fresh.push ?_ _); assumption) | (simp only [smA]; done) | (simp [oneCell, AW.next_push]; done) | fail) only [go_sem, Nat.reduceEqDiff, reduceIte, Nat.reduceAdd, Int.toNat_natCast, Nat.add_zero, Owes_true, e1, hnx]; try rfl), by (simp -dsimp -implicitDefEqProofs (maxSteps := 2000000) (disch := first | assumption | omega | (simp only [nx]; omega) | ((repeat refine Fresh.push ?_ _); assumption) | (simp only [smA]; done) | (simp [oneCell, AW.next_push]; done) | fail) only [go_sem, Nat.reduceEqDiff, reduceIte, Nat.reduceAdd, Int.toNat_natCast, Nat.add_zero, Owes_true, e5, hnx]; try rfl), by (simp -dsimp -implicitDefEqProofs (maxSteps := 2000000) (disch := first | assumption | omega | (simp only [nx]; omega) | ((repeat refine Fresh.push ?_ _); assumption) | (simp only [smA]; done) | (simp [oneCell, AW.next_push]; done) | fail) only [go_sem, Nat.reduceEqDiff, reduceIte, Nat.reduceAdd, Int.toNat_natCast, Nat.add_zero, Owes_true, e6, hnx]; try rfl), rfl⟩
def decTo (S : List Int) (m : Int) (k : Nat) : List Int := (List.range S.length).map fun i => if S.length ≤ i + k then W (decS S m) i else 0
theorem decTo_len (S : List Int) (m : Int) (k : Nat) : (decTo S m k).length = S.length := by simp [decTo]
theorem decTo_at {S : List Int} {m : Int} {k i : Nat} (h : i < S.length) : W (decTo S m k) i = if S.length ≤ i + k then W (decS S m) i else 0 := by
  rw [W_at (by rw [decTo_len]; exact h)]; simp [decTo]
theorem decTo_zero (S : List Int) (m : Int) : decTo S m 0 = zeros S.length := by
  refine List.ext_getElem (by rw [decTo_len]; simp [zeros]) fun i h1 h2 => ?_
  rw [decTo_len] at h1
  rw [← W_at (by rw [decTo_len]; exact h1), decTo_at h1, if_neg (by omega)]
  simp [zeros]
theorem decTo_all {S : List Int} (hS : perB S = true) (m : Int) : decTo S m S.length = ageL S (decS S m) := by
  have hd := decS_ok hS m
  have hl := ageL_len hS hd
  refine List.ext_getElem (by rw [decTo_len, hl]) fun i h1 h2 => ?_
  rw [decTo_len] at h1
  rw [← W_at (by rw [decTo_len]; exact h1), ← W_at h2, decTo_at h1, if_pos (by omega), ageL_at hS hd h1]
theorem decTo_set {S : List Int} {m : Int} {k j : Nat} (hj : j + (k + 1) = S.length) : (decTo S m k).set j (W (decS S m) j) = decTo S m (k + 1) := by
  refine List.ext_getElem (by rw [List.length_set, decTo_len, decTo_len]) fun i h1 h2 => ?_
  rw [decTo_len] at h2
  rw [List.getElem_set, ← W_at (by rw [decTo_len]; exact h2), ← W_at (by rw [decTo_len]; exact h2), decTo_at h2, decTo_at h2]
  by_cases e : j = i
  · subst e; rw [if_pos rfl, if_pos (by omega)]
  · rw [if_neg e]
    by_cases q : S.length ≤ i + k
    · rw [if_pos q, if_pos (by omega)]
    · rw [if_neg q, if_neg (by omega)]
theorem put_row {w : AW} {b : Nat} {e : TypeId} {C : List Int} (f : Fresh w) (h : Own w b e (C.flatMap icells)) {i : Nat} (hi : i < C.length) (x : Int) :
    ∃ w', storeV w false 1 (.pointer (some ⟨b, i, none⟩)) (.int .i64 x) = some w' ∧ Own w' b e ((C.set i x).flatMap icells) ∧ MutS (fun j => j = b) w w' ∧ w'.next = w.next := by
  have st := storeV_own1 (o := i) (v := .int .i64 x) h (by rw [icells_flat_len]; exact hi) rfl
  have O := h.put (setL (C.flatMap icells) i (.int .i64 x))
  have m := MutS.put (S := fun j => j = b) f rfl h.lt (.cells (setL (C.flatMap icells) i (.int .i64 x)) e b 0 0)
  rw [setL_ic] at st O m
  exact ⟨_, st, O, m, AW.next_put _ _ _⟩
set_option maxHeartbeats 16000000 in
theorem agesOf_ok {S : List Int} (hS : perB S = true) (m : Int) (h0 : 0 ≤ m) (hm : m < prodTo S S.length) (u : Value) (w : AW) (f : Fresh w) (hs : ArrOf w 1 icells u S) :
    CallT Try.prog Try.T1 (.fn (.func 122) #[]) #[u, .int .i64 m] w (fun r w' => Grown w w' ∧ ArrOf w' 1 icells r (ageL S (decS S m))) := by
  obtain ⟨p, c, rfl, _, _, hat⟩ := hs.open
  have h5 := (perB_iff.1 hS)
  have p1 := prodT_in hS S.length (Nat.le_refl _)
  have p2 := pow_fiveT (i := S.length) h5.1.2
  have hm22 := ms22 S.length (by omega)
  have g1 := (Grown.refl f).push (.cells ((zeros S.length).flatMap icells) 3 w.next 0 0)
  have O1 := Own.new f 3 ((zeros S.length).flatMap icells)
  have nx1 : (w.push (.cells ((zeros S.length).flatMap icells) 3 w.next 0 0)).next = w.next + 1 := AW.next_push _ _
  refine callT_code rfl Try.func122 rfl Try.s122_eq rfl ?_
  unfold Try.s122
  simp -dsimp -implicitDefEqProofs (maxSteps := 2000000) (disch := first | assumption | omega | (simp only [nx]; omega) | ((repeat refine Fresh.push ?_ _); assumption) | (simp only [smA]; done) | (simp [oneCell, AW.next_push]; done) | fail) only [go_sem, Nat.reduceEqDiff, reduceIte, Nat.reduceAdd, Int.toNat_natCast, Nat.add_zero, Owes_true, Try.results122, hm22]
  generalize w.push (.cells ((zeros S.length).flatMap icells) 3 w.next 0 0) = w1 at *
  rw [← decTo_zero S m] at O1
  refine loopR (fun k t ds w2 => ∃ i : Nat, i ≤ S.length ∧ k = S.length - i ∧ ds = [] ∧ ev t (.tmp 0) = .slice p S.length c ∧ ev t (.tmp 1) = .int .i64 (m / sufT S (S.length - i)) ∧ ev t (.tmp 5) = .slice (some ⟨w.next, 0, none⟩) S.length S.length ∧ Own w2 w.next 3 ((decTo S m i).flatMap icells) ∧ Keep w.next w w2 ∧ Fresh w2 ∧ w2.next = w.next + 1 ∧ ∃ j0 : Int, ev t (.tmp 6) = .int .i64 j0 ∧ j0 = (S.length : Int) - 1 - (i : Int)) (S.length) ?_ ?_
  · refine ⟨0, by omega, by omega, rfl, ?_, ?_, ?_, O1, g1.1, g1.2, nx1, (S.length : Int) - 1, by simp -dsimp -implicitDefEqProofs (maxSteps := 2000000) (disch := first | assumption | omega | (simp only [nx]; omega) | ((repeat refine Fresh.push ?_ _); assumption) | (simp only [smA]; done) | (simp [oneCell, AW.next_push]; done) | fail) only [go_sem, Nat.reduceEqDiff, reduceIte, Nat.reduceAdd, Int.toNat_natCast, Nat.add_zero, Owes_true], by omega⟩ <;> simp -dsimp -implicitDefEqProofs (maxSteps := 2000000) (disch := first | assumption | omega | (simp only [nx]; omega) | ((repeat refine Fresh.push ?_ _); assumption) | (simp only [smA]; done) | (simp [oneCell, AW.next_push]; done) | fail) only [go_sem, Nat.reduceEqDiff, reduceIte, Nat.reduceAdd, Int.toNat_natCast, Nat.add_zero, Owes_true, Nat.sub_zero, sufT_end, Int.ediv_one] <;> rfl
  rintro k t ds w2 ⟨i, hii, rfl, rfl, e0, e1, e5, O2, k2, f2, hn2, j0, e6, hj0⟩
  by_cases hlt : j0 ≥ 0
  case neg =>
    obtain rfl : i = S.length := by omega
    simp -dsimp -implicitDefEqProofs (maxSteps := 2000000) (disch := first | assumption | omega | (simp only [nx]; omega) | ((repeat refine Fresh.push ?_ _); assumption) | (simp only [smA]; done) | (simp [oneCell, AW.next_push]; done) | fail) only [go_sem, Nat.reduceEqDiff, reduceIte, Nat.reduceAdd, Int.toNat_natCast, Nat.add_zero, Owes_true, Try.results122, e0, e1, e5, e6, hlt]
    refine ⟨⟨k2, f2⟩, ?_⟩
    rw [← decTo_all hS]
    have := Own.iarr O2 (by rw [decTo_len]; omega)
    rw [decTo_len] at this
    exact this
  obtain ⟨j, rfl⟩ : ∃ j : Nat, j0 = (j : Int) := ⟨j0.toNat, by omega⟩
  have hji : j + (i + 1) = S.length := by omega
  have hlt' : j < S.length := by omega
  have hjlt : (j : Int) < (S.length : Int) := by omega
  obtain ⟨b1, o1, rfl, hb1', hcell⟩ := hat j hlt'
  have a0 := hcell w2 k2 0 _ rfl
  rw [Nat.add_zero, ← W_at hlt', Nat.mul_one] at a0
  have hSi := h5.2 j hlt'
  have hsj : S.length - i = j + 1 := by omega
  have hsj2 : S.length - (i + 1) = j := by omega
  have hdj : W (decS S m) j = (m / sufT S (j + 1)) % W S j := by rw [decS_at (by omega), if_pos hlt']
  have hq := quo_step hS hlt' m
  have hsp := sufT_pos hS (S.length - (j + 1)) (j + 1) (by omega)
  have hq0 : 0 ≤ m / sufT S (j + 1) := Int.ediv_nonneg h0 (by omega)
  have hq1 : m / sufT S (j + 1) ≤ m := Int.ediv_le_self _ h0
  obtain ⟨w3, st, O3, m3, n3⟩ := put_row f2 O2 (i := j) (by rw [decTo_len]; exact hlt') (W (decS S m) j)
  rw [decTo_set hji] at O3
  rw [hsj] at e1
  have k3 : Keep w.next w w3 := k2.trans (m3.keep (B := w.next) (fun x q => by omega) k2.next)
  have a03 := hcell w3 k3 0 _ rfl
  rw [Nat.add_zero, ← W_at hlt', Nat.mul_one] at a03
  rw [hdj] at st
  generalize m / sufT S (j + 1) = M at *
  have hrem : M.tmod (W S j) = M % W S j := Int.tmod_eq_emod_of_nonneg hq0
  have hquo : M.tdiv (W S j) = M / W S j := Int.tdiv_eq_ediv_of_nonneg hq0
  have hS0 : ¬ W S j = 0 := by omega
  have hr0 := Int.emod_nonneg M hS0
  have hr1 := Int.emod_lt_of_pos M (show 0 < W S j by omega)
  have hu0 : 0 ≤ M / W S j := Int.ediv_nonneg hq0 (by omega)
  have hu1 : M / W S j ≤ M := Int.ediv_le_self _ hq0
  simp -dsimp -implicitDefEqProofs (maxSteps := 2000000) (disch := first | assumption | omega | (simp only [nx]; omega) | ((repeat refine Fresh.push ?_ _); assumption) | (simp only [smA]; done) | (simp [oneCell, AW.next_push]; done) | fail) only [go_sem, Nat.reduceEqDiff, reduceIte, Nat.reduceAdd, Int.toNat_natCast, Nat.add_zero, Owes_true, Try.results122, e0, e1, e5, e6, hlt, hjlt, indexV_eq, a0, a03, hrem, hquo, hS0, st, Nat.zero_add, Nat.mul_one]
  refine ⟨_, by omega, i + 1, by omega, rfl, rfl, by (simp -dsimp -implicitDefEqProofs (maxSteps := 2000000) (disch := first | assumption | omega | (simp only [nx]; omega) | ((repeat refine Fresh.push ?_ _); assumption) | (simp only [smA]; done) | (simp [oneCell, AW.next_push]; done) | fail) only [go_sem, Nat.reduceEqDiff, reduceIte, Nat.reduceAdd, Int.toNat_natCast, Nat.add_zero, Owes_true, e0, hsj2, hq]; try rfl), by (simp -dsimp -implicitDefEqProofs (maxSteps := 2000000) (disch := first | assumption | omega | (simp only [nx]; omega) | ((repeat refine Fresh.push ?_ _); assumption) | (simp only [smA]; done) | (simp [oneCell, AW.next_push]; done) | fail) only [go_sem, Nat.reduceEqDiff, reduceIte, Nat.reduceAdd, Int.toNat_natCast, Nat.add_zero, Owes_true, e1, hsj2, hq]; try rfl), by (simp -dsimp -implicitDefEqProofs (maxSteps := 2000000) (disch := first | assumption | omega | (simp only [nx]; omega) | ((repeat refine Fresh.push ?_ _); assumption) | (simp only [smA]; done) | (simp [oneCell, AW.next_push]; done) | fail) only [go_sem, Nat.reduceEqDiff, reduceIte, Nat.reduceAdd, Int.toNat_natCast, Nat.add_zero, Owes_true, e5, hsj2, hq]; try rfl), O3, k3, m3.fresh, (by omega), (j : Int) - 1, (by simp -dsimp -implicitDefEqProofs (maxSteps := 2000000) (disch := first | assumption | omega | (simp only [nx]; omega) | ((repeat refine Fresh.push ?_ _); assumption) | (simp only [smA]; done) | (simp [oneCell, AW.next_push]; done) | fail) only [go_sem, Nat.reduceEqDiff, reduceIte, Nat.reduceAdd, Int.toNat_natCast, Nat.add_zero, Owes_true]), (by omega)⟩
end Go.Proofs

namespace Go.Proofs
open Go Go.RowKit Go.Sim
set_option maxRecDepth 100000
def leadB (S LV a : List Int) (k : Int) (r : Nat) : Bool := keptB S a (r : Int) && decide (W LV (numI S (aftI S a (r : Int))).toNat ≥ k)
def goesB (S LV a : List Int) (k : Int) : Bool := (List.range S.length).any (leadB S LV a k)
theorem any_succ (g : Nat → Bool) (i : Nat) : (List.range (i + 1)).any g = ((List.range i).any g || g i) := by
  rw [List.range_succ, List.any_append]; simp
theorem any_true {g : Nat → Bool} {i n : Nat} (hi : i < n) (h : g i = true) : (List.range n).any g = true := List.any_eq_true.2 ⟨i, List.mem_range.2 hi, h⟩
set_option maxHeartbeats 16000000 in
theorem goes_ok {S a LV : List Int} (hS : perB S = true) (ha : StOk S a) (hN : (LV.length : Int) = prodTo S S.length) (kk : Int) (p pL : Option Addr) (c cL : Nat) (v : Value) (w : AW) (f : Fresh w) (hs : ArrOf w 1 icells (.slice p S.length c) S) (hL : ArrOf w 1 icells (.slice pL LV.length cL) LV) (hv : ArrOf w 1 icells v (ageL S a)) :
    CallT Try.prog Try.T1 (.fn (.func 121) #[]) #[.agg #[.slice p S.length c, .slice pL LV.length cL], v, .int .i64 kk] w (Ret (.bool (goesB S LV a kk)) (Grown w)) := by
  have h5 := (perB_iff.1 hS)
  have g1 := (Grown.refl f).push (.cells [.slice p S.length c, .slice pL LV.length cL] 111 w.next 0 0)
  have O1 := Own.new f 111 [.slice p S.length c, .slice pL LV.length cL]
  obtain ⟨pv, cv, rfl, _⟩ := id hv.open
  have hsp : same 12 (.slice p S.length c) (.slice p S.length c) = true := same_s12 _ _ _
  have hsL : same 12 (.slice pL LV.length cL) (.slice pL LV.length cL) = true := same_s12 _ _ _
  refine callT_code rfl Try.func121 rfl Try.s121_eq rfl ?_
  unfold Try.s121
  simp -dsimp -implicitDefEqProofs (maxSteps := 2000000) (disch := first | assumption | omega | (simp only [nx]; omega) | ((repeat refine Fresh.push ?_ _); assumption) | (simp only [smA]; done) | (simp [oneCell, AW.next_push]; done) | fail) only [go_sem, Nat.reduceEqDiff, reduceIte, Nat.reduceAdd, Int.toNat_natCast, Nat.add_zero, Owes_true, Try.results121]
  generalize w.push (.cells [.slice p S.length c, .slice pL LV.length cL] 111 w.next 0 0) = w1 at *
  refine loopR (fun k t ds w2 => ∃ i : Nat, i ≤ S.length ∧ k = S.length - i ∧ ds = [] ∧ ev t (.tmp 1) = .slice pv (ageL S a).length cv ∧ ev t (.tmp 2) = .int .i64 kk ∧ ev t (.tmp 3) = .pointer (some ⟨w.next, 0, none⟩) ∧ ev t (.tmp 7) = .int .i64 (i : Int) ∧ (List.range i).any (leadB S LV a kk) = false ∧ Keep w1.next w1 w2 ∧ Fresh w2) (S.length) ?_ ?_
  · refine ⟨0, by omega, by omega, rfl, ?_, ?_, ?_, ?_, rfl, .refl _ _, g1.2⟩ <;> simp -dsimp -implicitDefEqProofs (maxSteps := 2000000) (disch := first | assumption | omega | (simp only [nx]; omega) | ((repeat refine Fresh.push ?_ _); assumption) | (simp only [smA]; done) | (simp [oneCell, AW.next_push]; done) | fail) only [go_sem, Nat.reduceEqDiff, reduceIte, Nat.reduceAdd, Int.toNat_natCast, Nat.add_zero, Owes_true] <;> rfl
  rintro k t ds w2 ⟨i, hii, rfl, rfl, e1, e2, e3, e7, hno, k2, f2⟩
  have gW : Grown w w2 := ⟨g1.1.trans (k2.mono g1.1.next), f2⟩
  have O2 := O1.keep k2
  have c0 := O2.cell (o := 0) rfl rfl
  have c1 := O2.cell (o := 1) rfl rfl
  by_cases hlt : (i : Int) < (S.length : Int)
  case neg =>
    obtain rfl : i = S.length := by omega
    simp -dsimp -implicitDefEqProofs (maxSteps := 2000000) (disch := first | assumption | omega | (simp only [nx]; omega) | ((repeat refine Fresh.push ?_ _); assumption) | (simp only [smA]; done) | (simp [oneCell, AW.next_push]; done) | fail) only [go_sem, Nat.reduceEqDiff, reduceIte, Nat.reduceAdd, Int.toNat_natCast, Nat.add_zero, Owes_true, Try.results121, e1, e2, e3, e7, hlt, c0, c1, Nat.zero_add]
    exact ⟨by unfold goesB; rw [hno], gW⟩
  have hlt' : i < S.length := by omega
  have hsucc := any_succ (leadB S LV a kk) i
  rw [hno, Bool.false_or] at hsucc
  have haf := afterR_ok hS ha (i : Int) p c _ w2 f2 (hs.grown gW) (hv.grown gW)
  simp -dsimp -implicitDefEqProofs (maxSteps := 2000000) (disch := first | assumption | omega | (simp only [nx]; omega) | ((repeat refine Fresh.push ?_ _); assumption) | (simp only [smA]; done) | (simp [oneCell, AW.next_push]; done) | fail) only [go_sem, Nat.reduceEqDiff, reduceIte, Nat.reduceAdd, Int.toNat_natCast, Nat.add_zero, Owes_true, Try.results121, e1, e2, e3, e7, hlt, c0, c1, Nat.zero_add]
  apply callV_of (e := rfl)
  · exact haf
  rintro _ w3 ⟨g3, u, rfl, hu⟩
  have k3 : Keep w1.next w1 w3 := k2.trans (g3.1.mono k2.next)
  have gW3 := gW.trans g3
  have O3 := O2.keep g3.1
  have d0 := O3.cell (o := 0) rfl rfl
  have d1 := O3.cell (o := 1) rfl rfl
  cases hk : keptB S a (i : Int) with
  | false =>
    have hle : leadB S LV a kk i = false := by unfold leadB; rw [hk]; rfl
    rw [hle] at hsucc
    simp -dsimp -implicitDefEqProofs (maxSteps := 2000000) (disch := first | assumption | omega | (simp only [nx]; omega) | ((repeat refine Fresh.push ?_ _); assumption) | (simp only [smA]; done) | (simp [oneCell, AW.next_push]; done) | fail) only [go_sem, Nat.reduceEqDiff, reduceIte, Nat.reduceAdd, Int.toNat_natCast, Nat.add_zero, Owes_true, Try.results121, e1, e2, e3, e7, hk]
    refine ⟨_, by omega, i + 1, by omega, rfl, rfl, by (simp -dsimp -implicitDefEqProofs (maxSteps := 2000000) (disch := first | assumption | omega | (simp only [nx]; omega) | ((repeat refine Fresh.push ?_ _); assumption) | (simp only [smA]; done) | (simp [oneCell, AW.next_push]; done) | fail) only [go_sem, Nat.reduceEqDiff, reduceIte, Nat.reduceAdd, Int.toNat_natCast, Nat.add_zero, Owes_true, e1]; try rfl), by (simp -dsimp -implicitDefEqProofs (maxSteps := 2000000) (disch := first | assumption | omega | (simp only [nx]; omega) | ((repeat refine Fresh.push ?_ _); assumption) | (simp only [smA]; done) | (simp [oneCell, AW.next_push]; done) | fail) only [go_sem, Nat.reduceEqDiff, reduceIte, Nat.reduceAdd, Int.toNat_natCast, Nat.add_zero, Owes_true, e2]; try rfl), by (simp -dsimp -implicitDefEqProofs (maxSteps := 2000000) (disch := first | assumption | omega | (simp only [nx]; omega) | ((repeat refine Fresh.push ?_ _); assumption) | (simp only [smA]; done) | (simp [oneCell, AW.next_push]; done) | fail) only [go_sem, Nat.reduceEqDiff, reduceIte, Nat.reduceAdd, Int.toNat_natCast, Nat.add_zero, Owes_true, e3]; try rfl), by (simp -dsimp -implicitDefEqProofs (maxSteps := 2000000) (disch := first | assumption | omega | (simp only [nx]; omega) | ((repeat refine Fresh.push ?_ _); assumption) | (simp only [smA]; done) | (simp [oneCell, AW.next_push]; done) | fail) only [go_sem, Nat.reduceEqDiff, reduceIte, Nat.reduceAdd, Int.toNat_natCast, Nat.add_zero, Owes_true, e7]; try rfl), hsucc, k3, g3.2⟩
  | true =>
    have hu' := hu hk
    have hst := st_aft hS ha hk
    obtain ⟨pu, cu, rfl, _⟩ := id hu'.open
    have hsu : same 12 (.slice pu (ageL S (aftI S a (i : Int))).length cu) (.slice pu (ageL S (aftI S a (i : Int))).length cu) = true := same_s12 _ _ _
    have hnu := number_ok hS hst _ _ w3 (hs.grown gW3) hu'
    have hni := num_in hS hst S.length (Nat.le_refl _)
    obtain ⟨j, hj⟩ : ∃ j : Nat, numI S (aftI S a (i : Int)) = (j : Int) := ⟨(numI S (aftI S a (i : Int))).toNat, by have := hni.1; unfold numI; omega⟩
    have hjl : j < LV.length := by have := hni.2; unfold numI at hj; omega
    have hjlt : (j : Int) < (LV.length : Int) := by omega
    obtain ⟨_, _, eL, _, _, hatL⟩ := hL.open
    injection eL with eL1 eL2 eL3
    subst eL1 eL3
    obtain ⟨b1, o1, rfl, hb1, hcell⟩ := hatL j hjl
    have a0 := hcell w3 gW3.1 0 _ rfl
    rw [Nat.add_zero, ← W_at hjl] at a0
    have hlead : leadB S LV a kk i = decide (W LV j ≥ kk) := by unfold leadB; rw [hk, hj]; rfl
    rw [hj] at hnu
    simp -dsimp -implicitDefEqProofs (maxSteps := 2000000) (disch := first | assumption | omega | (simp only [nx]; omega) | ((repeat refine Fresh.push ?_ _); assumption) | (simp only [smA]; done) | (simp [oneCell, AW.next_push]; done) | fail) only [go_sem, Nat.reduceEqDiff, reduceIte, Nat.reduceAdd, Int.toNat_natCast, Nat.add_zero, Owes_true, Try.results121, e1, e2, e3, e7, hk, d0, d1, Nat.zero_add]
    apply callV_of (e := rfl)
    · exact hnu
    rintro _ _ ⟨rfl, rfl⟩
    have hle3 : WLe w3 w3 := (Grown.refl gW3.2).1.wle gW3.2
    by_cases hge : W LV j ≥ kk
    · have hyes : goesB S LV a kk = true := any_true hlt' (by rw [hlead]; exact decide_eq_true hge)
      rw [hyes]
      simp -dsimp -implicitDefEqProofs (maxSteps := 2000000) (disch := first | assumption | omega | (simp only [nx]; omega) | ((repeat refine Fresh.push ?_ _); assumption) | (simp only [smA]; done) | (simp [oneCell, AW.next_push]; done) | fail) only [go_sem, Nat.reduceEqDiff, reduceIte, Nat.reduceAdd, Int.toNat_natCast, Nat.add_zero, Owes_true, Try.results121, e1, e2, e3, e7, hle3, indexV_eq, hjlt, a0, hge]
      exact ⟨rfl, gW3⟩
    · rw [hlead, decide_eq_false hge] at hsucc
      simp -dsimp -implicitDefEqProofs (maxSteps := 2000000) (disch := first | assumption | omega | (simp only [nx]; omega) | ((repeat refine Fresh.push ?_ _); assumption) | (simp only [smA]; done) | (simp [oneCell, AW.next_push]; done) | fail) only [go_sem, Nat.reduceEqDiff, reduceIte, Nat.reduceAdd, Int.toNat_natCast, Nat.add_zero, Owes_true, Try.results121, e1, e2, e3, e7, hle3, indexV_eq, hjlt, a0, hge]
      refine ⟨_, by omega, i + 1, by omega, rfl, rfl, by (simp -dsimp -implicitDefEqProofs (maxSteps := 2000000) (disch := first | assumption | omega | (simp only [nx]; omega) | ((repeat refine Fresh.push ?_ _); assumption) | (simp only [smA]; done) | (simp [oneCell, AW.next_push]; done) | fail) only [go_sem, Nat.reduceEqDiff, reduceIte, Nat.reduceAdd, Int.toNat_natCast, Nat.add_zero, Owes_true, e1]; try rfl), by (simp -dsimp -implicitDefEqProofs (maxSteps := 2000000) (disch := first | assumption | omega | (simp only [nx]; omega) | ((repeat refine Fresh.push ?_ _); assumption) | (simp only [smA]; done) | (simp [oneCell, AW.next_push]; done) | fail) only [go_sem, Nat.reduceEqDiff, reduceIte, Nat.reduceAdd, Int.toNat_natCast, Nat.add_zero, Owes_true, e2]; try rfl), by (simp -dsimp -implicitDefEqProofs (maxSteps := 2000000) (disch := first | assumption | omega | (simp only [nx]; omega) | ((repeat refine Fresh.push ?_ _); assumption) | (simp only [smA]; done) | (simp [oneCell, AW.next_push]; done) | fail) only [go_sem, Nat.reduceEqDiff, reduceIte, Nat.reduceAdd, Int.toNat_natCast, Nat.add_zero, Owes_true, e3]; try rfl), by (simp -dsimp -implicitDefEqProofs (maxSteps := 2000000) (disch := first | assumption | omega | (simp only [nx]; omega) | ((repeat refine Fresh.push ?_ _); assumption) | (simp only [smA]; done) | (simp [oneCell, AW.next_push]; done) | fail) only [go_sem, Nat.reduceEqDiff, reduceIte, Nat.reduceAdd, Int.toNat_natCast, Nat.add_zero, Owes_true, e7]; try rfl), hsucc, k3, g3.2⟩
end Go.Proofs

namespace Go.Proofs
open Go Go.RowKit Go.Sim
def survP (S a : List Int) (j : Nat) : Prop := ∃ t, t.length = j ∧ runB S a t = true
theorem surv_le {S a : List Int} {i j : Nat} (h : survP S a j) (k : i ≤ j) : survP S a i := by
  obtain ⟨t, h1, h2⟩ := h
  exact ⟨t.take i, by rw [List.length_take]; omega, run_take h2 i⟩
theorem surv_zero (S a : List Int) : survP S a 0 := ⟨[], rfl, rfl⟩
theorem surv_succ {S a : List Int} {j : Nat} : survP S a (j + 1) ↔ ∃ r : Nat, r < S.length ∧ keptB S a (r : Int) = true ∧ survP S (aftI S a (r : Int)) j := by
  constructor
  · rintro ⟨t, h1, h2⟩
    cases t with
    | nil => simp at h1
    | cons r t =>
      rw [run_cons] at h2
      obtain ⟨n, rfl⟩ : ∃ n : Nat, r = (n : Int) := ⟨r.toNat, by omega⟩
      exact ⟨n, by omega, h2.2.1, t, by simpa using h1, h2.2.2⟩
  · rintro ⟨r, h1, h2, t, h3, h4⟩
    exact ⟨(r : Int) :: t, by rw [List.length_cons, h3], run_cons.2 ⟨⟨by omega, by omega⟩, h2, h4⟩⟩
theorem surv_max {S a : List Int} {j : Nat} (h : survP S a j) (k : ¬ survP S a (j + 1)) : maxP S a j := ⟨h, fun t ht => by
  rcases Nat.lt_or_ge j t.length with q | q
  · exact absurd (surv_le ⟨t, rfl, ht⟩ (show j + 1 ≤ t.length by omega)) k
  · exact q⟩
theorem surv_inf {S a : List Int} (h : ∀ j, survP S a j) : infP S a := fun k => by
  obtain ⟨t, h1, h2⟩ := h k
  exact ⟨t, by omega, h2⟩
theorem max_uniq {S a : List Int} {m n : Nat} (h : maxP S a m) (k : maxP S a n) : m = n := by
  obtain ⟨⟨t, h1, h2⟩, h3⟩ := h
  obtain ⟨⟨u, k1, k2⟩, k3⟩ := k
  have := h3 u k2
  have := k3 t h2
  omega
def posI (S a : List Int) : Nat := (numI S a).toNat
theorem pos_in {S a : List Int} (hS : perB S = true) (ha : StOk S a) : numI S a = (posI S a : Int) ∧ (posI S a : Int) < prodTo S S.length := by
  have := num_in hS ha S.length (Nat.le_refl _)
  unfold posI numI
  omega
structure CapL (S LV : List Int) (k : Nat) : Prop where
  len : (LV.length : Int) = prodTo S S.length
  cap : ∀ a, StOk S a → ∃ j : Nat, W LV (posI S a) = (j : Int) ∧ j ≤ k ∧ survP S a j ∧ (j < k → ¬ survP S a (j + 1))
theorem CapL.is {S LV : List Int} {k : Nat} (h : CapL S LV k) {a : List Int} (ha : StOk S a) : W LV (posI S a) ≥ (k : Int) ↔ survP S a k := by
  obtain ⟨j, h1, h2, h3, h4⟩ := h.cap a ha
  constructor
  · intro q
    obtain rfl : j = k := by omega
    exact h3
  · intro q
    rcases Nat.lt_or_ge j k with z | z
    · exact absurd (surv_le q (show j + 1 ≤ k by omega)) (h4 z)
    · omega
theorem CapL.goes {S LV : List Int} (hS : perB S = true) {k : Nat} (h : CapL S LV k) {a : List Int} (ha : StOk S a) : goesB S LV a (k : Int) = true ↔ survP S a (k + 1) := by
  rw [surv_succ]
  unfold goesB
  rw [List.any_eq_true]
  constructor
  · rintro ⟨r, h1, h2⟩
    unfold leadB at h2
    rw [Bool.and_eq_true, decide_eq_true_eq] at h2
    exact ⟨r, List.mem_range.1 h1, h2.1, (h.is (st_aft hS ha h2.1)).1 h2.2⟩
  · rintro ⟨r, h1, h2, h3⟩
    refine ⟨r, List.mem_range.2 h1, ?_⟩
    unfold leadB
    rw [Bool.and_eq_true, decide_eq_true_eq]
    exact ⟨h2, (h.is (st_aft hS ha h2)).2 h3⟩
def moreB (S LV : List Int) (k : Int) (m : Nat) : Bool := decide (W LV m = k) && goesB S LV (decS S (m : Int)) k
def nextL (S LV : List Int) (k : Int) : List Int := (List.range LV.length).map fun m => if moreB S LV k m = true then k + 1 else W LV m
theorem nextL_len (S LV : List Int) (k : Int) : (nextL S LV k).length = LV.length := by simp [nextL]
theorem nextL_at {S LV : List Int} {k : Int} {m : Nat} (h : m < LV.length) : W (nextL S LV k) m = if moreB S LV k m = true then k + 1 else W LV m := by
  rw [W_at (by rw [nextL_len]; exact h)]; simp [nextL]
theorem dec_pos {S a : List Int} (hS : perB S = true) (ha : StOk S a) : decS S (posI S a : Int) = a := by rw [← (pos_in hS ha).1]; exact dec_num hS ha
theorem CapL.next {S LV : List Int} (hS : perB S = true) {k : Nat} (h : CapL S LV k) : CapL S (nextL S LV (k : Int)) (k + 1) := by
  refine ⟨by rw [nextL_len]; exact h.len, fun a ha => ?_⟩
  obtain ⟨j, h1, h2, h3, h4⟩ := h.cap a ha
  have hp := pos_in hS ha
  have hm : posI S a < LV.length := by have := h.len; omega
  have hg := h.goes hS ha
  rw [nextL_at hm]
  unfold moreB
  rw [dec_pos hS ha]
  by_cases hj : W LV (posI S a) = (k : Int)
  · cases hq : goesB S LV a (k : Int) with
    | true =>
      rw [if_pos (by rw [decide_eq_true hj]; rfl)]
      exact ⟨k + 1, by push_cast; rfl, Nat.le_refl _, hg.1 hq, fun z => by omega⟩
    | false =>
      rw [if_neg (by rw [Bool.and_false]; intro z; cases z)]
      exact ⟨j, h1, by omega, h3, fun _ z => by
        obtain rfl : j = k := by omega
        rw [hg.2 z] at hq; cases hq⟩
  · rw [if_neg (by rw [decide_eq_false hj]; intro z; cases z)]
    exact ⟨j, h1, by omega, h3, fun _ => h4 (by omega)⟩
theorem cap_zero {S LV : List Int} (hl : (LV.length : Int) = prodTo S S.length) (hz : ∀ m, W LV m = 0) : CapL S LV 0 := ⟨hl, fun a _ => ⟨0, hz _, Nat.le_refl _, surv_zero _ _, fun h => by omega⟩⟩
structure FinL (S LV : List Int) (K : Nat) : Prop where
  len : (LV.length : Int) = prodTo S S.length
  fin : ∀ a, StOk S a → (infP S a ∧ W LV (posI S a) = (K : Int) + 1) ∨ (∃ j : Nat, j ≤ K ∧ maxP S a j ∧ W LV (posI S a) = (j : Int))
theorem CapL.fin {S LV : List Int} (hS : perB S = true) {k : Nat} (h : CapL S LV k) (hall : ∀ m, m < LV.length → W LV m = (k : Int) → moreB S LV (k : Int) m = true) : FinL S (nextL S LV (k : Int)) k := by
  have hgo : ∀ a, StOk S a → survP S a k → survP S a (k + 1) := fun a ha hs => by
    have hm : posI S a < LV.length := by have := h.len; have := (pos_in hS ha).2; omega
    obtain ⟨j, h1, h2, h3, h4⟩ := h.cap a ha
    have hw := (h.is ha).2 hs
    have := hall _ hm (by omega)
    unfold moreB at this
    rw [dec_pos hS ha, Bool.and_eq_true] at this
    exact (h.goes hS ha).1 this.2
  have hinf : ∀ i, ∀ a, StOk S a → survP S a k → survP S a (k + i) := by
    intro i
    induction i with
    | zero => exact fun a _ h => h
    | succ i ih =>
      intro a ha hs
      obtain ⟨r, h1, h2, h3⟩ := surv_succ.1 (hgo a ha hs)
      exact surv_succ.2 ⟨r, h1, h2, ih _ (st_aft hS ha h2) h3⟩
  have hn := h.next hS
  refine ⟨hn.len, fun a ha => ?_⟩
  obtain ⟨j, h1, h2, h3, h4⟩ := hn.cap a ha
  rcases Nat.lt_or_ge j (k + 1) with q | q
  · exact .inr ⟨j, by omega, surv_max h3 (h4 q), h1⟩
  · obtain rfl : j = k + 1 := by omega
    refine .inl ⟨surv_inf fun i => ?_, by rw [h1]; push_cast; rfl⟩
    exact surv_le (hinf i a ha (surv_le h3 (by omega))) (by omega)
def topTo (LV : List Int) : Nat → Int
  | 0 => 0
  | i + 1 => max (topTo LV i) (W LV i)
theorem top_ge (LV : List Int) : ∀ i m, m < i → W LV m ≤ topTo LV i
  | i + 1, m, h => by
    rw [topTo]
    rcases Nat.lt_or_ge m i with q | q
    · have := top_ge LV i m q; omega
    · obtain rfl : m = i := by omega
      omega
theorem top_le {LV : List Int} {B : Int} (hB : 0 ≤ B) : ∀ i, (∀ m, m < i → W LV m ≤ B) → topTo LV i ≤ B
  | 0, _ => hB
  | i + 1, h => by
    have := top_le hB i fun m hm => h m (by omega)
    have := h i (by omega)
    rw [topTo]; omega
def everB (S LV a : List Int) : Bool := decide (W LV (posI S a) = topTo LV LV.length) && goesB S LV a (topTo LV LV.length)
theorem FinL.ever {S LV : List Int} (hS : perB S = true) {K : Nat} (h : FinL S LV K) {a : List Int} (ha : StOk S a) : everB S LV a = true ↔ infP S a := by
  have hin : ∀ b, StOk S b → posI S b < LV.length := fun b hb => by have := h.len; have := (pos_in hS hb).2; omega
  unfold everB
  rw [Bool.and_eq_true, decide_eq_true_eq]
  constructor
  · rintro ⟨h1, h2⟩
    unfold goesB at h2
    rw [List.any_eq_true] at h2
    obtain ⟨r, hr, h2⟩ := h2
    unfold leadB at h2
    rw [Bool.and_eq_true, decide_eq_true_eq] at h2
    have hst := st_aft hS ha h2.1
    have hle := top_ge LV LV.length _ (hin _ hst)
    have h2' : W LV (posI S (aftI S a (r : Int))) ≥ topTo LV LV.length := h2.2
    rcases h.fin a ha with q | ⟨j, hj, hm, hw⟩
    · exact q.1
    · exfalso
      rcases h.fin _ hst with q | ⟨i, hi, hn, hv⟩
      · have := q.2; omega
      · obtain rfl : i = j := by omega
        obtain ⟨t, t1, t2⟩ := hn.1
        have := hm.2 ((r : Int) :: t) (run_cons.2 ⟨⟨by omega, by have := List.mem_range.1 hr; omega⟩, h2.1, t2⟩)
        rw [List.length_cons] at this
        omega
  · intro hi
    have hall : ∀ m, m < LV.length → W LV m ≤ (K : Int) + 1 := fun m hm => by
      have hd := decS_ok hS (m : Int)
      have hn := numI_dec hS (m := (m : Int)) (by omega) (by have := h.len; omega)
      have hp : posI S (decS S (m : Int)) = m := by unfold posI; rw [hn]; rfl
      have := h.fin _ hd
      rw [hp] at this
      rcases this with q | ⟨j, hj, _, hw⟩
      · omega
      · omega
    have htop := top_le (LV := LV) (B := (K : Int) + 1) (by omega) LV.length hall
    have hval : ∀ b, StOk S b → infP S b → W LV (posI S b) = (K : Int) + 1 := fun b hb hbi => by
      rcases h.fin b hb with q | ⟨j, _, hm, _⟩
      · exact q.2
      · exact (inf_not_max hbi hm).elim
    have hv := hval a ha hi
    have hge := top_ge LV LV.length _ (hin a ha)
    refine ⟨by omega, ?_⟩
    obtain ⟨r, h1, h2, h3⟩ := inf_next hi
    refine any_true h1 ?_
    unfold leadB
    rw [Bool.and_eq_true, decide_eq_true_eq]
    refine ⟨h2, ?_⟩
    have hv2 := hval _ (st_aft hS ha h2) h3
    have hv2' : W LV (numI S (aftI S a (r : Int))).toNat = (K : Int) + 1 := hv2
    omega
end Go.Proofs

namespace Go.Proofs
open Go Go.RowKit Go.Sim
set_option maxRecDepth 100000
theorem same_liv (p q : Option Addr) (a b c e : Nat) : same 12 (.agg #[.slice p a b, .slice q c e]) (.agg #[.slice p a b, .slice q c e]) = true := by simp [same, same.all, same_s11]
theorem own_at {w : AW} {b : Nat} {e : TypeId} {C : List Int} (h : Own w b e (C.flatMap icells)) {i : Nat} (hi : i < C.length) : w.cell? ⟨b, i, none⟩ = some (.int .i64 (W C i)) := by
  refine h.cell (o := i) ?_ rfl
  have := flatMap_get icells_len C i 0 C[i] (List.getElem?_eq_getElem hi) (by omega)
  rw [Nat.mul_one, Nat.add_zero] at this
  rw [this, W_at hi]; rfl
def moreN (S LV : List Int) (d : Nat) (i : Nat) : List Nat := (List.range i).filter (moreB S LV (d : Int))
def moreL (S LV : List Int) (d : Nat) (i : Nat) : List Int := (moreN S LV d i).map fun (m : Nat) => (m : Int)
theorem moreN_succ (S LV : List Int) (d i : Nat) : moreN S LV d (i + 1) = moreN S LV d i ++ (if moreB S LV (d : Int) i = true then [i] else []) := by
  unfold moreN
  rw [List.range_succ, List.filter_append]
  cases hq : moreB S LV (d : Int) i <;> simp [hq]
theorem moreL_succ (S LV : List Int) (d i : Nat) : moreL S LV d (i + 1) = moreL S LV d i ++ (if moreB S LV (d : Int) i = true then [(i : Int)] else []) := by
  unfold moreL
  rw [moreN_succ, List.map_append]
  split <;> rfl
theorem moreL_len (S LV : List Int) (d i : Nat) : (moreL S LV d i).length ≤ i := by
  unfold moreL moreN
  rw [List.length_map]
  have := List.length_filter_le (moreB S LV (d : Int)) (List.range i)
  rw [List.length_range] at this; exact this
def hereN (LV : List Int) (d : Nat) (i : Nat) : Nat := (List.range i).countP fun m => decide (W LV m = (d : Int))
theorem hereN_succ (LV : List Int) (d i : Nat) : hereN LV d (i + 1) = hereN LV d i + (if W LV i = (d : Int) then 1 else 0) := by
  unfold hereN
  rw [List.range_succ, List.countP_append, List.countP_singleton]
  simp
theorem hereN_le (LV : List Int) (d i : Nat) : hereN LV d i ≤ i := by
  unfold hereN
  have := List.countP_le_length (p := fun m => decide (W LV m = (d : Int))) (l := List.range i)
  rw [List.length_range] at this; exact this
theorem more_len (S LV : List Int) (d i : Nat) : (moreL S LV d i).length = (List.range i).countP (moreB S LV (d : Int)) := by
  unfold moreL moreN
  rw [List.length_map, List.countP_eq_length_filter]
theorem more_here (S LV : List Int) (d i : Nat) : (moreL S LV d i).length ≤ hereN LV d i := by
  rw [more_len]
  exact countP_le' fun x _ hx => by
    unfold moreB at hx
    rw [Bool.and_eq_true] at hx
    exact hx.1
theorem more_all {S LV : List Int} {d i : Nat} (h : (moreL S LV d i).length = hereN LV d i) : ∀ m, m < i → W LV m = (d : Int) → moreB S LV (d : Int) m = true := fun m hm hw => by
  cases hq : moreB S LV (d : Int) m with
  | true => rfl
  | false =>
    have := countP_lt' (l := List.range i) (p := moreB S LV (d : Int)) (q := fun m => decide (W LV m = (d : Int))) (fun x _ hx => by
      unfold moreB at hx
      rw [Bool.and_eq_true] at hx
      exact hx.1) ⟨m, List.mem_range.2 hm, hq, decide_eq_true hw⟩
    rw [← more_len] at this
    unfold hereN at h
    omega
theorem next_here {S LV : List Int} {d : Nat} (hd : ∀ m, m < LV.length → W LV m ≤ (d : Int)) : hereN (nextL S LV (d : Int)) (d + 1) LV.length = (moreL S LV d LV.length).length := by
  rw [more_len]
  unfold hereN
  refine List.countP_congr fun m hm => ?_
  have hm' := List.mem_range.1 hm
  rw [nextL_at hm', decide_eq_true_eq]
  split
  · rename_i h; rw [h]; simp
  · rename_i h
    have := hd m hm'
    simp only [Bool.not_eq_true] at h
    rw [h]
    simp
    omega
theorem cap_le {S LV : List Int} (hS : perB S = true) {d : Nat} (h : CapL S LV d) : ∀ m, m < LV.length → W LV m ≤ (d : Int) := fun m hm => by
  have hdd := decS_ok hS (m : Int)
  have hn := numI_dec hS (m := (m : Int)) (by omega) (by have := h.len; omega)
  have hp : posI S (decS S (m : Int)) = m := by unfold posI; rw [hn]; rfl
  obtain ⟨j, h1, h2, _⟩ := h.cap _ hdd
  rw [hp] at h1; omega
def midL (LV : List Int) (d : Nat) (M : List Nat) : List Int := (List.range LV.length).map fun m => if m ∈ M then (d : Int) + 1 else W LV m
theorem midL_len (LV : List Int) (d : Nat) (M : List Nat) : (midL LV d M).length = LV.length := by simp [midL]
theorem midL_at {LV : List Int} {d : Nat} {M : List Nat} {m : Nat} (h : m < LV.length) : W (midL LV d M) m = if m ∈ M then (d : Int) + 1 else W LV m := by
  rw [W_at (by rw [midL_len]; exact h)]; simp [midL]
theorem midL_nil (LV : List Int) (d : Nat) : midL LV d [] = LV := by
  refine List.ext_getElem (midL_len _ _ _) fun i h1 h2 => ?_
  rw [← W_at h1, ← W_at h2, midL_at h2, if_neg (by simp)]
theorem midL_set {LV : List Int} {d : Nat} {M : List Nat} {j : Nat} (hj : j < LV.length) : (midL LV d M).set j ((d : Int) + 1) = midL LV d (M ++ [j]) := by
  refine List.ext_getElem (by rw [List.length_set, midL_len, midL_len]) fun i h1 h2 => ?_
  have h3 : i < LV.length := by rw [midL_len] at h2; exact h2
  rw [List.getElem_set, ← W_at h2, ← W_at (by rw [midL_len]; exact h3), midL_at h3, midL_at h3]
  by_cases e : j = i
  · subst e; rw [if_pos rfl, if_pos (by simp)]
  · rw [if_neg e]
    by_cases q : i ∈ M
    · rw [if_pos q, if_pos (by simp [q])]
    · rw [if_neg q, if_neg (by simp [q]; omega)]
theorem midL_all (S LV : List Int) (d : Nat) : midL LV d (moreN S LV d LV.length) = nextL S LV (d : Int) := by
  refine List.ext_getElem (by rw [midL_len, nextL_len]) fun i h1 h2 => ?_
  have h3 : i < LV.length := by rw [midL_len] at h1; exact h1
  rw [← W_at h1, ← W_at h2, midL_at h3, nextL_at h3]
  have : i ∈ moreN S LV d LV.length ↔ moreB S LV (d : Int) i = true := by
    unfold moreN
    rw [List.mem_filter, List.mem_range]
    exact ⟨fun h => h.2, fun h => ⟨h3, h⟩⟩
  by_cases q : moreB S LV (d : Int) i = true
  · rw [if_pos q, if_pos (this.2 q)]
  · rw [if_neg q, if_neg fun z => q (this.1 z)]
theorem moreL_at {S LV : List Int} {d n i : Nat} (h : i < (moreN S LV d n).length) : W (moreL S LV d n) i = ((moreN S LV d n)[i] : Int) ∧ (moreN S LV d n)[i] < n := by
  refine ⟨?_, ?_⟩
  · unfold moreL; rw [W_at (by rw [List.length_map]; exact h)]; simp
  · have : (moreN S LV d n)[i] ∈ moreN S LV d n := List.getElem_mem h
    exact List.mem_range.1 (List.mem_filter.1 this).1
end Go.Proofs

namespace Go.Proofs
open Go Go.RowKit Go.Sim
set_option maxRecDepth 100000
set_option maxHeartbeats 64000000 in
theorem lives_ok {S : List Int} (hS : perB S = true) (p : Option Addr) (c : Nat) (w : AW) (f : Fresh w) (hs : ArrOf w 1 icells (.slice p S.length c) S) :
    CallT Try.prog Try.T1 (.fn (.func 102) #[]) #[.slice p S.length c] w (fun r w' => Grown w w' ∧ ∃ (pL : Option Addr) (cL : Nat) (LV : List Int) (K : Nat), r = .agg #[.slice p S.length c, .slice pL LV.length cL] ∧ ArrOf w' 1 icells (.slice pL LV.length cL) LV ∧ FinL S LV K) := by
  have h5 := (perB_iff.1 hS)
  obtain ⟨_, _, epd, _, _, hat⟩ := hs.open
  injection epd with epd1 epd2 epd3
  subst epd1 epd3
  have pall := prodT_in hS S.length (Nat.le_refl _)
  have p5 := pow_fiveT (i := S.length) h5.1.2
  have g1 := (Grown.refl f).push (.cells [.slice none 0 0, .slice none 0 0] 111 w.next 0 0)
  have O1 := Own.new f 111 [.slice none 0 0, .slice none 0 0]
  have hn1 : (w.push (.cells [.slice none 0 0, .slice none 0 0] 111 w.next 0 0)).next = w.next + 1 := AW.next_push _ _
  refine callT_code rfl Try.func102 rfl Try.s102_eq rfl ?_
  unfold Try.s102
  simp -dsimp -implicitDefEqProofs (maxSteps := 2000000) (disch := first | assumption | omega | (simp only [nx]; omega) | ((repeat refine Fresh.push ?_ _); assumption) | (simp only [smA]; done) | (simp [oneCell, AW.next_push]; done) | fail) only [go_sem, Nat.reduceEqDiff, reduceIte, Nat.reduceAdd, Int.toNat_natCast, Nat.add_zero, Owes_true, Try.results102]
  generalize w.push (.cells [.slice none 0 0, .slice none 0 0] 111 w.next 0 0) = w1 at *
  refine loopR (fun k t ds w2 => ∃ i : Nat, i ≤ S.length ∧ k = S.length - i ∧ ds = [] ∧ ev t (.tmp 0) = .slice p S.length c ∧ ev t (.tmp 2) = .pointer (some ⟨w.next, 0, none⟩) ∧ ev t (.tmp 3) = .int .i64 (prodTo S i) ∧ ev t (.tmp 4) = .int .i64 (i : Int) ∧ w1 = w2) (S.length) ?_ ?_
  · refine ⟨0, by omega, by omega, rfl, ?_, ?_, ?_, ?_, rfl⟩ <;> simp -dsimp -implicitDefEqProofs (maxSteps := 2000000) (disch := first | assumption | omega | (simp only [nx]; omega) | ((repeat refine Fresh.push ?_ _); assumption) | (simp only [smA]; done) | (simp [oneCell, AW.next_push]; done) | fail) only [go_sem, Nat.reduceEqDiff, reduceIte, Nat.reduceAdd, Int.toNat_natCast, Nat.add_zero, Owes_true] <;> rfl
  rintro k t ds w2 ⟨i, hii, rfl, rfl, e0, e2, e3, e4, hw⟩
  subst hw
  by_cases hlt : (i : Int) < (S.length : Int)
  case pos =>
    have hlt' : i < S.length := by omega
    obtain ⟨b1, o1, rfl, _, hcell⟩ := hat i hlt'
    have a0 := hcell w1 g1.1 0 _ rfl
    rw [Nat.add_zero, ← W_at hlt'] at a0
    have hSi := h5.2 i hlt'
    have q1 := prodT_in hS (i + 1) (by omega)
    have q2 := pow_fiveT (i := i + 1) (by omega)
    have hnx : prodTo S (i + 1) = prodTo S i * W S i := rfl
    rw [hnx] at q1
    generalize hmm : prodTo S i * W S i = M at *
    simp -dsimp -implicitDefEqProofs (maxSteps := 2000000) (disch := first | assumption | omega | (simp only [nx]; omega) | ((repeat refine Fresh.push ?_ _); assumption) | (simp only [smA]; done) | (simp [oneCell, AW.next_push]; done) | fail) only [go_sem, Nat.reduceEqDiff, reduceIte, Nat.reduceAdd, Int.toNat_natCast, Nat.add_zero, Owes_true, Try.results102, e0, e2, e3, e4, hlt, indexV_eq, a0, hmm]
    refine ⟨_, by omega, i + 1, by omega, rfl, rfl, by (simp -dsimp -implicitDefEqProofs (maxSteps := 2000000) (disch := first | assumption | omega | (simp only [nx]; omega) | ((repeat refine Fresh.push ?_ _); assumption) | (simp only [smA]; done) | (simp [oneCell, AW.next_push]; done) | fail) only [go_sem, Nat.reduceEqDiff, reduceIte, Nat.reduceAdd, Int.toNat_natCast, Nat.add_zero, Owes_true, e0, hnx]; try rfl), by (simp -dsimp -implicitDefEqProofs (maxSteps := 2000000) (disch := first | assumption | omega | (simp only [nx]; omega) | ((repeat refine Fresh.push ?_ _); assumption) | (simp only [smA]; done) | (simp [oneCell, AW.next_push]; done) | fail) only [go_sem, Nat.reduceEqDiff, reduceIte, Nat.reduceAdd, Int.toNat_natCast, Nat.add_zero, Owes_true, e2, hnx]; try rfl), by (simp -dsimp -implicitDefEqProofs (maxSteps := 2000000) (disch := first | assumption | omega | (simp only [nx]; omega) | ((repeat refine Fresh.push ?_ _); assumption) | (simp only [smA]; done) | (simp [oneCell, AW.next_push]; done) | fail) only [go_sem, Nat.reduceEqDiff, reduceIte, Nat.reduceAdd, Int.toNat_natCast, Nat.add_zero, Owes_true, e3, hnx]; try rfl), by (simp -dsimp -implicitDefEqProofs (maxSteps := 2000000) (disch := first | assumption | omega | (simp only [nx]; omega) | ((repeat refine Fresh.push ?_ _); assumption) | (simp only [smA]; done) | (simp [oneCell, AW.next_push]; done) | fail) only [go_sem, Nat.reduceEqDiff, reduceIte, Nat.reduceAdd, Int.toNat_natCast, Nat.add_zero, Owes_true, e4, hnx]; try rfl), rfl⟩
  obtain rfl : i = S.length := by omega
  obtain ⟨N, hN⟩ : ∃ N : Nat, prodTo S S.length = (N : Int) := ⟨(prodTo S S.length).toNat, by omega⟩
  rw [hN] at e3 pall
  have hN1 : N ≤ 32768 := by omega
  have hm22 := ms22 N (by omega)
  have g2 := (Grown.refl g1.2).push (.cells ((zeros N).flatMap icells) 3 w1.next 0 0)
  have O2 := Own.new g1.2 3 ((zeros N).flatMap icells)
  have g3 := g2.push (.cells [.slice none 0 0, .slice none 0 0] 111 (w1.next + 1) 0 0)
  have O3 := Own.new g2.2 111 [.slice none 0 0, .slice none 0 0]
  rw [AW.next_push] at O3
  have O2' := O2.push (.cells [.slice none 0 0, .slice none 0 0] 111 (w1.next + 1) 0 0)
  have O1' := O1.keep g3.1
  have st := storeV_own (o := 0) (l := [.slice p S.length c, .slice (some ⟨w1.next, 0, none⟩) N N]) (size := 2) O3 rfl (by omega) (by simp) rfl
  have m4 := MutS.put (S := fun j => j = w1.next + 1) g3.2 rfl O3.lt (.cells [.slice p S.length c, .slice (some ⟨w1.next, 0, none⟩) N N] 111 (w1.next + 1) 0 0)
  have O4 := O3.put [.slice p S.length c, .slice (some ⟨w1.next, 0, none⟩) N N]
  have hcut : setsL [.slice none 0 0, .slice none 0 0] 0 [.slice p S.length c, .slice (some ⟨w1.next, 0, none⟩) N N] = [.slice p S.length c, .slice (some ⟨w1.next, 0, none⟩) N N] := rfl
  rw [hcut] at st
  have O2f := m4.own O2' (by omega)
  have O1f := m4.own O1' (by omega)
  have k14 : Keep w1.next w1 _ := g3.1.trans (m4.keep (B := w1.next) (fun j q => by omega) g3.1.next)
  have f4 := m4.fresh
  have fr1 := g1.2
  simp -dsimp -implicitDefEqProofs (maxSteps := 2000000) (disch := first | assumption | omega | (simp only [nx]; omega) | ((repeat refine Fresh.push ?_ _); assumption) | (simp only [smA]; done) | (simp [oneCell, AW.next_push]; done) | fail) only [go_sem, Nat.reduceEqDiff, reduceIte, Nat.reduceAdd, Int.toNat_natCast, Nat.add_zero, Owes_true, Try.results102, e0, e2, e3, e4, hlt, hm22, st]
  generalize ((w1.push (.cells ((zeros N).flatMap icells) 3 w1.next 0 0)).push (.cells [.slice none 0 0, .slice none 0 0] 111 (w1.next + 1) 0 0)).put (w1.next + 1) (.cells [.slice p S.length c, .slice (some ⟨w1.next, 0, none⟩) N N] 111 (w1.next + 1) 0 0) = w4 at *
  refine loopR (fun k t ds w5 => ∃ d : Nat, d ≤ N + 1 ∧ k = N + 1 - d ∧ ds = [] ∧ ev t (.tmp 0) = .slice p S.length c ∧ ev t (.tmp 2) = .pointer (some ⟨w.next, 0, none⟩) ∧ ev t (.tmp 3) = .int .i64 (N : Int) ∧ ev t (.tmp 5) = .pointer (some ⟨w1.next + 1, 0, none⟩) ∧ ev t (.tmp 6) = .int .i64 (d : Int) ∧ ∃ LV : List Int, Own w5 w1.next 3 (LV.flatMap icells) ∧ Own w5 (w1.next + 1) 111 [.slice p S.length c, .slice (some ⟨w1.next, 0, none⟩) N N] ∧ Own w5 w.next 111 [.slice none 0 0, .slice none 0 0] ∧ Keep w1.next w1 w5 ∧ Fresh w5 ∧ CapL S LV d ∧ hereN LV d N + d ≤ N) (N + 1) ?_ ?_
  · refine ⟨0, by omega, by omega, rfl, ?_, ?_, ?_, ?_, ?_, zeros N, O2f, O4, O1f, k14, f4, cap_zero (by rw [hN]; simp [zeros]) (zeros_at N), by have := hereN_le (zeros N) 0 N; omega⟩ <;> simp -dsimp -implicitDefEqProofs (maxSteps := 2000000) (disch := first | assumption | omega | (simp only [nx]; omega) | ((repeat refine Fresh.push ?_ _); assumption) | (simp only [smA]; done) | (simp [oneCell, AW.next_push]; done) | fail) only [go_sem, Nat.reduceEqDiff, reduceIte, Nat.reduceAdd, Int.toNat_natCast, Nat.add_zero, Owes_true, e0, e2, e3] <;> rfl
  rintro k t ds w5 ⟨d, hid, rfl, rfl, e0, e2, e3, e5, e6, LV, OL, OS, OR, k5, f5, hcap, hcnt⟩
  have hlen : LV.length = N := by have := hcap.len; omega
  have gW5 : Grown w w5 := ⟨g1.1.trans (k5.mono g1.1.next), f5⟩
  have hLA := Own.iarr OL (by omega)
  rw [hlen] at hLA
  have s0 := OS.cell (o := 0) rfl rfl
  have s1 := OS.cell (o := 1) rfl rfl
  have hlv := same_liv p (some ⟨w1.next, 0, none⟩) S.length c N N
  have hsp : same 12 (.slice p S.length c) (.slice p S.length c) = true := same_s12 _ _ _
  have hsl : same 12 (.slice (some ⟨w1.next, 0, none⟩) N N) (.slice (some ⟨w1.next, 0, none⟩) N N) = true := same_s12 _ _ _
  have hn5 : w1.next + 1 < w5.next := OS.lt
  simp -dsimp -implicitDefEqProofs (maxSteps := 2000000) (disch := first | assumption | omega | (simp only [nx]; omega) | ((repeat refine Fresh.push ?_ _); assumption) | (simp only [smA]; done) | (simp [oneCell, AW.next_push]; done) | fail) only [go_sem, Nat.reduceEqDiff, reduceIte, Nat.reduceAdd, Int.toNat_natCast, Nat.add_zero, Owes_true, Try.results102, e0, e2, e3, e5, e6, s0, s1, Nat.zero_add]
  refine loopR (fun k t ds w6 => ∃ i : Nat, i ≤ N ∧ k = N - i ∧ ds = [] ∧ ev t (.tmp 0) = .slice p S.length c ∧ ev t (.tmp 2) = .pointer (some ⟨w.next, 0, none⟩) ∧ ev t (.tmp 3) = .int .i64 (N : Int) ∧ ev t (.tmp 5) = .pointer (some ⟨w1.next + 1, 0, none⟩) ∧ ev t (.tmp 6) = .int .i64 (d : Int) ∧ ev t (.tmp 7) = .slice (some ⟨w1.next, 0, none⟩) N N ∧ ev t (.tmp 9) = .int .i64 (i : Int) ∧ ∃ x : Value, ev t (.tmp 8) = x ∧ RowS (fun j => w5.next ≤ j) w6 x (moreL S LV d i) ∧ Keep w5.next w5 w6 ∧ Fresh w6) (N) ?_ ?_
  · refine ⟨0, by omega, by omega, rfl, ?_, ?_, ?_, ?_, ?_, ?_, ?_, .slice none 0 0, by simp -dsimp -implicitDefEqProofs (maxSteps := 2000000) (disch := first | assumption | omega | (simp only [nx]; omega) | ((repeat refine Fresh.push ?_ _); assumption) | (simp only [smA]; done) | (simp [oneCell, AW.next_push]; done) | fail) only [go_sem, Nat.reduceEqDiff, reduceIte, Nat.reduceAdd, Int.toNat_natCast, Nat.add_zero, Owes_true], .inl ⟨rfl, rfl, rfl⟩, .refl _ _, f5⟩ <;> simp -dsimp -implicitDefEqProofs (maxSteps := 2000000) (disch := first | assumption | omega | (simp only [nx]; omega) | ((repeat refine Fresh.push ?_ _); assumption) | (simp only [smA]; done) | (simp [oneCell, AW.next_push]; done) | fail) only [go_sem, Nat.reduceEqDiff, reduceIte, Nat.reduceAdd, Int.toNat_natCast, Nat.add_zero, Owes_true, e0, e2, e3, e5, e6] <;> rfl
  rintro k t ds w6 ⟨i, hii, rfl, rfl, e0, e2, e3, e5, e6, e7, e9, x, e8, hR, k6, f6⟩
  have gW6 : Grown w w6 := ⟨gW5.1.trans (k6.mono gW5.1.next), f6⟩
  have OL6 := OL.keep k6
  have OS6 := OS.keep k6
  by_cases hi : (i : Int) < (N : Int)
  case pos =>
    have hi' : i < LV.length := by omega
    have a0 := own_at OL6 hi'
    have r0 := OS6.cell (o := 0) rfl rfl
    have r1 := OS6.cell (o := 1) rfl rfl
    have hll := moreL_len S LV d i
    have hxs := hR.same
    have hms := moreL_succ S LV d i
    by_cases hq : W LV i = (d : Int)
    case neg =>
      have hd : decide (W LV i = (d : Int)) = false := decide_eq_false hq
      have hmb : moreB S LV (d : Int) i = false := by unfold moreB; rw [hd]; rfl
      rw [hmb, if_neg (by intro z; cases z), List.append_nil] at hms
      simp -dsimp -implicitDefEqProofs (maxSteps := 2000000) (disch := first | assumption | omega | (simp only [nx]; omega) | ((repeat refine Fresh.push ?_ _); assumption) | (simp only [smA]; done) | (simp [oneCell, AW.next_push]; done) | fail) only [go_sem, Nat.reduceEqDiff, reduceIte, Nat.reduceAdd, Int.toNat_natCast, Nat.add_zero, Owes_true, Try.results102, e0, e2, e3, e5, e6, e7, e8, e9, hi, indexV_eq, a0, hd, Nat.zero_add, Nat.mul_one]
      refine ⟨_, by omega, i + 1, by omega, rfl, rfl, by (simp -dsimp -implicitDefEqProofs (maxSteps := 2000000) (disch := first | assumption | omega | (simp only [nx]; omega) | ((repeat refine Fresh.push ?_ _); assumption) | (simp only [smA]; done) | (simp [oneCell, AW.next_push]; done) | fail) only [go_sem, Nat.reduceEqDiff, reduceIte, Nat.reduceAdd, Int.toNat_natCast, Nat.add_zero, Owes_true, e0]; try rfl), by (simp -dsimp -implicitDefEqProofs (maxSteps := 2000000) (disch := first | assumption | omega | (simp only [nx]; omega) | ((repeat refine Fresh.push ?_ _); assumption) | (simp only [smA]; done) | (simp [oneCell, AW.next_push]; done) | fail) only [go_sem, Nat.reduceEqDiff, reduceIte, Nat.reduceAdd, Int.toNat_natCast, Nat.add_zero, Owes_true, e2]; try rfl), by (simp -dsimp -implicitDefEqProofs (maxSteps := 2000000) (disch := first | assumption | omega | (simp only [nx]; omega) | ((repeat refine Fresh.push ?_ _); assumption) | (simp only [smA]; done) | (simp [oneCell, AW.next_push]; done) | fail) only [go_sem, Nat.reduceEqDiff, reduceIte, Nat.reduceAdd, Int.toNat_natCast, Nat.add_zero, Owes_true, e3]; try rfl), by (simp -dsimp -implicitDefEqProofs (maxSteps := 2000000) (disch := first | assumption | omega | (simp only [nx]; omega) | ((repeat refine Fresh.push ?_ _); assumption) | (simp only [smA]; done) | (simp [oneCell, AW.next_push]; done) | fail) only [go_sem, Nat.reduceEqDiff, reduceIte, Nat.reduceAdd, Int.toNat_natCast, Nat.add_zero, Owes_true, e5]; try rfl), by (simp -dsimp -implicitDefEqProofs (maxSteps := 2000000) (disch := first | assumption | omega | (simp only [nx]; omega) | ((repeat refine Fresh.push ?_ _); assumption) | (simp only [smA]; done) | (simp [oneCell, AW.next_push]; done) | fail) only [go_sem, Nat.reduceEqDiff, reduceIte, Nat.reduceAdd, Int.toNat_natCast, Nat.add_zero, Owes_true, e6]; try rfl), by (simp -dsimp -implicitDefEqProofs (maxSteps := 2000000) (disch := first | assumption | omega | (simp only [nx]; omega) | ((repeat refine Fresh.push ?_ _); assumption) | (simp only [smA]; done) | (simp [oneCell, AW.next_push]; done) | fail) only [go_sem, Nat.reduceEqDiff, reduceIte, Nat.reduceAdd, Int.toNat_natCast, Nat.add_zero, Owes_true, e7]; try rfl), by (simp -dsimp -implicitDefEqProofs (maxSteps := 2000000) (disch := first | assumption | omega | (simp only [nx]; omega) | ((repeat refine Fresh.push ?_ _); assumption) | (simp only [smA]; done) | (simp [oneCell, AW.next_push]; done) | fail) only [go_sem, Nat.reduceEqDiff, reduceIte, Nat.reduceAdd, Int.toNat_natCast, Nat.add_zero, Owes_true, e9]; try rfl), x, (by simp -dsimp -implicitDefEqProofs (maxSteps := 2000000) (disch := first | assumption | omega | (simp only [nx]; omega) | ((repeat refine Fresh.push ?_ _); assumption) | (simp only [smA]; done) | (simp [oneCell, AW.next_push]; done) | fail) only [go_sem, Nat.reduceEqDiff, reduceIte, Nat.reduceAdd, Int.toNat_natCast, Nat.add_zero, Owes_true, e8]), (by rw [hms]; exact hR), k6, f6⟩
    have hd : decide (W LV i = (d : Int)) = true := decide_eq_true hq
    have hmb : moreB S LV (d : Int) i = goesB S LV (decS S (i : Int)) (d : Int) := by unfold moreB; rw [hd]; rfl
    have hag := agesOf_ok hS (i : Int) (by omega) (by omega) _ w6 f6 (hs.grown gW6)
    simp -dsimp -implicitDefEqProofs (maxSteps := 2000000) (disch := first | assumption | omega | (simp only [nx]; omega) | ((repeat refine Fresh.push ?_ _); assumption) | (simp only [smA]; done) | (simp [oneCell, AW.next_push]; done) | fail) only [go_sem, Nat.reduceEqDiff, reduceIte, Nat.reduceAdd, Int.toNat_natCast, Nat.add_zero, Owes_true, Try.results102, e0, e2, e3, e5, e6, e7, e8, e9, hi, indexV_eq, a0, hd, r0, r1, Nat.zero_add, Nat.mul_one]
    apply callV_of (e := rfl)
    · exact hag
    rintro y w7 ⟨g7, hy⟩
    have hle7 : WLe w6 w7 := g7.1.wle f6
    have gW7 := gW6.trans g7
    obtain ⟨py, cy, rfl, _⟩ := id hy.open
    have hsy : same 12 (.slice py (ageL S (decS S (i : Int))).length cy) (.slice py (ageL S (decS S (i : Int))).length cy) = true := same_s12 _ _ _
    have hLA7 := Own.iarr (OL6.keep g7.1) (by omega)
    have hgo := goes_ok hS (decS_ok hS (i : Int)) hcap.len (d : Int) p (some ⟨w1.next, 0, none⟩) c LV.length _ w7 g7.2 (hs.grown gW7) hLA7 hy
    rw [hlen] at hgo
    simp -dsimp -implicitDefEqProofs (maxSteps := 2000000) (disch := first | assumption | omega | (simp only [nx]; omega) | ((repeat refine Fresh.push ?_ _); assumption) | (simp only [smA]; done) | (simp [oneCell, AW.next_push]; done) | fail) only [go_sem, Nat.reduceEqDiff, reduceIte, Nat.reduceAdd, Int.toNat_natCast, Nat.add_zero, Owes_true, Try.results102, hle7]
    apply callV_of (e := rfl)
    · exact hgo
    rintro _ w8 ⟨rfl, g8⟩
    have hle8 : WLe w7 w8 := g8.1.wle g7.2
    have g68 := g7.trans g8
    have k8 : Keep w5.next w5 w8 := k6.trans (g68.1.mono k6.next)
    have hR8 : RowS (fun j => w5.next ≤ j) w8 x (moreL S LV d i) := AOwnS.keep hR g68.1
    have f8 := g8.2
    cases hgb : goesB S LV (decS S (i : Int)) (d : Int) with
    | false =>
      rw [hmb, hgb, if_neg (by intro z; cases z), List.append_nil] at hms
      simp -dsimp -implicitDefEqProofs (maxSteps := 2000000) (disch := first | assumption | omega | (simp only [nx]; omega) | ((repeat refine Fresh.push ?_ _); assumption) | (simp only [smA]; done) | (simp [oneCell, AW.next_push]; done) | fail) only [go_sem, Nat.reduceEqDiff, reduceIte, Nat.reduceAdd, Int.toNat_natCast, Nat.add_zero, Owes_true, Try.results102, e0, e2, e3, e5, e6, e7, e8, e9, hle8, hgb]
      refine ⟨_, by omega, i + 1, by omega, rfl, rfl, by (simp -dsimp -implicitDefEqProofs (maxSteps := 2000000) (disch := first | assumption | omega | (simp only [nx]; omega) | ((repeat refine Fresh.push ?_ _); assumption) | (simp only [smA]; done) | (simp [oneCell, AW.next_push]; done) | fail) only [go_sem, Nat.reduceEqDiff, reduceIte, Nat.reduceAdd, Int.toNat_natCast, Nat.add_zero, Owes_true, e0]; try rfl), by (simp -dsimp -implicitDefEqProofs (maxSteps := 2000000) (disch := first | assumption | omega | (simp only [nx]; omega) | ((repeat refine Fresh.push ?_ _); assumption) | (simp only [smA]; done) | (simp [oneCell, AW.next_push]; done) | fail) only [go_sem, Nat.reduceEqDiff, reduceIte, Nat.reduceAdd, Int.toNat_natCast, Nat.add_zero, Owes_true, e2]; try rfl), by (simp -dsimp -implicitDefEqProofs (maxSteps := 2000000) (disch := first | assumption | omega | (simp only [nx]; omega) | ((repeat refine Fresh.push ?_ _); assumption) | (simp only [smA]; done) | (simp [oneCell, AW.next_push]; done) | fail) only [go_sem, Nat.reduceEqDiff, reduceIte, Nat.reduceAdd, Int.toNat_natCast, Nat.add_zero, Owes_true, e3]; try rfl), by (simp -dsimp -implicitDefEqProofs (maxSteps := 2000000) (disch := first | assumption | omega | (simp only [nx]; omega) | ((repeat refine Fresh.push ?_ _); assumption) | (simp only [smA]; done) | (simp [oneCell, AW.next_push]; done) | fail) only [go_sem, Nat.reduceEqDiff, reduceIte, Nat.reduceAdd, Int.toNat_natCast, Nat.add_zero, Owes_true, e5]; try rfl), by (simp -dsimp -implicitDefEqProofs (maxSteps := 2000000) (disch := first | assumption | omega | (simp only [nx]; omega) | ((repeat refine Fresh.push ?_ _); assumption) | (simp only [smA]; done) | (simp [oneCell, AW.next_push]; done) | fail) only [go_sem, Nat.reduceEqDiff, reduceIte, Nat.reduceAdd, Int.toNat_natCast, Nat.add_zero, Owes_true, e6]; try rfl), by (simp -dsimp -implicitDefEqProofs (maxSteps := 2000000) (disch := first | assumption | omega | (simp only [nx]; omega) | ((repeat refine Fresh.push ?_ _); assumption) | (simp only [smA]; done) | (simp [oneCell, AW.next_push]; done) | fail) only [go_sem, Nat.reduceEqDiff, reduceIte, Nat.reduceAdd, Int.toNat_natCast, Nat.add_zero, Owes_true, e7]; try rfl), by (simp -dsimp -implicitDefEqProofs (maxSteps := 2000000) (disch := first | assumption | omega | (simp only [nx]; omega) | ((repeat refine Fresh.push ?_ _); assumption) | (simp only [smA]; done) | (simp [oneCell, AW.next_push]; done) | fail) only [go_sem, Nat.reduceEqDiff, reduceIte, Nat.reduceAdd, Int.toNat_natCast, Nat.add_zero, Owes_true, e9]; try rfl), x, (by simp -dsimp -implicitDefEqProofs (maxSteps := 2000000) (disch := first | assumption | omega | (simp only [nx]; omega) | ((repeat refine Fresh.push ?_ _); assumption) | (simp only [smA]; done) | (simp [oneCell, AW.next_push]; done) | fail) only [go_sem, Nat.reduceEqDiff, reduceIte, Nat.reduceAdd, Int.toNat_natCast, Nat.add_zero, Owes_true, e8]), (by rw [hms]; exact hR8), k8, f8⟩
    | true =>
      rw [hmb, hgb, if_pos rfl] at hms
      obtain ⟨v9, w9, happ, hR9, m9, n9, hwl⟩ := hR8.appW f8 (by omega) (i : Int)
      have hR9' : RowS (fun j => w5.next ≤ j) w9 v9 (moreL S LV d (i + 1)) := by
        rw [hms]
        exact hR9.mono fun j hj => by
          have := k8.next
          rcases hj with z | z
          · exact z
          · omega
      have k9 : Keep w5.next w5 w9 := k8.trans (m9.keep (B := w5.next) (fun j q => q) k8.next)
      have hvs := hR9.same
      simp -dsimp -implicitDefEqProofs (maxSteps := 2000000) (disch := first | assumption | omega | (simp only [nx]; omega) | ((repeat refine Fresh.push ?_ _); assumption) | (simp only [smA]; done) | (simp [oneCell, AW.next_push]; done) | fail) only [go_sem, Nat.reduceEqDiff, reduceIte, Nat.reduceAdd, Int.toNat_natCast, Nat.add_zero, Owes_true, Try.results102, e0, e2, e3, e5, e6, e7, e8, e9, hle8, hgb, happ]
      refine ⟨_, by omega, i + 1, by omega, rfl, rfl, by (simp -dsimp -implicitDefEqProofs (maxSteps := 2000000) (disch := first | assumption | omega | (simp only [nx]; omega) | ((repeat refine Fresh.push ?_ _); assumption) | (simp only [smA]; done) | (simp [oneCell, AW.next_push]; done) | fail) only [go_sem, Nat.reduceEqDiff, reduceIte, Nat.reduceAdd, Int.toNat_natCast, Nat.add_zero, Owes_true, e0]; try rfl), by (simp -dsimp -implicitDefEqProofs (maxSteps := 2000000) (disch := first | assumption | omega | (simp only [nx]; omega) | ((repeat refine Fresh.push ?_ _); assumption) | (simp only [smA]; done) | (simp [oneCell, AW.next_push]; done) | fail) only [go_sem, Nat.reduceEqDiff, reduceIte, Nat.reduceAdd, Int.toNat_natCast, Nat.add_zero, Owes_true, e2]; try rfl), by (simp -dsimp -implicitDefEqProofs (maxSteps := 2000000) (disch := first | assumption | omega | (simp only [nx]; omega) | ((repeat refine Fresh.push ?_ _); assumption) | (simp only [smA]; done) | (simp [oneCell, AW.next_push]; done) | fail) only [go_sem, Nat.reduceEqDiff, reduceIte, Nat.reduceAdd, Int.toNat_natCast, Nat.add_zero, Owes_true, e3]; try rfl), by (simp -dsimp -implicitDefEqProofs (maxSteps := 2000000) (disch := first | assumption | omega | (simp only [nx]; omega) | ((repeat refine Fresh.push ?_ _); assumption) | (simp only [smA]; done) | (simp [oneCell, AW.next_push]; done) | fail) only [go_sem, Nat.reduceEqDiff, reduceIte, Nat.reduceAdd, Int.toNat_natCast, Nat.add_zero, Owes_true, e5]; try rfl), by (simp -dsimp -implicitDefEqProofs (maxSteps := 2000000) (disch := first | assumption | omega | (simp only [nx]; omega) | ((repeat refine Fresh.push ?_ _); assumption) | (simp only [smA]; done) | (simp [oneCell, AW.next_push]; done) | fail) only [go_sem, Nat.reduceEqDiff, reduceIte, Nat.reduceAdd, Int.toNat_natCast, Nat.add_zero, Owes_true, e6]; try rfl), by (simp -dsimp -implicitDefEqProofs (maxSteps := 2000000) (disch := first | assumption | omega | (simp only [nx]; omega) | ((repeat refine Fresh.push ?_ _); assumption) | (simp only [smA]; done) | (simp [oneCell, AW.next_push]; done) | fail) only [go_sem, Nat.reduceEqDiff, reduceIte, Nat.reduceAdd, Int.toNat_natCast, Nat.add_zero, Owes_true, e7]; try rfl), by (simp -dsimp -implicitDefEqProofs (maxSteps := 2000000) (disch := first | assumption | omega | (simp only [nx]; omega) | ((repeat refine Fresh.push ?_ _); assumption) | (simp only [smA]; done) | (simp [oneCell, AW.next_push]; done) | fail) only [go_sem, Nat.reduceEqDiff, reduceIte, Nat.reduceAdd, Int.toNat_natCast, Nat.add_zero, Owes_true, e9]; try rfl), v9, (by simp -dsimp -implicitDefEqProofs (maxSteps := 2000000) (disch := first | assumption | omega | (simp only [nx]; omega) | ((repeat refine Fresh.push ?_ _); assumption) | (simp only [smA]; done) | (simp [oneCell, AW.next_push]; done) | fail) only [go_sem, Nat.reduceEqDiff, reduceIte, Nat.reduceAdd, Int.toNat_natCast, Nat.add_zero, Owes_true]), hR9', k9, m9.fresh⟩
  obtain rfl : i = N := by omega
  simp -dsimp -implicitDefEqProofs (maxSteps := 2000000) (disch := first | assumption | omega | (simp only [nx]; omega) | ((repeat refine Fresh.push ?_ _); assumption) | (simp only [smA]; done) | (simp [oneCell, AW.next_push]; done) | fail) only [go_sem, Nat.reduceEqDiff, reduceIte, Nat.reduceAdd, Int.toNat_natCast, Nat.add_zero, Owes_true, Try.results102, e0, e2, e3, e5, e6, e7, e8, e9, hi]
  refine loopR (fun k t ds w7 => ∃ i2 : Nat, i2 ≤ i ∧ k = i - i2 ∧ ds = [] ∧ ev t (.tmp 0) = .slice p S.length c ∧ ev t (.tmp 2) = .pointer (some ⟨w.next, 0, none⟩) ∧ ev t (.tmp 3) = .int .i64 (i : Int) ∧ ev t (.tmp 5) = .pointer (some ⟨w1.next + 1, 0, none⟩) ∧ ev t (.tmp 6) = .int .i64 (d : Int) ∧ ev t (.tmp 7) = .slice (some ⟨w1.next, 0, none⟩) i i ∧ ev t (.tmp 8) = x ∧ ev t (.tmp 10) = .int .i64 (hereN LV d i2 : Int) ∧ ev t (.tmp 11) = .int .i64 (i2 : Int) ∧ w6 = w7) (i) ?_ ?_
  · refine ⟨0, by omega, by omega, rfl, ?_, ?_, ?_, ?_, ?_, ?_, ?_, ?_, ?_, rfl⟩ <;> simp -dsimp -implicitDefEqProofs (maxSteps := 2000000) (disch := first | assumption | omega | (simp only [nx]; omega) | ((repeat refine Fresh.push ?_ _); assumption) | (simp only [smA]; done) | (simp [oneCell, AW.next_push]; done) | fail) only [go_sem, Nat.reduceEqDiff, reduceIte, Nat.reduceAdd, Int.toNat_natCast, Nat.add_zero, Owes_true, e0, e2, e3, e5, e6, e7, e8] <;> rfl
  rintro k t ds w7 ⟨i2, hii2, rfl, rfl, e0, e2, e3, e5, e6, e7, e8, e10, e11, hw⟩
  subst hw
  by_cases hi2 : (i2 : Int) < (i : Int)
  case pos =>
    have hi2' : i2 < LV.length := by omega
    have a0 := own_at OL6 hi2'
    have hhs := hereN_succ LV d i2
    have hhl := hereN_le LV d i2
    by_cases hq : W LV i2 = (d : Int)
    · have hd : decide (W LV i2 = (d : Int)) = true := decide_eq_true hq
      rw [if_pos hq] at hhs
      simp -dsimp -implicitDefEqProofs (maxSteps := 2000000) (disch := first | assumption | omega | (simp only [nx]; omega) | ((repeat refine Fresh.push ?_ _); assumption) | (simp only [smA]; done) | (simp [oneCell, AW.next_push]; done) | fail) only [go_sem, Nat.reduceEqDiff, reduceIte, Nat.reduceAdd, Int.toNat_natCast, Nat.add_zero, Owes_true, Try.results102, e0, e2, e3, e5, e6, e7, e8, e10, e11, hi2, indexV_eq, a0, hd, Nat.zero_add, Nat.mul_one]
      refine ⟨_, by omega, i2 + 1, by omega, rfl, rfl, by (simp -dsimp -implicitDefEqProofs (maxSteps := 2000000) (disch := first | assumption | omega | (simp only [nx]; omega) | ((repeat refine Fresh.push ?_ _); assumption) | (simp only [smA]; done) | (simp [oneCell, AW.next_push]; done) | fail) only [go_sem, Nat.reduceEqDiff, reduceIte, Nat.reduceAdd, Int.toNat_natCast, Nat.add_zero, Owes_true, e0, hhs]; try rfl), by (simp -dsimp -implicitDefEqProofs (maxSteps := 2000000) (disch := first | assumption | omega | (simp only [nx]; omega) | ((repeat refine Fresh.push ?_ _); assumption) | (simp only [smA]; done) | (simp [oneCell, AW.next_push]; done) | fail) only [go_sem, Nat.reduceEqDiff, reduceIte, Nat.reduceAdd, Int.toNat_natCast, Nat.add_zero, Owes_true, e2, hhs]; try rfl), by (simp -dsimp -implicitDefEqProofs (maxSteps := 2000000) (disch := first | assumption | omega | (simp only [nx]; omega) | ((repeat refine Fresh.push ?_ _); assumption) | (simp only [smA]; done) | (simp [oneCell, AW.next_push]; done) | fail) only [go_sem, Nat.reduceEqDiff, reduceIte, Nat.reduceAdd, Int.toNat_natCast, Nat.add_zero, Owes_true, e3, hhs]; try rfl), by (simp -dsimp -implicitDefEqProofs (maxSteps := 2000000) (disch := first | assumption | omega | (simp only [nx]; omega) | ((repeat refine Fresh.push ?_ _); assumption) | (simp only [smA]; done) | (simp [oneCell, AW.next_push]; done) | fail) only [go_sem, Nat.reduceEqDiff, reduceIte, Nat.reduceAdd, Int.toNat_natCast, Nat.add_zero, Owes_true, e5, hhs]; try rfl), by (simp -dsimp -implicitDefEqProofs (maxSteps := 2000000) (disch := first | assumption | omega | (simp only [nx]; omega) | ((repeat refine Fresh.push ?_ _); assumption) | (simp only [smA]; done) | (simp [oneCell, AW.next_push]; done) | fail) only [go_sem, Nat.reduceEqDiff, reduceIte, Nat.reduceAdd, Int.toNat_natCast, Nat.add_zero, Owes_true, e6, hhs]; try rfl), by (simp -dsimp -implicitDefEqProofs (maxSteps := 2000000) (disch := first | assumption | omega | (simp only [nx]; omega) | ((repeat refine Fresh.push ?_ _); assumption) | (simp only [smA]; done) | (simp [oneCell, AW.next_push]; done) | fail) only [go_sem, Nat.reduceEqDiff, reduceIte, Nat.reduceAdd, Int.toNat_natCast, Nat.add_zero, Owes_true, e7, hhs]; try rfl), by (simp -dsimp -implicitDefEqProofs (maxSteps := 2000000) (disch := first | assumption | omega | (simp only [nx]; omega) | ((repeat refine Fresh.push ?_ _); assumption) | (simp only [smA]; done) | (simp [oneCell, AW.next_push]; done) | fail) only [go_sem, Nat.reduceEqDiff, reduceIte, Nat.reduceAdd, Int.toNat_natCast, Nat.add_zero, Owes_true, e8, hhs]; try rfl), by (simp -dsimp -implicitDefEqProofs (maxSteps := 2000000) (disch := first | assumption | omega | (simp only [nx]; omega) | ((repeat refine Fresh.push ?_ _); assumption) | (simp only [smA]; done) | (simp [oneCell, AW.next_push]; done) | fail) only [go_sem, Nat.reduceEqDiff, reduceIte, Nat.reduceAdd, Int.toNat_natCast, Nat.add_zero, Owes_true, e10, hhs]; try rfl), by (simp -dsimp -implicitDefEqProofs (maxSteps := 2000000) (disch := first | assumption | omega | (simp only [nx]; omega) | ((repeat refine Fresh.push ?_ _); assumption) | (simp only [smA]; done) | (simp [oneCell, AW.next_push]; done) | fail) only [go_sem, Nat.reduceEqDiff, reduceIte, Nat.reduceAdd, Int.toNat_natCast, Nat.add_zero, Owes_true, e11, hhs]; try rfl), rfl⟩
    · have hd : decide (W LV i2 = (d : Int)) = false := decide_eq_false hq
      rw [if_neg hq, Nat.add_zero] at hhs
      simp -dsimp -implicitDefEqProofs (maxSteps := 2000000) (disch := first | assumption | omega | (simp only [nx]; omega) | ((repeat refine Fresh.push ?_ _); assumption) | (simp only [smA]; done) | (simp [oneCell, AW.next_push]; done) | fail) only [go_sem, Nat.reduceEqDiff, reduceIte, Nat.reduceAdd, Int.toNat_natCast, Nat.add_zero, Owes_true, Try.results102, e0, e2, e3, e5, e6, e7, e8, e10, e11, hi2, indexV_eq, a0, hd, Nat.zero_add, Nat.mul_one]
      refine ⟨_, by omega, i2 + 1, by omega, rfl, rfl, by (simp -dsimp -implicitDefEqProofs (maxSteps := 2000000) (disch := first | assumption | omega | (simp only [nx]; omega) | ((repeat refine Fresh.push ?_ _); assumption) | (simp only [smA]; done) | (simp [oneCell, AW.next_push]; done) | fail) only [go_sem, Nat.reduceEqDiff, reduceIte, Nat.reduceAdd, Int.toNat_natCast, Nat.add_zero, Owes_true, e0, e10, hhs]; try rfl), by (simp -dsimp -implicitDefEqProofs (maxSteps := 2000000) (disch := first | assumption | omega | (simp only [nx]; omega) | ((repeat refine Fresh.push ?_ _); assumption) | (simp only [smA]; done) | (simp [oneCell, AW.next_push]; done) | fail) only [go_sem, Nat.reduceEqDiff, reduceIte, Nat.reduceAdd, Int.toNat_natCast, Nat.add_zero, Owes_true, e2, e10, hhs]; try rfl), by (simp -dsimp -implicitDefEqProofs (maxSteps := 2000000) (disch := first | assumption | omega | (simp only [nx]; omega) | ((repeat refine Fresh.push ?_ _); assumption) | (simp only [smA]; done) | (simp [oneCell, AW.next_push]; done) | fail) only [go_sem, Nat.reduceEqDiff, reduceIte, Nat.reduceAdd, Int.toNat_natCast, Nat.add_zero, Owes_true, e3, e10, hhs]; try rfl), by (simp -dsimp -implicitDefEqProofs (maxSteps := 2000000) (disch := first | assumption | omega | (simp only [nx]; omega) | ((repeat refine Fresh.push ?_ _); assumption) | (simp only [smA]; done) | (simp [oneCell, AW.next_push]; done) | fail) only [go_sem, Nat.reduceEqDiff, reduceIte, Nat.reduceAdd, Int.toNat_natCast, Nat.add_zero, Owes_true, e5, e10, hhs]; try rfl), by (simp -dsimp -implicitDefEqProofs (maxSteps := 2000000) (disch := first | assumption | omega | (simp only [nx]; omega) | ((repeat refine Fresh.push ?_ _); assumption) | (simp only [smA]; done) | (simp [oneCell, AW.next_push]; done) | fail) only [go_sem, Nat.reduceEqDiff, reduceIte, Nat.reduceAdd, Int.toNat_natCast, Nat.add_zero, Owes_true, e6, e10, hhs]; try rfl), by (simp -dsimp -implicitDefEqProofs (maxSteps := 2000000) (disch := first | assumption | omega | (simp only [nx]; omega) | ((repeat refine Fresh.push ?_ _); assumption) | (simp only [smA]; done) | (simp [oneCell, AW.next_push]; done) | fail) only [go_sem, Nat.reduceEqDiff, reduceIte, Nat.reduceAdd, Int.toNat_natCast, Nat.add_zero, Owes_true, e7, e10, hhs]; try rfl), by (simp -dsimp -implicitDefEqProofs (maxSteps := 2000000) (disch := first | assumption | omega | (simp only [nx]; omega) | ((repeat refine Fresh.push ?_ _); assumption) | (simp only [smA]; done) | (simp [oneCell, AW.next_push]; done) | fail) only [go_sem, Nat.reduceEqDiff, reduceIte, Nat.reduceAdd, Int.toNat_natCast, Nat.add_zero, Owes_true, e8, e10, hhs]; try rfl), by (simp -dsimp -implicitDefEqProofs (maxSteps := 2000000) (disch := first | assumption | omega | (simp only [nx]; omega) | ((repeat refine Fresh.push ?_ _); assumption) | (simp only [smA]; done) | (simp [oneCell, AW.next_push]; done) | fail) only [go_sem, Nat.reduceEqDiff, reduceIte, Nat.reduceAdd, Int.toNat_natCast, Nat.add_zero, Owes_true, e10, e10, hhs]; try rfl), by (simp -dsimp -implicitDefEqProofs (maxSteps := 2000000) (disch := first | assumption | omega | (simp only [nx]; omega) | ((repeat refine Fresh.push ?_ _); assumption) | (simp only [smA]; done) | (simp [oneCell, AW.next_push]; done) | fail) only [go_sem, Nat.reduceEqDiff, reduceIte, Nat.reduceAdd, Int.toNat_natCast, Nat.add_zero, Owes_true, e11, e10, hhs]; try rfl), rfl⟩
  obtain rfl : i2 = i := by omega
  simp -dsimp -implicitDefEqProofs (maxSteps := 2000000) (disch := first | assumption | omega | (simp only [nx]; omega) | ((repeat refine Fresh.push ?_ _); assumption) | (simp only [smA]; done) | (simp [oneCell, AW.next_push]; done) | fail) only [go_sem, Nat.reduceEqDiff, reduceIte, Nat.reduceAdd, Int.toNat_natCast, Nat.add_zero, Owes_true, Try.results102, e0, e2, e3, e5, e6, e7, e8, e10, e11, hi2]
  have hml : (moreL S LV d i2).length = (moreN S LV d i2).length := by simp [moreL]
  have hll2 := moreL_len S LV d i2
  have hA6 := hR.own.arr icells_len (by omega)
  obtain ⟨px, cx, rfl, _⟩ := id hA6.open
  refine loopR (fun k t ds w8 => ∃ i3 : Nat, i3 ≤ (moreN S LV d i2).length ∧ k = (moreN S LV d i2).length - i3 ∧ ds = [] ∧ ev t (.tmp 0) = .slice p S.length c ∧ ev t (.tmp 2) = .pointer (some ⟨w.next, 0, none⟩) ∧ ev t (.tmp 3) = .int .i64 (i2 : Int) ∧ ev t (.tmp 5) = .pointer (some ⟨w1.next + 1, 0, none⟩) ∧ ev t (.tmp 6) = .int .i64 (d : Int) ∧ ev t (.tmp 7) = .slice (some ⟨w1.next, 0, none⟩) i2 i2 ∧ ev t (.tmp 8) = .slice px (moreL S LV d i2).length cx ∧ ev t (.tmp 10) = .int .i64 (hereN LV d i2 : Int) ∧ ev t (.tmp 12) = .int .i64 (i3 : Int) ∧ Own w8 w1.next 3 ((midL LV d ((moreN S LV d i2).take i3)).flatMap icells) ∧ MutS (fun j => j = w1.next) w6 w8) ((moreN S LV d i2).length) ?_ ?_
  · refine ⟨0, by omega, by omega, rfl, ?_, ?_, ?_, ?_, ?_, ?_, ?_, ?_, ?_, by rw [List.take_zero, midL_nil]; exact OL6, MutS.refl f6⟩ <;> simp -dsimp -implicitDefEqProofs (maxSteps := 2000000) (disch := first | assumption | omega | (simp only [nx]; omega) | ((repeat refine Fresh.push ?_ _); assumption) | (simp only [smA]; done) | (simp [oneCell, AW.next_push]; done) | fail) only [go_sem, Nat.reduceEqDiff, reduceIte, Nat.reduceAdd, Int.toNat_natCast, Nat.add_zero, Owes_true, e0, e2, e3, e5, e6, e7, e8, e10] <;> rfl
  rintro k t ds w8 ⟨i3, hii3, rfl, rfl, e0, e2, e3, e5, e6, e7, e8, e10, e12, OLm, m8⟩
  have hR8 : RowS (fun j => w5.next ≤ j) w8 (.slice px (moreL S LV d i2).length cx) (moreL S LV d i2) := AOwnS.other hR m8 fun j hj q => by omega
  have hA8 := hR8.own.arr icells_len (by omega)
  have f8 := m8.fresh
  by_cases hi3 : (i3 : Int) < ((moreL S LV d i2).length : Int)
  case pos =>
    have hi3' : i3 < (moreN S LV d i2).length := by omega
    obtain ⟨_, _, ex, _, _, hatx⟩ := hA8.open
    injection ex with ex1 ex2 ex3
    subst ex1 ex3
    obtain ⟨b3, o3, rfl, _, hcell3⟩ := hatx i3 (by omega)
    have a3 := hcell3 w8 (.refl _ _) 0 _ rfl
    obtain ⟨hmv, hmn⟩ := moreL_at (S := S) (LV := LV) (d := d) (n := i2) hi3'
    rw [Nat.add_zero, ← W_at (by omega), hmv, Nat.mul_one] at a3
    have htk : (moreN S LV d i2).take (i3 + 1) = (moreN S LV d i2).take i3 ++ [(moreN S LV d i2)[i3]] := by
      rw [List.take_add_one, List.getElem?_eq_getElem hi3']; rfl
    generalize (moreN S LV d i2)[i3] = jj at *
    obtain ⟨w9, st9, O9, m9, n9⟩ := put_row f8 OLm (i := jj) (by rw [midL_len]; omega) ((d : Int) + 1)
    rw [midL_set (by omega), ← htk] at O9
    have hjl : (jj : Int) < (i2 : Int) := by omega
    have m89 := m8.trans m9 (fun j q => .inl q)
    simp -dsimp -implicitDefEqProofs (maxSteps := 2000000) (disch := first | assumption | omega | (simp only [nx]; omega) | ((repeat refine Fresh.push ?_ _); assumption) | (simp only [smA]; done) | (simp [oneCell, AW.next_push]; done) | fail) only [go_sem, Nat.reduceEqDiff, reduceIte, Nat.reduceAdd, Int.toNat_natCast, Nat.add_zero, Owes_true, Try.results102, e0, e2, e3, e5, e6, e7, e8, e10, e12, hi3, hjl, indexV_eq, a3, st9, Nat.zero_add, Nat.mul_one]
    refine ⟨_, by omega, i3 + 1, by omega, rfl, rfl, by (simp -dsimp -implicitDefEqProofs (maxSteps := 2000000) (disch := first | assumption | omega | (simp only [nx]; omega) | ((repeat refine Fresh.push ?_ _); assumption) | (simp only [smA]; done) | (simp [oneCell, AW.next_push]; done) | fail) only [go_sem, Nat.reduceEqDiff, reduceIte, Nat.reduceAdd, Int.toNat_natCast, Nat.add_zero, Owes_true, e0]; try rfl), by (simp -dsimp -implicitDefEqProofs (maxSteps := 2000000) (disch := first | assumption | omega | (simp only [nx]; omega) | ((repeat refine Fresh.push ?_ _); assumption) | (simp only [smA]; done) | (simp [oneCell, AW.next_push]; done) | fail) only [go_sem, Nat.reduceEqDiff, reduceIte, Nat.reduceAdd, Int.toNat_natCast, Nat.add_zero, Owes_true, e2]; try rfl), by (simp -dsimp -implicitDefEqProofs (maxSteps := 2000000) (disch := first | assumption | omega | (simp only [nx]; omega) | ((repeat refine Fresh.push ?_ _); assumption) | (simp only [smA]; done) | (simp [oneCell, AW.next_push]; done) | fail) only [go_sem, Nat.reduceEqDiff, reduceIte, Nat.reduceAdd, Int.toNat_natCast, Nat.add_zero, Owes_true, e3]; try rfl), by (simp -dsimp -implicitDefEqProofs (maxSteps := 2000000) (disch := first | assumption | omega | (simp only [nx]; omega) | ((repeat refine Fresh.push ?_ _); assumption) | (simp only [smA]; done) | (simp [oneCell, AW.next_push]; done) | fail) only [go_sem, Nat.reduceEqDiff, reduceIte, Nat.reduceAdd, Int.toNat_natCast, Nat.add_zero, Owes_true, e5]; try rfl), by (simp -dsimp -implicitDefEqProofs (maxSteps := 2000000) (disch := first | assumption | omega | (simp only [nx]; omega) | ((repeat refine Fresh.push ?_ _); assumption) | (simp only [smA]; done) | (simp [oneCell, AW.next_push]; done) | fail) only [go_sem, Nat.reduceEqDiff, reduceIte, Nat.reduceAdd, Int.toNat_natCast, Nat.add_zero, Owes_true, e6]; try rfl), by (simp -dsimp -implicitDefEqProofs (maxSteps := 2000000) (disch := first | assumption | omega | (simp only [nx]; omega) | ((repeat refine Fresh.push ?_ _); assumption) | (simp only [smA]; done) | (simp [oneCell, AW.next_push]; done) | fail) only [go_sem, Nat.reduceEqDiff, reduceIte, Nat.reduceAdd, Int.toNat_natCast, Nat.add_zero, Owes_true, e7]; try rfl), by (simp -dsimp -implicitDefEqProofs (maxSteps := 2000000) (disch := first | assumption | omega | (simp only [nx]; omega) | ((repeat refine Fresh.push ?_ _); assumption) | (simp only [smA]; done) | (simp [oneCell, AW.next_push]; done) | fail) only [go_sem, Nat.reduceEqDiff, reduceIte, Nat.reduceAdd, Int.toNat_natCast, Nat.add_zero, Owes_true, e8]; try rfl), by (simp -dsimp -implicitDefEqProofs (maxSteps := 2000000) (disch := first | assumption | omega | (simp only [nx]; omega) | ((repeat refine Fresh.push ?_ _); assumption) | (simp only [smA]; done) | (simp [oneCell, AW.next_push]; done) | fail) only [go_sem, Nat.reduceEqDiff, reduceIte, Nat.reduceAdd, Int.toNat_natCast, Nat.add_zero, Owes_true, e10]; try rfl), by (simp -dsimp -implicitDefEqProofs (maxSteps := 2000000) (disch := first | assumption | omega | (simp only [nx]; omega) | ((repeat refine Fresh.push ?_ _); assumption) | (simp only [smA]; done) | (simp [oneCell, AW.next_push]; done) | fail) only [go_sem, Nat.reduceEqDiff, reduceIte, Nat.reduceAdd, Int.toNat_natCast, Nat.add_zero, Owes_true, e12]; try rfl), O9, m89⟩
  obtain rfl : i3 = (moreN S LV d i2).length := by omega
  rw [List.take_length] at OLm
  have hnl : midL LV d (moreN S LV d i2) = nextL S LV (d : Int) := by rw [← hlen]; exact midL_all S LV d
  rw [hnl] at OLm
  have OS8 := m8.own OS6 (by omega)
  have OR8 := m8.own (OR.keep k6) (by omega)
  have k8 : Keep w1.next w1 w8 := (k5.trans (k6.mono k5.next)).trans (m8.keep (B := w1.next) (fun j q => by omega) (by have := k6.next; omega))
  have hmh := more_here S LV d i2
  have hns : hereN (nextL S LV (d : Int)) (d + 1) LV.length = (moreL S LV d LV.length).length := next_here (cap_le hS hcap)
  rw [hlen] at hns
  by_cases hfin : ((moreL S LV d i2).length : Int) = (hereN LV d i2 : Int)
  case neg =>
    have hd : decide (((moreL S LV d i2).length : Int) = (hereN LV d i2 : Int)) = false := decide_eq_false hfin
    have hdc : ((d : Int) + 1) = ((d + 1 : Nat) : Int) := by push_cast; rfl
    simp -dsimp -implicitDefEqProofs (maxSteps := 2000000) (disch := first | assumption | omega | (simp only [nx]; omega) | ((repeat refine Fresh.push ?_ _); assumption) | (simp only [smA]; done) | (simp [oneCell, AW.next_push]; done) | fail) only [go_sem, Nat.reduceEqDiff, reduceIte, Nat.reduceAdd, Int.toNat_natCast, Nat.add_zero, Owes_true, Try.results102, e0, e2, e3, e5, e6, e7, e8, e10, e12, hi3, hd]
    refine ⟨_, by omega, d + 1, by omega, rfl, rfl, by (simp -dsimp -implicitDefEqProofs (maxSteps := 2000000) (disch := first | assumption | omega | (simp only [nx]; omega) | ((repeat refine Fresh.push ?_ _); assumption) | (simp only [smA]; done) | (simp [oneCell, AW.next_push]; done) | fail) only [go_sem, Nat.reduceEqDiff, reduceIte, Nat.reduceAdd, Int.toNat_natCast, Nat.add_zero, Owes_true, e0]; try rfl), by (simp -dsimp -implicitDefEqProofs (maxSteps := 2000000) (disch := first | assumption | omega | (simp only [nx]; omega) | ((repeat refine Fresh.push ?_ _); assumption) | (simp only [smA]; done) | (simp [oneCell, AW.next_push]; done) | fail) only [go_sem, Nat.reduceEqDiff, reduceIte, Nat.reduceAdd, Int.toNat_natCast, Nat.add_zero, Owes_true, e2]; try rfl), by (simp -dsimp -implicitDefEqProofs (maxSteps := 2000000) (disch := first | assumption | omega | (simp only [nx]; omega) | ((repeat refine Fresh.push ?_ _); assumption) | (simp only [smA]; done) | (simp [oneCell, AW.next_push]; done) | fail) only [go_sem, Nat.reduceEqDiff, reduceIte, Nat.reduceAdd, Int.toNat_natCast, Nat.add_zero, Owes_true, e3]; try rfl), by (simp -dsimp -implicitDefEqProofs (maxSteps := 2000000) (disch := first | assumption | omega | (simp only [nx]; omega) | ((repeat refine Fresh.push ?_ _); assumption) | (simp only [smA]; done) | (simp [oneCell, AW.next_push]; done) | fail) only [go_sem, Nat.reduceEqDiff, reduceIte, Nat.reduceAdd, Int.toNat_natCast, Nat.add_zero, Owes_true, e5]; try rfl), by (simp -dsimp -implicitDefEqProofs (maxSteps := 2000000) (disch := first | assumption | omega | (simp only [nx]; omega) | ((repeat refine Fresh.push ?_ _); assumption) | (simp only [smA]; done) | (simp [oneCell, AW.next_push]; done) | fail) only [go_sem, Nat.reduceEqDiff, reduceIte, Nat.reduceAdd, Int.toNat_natCast, Nat.add_zero, Owes_true, e6]; try rfl), nextL S LV (d : Int), OLm, OS8, OR8, k8, f8, hcap.next hS, (by omega)⟩
  have hd : decide (((moreL S LV d i2).length : Int) = (hereN LV d i2 : Int)) = true := decide_eq_true hfin
  have hld := loadAll OS8 (n := 2) rfl (by simp [oneCell])
  have st2 := storeV_own (o := 0) (l := [.slice p S.length c, .slice (some ⟨w1.next, 0, none⟩) i2 i2]) (size := 2) OR8 rfl (by omega) (by simp) rfl
  have m10 := MutS.put (S := fun j => j = w.next) f8 rfl OR8.lt (.cells [.slice p S.length c, .slice (some ⟨w1.next, 0, none⟩) i2 i2] 111 w.next 0 0)
  have O10 := OR8.put [.slice p S.length c, .slice (some ⟨w1.next, 0, none⟩) i2 i2]
  have hcut2 : setsL [.slice none 0 0, .slice none 0 0] 0 [.slice p S.length c, .slice (some ⟨w1.next, 0, none⟩) i2 i2] = [.slice p S.length c, .slice (some ⟨w1.next, 0, none⟩) i2 i2] := rfl
  rw [hcut2] at st2
  have hld2 := loadAll O10 (n := 2) rfl (by simp [oneCell])
  have OL10 := m10.own OLm (by omega)
  have k10 : Keep w.next w _ := (g1.1.trans (k8.mono g1.1.next)).trans (m10.keep (B := w.next) (fun j q => by omega) (by have := k8.next; omega))
  have hF := CapL.fin hS hcap fun m hm hw => more_all (i := i2) (S := S) (by omega) m (by omega) hw
  have hLA10 := Own.iarr OL10 (by rw [nextL_len]; omega)
  simp -dsimp -implicitDefEqProofs (maxSteps := 2000000) (disch := first | assumption | omega | (simp only [nx]; omega) | ((repeat refine Fresh.push ?_ _); assumption) | (simp only [smA]; done) | (simp [oneCell, AW.next_push]; done) | fail) only [go_sem, Nat.reduceEqDiff, reduceIte, Nat.reduceAdd, Int.toNat_natCast, Nat.add_zero, Owes_true, Try.results102, e0, e2, e3, e5, e6, e7, e8, e10, e12, hi3, hd, hld, st2, hld2]
  refine ⟨⟨k10, m10.fresh⟩, some ⟨w1.next, 0, none⟩, i2, nextL S LV (d : Int), d, ?_, ?_, hF⟩
  · rw [nextL_len, hlen]
  · rw [nextL_len, hlen] at hLA10 ⊢
    exact hLA10
end Go.Proofs

namespace Go.Proofs
open Go Go.RowKit Go.Sim
set_option maxRecDepth 100000
set_option maxHeartbeats 16000000 in
theorem everR_ok {S a LV : List Int} (hS : perB S = true) (ha : StOk S a) (hN : (LV.length : Int) = prodTo S S.length) (p pL : Option Addr) (c cL : Nat) (v : Value) (w : AW) (f : Fresh w) (hs : ArrOf w 1 icells (.slice p S.length c) S) (hL : ArrOf w 1 icells (.slice pL LV.length cL) LV) (hv : ArrOf w 1 icells v (ageL S a)) :
    CallT Try.prog Try.T1 (.fn (.func 103) #[]) #[.agg #[.slice p S.length c, .slice pL LV.length cL], v] w (Ret (.bool (everB S LV a)) (Grown w)) := by
  have h5 := (perB_iff.1 hS)
  have g1 := (Grown.refl f).push (.cells [.slice p S.length c, .slice pL LV.length cL] 111 w.next 0 0)
  have O1 := Own.new f 111 [.slice p S.length c, .slice pL LV.length cL]
  have c0 := O1.cell (o := 0) rfl rfl
  have c1 := O1.cell (o := 1) rfl rfl
  have hld := loadAll O1 (n := 2) rfl (by simp [oneCell])
  obtain ⟨pv, cv, rfl, _⟩ := id hv.open
  have hp := pos_in hS ha
  have hm : posI S a < LV.length := by omega
  have hmI : (posI S a : Int) < (LV.length : Int) := by omega
  obtain ⟨_, _, eL, _, _, hatL⟩ := hL.open
  injection eL with eL1 eL2 eL3
  subst eL1 eL3
  refine callT_code rfl Try.func103 rfl Try.s103_eq rfl ?_
  unfold Try.s103
  simp -dsimp -implicitDefEqProofs (maxSteps := 2000000) (disch := first | assumption | omega | (simp only [nx]; omega) | ((repeat refine Fresh.push ?_ _); assumption) | (simp only [smA]; done) | (simp [oneCell, AW.next_push]; done) | fail) only [go_sem, Nat.reduceEqDiff, reduceIte, Nat.reduceAdd, Int.toNat_natCast, Nat.add_zero, Owes_true, Try.results103]
  generalize w.push (.cells [.slice p S.length c, .slice pL LV.length cL] 111 w.next 0 0) = w1 at *
  refine loopR (fun k t ds w2 => ∃ i : Nat, i ≤ LV.length ∧ k = LV.length - i ∧ ds = [] ∧ ev t (.tmp 1) = .slice pv (ageL S a).length cv ∧ ev t (.tmp 2) = .pointer (some ⟨w.next, 0, none⟩) ∧ ev t (.tmp 5) = .int .i64 (topTo LV i) ∧ ev t (.tmp 6) = .int .i64 (i : Int) ∧ w1 = w2) (LV.length) ?_ ?_
  · refine ⟨0, by omega, by omega, rfl, ?_, ?_, ?_, ?_, rfl⟩ <;> simp -dsimp -implicitDefEqProofs (maxSteps := 2000000) (disch := first | assumption | omega | (simp only [nx]; omega) | ((repeat refine Fresh.push ?_ _); assumption) | (simp only [smA]; done) | (simp [oneCell, AW.next_push]; done) | fail) only [go_sem, Nat.reduceEqDiff, reduceIte, Nat.reduceAdd, Int.toNat_natCast, Nat.add_zero, Owes_true] <;> rfl
  rintro k t ds w2 ⟨i, hii, rfl, rfl, e1, e2, e5, e6, hw⟩
  subst hw
  by_cases hlt : (i : Int) < (LV.length : Int)
  case pos =>
    have hlt' : i < LV.length := by omega
    obtain ⟨b1, o1, rfl, hb1, hcell⟩ := hatL i hlt'
    have a0 := hcell w1 g1.1 0 _ rfl
    rw [Nat.add_zero, ← W_at hlt'] at a0
    have hnx : topTo LV (i + 1) = max (topTo LV i) (W LV i) := rfl
    simp -dsimp -implicitDefEqProofs (maxSteps := 2000000) (disch := first | assumption | omega | (simp only [nx]; omega) | ((repeat refine Fresh.push ?_ _); assumption) | (simp only [smA]; done) | (simp [oneCell, AW.next_push]; done) | fail) only [go_sem, Nat.reduceEqDiff, reduceIte, Nat.reduceAdd, Int.toNat_natCast, Nat.add_zero, Owes_true, Try.results103, e1, e2, e5, e6, c1, hlt, indexV_eq, a0, Nat.zero_add]
    refine ⟨_, by omega, i + 1, by omega, rfl, rfl, by (simp -dsimp -implicitDefEqProofs (maxSteps := 2000000) (disch := first | assumption | omega | (simp only [nx]; omega) | ((repeat refine Fresh.push ?_ _); assumption) | (simp only [smA]; done) | (simp [oneCell, AW.next_push]; done) | fail) only [go_sem, Nat.reduceEqDiff, reduceIte, Nat.reduceAdd, Int.toNat_natCast, Nat.add_zero, Owes_true, e1, hnx]; try rfl), by (simp -dsimp -implicitDefEqProofs (maxSteps := 2000000) (disch := first | assumption | omega | (simp only [nx]; omega) | ((repeat refine Fresh.push ?_ _); assumption) | (simp only [smA]; done) | (simp [oneCell, AW.next_push]; done) | fail) only [go_sem, Nat.reduceEqDiff, reduceIte, Nat.reduceAdd, Int.toNat_natCast, Nat.add_zero, Owes_true, e2, hnx]; try rfl), by (simp -dsimp -implicitDefEqProofs (maxSteps := 2000000) (disch := first | assumption | omega | (simp only [nx]; omega) | ((repeat refine Fresh.push ?_ _); assumption) | (simp only [smA]; done) | (simp [oneCell, AW.next_push]; done) | fail) only [go_sem, Nat.reduceEqDiff, reduceIte, Nat.reduceAdd, Int.toNat_natCast, Nat.add_zero, Owes_true, e5, hnx]; try rfl), by (simp -dsimp -implicitDefEqProofs (maxSteps := 2000000) (disch := first | assumption | omega | (simp only [nx]; omega) | ((repeat refine Fresh.push ?_ _); assumption) | (simp only [smA]; done) | (simp [oneCell, AW.next_push]; done) | fail) only [go_sem, Nat.reduceEqDiff, reduceIte, Nat.reduceAdd, Int.toNat_natCast, Nat.add_zero, Owes_true, e6, hnx]; try rfl), rfl⟩
  obtain rfl : i = LV.length := by omega
  have hnu := number_ok hS ha _ _ w1 (hs.grown g1) (hv.grown g1)
  rw [hp.1] at hnu
  simp -dsimp -implicitDefEqProofs (maxSteps := 2000000) (disch := first | assumption | omega | (simp only [nx]; omega) | ((repeat refine Fresh.push ?_ _); assumption) | (simp only [smA]; done) | (simp [oneCell, AW.next_push]; done) | fail) only [go_sem, Nat.reduceEqDiff, reduceIte, Nat.reduceAdd, Int.toNat_natCast, Nat.add_zero, Owes_true, Try.results103, e1, e2, e5, e6, c0, c1, hlt, Nat.zero_add]
  apply callV_of (e := rfl)
  · exact hnu
  rintro _ _ ⟨rfl, rfl⟩
  obtain ⟨b1, o1, rfl, hb1, hcell⟩ := hatL (posI S a) hm
  have a0 := hcell w1 g1.1 0 _ rfl
  rw [Nat.add_zero, ← W_at hm] at a0
  by_cases hq : W LV (posI S a) = topTo LV LV.length
  case neg =>
    have hd : decide (W LV (posI S a) = topTo LV LV.length) = false := decide_eq_false hq
    simp -dsimp -implicitDefEqProofs (maxSteps := 2000000) (disch := first | assumption | omega | (simp only [nx]; omega) | ((repeat refine Fresh.push ?_ _); assumption) | (simp only [smA]; done) | (simp [oneCell, AW.next_push]; done) | fail) only [go_sem, Nat.reduceEqDiff, reduceIte, Nat.reduceAdd, Int.toNat_natCast, Nat.add_zero, Owes_true, Try.results103, e1, e2, e5, e6, c0, c1, indexV_eq, hmI, a0, hd, Nat.zero_add]
    exact ⟨by unfold everB; rw [hd]; rfl, g1⟩
  have hd : decide (W LV (posI S a) = topTo LV LV.length) = true := decide_eq_true hq
  have hgo := goes_ok hS ha hN (topTo LV LV.length) p _ c cL _ w1 g1.2 (hs.grown g1) (hL.grown g1) (hv.grown g1)
  simp -dsimp -implicitDefEqProofs (maxSteps := 2000000) (disch := first | assumption | omega | (simp only [nx]; omega) | ((repeat refine Fresh.push ?_ _); assumption) | (simp only [smA]; done) | (simp [oneCell, AW.next_push]; done) | fail) only [go_sem, Nat.reduceEqDiff, reduceIte, Nat.reduceAdd, Int.toNat_natCast, Nat.add_zero, Owes_true, Try.results103, e1, e2, e5, e6, c0, c1, indexV_eq, hmI, a0, hd, hld, Nat.zero_add]
  apply callV_of (e := rfl)
  · exact hgo
  rintro _ w3 ⟨rfl, g3⟩
  simp -dsimp -implicitDefEqProofs (maxSteps := 2000000) (disch := first | assumption | omega | (simp only [nx]; omega) | ((repeat refine Fresh.push ?_ _); assumption) | (simp only [smA]; done) | (simp [oneCell, AW.next_push]; done) | fail) only [go_sem, Nat.reduceEqDiff, reduceIte, Nat.reduceAdd, Int.toNat_natCast, Nat.add_zero, Owes_true, Try.results103]
  exact ⟨by unfold everB; rw [hd]; rfl, g1.trans g3⟩
end Go.Proofs
