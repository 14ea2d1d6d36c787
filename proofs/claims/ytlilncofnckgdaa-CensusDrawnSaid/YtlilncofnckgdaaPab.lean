/- This program: its code, contracts, numbers, part 2. -/
import Derived.Test.YtlilncofnckgdaaPaa
import Derived.Test.YtlilncofnckgdaaNa
import Derived.Test.YtlilncofnckgdaaNc
import Derived.Test.YtlilncofnckgdaaChecked
import Derived.Test.YtlilncofnckgdaaSh
import Derived.Test.YtlilncofnckgdaaSf
set_option linter.unusedVariables false
set_option linter.unusedSimpArgs false
namespace Go.Proofs
open Go Go.RowKit Go.Sim
set_option maxRecDepth 100000
def Try.s88 : SC := (.seq (.ops false [⟨⟨(some 2),.assign (.const (.bool false)),4,"",⟨[]⟩,none⟩,none,false⟩]) (.seq (.ops false [⟨⟨(some 3),.move (.tmp 0),3,"",⟨[]⟩,none⟩,none,false⟩,⟨⟨(some 4),.call ⟨.value (.func 64),⟨[(.tmp 3),(.const (.int .i64 1)),(.const (.int .i64 8))]⟩,⟨[3,3,3]⟩⟩,4,"",⟨[]⟩,none⟩,none,false⟩,⟨⟨(some 2),.assign (.tmp 4),4,"",⟨[]⟩,none⟩,none,false⟩]) .ret))
def Try.s89 : SC := (.seq (.ops false [⟨⟨(some 4),.assign (.const (.bool false)),4,"",⟨[]⟩,none⟩,none,false⟩]) (.seq (.ops false [⟨⟨(some 5),.move (.tmp 1),3,"",⟨[]⟩,none⟩,none,false⟩,⟨⟨(some 6),.move (.tmp 0),3,"",⟨[]⟩,none⟩,none,false⟩,⟨⟨(some 7),.call ⟨.value (.func 93),⟨[(.tmp 6)]⟩,⟨[3]⟩⟩,3,"",⟨[]⟩,none⟩,none,false⟩,⟨⟨(some 8),.binOp .sub 3 (.tmp 7) (.const (.int .i64 1)) 3,3,"",⟨[]⟩,none⟩,none,false⟩,⟨⟨(some 9),.call ⟨.value (.func 64),⟨[(.tmp 5),(.const (.int .i64 0)),(.tmp 8)]⟩,⟨[3,3,3]⟩⟩,4,"",⟨[]⟩,none⟩,none,false⟩,⟨⟨(some 4),.assign (.tmp 9),4,"",⟨[]⟩,none⟩,none,false⟩]) .ret))
def Try.s90 : SC := (.seq (.ops false [⟨⟨(some 4),.assign (.const (.slice none 0 0)),22,"",⟨[]⟩,none⟩,none,false⟩]) (.seq (.ops false [⟨⟨(some 10),.move (.tmp 0),3,"",⟨[]⟩,none⟩,none,false⟩,⟨⟨(some 11),.call ⟨.value (.func 118),⟨[(.tmp 10)]⟩,⟨[3]⟩⟩,123,"",⟨[]⟩,none⟩,none,false⟩,⟨⟨(some 5),.alloc 123,0,"",⟨[]⟩,none⟩,none,false⟩,⟨⟨none,.store 123 (.tmp 5) (.tmp 11),0,"",⟨[]⟩,none⟩,none,false⟩]) (.seq (.ops false [⟨⟨(some 12),.move (.tmp 0),3,"",⟨[]⟩,none⟩,none,false⟩,⟨⟨(some 13),.slice 123 (.tmp 5) none (some (.tmp 12)) none,22,"",⟨[]⟩,none⟩,none,false⟩,⟨⟨(some 6),.assign (.tmp 13),22,"",⟨[]⟩,none⟩,none,false⟩]) (.seq (.ops false [⟨⟨(some 7),.assign (.const (.slice none 0 0)),22,"",⟨[]⟩,none⟩,none,false⟩]) (.seq (.block 0 (.loop (.seq (.seq (.ops false [⟨⟨(some 14),.move (.tmp 6),22,"",⟨[]⟩,none⟩,none,false⟩,⟨⟨(some 15),.call ⟨.builtin .len,⟨[(.tmp 14)]⟩,⟨[22]⟩⟩,3,"",⟨[]⟩,none⟩,none,false⟩,⟨⟨(some 16),.binOp .gtr 3 (.tmp 15) (.const (.int .i64 0)) 3,4,"",⟨[]⟩,none⟩,none,false⟩]) (.cond (.tmp 16) .skip (.exit 0))) (.block 1 (.seq (.ops false [⟨⟨(some 17),.move (.tmp 6),22,"",⟨[]⟩,none⟩,none,false⟩,⟨⟨(some 18),.call ⟨.builtin .len,⟨[(.tmp 17)]⟩,⟨[22]⟩⟩,3,"",⟨[]⟩,none⟩,none,false⟩,⟨⟨(some 19),.binOp .sub 3 (.tmp 18) (.const (.int .i64 1)) 3,3,"",⟨[]⟩,none⟩,none,false⟩,⟨⟨(some 20),.call ⟨.value (.func 93),⟨[(.tmp 19)]⟩,⟨[3]⟩⟩,3,"",⟨[]⟩,none⟩,none,false⟩,⟨⟨(some 8),.assign (.tmp 20),3,"",⟨[]⟩,none⟩,none,false⟩]) (.seq (.ops false [⟨⟨(some 21),.move (.tmp 1),3,"",⟨[]⟩,none⟩,none,false⟩,⟨⟨(some 22),.move (.tmp 8),3,"",⟨[]⟩,none⟩,none,false⟩,⟨⟨(some 23),.binOp .quo 3 (.tmp 21) (.tmp 22) 3,3,"",⟨[]⟩,none⟩,none,false⟩,⟨⟨(some 9),.assign (.tmp 23),3,"",⟨[]⟩,none⟩,none,false⟩]) (.seq (.ops false [⟨⟨(some 24),.move (.tmp 1),3,"",⟨[]⟩,none⟩,none,false⟩,⟨⟨(some 25),.move (.tmp 8),3,"",⟨[]⟩,none⟩,none,false⟩,⟨⟨(some 26),.binOp .rem 3 (.tmp 24) (.tmp 25) 3,3,"",⟨[]⟩,none⟩,none,false⟩,⟨⟨(some 1),.assign (.tmp 26),3,"",⟨[]⟩,none⟩,none,false⟩]) (.seq (.ops false [⟨⟨(some 27),.move (.tmp 7),22,"",⟨[]⟩,none⟩,none,false⟩,⟨⟨(some 28),.move (.tmp 6),22,"",⟨[]⟩,none⟩,none,false⟩,⟨⟨(some 29),.move (.tmp 9),3,"",⟨[]⟩,none⟩,none,false⟩,⟨⟨(some 30),.indexAddr 22 (.tmp 28) (.tmp 29),0,"",⟨[]⟩,none⟩,none,false⟩,⟨⟨(some 31),.load 3 (.tmp 30),3,"",⟨[]⟩,none⟩,none,false⟩,⟨⟨(some 32),.buildSlice 22 1 ⟨[(0,(.tmp 31))]⟩,22,"",⟨[]⟩,none⟩,none,false⟩,⟨⟨(some 33),.call ⟨.builtin .append,⟨[(.tmp 27),(.tmp 32)]⟩,⟨[22,22]⟩⟩,22,"",⟨[]⟩,none⟩,none,false⟩,⟨⟨(some 7),.assign (.tmp 33),22,"",⟨[]⟩,none⟩,none,false⟩]) (.ops false [⟨⟨(some 34),.move (.tmp 6),22,"",⟨[]⟩,none⟩,none,false⟩,⟨⟨(some 35),.move (.tmp 9),3,"",⟨[]⟩,none⟩,none,false⟩,⟨⟨(some 36),.move (.tmp 9),3,"",⟨[]⟩,none⟩,none,false⟩,⟨⟨(some 37),.binOp .add 3 (.tmp 36) (.const (.int .i64 1)) 3,3,"",⟨[]⟩,none⟩,none,false⟩,⟨⟨(some 38),.call ⟨.value (.func 119),⟨[(.tmp 34),(.tmp 35),(.tmp 37)]⟩,⟨[22,3,3]⟩⟩,22,"",⟨[]⟩,none⟩,none,false⟩,⟨⟨(some 6),.assign (.tmp 38),22,"",⟨[]⟩,none⟩,none,false⟩]))))))))) (.seq (.ops false [⟨⟨(some 39),.move (.tmp 7),22,"",⟨[]⟩,none⟩,none,false⟩,⟨⟨(some 4),.assign (.tmp 39),22,"",⟨[]⟩,none⟩,none,false⟩]) .ret))))))
def Try.s92 : SC := (.seq (.ops false [⟨⟨(some 3),.assign (.const (.bool false)),4,"",⟨[]⟩,none⟩,none,false⟩]) (.seq (.ops false [⟨⟨(some 4),.load 3 (.tmp 1),3,"",⟨[]⟩,none⟩,none,false⟩,⟨⟨(some 5),.move (.tmp 0),3,"",⟨[]⟩,none⟩,none,false⟩,⟨⟨(some 6),.call ⟨.value (.func 89),⟨[(.tmp 4),(.tmp 5)]⟩,⟨[3,3]⟩⟩,4,"",⟨[]⟩,none⟩,none,false⟩,⟨⟨(some 3),.assign (.tmp 6),4,"",⟨[]⟩,none⟩,none,false⟩]) .ret))
def Try.s119 : SC := (.seq (.ops false [⟨⟨(some 6),.assign (.const (.slice none 0 0)),22,"",⟨[]⟩,none⟩,none,false⟩]) (.seq (.ops false [⟨⟨(some 8),.move (.tmp 0),22,"",⟨[]⟩,none⟩,none,false⟩,⟨⟨(some 9),.move (.tmp 1),3,"",⟨[]⟩,none⟩,none,false⟩,⟨⟨(some 10),.move (.tmp 2),3,"",⟨[]⟩,none⟩,none,false⟩,⟨⟨(some 11),.move (.tmp 0),22,"",⟨[]⟩,none⟩,none,false⟩,⟨⟨(some 12),.call ⟨.builtin .len,⟨[(.tmp 11)]⟩,⟨[22]⟩⟩,3,"",⟨[]⟩,none⟩,none,false⟩,⟨⟨(some 13),.slice 22 (.tmp 8) (some (.tmp 9)) (some (.tmp 10)) (some (.tmp 12)),22,"",⟨[]⟩,none⟩,none,false⟩]) (.seq (.seq (.ops false [⟨⟨(some 14),.move (.tmp 1),3,"",⟨[]⟩,none⟩,none,false⟩,⟨⟨(some 15),.move (.tmp 2),3,"",⟨[]⟩,none⟩,none,false⟩,⟨⟨(some 16),.binOp .eql 3 (.tmp 14) (.tmp 15) 3,4,"",⟨[]⟩,none⟩,none,false⟩]) (.cond (.tmp 16) (.seq (.ops false [⟨⟨(some 17),.move (.tmp 0),22,"",⟨[]⟩,none⟩,none,false⟩,⟨⟨(some 6),.assign (.tmp 17),22,"",⟨[]⟩,none⟩,none,false⟩]) .ret) .skip)) (.seq (.ops false [⟨⟨(some 18),.move (.tmp 0),22,"",⟨[]⟩,none⟩,none,false⟩,⟨⟨(some 19),.call ⟨.builtin .len,⟨[(.tmp 18)]⟩,⟨[22]⟩⟩,3,"",⟨[]⟩,none⟩,none,false⟩,⟨⟨(some 7),.assign (.tmp 19),3,"",⟨[]⟩,none⟩,none,false⟩]) (.seq (.ops true [⟨⟨(some 20),.move (.tmp 0),22,"",⟨[]⟩,none⟩,none,true⟩,⟨⟨(some 21),.move (.tmp 1),3,"",⟨[]⟩,none⟩,none,true⟩,⟨⟨(some 22),.slice 22 (.tmp 20) none (some (.tmp 21)) none,22,"",⟨[]⟩,none⟩,none,true⟩,⟨⟨(some 23),.move (.tmp 0),22,"",⟨[]⟩,none⟩,none,true⟩,⟨⟨(some 24),.move (.tmp 2),3,"",⟨[]⟩,none⟩,none,true⟩,⟨⟨(some 25),.slice 22 (.tmp 23) (some (.tmp 24)) none none,22,"",⟨[]⟩,none⟩,none,true⟩,⟨⟨(some 26),.call ⟨.builtin .append,⟨[(.tmp 22),(.tmp 25)]⟩,⟨[22,22]⟩⟩,22,"",⟨[]⟩,none⟩,none,false⟩,⟨⟨(some 0),.assign (.tmp 26),22,"",⟨[]⟩,none⟩,none,true⟩]) (.seq (.ops false [⟨⟨(some 27),.move (.tmp 0),22,"",⟨[]⟩,none⟩,none,false⟩,⟨⟨(some 28),.move (.tmp 0),22,"",⟨[]⟩,none⟩,none,false⟩,⟨⟨(some 29),.call ⟨.builtin .len,⟨[(.tmp 28)]⟩,⟨[22]⟩⟩,3,"",⟨[]⟩,none⟩,none,false⟩,⟨⟨(some 30),.move (.tmp 7),3,"",⟨[]⟩,none⟩,none,false⟩,⟨⟨(some 31),.slice 22 (.tmp 27) (some (.tmp 29)) (some (.tmp 30)) none,22,"",⟨[]⟩,none⟩,none,false⟩,⟨⟨none,.call ⟨.builtin .clear,⟨[(.tmp 31)]⟩,⟨[22]⟩⟩,0,"",⟨[]⟩,none⟩,none,false⟩]) (.seq (.ops false [⟨⟨(some 32),.move (.tmp 0),22,"",⟨[]⟩,none⟩,none,false⟩,⟨⟨(some 6),.assign (.tmp 32),22,"",⟨[]⟩,none⟩,none,false⟩]) .ret)))))))
def Try.s36 : SC := (.seq (.ops false [⟨⟨(some 4),.assign (.const (.slice none 0 0)),22,"",⟨[]⟩,none⟩,none,false⟩,⟨⟨(some 5),.assign (.const (.int .i64 0)),25,"",⟨[]⟩,none⟩,none,false⟩]) (.seq (.seq (.ops false [⟨⟨(some 6),.move (.tmp 0),3,"",⟨[]⟩,none⟩,none,false⟩,⟨⟨(some 7),.call ⟨.value (.func 88),⟨[(.tmp 6)]⟩,⟨[3]⟩⟩,4,"",⟨[]⟩,none⟩,none,false⟩,⟨⟨(some 8),.unOp .not 4 (.tmp 7),4,"",⟨[]⟩,none⟩,none,false⟩]) (.cond (.tmp 8) (.seq (.ops false [⟨⟨(some 4),.assign (.const (.slice none 0 0)),22,"",⟨[]⟩,none⟩,none,false⟩,⟨⟨(some 5),.assign (.const (.int .i64 104)),25,"",⟨[]⟩,none⟩,none,false⟩]) .ret) .skip)) (.seq (.seq (.ops false [⟨⟨(some 9),.move (.tmp 0),3,"",⟨[]⟩,none⟩,none,false⟩,⟨⟨(some 10),.move (.tmp 1),3,"",⟨[]⟩,none⟩,none,false⟩,⟨⟨(some 11),.call ⟨.value (.func 89),⟨[(.tmp 9),(.tmp 10)]⟩,⟨[3,3]⟩⟩,4,"",⟨[]⟩,none⟩,none,false⟩,⟨⟨(some 12),.unOp .not 4 (.tmp 11),4,"",⟨[]⟩,none⟩,none,false⟩]) (.cond (.tmp 12) (.seq (.ops false [⟨⟨(some 4),.assign (.const (.slice none 0 0)),22,"",⟨[]⟩,none⟩,none,false⟩,⟨⟨(some 5),.assign (.const (.int .i64 7)),25,"",⟨[]⟩,none⟩,none,false⟩]) .ret) .skip)) (.seq (.ops false [⟨⟨(some 13),.move (.tmp 0),3,"",⟨[]⟩,none⟩,none,false⟩,⟨⟨(some 14),.move (.tmp 1),3,"",⟨[]⟩,none⟩,none,false⟩,⟨⟨(some 15),.call ⟨.value (.func 90),⟨[(.tmp 13),(.tmp 14)]⟩,⟨[3,3]⟩⟩,22,"",⟨[]⟩,none⟩,none,false⟩,⟨⟨(some 4),.assign (.tmp 15),22,"",⟨[]⟩,none⟩,none,false⟩,⟨⟨(some 5),.assign (.const (.int .i64 0)),25,"",⟨[]⟩,none⟩,none,false⟩]) .ret))))
def Try.s38 : SC := (.seq (.ops false [⟨⟨(some 3),.box 3 (.tmp 0),0,"",⟨[]⟩,none⟩,none,false⟩,⟨⟨(some 6),.assign (.const (.slice none 0 0)),22,"",⟨[]⟩,none⟩,none,false⟩,⟨⟨(some 7),.assign (.const (.int .i64 0)),25,"",⟨[]⟩,none⟩,none,false⟩]) (.seq (.ops false [⟨⟨(some 9),.makeFunc (.func 92) ⟨[]⟩ ⟨[(.tmp 3)]⟩,79,"",⟨[]⟩,none⟩,none,false⟩,⟨⟨(some 8),.assign (.tmp 9),79,"",⟨[]⟩,none⟩,none,false⟩]) (.seq (.seq (.ops false [⟨⟨(some 10),.load 3 (.tmp 3),3,"",⟨[]⟩,none⟩,none,false⟩,⟨⟨(some 11),.call ⟨.value (.func 88),⟨[(.tmp 10)]⟩,⟨[3]⟩⟩,4,"",⟨[]⟩,none⟩,none,false⟩,⟨⟨(some 12),.unOp .not 4 (.tmp 11),4,"",⟨[]⟩,none⟩,none,false⟩,⟨⟨(some 13),.move (.tmp 12),4,"",⟨[]⟩,none⟩,none,false⟩,⟨⟨(some 14),.move (.tmp 2),22,"",⟨[]⟩,none⟩,some ((some 13),false),false⟩,⟨⟨(some 15),.call ⟨.builtin .len,⟨[(.tmp 14)]⟩,⟨[22]⟩⟩,3,"",⟨[]⟩,none⟩,some ((some 13),false),false⟩,⟨⟨(some 16),.call ⟨.value (.func 64),⟨[(.tmp 15),(.const (.int .i64 1)),(.const (.int .i64 16))]⟩,⟨[3,3,3]⟩⟩,4,"",⟨[]⟩,none⟩,some ((some 13),false),false⟩,⟨⟨(some 17),.unOp .not 4 (.tmp 16),4,"",⟨[]⟩,none⟩,some ((some 13),false),false⟩,⟨⟨(some 18),.pick (.tmp 13) (.const (.bool true)) (.tmp 17),4,"",⟨[]⟩,none⟩,none,false⟩,⟨⟨(some 19),.move (.tmp 18),4,"",⟨[]⟩,none⟩,none,false⟩,⟨⟨(some 20),.move (.tmp 2),22,"",⟨[]⟩,none⟩,some ((some 19),false),false⟩,⟨⟨(some 21),.move (.tmp 8),79,"",⟨[]⟩,none⟩,some ((some 19),false),false⟩,⟨⟨(some 22),.call ⟨.value (.func 65),⟨[(.tmp 20),(.tmp 21)]⟩,⟨[22,79]⟩⟩,4,"",⟨[]⟩,none⟩,some ((some 19),false),false⟩,⟨⟨(some 23),.unOp .not 4 (.tmp 22),4,"",⟨[]⟩,none⟩,some ((some 19),false),false⟩,⟨⟨(some 24),.pick (.tmp 19) (.const (.bool true)) (.tmp 23),4,"",⟨[]⟩,none⟩,none,false⟩]) (.cond (.tmp 24) (.seq (.ops false [⟨⟨(some 6),.assign (.const (.slice none 0 0)),22,"",⟨[]⟩,none⟩,none,false⟩,⟨⟨(some 7),.assign (.const (.int .i64 104)),25,"",⟨[]⟩,none⟩,none,false⟩]) .ret) .skip)) (.seq (.seq (.ops false [⟨⟨(some 25),.move (.tmp 1),3,"",⟨[]⟩,none⟩,none,false⟩,⟨⟨(some 26),.load 3 (.tmp 3),3,"",⟨[]⟩,none⟩,none,false⟩,⟨⟨(some 27),.call ⟨.value (.func 64),⟨[(.tmp 25),(.const (.int .i64 0)),(.tmp 26)]⟩,⟨[3,3,3]⟩⟩,4,"",⟨[]⟩,none⟩,none,false⟩,⟨⟨(some 28),.unOp .not 4 (.tmp 27),4,"",⟨[]⟩,none⟩,none,false⟩]) (.cond (.tmp 28) (.seq (.ops false [⟨⟨(some 6),.assign (.const (.slice none 0 0)),22,"",⟨[]⟩,none⟩,none,false⟩,⟨⟨(some 7),.assign (.const (.int .i64 7)),25,"",⟨[]⟩,none⟩,none,false⟩]) .ret) .skip)) (.seq (.ops true [⟨⟨(some 29),.load 3 (.tmp 3),3,"",⟨[]⟩,none⟩,none,true⟩,⟨⟨(some 30),.move (.tmp 2),22,"",⟨[]⟩,none⟩,none,true⟩,⟨⟨(some 32),.load 3 (.tmp 3),3,"",⟨[]⟩,none⟩,none,true⟩,⟨⟨(some 36),.move (.tmp 1),3,"",⟨[]⟩,none⟩,none,true⟩,⟨⟨(some 31),.call ⟨.value (.func 68),⟨[(.tmp 30)]⟩,⟨[22]⟩⟩,3,"",⟨[]⟩,none⟩,none,true⟩,⟨⟨(some 33),.call ⟨.value (.func 93),⟨[(.tmp 32)]⟩,⟨[3]⟩⟩,3,"",⟨[]⟩,none⟩,none,true⟩,⟨⟨(some 34),.binOp .rem 3 (.tmp 31) (.tmp 33) 3,3,"",⟨[]⟩,none⟩,none,true⟩,⟨⟨(some 35),.call ⟨.value (.func 90),⟨[(.tmp 29),(.tmp 34)]⟩,⟨[3,3]⟩⟩,22,"",⟨[]⟩,none⟩,none,true⟩,⟨⟨(some 37),.slice 22 (.tmp 35) none (some (.tmp 36)) none,22,"",⟨[]⟩,none⟩,none,true⟩,⟨⟨(some 6),.assign (.tmp 37),22,"",⟨[]⟩,none⟩,none,true⟩,⟨⟨(some 7),.assign (.const (.int .i64 0)),25,"",⟨[]⟩,none⟩,none,true⟩]) .ret)))))
def Try.s49 : SC := (.seq (.ops false [⟨⟨(some 4),.assign (.const (.int .i64 0)),3,"",⟨[]⟩,none⟩,none,false⟩]) (.seq (.seq (.ops false [⟨⟨(some 5),.move (.tmp 1),3,"",⟨[]⟩,none⟩,none,false⟩,⟨⟨(some 6),.binOp .leq 3 (.tmp 5) (.const (.int .i64 0)) 3,4,"",⟨[]⟩,none⟩,none,false⟩]) (.cond (.tmp 6) (.seq (.ops false [⟨⟨(some 4),.assign (.const (.int .i64 0)),3,"",⟨[]⟩,none⟩,none,false⟩]) .ret) .skip)) (.seq (.ops false [⟨⟨(some 7),.move (.tmp 0),3,"",⟨[]⟩,none⟩,none,false⟩,⟨⟨(some 8),.move (.tmp 1),3,"",⟨[]⟩,none⟩,none,false⟩,⟨⟨(some 9),.binOp .rem 3 (.tmp 7) (.tmp 8) 3,3,"",⟨[]⟩,none⟩,none,false⟩,⟨⟨(some 10),.move (.tmp 1),3,"",⟨[]⟩,none⟩,none,false⟩,⟨⟨(some 11),.binOp .add 3 (.tmp 9) (.tmp 10) 3,3,"",⟨[]⟩,none⟩,none,false⟩,⟨⟨(some 12),.move (.tmp 1),3,"",⟨[]⟩,none⟩,none,false⟩,⟨⟨(some 13),.binOp .rem 3 (.tmp 11) (.tmp 12) 3,3,"",⟨[]⟩,none⟩,none,false⟩,⟨⟨(some 4),.assign (.tmp 13),3,"",⟨[]⟩,none⟩,none,false⟩]) .ret)))
def Try.s12 : SC := (.seq (.ops false [⟨⟨(some 1),.box 45 (.tmp 0),0,"",⟨[]⟩,none⟩,none,false⟩,⟨⟨(some 2),.assign (.const (.bool false)),4,"",⟨[]⟩,none⟩,none,false⟩]) (.seq (.ops false [⟨⟨(some 18),.indexAddr 45 (.tmp 1) (.const (.int .i64 0)),0,"",⟨[]⟩,none⟩,none,false⟩,⟨⟨(some 19),.load 3 (.tmp 18),3,"",⟨[]⟩,none⟩,none,false⟩,⟨⟨(some 20),.call ⟨.value (.func 49),⟨[(.tmp 19),(.const (.int .i64 5))]⟩,⟨[3,3]⟩⟩,3,"",⟨[]⟩,none⟩,none,false⟩,⟨⟨(some 21),.binOp .add 3 (.const (.int .i64 1)) (.tmp 20) 3,3,"",⟨[]⟩,none⟩,none,false⟩,⟨⟨(some 3),.assign (.tmp 21),3,"",⟨[]⟩,none⟩,none,false⟩]) (.seq (.ops true [⟨⟨(some 22),.indexAddr 45 (.tmp 1) (.const (.int .i64 1)),0,"",⟨[]⟩,none⟩,none,true⟩,⟨⟨(some 23),.load 3 (.tmp 22),3,"",⟨[]⟩,none⟩,none,true⟩,⟨⟨(some 24),.move (.tmp 3),3,"",⟨[]⟩,none⟩,none,true⟩,⟨⟨(some 25),.binOp .add 3 (.tmp 24) (.const (.int .i64 1)) 3,3,"",⟨[]⟩,none⟩,none,true⟩,⟨⟨(some 27),.indexAddr 45 (.tmp 1) (.const (.int .i64 2)),0,"",⟨[]⟩,none⟩,none,true⟩,⟨⟨(some 28),.load 3 (.tmp 27),3,"",⟨[]⟩,none⟩,none,true⟩,⟨⟨(some 29),.move (.tmp 3),3,"",⟨[]⟩,none⟩,none,true⟩,⟨⟨(some 30),.binOp .add 3 (.tmp 29) (.const (.int .i64 1)) 3,3,"",⟨[]⟩,none⟩,none,true⟩,⟨⟨(some 26),.call ⟨.value (.func 49),⟨[(.tmp 23),(.tmp 25)]⟩,⟨[3,3]⟩⟩,3,"",⟨[]⟩,none⟩,none,true⟩,⟨⟨(some 31),.call ⟨.value (.func 49),⟨[(.tmp 28),(.tmp 30)]⟩,⟨[3,3]⟩⟩,3,"",⟨[]⟩,none⟩,none,false⟩,⟨⟨(some 4),.assign (.tmp 26),3,"",⟨[]⟩,none⟩,none,true⟩,⟨⟨(some 5),.assign (.tmp 31),3,"",⟨[]⟩,none⟩,none,true⟩]) (.seq (.ops false [⟨⟨(some 32),.move (.tmp 3),3,"",⟨[]⟩,none⟩,none,false⟩,⟨⟨(some 33),.buildSlice 22 1 ⟨[(0,(.tmp 32))]⟩,22,"",⟨[]⟩,none⟩,none,false⟩,⟨⟨(some 34),.buildSlice 22 1 ⟨[(0,(.const (.int .i64 1)))]⟩,22,"",⟨[]⟩,none⟩,none,false⟩,⟨⟨(some 35),.build 24 ⟨[(0,(.tmp 33)),(1,(.tmp 34)),(2,(.const (.int .i64 1)))]⟩,24,"",⟨[]⟩,none⟩,none,false⟩,⟨⟨(some 6),.alloc 24,0,"",⟨[]⟩,none⟩,none,false⟩,⟨⟨none,.store 24 (.tmp 6) (.tmp 35),0,"",⟨[]⟩,none⟩,none,false⟩]) (.seq (.ops false [⟨⟨(some 37),.load 24 (.tmp 6),24,"",⟨[]⟩,none⟩,none,false⟩,⟨⟨(some 38),.move (.tmp 4),3,"",⟨[]⟩,none⟩,none,false⟩,⟨⟨(some 39),.buildSlice 22 1 ⟨[(0,(.tmp 38))]⟩,22,"",⟨[]⟩,none⟩,none,false⟩,⟨⟨(some 40),.move (.tmp 5),3,"",⟨[]⟩,none⟩,none,false⟩,⟨⟨(some 41),.buildSlice 22 1 ⟨[(0,(.tmp 40))]⟩,22,"",⟨[]⟩,none⟩,none,false⟩,⟨⟨(some 42),.call ⟨.value (.func 16),⟨[(.tmp 37),(.tmp 39),(.tmp 41)]⟩,⟨[24,22,22]⟩⟩,26,"",⟨[]⟩,none⟩,none,false⟩,⟨⟨(some 36),.move (.tmp 42),26,"",⟨[]⟩,none⟩,none,false⟩,⟨⟨(some 43),.extract (.tmp 36) 0,3,"",⟨[]⟩,none⟩,none,false⟩,⟨⟨(some 44),.extract (.tmp 36) 1,3,"",⟨[]⟩,none⟩,none,false⟩,⟨⟨(some 45),.extract (.tmp 36) 2,25,"",⟨[]⟩,none⟩,none,false⟩,⟨⟨(some 7),.assign (.tmp 43),3,"",⟨[]⟩,none⟩,none,false⟩,⟨⟨(some 8),.assign (.tmp 44),3,"",⟨[]⟩,none⟩,none,false⟩,⟨⟨(some 9),.assign (.tmp 45),25,"",⟨[]⟩,none⟩,none,false⟩]) (.seq (.seq (.ops false [⟨⟨(some 46),.move (.tmp 9),25,"",⟨[]⟩,none⟩,none,false⟩,⟨⟨(some 47),.binOp .neq 25 (.tmp 46) (.const (.int .i64 0)) 25,4,"",⟨[]⟩,none⟩,none,false⟩]) (.cond (.tmp 47) (.seq (.ops false [⟨⟨(some 2),.assign (.const (.bool false)),4,"",⟨[]⟩,none⟩,none,false⟩]) .ret) .skip)) (.seq (.ops false [⟨⟨(some 10),.assign (.const (.int .i64 0)),3,"",⟨[]⟩,none⟩,none,false⟩,⟨⟨(some 11),.assign (.const (.int .i64 0)),3,"",⟨[]⟩,none⟩,none,false⟩]) (.seq (.seq (.ops false [⟨⟨(some 12),.assign (.const (.int .i64 0)),3,"",⟨[]⟩,none⟩,none,false⟩]) (.block 0 (.loop (.seq (.block 1 (.seq (.ops false [⟨⟨(some 51),.move (.tmp 3),3,"",⟨[]⟩,none⟩,none,false⟩,⟨⟨(some 52),.move (.tmp 12),3,"",⟨[]⟩,none⟩,none,false⟩,⟨⟨(some 53),.call ⟨.value (.func 36),⟨[(.tmp 51),(.tmp 52)]⟩,⟨[3,3]⟩⟩,47,"",⟨[]⟩,none⟩,none,false⟩,⟨⟨(some 50),.move (.tmp 53),47,"",⟨[]⟩,none⟩,none,false⟩,⟨⟨(some 54),.extract (.tmp 50) 0,22,"",⟨[]⟩,none⟩,none,false⟩,⟨⟨(some 55),.extract (.tmp 50) 1,25,"",⟨[]⟩,none⟩,none,false⟩,⟨⟨(some 13),.assign (.tmp 54),22,"",⟨[]⟩,none⟩,none,false⟩,⟨⟨(some 14),.assign (.tmp 55),25,"",⟨[]⟩,none⟩,none,false⟩]) (.seq (.seq (.ops false [⟨⟨(some 56),.move (.tmp 14),25,"",⟨[]⟩,none⟩,none,false⟩,⟨⟨(some 57),.binOp .neq 25 (.tmp 56) (.const (.int .i64 0)) 25,4,"",⟨[]⟩,none⟩,none,false⟩,⟨⟨(some 58),.move (.tmp 57),4,"",⟨[]⟩,none⟩,none,false⟩,⟨⟨(some 59),.move (.tmp 12),3,"",⟨[]⟩,none⟩,some ((some 58),false),false⟩,⟨⟨(some 60),.binOp .gtr 3 (.tmp 59) (.const (.int .i64 120)) 3,4,"",⟨[]⟩,none⟩,some ((some 58),false),false⟩,⟨⟨(some 61),.pick (.tmp 58) (.const (.bool true)) (.tmp 60),4,"",⟨[]⟩,none⟩,none,false⟩]) (.cond (.tmp 61) (.exit 0) .skip)) (.seq (.ops false [⟨⟨(some 63),.move (.tmp 3),3,"",⟨[]⟩,none⟩,none,false⟩,⟨⟨(some 64),.move (.tmp 4),3,"",⟨[]⟩,none⟩,none,false⟩,⟨⟨(some 65),.move (.tmp 12),3,"",⟨[]⟩,none⟩,none,false⟩,⟨⟨(some 66),.buildSlice 22 1 ⟨[(0,(.tmp 65))]⟩,22,"",⟨[]⟩,none⟩,none,false⟩,⟨⟨(some 67),.call ⟨.value (.func 38),⟨[(.tmp 63),(.tmp 64),(.tmp 66)]⟩,⟨[3,3,22]⟩⟩,47,"",⟨[]⟩,none⟩,none,false⟩,⟨⟨(some 62),.move (.tmp 67),47,"",⟨[]⟩,none⟩,none,false⟩,⟨⟨(some 68),.extract (.tmp 62) 0,22,"",⟨[]⟩,none⟩,none,false⟩,⟨⟨(some 69),.extract (.tmp 62) 1,25,"",⟨[]⟩,none⟩,none,false⟩,⟨⟨(some 15),.assign (.tmp 68),22,"",⟨[]⟩,none⟩,none,false⟩,⟨⟨(some 14),.assign (.tmp 69),25,"",⟨[]⟩,none⟩,none,false⟩]) (.seq (.seq (.ops false [⟨⟨(some 70),.move (.tmp 14),25,"",⟨[]⟩,none⟩,none,false⟩,⟨⟨(some 71),.binOp .neq 25 (.tmp 70) (.const (.int .i64 0)) 25,4,"",⟨[]⟩,none⟩,none,false⟩,⟨⟨(some 72),.move (.tmp 71),4,"",⟨[]⟩,none⟩,none,false⟩,⟨⟨(some 73),.move (.tmp 15),22,"",⟨[]⟩,none⟩,some ((some 72),false),false⟩,⟨⟨(some 74),.call ⟨.builtin .len,⟨[(.tmp 73)]⟩,⟨[22]⟩⟩,3,"",⟨[]⟩,none⟩,some ((some 72),false),false⟩,⟨⟨(some 75),.move (.tmp 4),3,"",⟨[]⟩,none⟩,some ((some 72),false),false⟩,⟨⟨(some 76),.binOp .neq 3 (.tmp 74) (.tmp 75) 3,4,"",⟨[]⟩,none⟩,some ((some 72),false),false⟩,⟨⟨(some 77),.pick (.tmp 72) (.const (.bool true)) (.tmp 76),4,"",⟨[]⟩,none⟩,none,false⟩,⟨⟨(some 78),.move (.tmp 77),4,"",⟨[]⟩,none⟩,none,false⟩,⟨⟨(some 79),.move (.tmp 13),22,"",⟨[]⟩,none⟩,some ((some 78),false),false⟩,⟨⟨(some 80),.call ⟨.builtin .len,⟨[(.tmp 79)]⟩,⟨[22]⟩⟩,3,"",⟨[]⟩,none⟩,some ((some 78),false),false⟩,⟨⟨(some 81),.move (.tmp 3),3,"",⟨[]⟩,none⟩,some ((some 78),false),false⟩,⟨⟨(some 82),.binOp .neq 3 (.tmp 80) (.tmp 81) 3,4,"",⟨[]⟩,none⟩,some ((some 78),false),false⟩,⟨⟨(some 83),.pick (.tmp 78) (.const (.bool true)) (.tmp 82),4,"",⟨[]⟩,none⟩,none,false⟩]) (.cond (.tmp 83) (.seq (.ops false [⟨⟨(some 2),.assign (.const (.bool false)),4,"",⟨[]⟩,none⟩,none,false⟩]) .ret) .skip)) (.seq (.ops false [⟨⟨(some 16),.assign (.const (.bool false)),4,"",⟨[]⟩,none⟩,none,false⟩]) (.seq (.seq (.ops false [⟨⟨(some 17),.assign (.const (.int .i64 0)),3,"",⟨[]⟩,none⟩,none,false⟩]) (.block 2 (.loop (.seq (.seq (.ops false [⟨⟨(some 84),.move (.tmp 17),3,"",⟨[]⟩,none⟩,none,false⟩,⟨⟨(some 85),.move (.tmp 4),3,"",⟨[]⟩,none⟩,none,false⟩,⟨⟨(some 86),.binOp .lss 3 (.tmp 84) (.tmp 85) 3,4,"",⟨[]⟩,none⟩,none,false⟩]) (.cond (.tmp 86) .skip (.exit 2))) (.seq (.block 3 (.ops false [⟨⟨(some 89),.move (.tmp 16),4,"",⟨[]⟩,none⟩,none,false⟩,⟨⟨(some 90),.move (.tmp 89),4,"",⟨[]⟩,none⟩,none,false⟩,⟨⟨(some 91),.move (.tmp 15),22,"",⟨[]⟩,none⟩,some ((some 90),false),false⟩,⟨⟨(some 92),.move (.tmp 17),3,"",⟨[]⟩,none⟩,some ((some 90),false),false⟩,⟨⟨(some 93),.indexAddr 22 (.tmp 91) (.tmp 92),0,"",⟨[]⟩,none⟩,some ((some 90),false),false⟩,⟨⟨(some 94),.load 3 (.tmp 93),3,"",⟨[]⟩,none⟩,some ((some 90),false),false⟩,⟨⟨(some 95),.move (.tmp 5),3,"",⟨[]⟩,none⟩,some ((some 90),false),false⟩,⟨⟨(some 96),.binOp .lss 3 (.tmp 94) (.tmp 95) 3,4,"",⟨[]⟩,none⟩,some ((some 90),false),false⟩,⟨⟨(some 97),.pick (.tmp 90) (.const (.bool true)) (.tmp 96),4,"",⟨[]⟩,none⟩,none,false⟩,⟨⟨(some 16),.assign (.tmp 97),4,"",⟨[]⟩,none⟩,none,false⟩])) (.ops false [⟨⟨(some 87),.move (.tmp 17),3,"",⟨[]⟩,none⟩,none,false⟩,⟨⟨(some 88),.binOp .add 3 (.tmp 87) (.const (.int .i64 1)) 3,3,"",⟨[]⟩,none⟩,none,false⟩,⟨⟨(some 17),.assign (.tmp 88),3,"",⟨[]⟩,none⟩,none,false⟩])))))) (.seq (.ops false [⟨⟨(some 98),.move (.tmp 10),3,"",⟨[]⟩,none⟩,none,false⟩,⟨⟨(some 99),.binOp .add 3 (.tmp 98) (.const (.int .i64 1)) 3,3,"",⟨[]⟩,none⟩,none,false⟩,⟨⟨(some 10),.assign (.tmp 99),3,"",⟨[]⟩,none⟩,none,false⟩]) (.seq (.ops false [⟨⟨(some 100),.move (.tmp 16),4,"",⟨[]⟩,none⟩,none,false⟩,⟨⟨(some 101),.unOp .not 4 (.tmp 100),4,"",⟨[]⟩,none⟩,none,false⟩]) (.cond (.tmp 101) (.ops false [⟨⟨(some 102),.move (.tmp 11),3,"",⟨[]⟩,none⟩,none,false⟩,⟨⟨(some 103),.binOp .add 3 (.tmp 102) (.const (.int .i64 1)) 3,3,"",⟨[]⟩,none⟩,none,false⟩,⟨⟨(some 11),.assign (.tmp 103),3,"",⟨[]⟩,none⟩,none,false⟩]) .skip)))))))))) (.ops false [⟨⟨(some 48),.move (.tmp 12),3,"",⟨[]⟩,none⟩,none,false⟩,⟨⟨(some 49),.binOp .add 3 (.tmp 48) (.const (.int .i64 1)) 3,3,"",⟨[]⟩,none⟩,none,false⟩,⟨⟨(some 12),.assign (.tmp 49),3,"",⟨[]⟩,none⟩,none,false⟩]))))) (.seq (.ops false [⟨⟨(some 104),.move (.tmp 10),3,"",⟨[]⟩,none⟩,none,false⟩,⟨⟨(some 105),.binOp .gtr 3 (.tmp 104) (.const (.int .i64 0)) 3,4,"",⟨[]⟩,none⟩,none,false⟩,⟨⟨(some 106),.move (.tmp 105),4,"",⟨[]⟩,none⟩,none,false⟩,⟨⟨(some 107),.move (.tmp 11),3,"",⟨[]⟩,none⟩,some ((some 106),true),false⟩,⟨⟨(some 108),.move (.tmp 8),3,"",⟨[]⟩,none⟩,some ((some 106),true),false⟩,⟨⟨(some 109),.binOp .mul 3 (.tmp 107) (.tmp 108) 3,3,"",⟨[]⟩,none⟩,some ((some 106),true),false⟩,⟨⟨(some 110),.move (.tmp 7),3,"",⟨[]⟩,none⟩,some ((some 106),true),false⟩,⟨⟨(some 111),.move (.tmp 10),3,"",⟨[]⟩,none⟩,some ((some 106),true),false⟩,⟨⟨(some 112),.binOp .mul 3 (.tmp 110) (.tmp 111) 3,3,"",⟨[]⟩,none⟩,some ((some 106),true),false⟩,⟨⟨(some 113),.binOp .eql 3 (.tmp 109) (.tmp 112) 3,4,"",⟨[]⟩,none⟩,some ((some 106),true),false⟩,⟨⟨(some 114),.pick (.tmp 106) (.tmp 113) (.const (.bool false)),4,"",⟨[]⟩,none⟩,none,false⟩,⟨⟨(some 115),.move (.tmp 114),4,"",⟨[]⟩,none⟩,none,false⟩,⟨⟨(some 116),.call ⟨.value (.func 25),⟨[]⟩,⟨[]⟩⟩,4,"",⟨[]⟩,none⟩,some ((some 115),true),false⟩,⟨⟨(some 117),.pick (.tmp 115) (.tmp 116) (.const (.bool false)),4,"",⟨[]⟩,none⟩,none,false⟩,⟨⟨(some 2),.assign (.tmp 117),4,"",⟨[]⟩,none⟩,none,false⟩]) .ret)))))))))
theorem Try.s88_eq : Try.f88.body.map sOf = some Try.s88 := by kernel_rfl
theorem Try.s89_eq : Try.f89.body.map sOf = some Try.s89 := by kernel_rfl
theorem Try.s90_eq : Try.f90.body.map sOf = some Try.s90 := by kernel_rfl
theorem Try.s92_eq : Try.f92.body.map sOf = some Try.s92 := by kernel_rfl
theorem Try.s119_eq : Try.f119.body.map sOf = some Try.s119 := by kernel_rfl
theorem Try.s36_eq : Try.f36.body.map sOf = some Try.s36 := by kernel_rfl
theorem Try.s38_eq : Try.f38.body.map sOf = some Try.s38 := by kernel_rfl
theorem Try.s49_eq : Try.f49.body.map sOf = some Try.s49 := by kernel_rfl
theorem Try.s12_eq : Try.f12.body.map sOf = some Try.s12 := by kernel_rfl
end Go.Proofs

namespace Go.Proofs
open Go Go.RowKit Go.Sim
set_option maxRecDepth 100000
theorem Try.ty123 : (prg Try.prog).ty 123 = some ⟨true, (.array 8 3), 8, 64, .agg #[.int .i64 0, .int .i64 0, .int .i64 0, .int .i64 0, .int .i64 0, .int .i64 0, .int .i64 0, .int .i64 0]⟩ := by kernel_rfl
attribute [go_sem] Try.ty123
end Go.Proofs

namespace Go.Sim
open Go Go.RowKit
section
variable {P : Program} {told : ToldF} {d : Option Tmp} {ty0 : TypeId} {pos : String} {af : Array Edge} {gd : Option (Tmp × Bool)} {t : Tmps} {w : AW} {K : Tmps → AW → Prop}
theorem stepR_copy {draw tie : Bool} {x y : Operand} {dT xT : TypeId} {tk : Tok ((⟨d, .call ⟨.builtin .copy, ⟨[x, y]⟩, ⟨[dT, xT]⟩⟩, ty0, pos, af, gd⟩ : Oper), t, w, K)} {v : Value} {w' : AW}
    (h : copyV (prg P) w (ev t x) (ev t y) dT xT = some (v, w')) (k : Owes (draw && tie) (WLe w w') (K (putTmp t d v) w') .mk) : StepR P told draw tie ⟨d, .call ⟨.builtin .copy, ⟨[x, y]⟩, ⟨[dT, xT]⟩⟩, ty0, pos, af, gd⟩ t w K tk := by
  show EffT P told _ t w _
  exact effT_still (fun call => by simp only [effect, h, gave]) k
theorem stepR_clear {draw tie : Bool} {x : Operand} {ty : TypeId} {tk : Tok ((⟨d, .call ⟨.builtin .clear, ⟨[x]⟩, ⟨[ty]⟩⟩, ty0, pos, af, gd⟩ : Oper), t, w, K)} {w' : AW}
    (h : clearV (prg P) w (ev t x) ty = some w') (k : Owes (draw && tie) (WLe w w') (K (putTmp t d undef) w') .mk) : StepR P told draw tie ⟨d, .call ⟨.builtin .clear, ⟨[x]⟩, ⟨[ty]⟩⟩, ty0, pos, af, gd⟩ t w K tk := by
  show EffT P told _ t w _
  exact effT_still (fun call => by simp only [effect, h, wrote]) k
end
theorem setsL_cut : ∀ (l c : List Value) (o : Nat), o + l.length ≤ c.length → setsL c o l = c.take o ++ l ++ c.drop (o + l.length)
  | [], c, o, _ => by simp [setsL]
  | v :: l, c, o, h => by
    rw [List.length_cons] at h
    rw [setsL, setsL_cut l _ _ (by rw [setL_eq, List.length_set]; omega), setL_eq, List.drop_set_of_lt (by omega), List.take_succ_eq_append_getElem (by rw [List.length_set]; omega), List.take_set_of_le (Nat.le_refl _)]
    rw [List.length_cons, show o + 1 + l.length = o + (l.length + 1) by omega]
    simp
def setsI (A : List Int) (o : Nat) (xs : List Int) : List Int := A.take o ++ xs ++ A.drop (o + xs.length)
theorem setsI_len {A : List Int} {o : Nat} {xs : List Int} (h : o + xs.length ≤ A.length) : (setsI A o xs).length = A.length := by
  unfold setsI; rw [List.length_append, List.length_append, List.length_take, List.length_drop]; omega
theorem setsI_eq {A : List Int} {o : Nat} {xs : List Int} (h : o + xs.length ≤ A.length) : setsL (A.flatMap icells) o (xs.flatMap icells) = (setsI A o xs).flatMap icells := by
  rw [setsL_cut _ _ _ (by rw [icells_flat_len, icells_flat_len]; exact h), icells_flat_len]
  unfold setsI
  rw [flat_icells, flat_icells, flat_icells, List.map_append, List.map_append, List.map_take, List.map_drop]
theorem stores_ints {w : AW} {b : Nat} {e : TypeId} {A : List Int} (h : Own w b e (A.flatMap icells)) (f : Fresh w) {o : Nat} {xs : List Int} (ho : o + xs.length ≤ A.length) :
    ∃ w', aStores b o (xs.flatMap icells) w = some w' ∧ Own w' b e ((setsI A o xs).flatMap icells) ∧ MutS (fun j => j = b) w w' ∧ w'.next = w.next := by
  cases xs with
  | nil =>
    refine ⟨w, rfl, ?_, MutS.refl f, rfl⟩
    have : setsI A o [] = A := by simp [setsI]
    rw [this]; exact h
  | cons x xs =>
    refine ⟨_, stores_own _ o w _ h (by simp [icells]) (by rw [icells_flat_len, icells_flat_len]; exact ho) (fun v hv => by
      obtain ⟨y, _, hy⟩ := List.mem_flatMap.1 hv
      exact icells_one y v hy), ?_, MutS.put (S := fun j => j = b) f rfl h.lt _, AW.next_put _ _ _⟩
    rw [setsI_eq ho]
    exact h.put _
theorem first_arr {w w' : AW} {v : Value} {L : List Int} (h : ArrOf w 1 icells v L) (k : Keep w.next w w') {n : Nat} (hn : n ≤ L.length) (h0 : 1 ≤ n) : ∃ b o c, v = .slice (some ⟨b, o, none⟩) L.length c ∧ aFirst w' 1 n v = some ((L.take n).flatMap icells) := by
  obtain ⟨p, c, rfl, h1, h2, hat⟩ := h.open
  obtain ⟨b, o, rfl, _⟩ := hat 0 (by omega)
  refine ⟨b, o, c, rfl, ?_⟩
  show aCells w' b o (n * 1) = _
  rw [Nat.mul_one]
  have := aCells_of (w := w') (b := b) ((L.take n).flatMap icells) o fun i v hv => by
    have hi : i < n := by
      have := (List.getElem?_eq_some_iff.1 hv).1
      rw [icells_flat_len, List.length_take] at this; omega
    obtain ⟨b1, o1, e, _, hc⟩ := hat i (by omega)
    injection e with e; injection e with e1 e2
    subst e1 e2
    have := hc w' k 0 _ rfl
    rw [flat_icells, List.getElem?_map, List.getElem?_take, if_pos hi, List.getElem?_eq_getElem (show i < L.length by omega)] at hv
    simp only [Option.map_some, Option.some.injEq] at hv
    subst hv
    simpa using this
  rw [icells_flat_len, List.length_take, Nat.min_eq_left hn] at this
  exact this
theorem copy_ints {g : Prg} {w w0 : AW} {b : Nat} {e e0 : TypeId} {A L : List Int} {ty xty : TypeId} {a1 a2 : Bool} {n1 b1 b2 : Nat} {d2 : TypeDesc} {z1 z2 : Value} (h : g.ty ty = some ⟨a1, .slice e0, n1, b1, z1⟩) (h2 : g.ty e0 = some ⟨a2, d2, 1, b2, z2⟩)
    (hO : Own w b e (A.flatMap icells)) (f : Fresh w) {v : Value} (hv : ArrOf w0 1 icells v L) (k : Keep w0.next w0 w) (h1 : 1 ≤ L.length) (hl : L.length ≤ A.length) {c : Nat} :
    ∃ w', copyV g w (.slice (some ⟨b, 0, none⟩) A.length c) v ty xty = some (.int .i64 (L.length : Int), w') ∧ Own w' b e ((setsI A 0 L).flatMap icells) ∧ MutS (fun j => j = b) w w' ∧ w'.next = w.next := by
  obtain ⟨b1, o1, c1, rfl, hf⟩ := first_arr hv k (Nat.le_refl _) h1
  rw [List.take_of_length_le (Nat.le_refl _)] at hf
  obtain ⟨w', s1, s2, s3, s4⟩ := stores_ints hO f (o := 0) (xs := L) (by omega)
  refine ⟨w', ?_, s2, s3, s4⟩
  have hm : Nat.min L.length A.length = L.length := Nat.min_eq_left hl
  simp only [copyV, h, h2, hm, hf, s1]
  rfl
theorem natOr_nat (d n : Nat) (k : IntKind) : natOr d (some (.int k (n : Int))) = some n := rfl
theorem slice_own {w : AW} {b o n k l m : Nat} {e : TypeId} {c : List Value} (h : Own w b e c) {lo hi : Option Value} (hlo : natOr 0 lo = some l) (hhi : natOr n hi = some m) (h1 : l ≤ m) (h2 : m ≤ k) :
    sliceV w 1 (.slice (some ⟨b, o, none⟩) n k) lo hi = some (.slice (some ⟨b, if l = k then o else o + l, none⟩) (m - l) (k - l)) := by
  have b1 : Nat.ble l m = true := Nat.ble_eq_true_of_le h1
  have b2 : Nat.ble m k = true := Nat.ble_eq_true_of_le h2
  simp only [sliceV, hlo, hhi, b1, b2, Bool.and_self, h.blk]
  by_cases hk : l = k
  · subst hk
    by_cases h0 : l = 0
    · subst h0; simp
    · have : Nat.beq l 0 = false := by cases l with | zero => exact absurd rfl h0 | succ l => rfl
      have h3 : Nat.blt l l = false := Bool.eq_false_iff.2 fun q => by have := Nat.le_of_ble_eq_true q; omega
      simp [this, h3]
  · have h3 : Nat.blt l k = true := by rw [Nat.blt_eq]; omega
    simp [h3, hk]
theorem own_first {w : AW} {b : Nat} {e : TypeId} {A : List Int} (h : Own w b e (A.flatMap icells)) {o n : Nat} (ho : n = 0 ∨ o + n ≤ A.length) : aCells w b o n = some (((A.drop o).take n).flatMap icells) := by
  rcases Nat.eq_zero_or_pos n with rfl | hn
  · simp [aCells]
  have ho : o + n ≤ A.length := by rcases ho with q | q; omega; exact q
  have := aCells_of (w := w) (b := b) (((A.drop o).take n).flatMap icells) o fun i v hv => by
    have hi : i < n := by
      have := (List.getElem?_eq_some_iff.1 hv).1
      rw [icells_flat_len, List.length_take] at this; omega
    rw [flat_icells, List.getElem?_map, List.getElem?_take, if_pos hi, List.getElem?_drop, List.getElem?_eq_getElem (show o + i < A.length by omega)] at hv
    simp only [Option.map_some, Option.some.injEq] at hv
    subst hv
    have := h.icell (i := o + i) (by omega)
    rw [this]
    congr 2
    simp [W, show o + i < A.length by omega]
  rw [icells_flat_len, List.length_take, List.length_drop, Nat.min_eq_left (by omega)] at this
  exact this
theorem append_room {g : Prg} {w : AW} {b : Nat} {e e0 : TypeId} {A xs : List Int} {ty : TypeId} {a1 a2 : Bool} {n1 b1 b2 : Nat} {d2 : TypeDesc} {z1 z2 : Value} (h : g.ty ty = some ⟨a1, .slice e0, n1, b1, z1⟩) (h2 : g.ty e0 = some ⟨a2, d2, 1, b2, z2⟩) (hz : z2.cells.size = 1) (hb2 : b2 ≤ 1048576)
    (hO : Own w b e (A.flatMap icells)) (f : Fresh w) {i n cap c : Nat} {p : Option Addr} (hnew : aNew w 1 n (.slice p n c) = some (xs.flatMap icells)) (hx : xs.length = n) (hc : i + n ≤ cap) (hA : i + n ≤ A.length) (hs : i + n ≤ 1048576) :
    ∃ w', append g w ty ty (.slice (some ⟨b, 0, none⟩) i cap) (.slice p n c) = some (.slice (some ⟨b, 0, none⟩) (i + n) cap, w') ∧ Own w' b e ((setsI A i xs).flatMap icells) ∧ MutS (fun j => j = b) w w' ∧ w'.next = w.next := by
  obtain ⟨w', s1, s2, s3, s4⟩ := stores_ints hO f (o := i) (xs := xs) (by omega)
  refine ⟨w', ?_, s2, s3, s4⟩
  have hm := Nat.mul_le_mul hs hb2
  have c1 : (Nat.beq z2.cells.size 1 && Nat.ble (i + n) room && Nat.ble ((i + n) * b2) room && Nat.ble 1 1 && Nat.beq ty ty) = true := by
    have a : Nat.ble (i + n) room = true := Nat.ble_eq_true_of_le (by unfold room; omega)
    have b : Nat.ble ((i + n) * b2) room = true := Nat.ble_eq_true_of_le (by unfold room; omega)
    simp [a, b, hz]
  have c2 : Nat.ble (i + n) cap = true := Nat.ble_eq_true_of_le hc
  unfold append
  simp only [h, h2, c1, hnew, c2, Nat.zero_add, Nat.mul_one, s1]
theorem AOwn.mutR {B r : Nat} {w w' : AW} {e : TypeId} {size n : Nat} {v : Value} {cells : List Value} (h : AOwn B w e size v n cells) (k : MutS (fun j => j = r) w w') (hr : r < B) : AOwn B w' e size v n cells :=
  AOwnS.other (S := fun j => B ≤ j) h k fun j q e => by omega
theorem Own.keepR {w w' : AW} {B c : Nat} {e : TypeId} {l : List Value} (h : Own w c e l) (k : Keep B w w') (q : c < B) : Own w' c e l :=
  ⟨by rw [k.blk _ q]; exact h.blk, by rw [k.fam _ q]; exact h.fam, by have := h.lt; have := k.next; omega⟩
end Go.Sim

namespace Go.Proofs
open Go Go.RowKit Go.Sim
set_option maxRecDepth 100000
theorem icells_ones (A : List Int) : ∀ v ∈ A.flatMap icells, oneCell v = true := fun v hv => by
  obtain ⟨y, _, hy⟩ := List.mem_flatMap.1 hv
  exact icells_one y v hy
theorem small9 {n : Nat} (h : n ≤ 8) : n = 0 ∨ n = 1 ∨ n = 2 ∨ n = 3 ∨ n = 4 ∨ n = 5 ∨ n = 6 ∨ n = 7 ∨ n = 8 := by omega
theorem orders_ok (n : Nat) (h : n ≤ 8) (w : AW) : CallT Try.prog Try.T1 (.fn (.func 93) #[]) #[.int .i64 (n : Int)] w (Ret (.int .i64 (fct n : Int)) fun w' => w = w') := by
  rcases small9 h with rfl | rfl | rfl | rfl | rfl | rfl | rfl | rfl | rfl <;> exact callT_told (w' := w) rfl ⟨rfl, rfl⟩
def firstI (n : Nat) : List Int := (List.range 8).map fun (i : Nat) => if i < n then (i : Int) else 0
theorem firstI_len (n : Nat) : (firstI n).length = 8 := by simp [firstI]
theorem first_ok (n : Nat) (h : n ≤ 8) (h1 : 1 ≤ n) (w : AW) : CallT Try.prog Try.T1 (.fn (.func 118) #[]) #[.int .i64 (n : Int)] w (Ret (.agg ((firstI n).flatMap icells).toArray) fun w' => w = w') := by
  rcases small9 h with rfl | rfl | rfl | rfl | rfl | rfl | rfl | rfl | rfl
  · omega
  all_goals exact callT_told (w' := w) rfl ⟨rfl, rfl⟩
theorem fct_le {n : Nat} (h : n ≤ 8) : fct n ≤ 40320 := by
  rcases small9 h with rfl | rfl | rfl | rfl | rfl | rfl | rfl | rfl | rfl <;> decide
theorem isMany_ok (n : Int) (w : AW) : CallT Try.prog Try.T1 (.fn (.func 88) #[]) #[.int .i64 n] w (Ret (.bool (inR 1 n 8)) fun w' => w = w') := by
  refine callT_code rfl Try.func88 rfl Try.s88_eq rfl ?_
  unfold Try.s88
  simp -dsimp -implicitDefEqProofs (maxSteps := 2000000) (disch := first | assumption | omega | (simp only [nx]; omega) | ((repeat refine Fresh.push ?_ _); assumption) | (simp only [smA]; done) | (simp [oneCell, AW.next_push]; done) | fail) only [go_sem, Nat.reduceEqDiff, reduceIte, Nat.reduceAdd, Int.toNat_natCast, Nat.add_zero, Owes_true, Try.results88]
  apply callV_of (e := rfl)
  · exact within_ok _ _ _ _
  rintro _ _ ⟨rfl, rfl⟩
  simp -dsimp -implicitDefEqProofs (maxSteps := 2000000) (disch := first | assumption | omega | (simp only [nx]; omega) | ((repeat refine Fresh.push ?_ _); assumption) | (simp only [smA]; done) | (simp [oneCell, AW.next_push]; done) | fail) only [go_sem, Nat.reduceEqDiff, reduceIte, Nat.reduceAdd, Int.toNat_natCast, Nat.add_zero, Owes_true, Try.results88]
  exact ⟨rfl, rfl⟩
theorem isRank_ok (n : Nat) (h : n ≤ 8) (r : Int) (w : AW) : CallT Try.prog Try.T1 (.fn (.func 89) #[]) #[.int .i64 (n : Int), .int .i64 r] w (Ret (.bool (inR 0 r ((fct n : Int) - 1))) fun w' => w = w') := by
  have := fct_le h
  refine callT_code rfl Try.func89 rfl Try.s89_eq rfl ?_
  unfold Try.s89
  simp -dsimp -implicitDefEqProofs (maxSteps := 2000000) (disch := first | assumption | omega | (simp only [nx]; omega) | ((repeat refine Fresh.push ?_ _); assumption) | (simp only [smA]; done) | (simp [oneCell, AW.next_push]; done) | fail) only [go_sem, Nat.reduceEqDiff, reduceIte, Nat.reduceAdd, Int.toNat_natCast, Nat.add_zero, Owes_true, Try.results89]
  apply callV_of (e := rfl)
  · exact orders_ok n h w
  rintro _ _ ⟨rfl, rfl⟩
  simp -dsimp -implicitDefEqProofs (maxSteps := 2000000) (disch := first | assumption | omega | (simp only [nx]; omega) | ((repeat refine Fresh.push ?_ _); assumption) | (simp only [smA]; done) | (simp [oneCell, AW.next_push]; done) | fail) only [go_sem, Nat.reduceEqDiff, reduceIte, Nat.reduceAdd, Int.toNat_natCast, Nat.add_zero, Owes_true, Try.results89]
  apply callV_of (e := rfl)
  · exact within_ok _ _ _ _
  rintro _ _ ⟨rfl, rfl⟩
  simp -dsimp -implicitDefEqProofs (maxSteps := 2000000) (disch := first | assumption | omega | (simp only [nx]; omega) | ((repeat refine Fresh.push ?_ _); assumption) | (simp only [smA]; done) | (simp [oneCell, AW.next_push]; done) | fail) only [go_sem, Nat.reduceEqDiff, reduceIte, Nat.reduceAdd, Int.toNat_natCast, Nat.add_zero, Owes_true, Try.results89]
  exact ⟨rfl, rfl⟩
theorem Try.sl22a (t : Tmps) (w : AW) (x hi : Operand) : fast (prg Try.prog) t w (.slice 22 x none (some hi) none) = sliceV w 1 (ev t x) none (some (ev t hi)) := by simp only [fast, Try.ty22, Try.ty3]; rfl
theorem Try.sl22b (t : Tmps) (w : AW) (x lo : Operand) : fast (prg Try.prog) t w (.slice 22 x (some lo) none none) = sliceV w 1 (ev t x) (some (ev t lo)) none := by simp only [fast, Try.ty22, Try.ty3]; rfl
theorem Try.sl22c (t : Tmps) (w : AW) (x lo hi : Operand) : fast (prg Try.prog) t w (.slice 22 x (some lo) (some hi) none) = sliceV w 1 (ev t x) (some (ev t lo)) (some (ev t hi)) := by simp only [fast, Try.ty22, Try.ty3]; rfl
theorem Try.sl123a (t : Tmps) (w : AW) (x hi : Operand) : fast (prg Try.prog) t w (.slice 123 x none (some hi) none) = slicePV 8 1 (ev t x) none (some (ev t hi)) := by simp only [fast, Try.ty123, Try.ty3]; rfl
theorem slicePV_8n (b n : Nat) (h : n ≤ 8) : slicePV 8 1 (.pointer (some ⟨b, 0, none⟩)) none (some (.int .i64 (n : Int))) = some (.slice (some ⟨b, 0, none⟩) n 8) := by
  have b1 : Nat.ble 0 n = true := Nat.ble_eq_true_of_le (Nat.zero_le _)
  have b2 : Nat.ble n 8 = true := Nat.ble_eq_true_of_le h
  show (match (some 0 : Option Nat), some n with | some l, some h => (match Nat.ble l h && Nat.ble h 8 with | true => some (Value.slice (some ⟨b, bif Nat.beq 8 l then 0 else 0 + l * 1, none⟩) (h - l) (8 - l)) | false => none) | _, _ => none) = _
  simp only [b1, b2, Bool.and_self]
  rfl
theorem Try.sl22m (t : Tmps) (w : AW) (x lo hi mx : Operand) : fast (prg Try.prog) t w (.slice 22 x (some lo) (some hi) (some mx)) = sliceMV 1 (ev t x) (some (ev t lo)) (some (ev t hi)) (some (ev t mx)) := by simp only [fast, Try.ty22, Try.ty3]; rfl
attribute [go_sem] Try.sl22m Try.sl22a Try.sl22b Try.sl22c Try.sl123a
theorem taken_out {A : List Int} {m i : Nat} (hA : A.length = 8) (hi : i < m) (hm : m ≤ 8) :
    (setsI (setsI A i ((A.drop (i + 1)).take (m - 1 - i))) (m - 1) [0]).take (m - 1) = (A.take m).eraseIdx i := by
  have hx : ((A.drop (i + 1)).take (m - 1 - i)).length = m - 1 - i := by rw [List.length_take, List.length_drop]; omega
  generalize hxx : (A.drop (i + 1)).take (m - 1 - i) = xs at *
  have hB : (setsI A i xs).length = 8 := by rw [setsI_len (by omega)]; exact hA
  have h1 : (setsI (setsI A i xs) (m - 1) [0]).take (m - 1) = (setsI A i xs).take (m - 1) := by
    conv => lhs; unfold setsI
    rw [List.append_assoc, List.take_append_of_le_length (by rw [List.length_take]; unfold setsI at hB; omega), List.take_take, Nat.min_self]
    rfl
  have h2 : (setsI A i xs).take (m - 1) = A.take i ++ xs := by
    unfold setsI
    rw [List.take_append_of_le_length (by rw [List.length_append, List.length_take]; omega), List.take_of_length_le (by rw [List.length_append, List.length_take]; omega)]
  rw [h1, h2, List.eraseIdx_eq_take_drop_succ, List.take_take, Nat.min_eq_left (by omega), List.drop_take, ← hxx]
  congr 2
  omega
set_option maxHeartbeats 4000000 in
theorem Delete_ok (A : List Int) (hA : A.length = 8) (m i : Nat) (hi : i < m) (hm : m ≤ 8) (b : Nat) (w : AW) (f : Fresh w) (hO : Own w b 123 (A.flatMap icells)) :
    CallT Try.prog Try.T1 (.fn (.func 119) #[]) #[.slice (some ⟨b, 0, none⟩) m 8, .int .i64 (i : Int), .int .i64 ((i : Int) + 1)] w (fun r w' => r = .slice (some ⟨b, 0, none⟩) (m - 1) 8 ∧ w'.next = w.next ∧
      ∃ A' : List Int, A'.length = 8 ∧ A'.take (m - 1) = (A.take m).eraseIdx i ∧ Own w' b 123 (A'.flatMap icells) ∧ MutS (fun j => j = b) w w') := by
  have hne : decide ((i : Int) = (i : Int) + 1) = false := decide_eq_false (by omega)
  have hcast : (i : Int) + 1 = ((i + 1 : Nat) : Int) := by omega
  rw [hcast] at hne ⊢
  have s1 : sliceMV 1 (.slice (some ⟨b, 0, none⟩) m 8) (some (.int .i64 (i : Int))) (some (.int .i64 ((i + 1 : Nat) : Int))) (some (.int .i64 (m : Int))) = some (.slice (some ⟨b, i, none⟩) 1 (m - i)) := by
    have b1 : Nat.ble i (i + 1) = true := Nat.ble_eq_true_of_le (by omega)
    have b2 : Nat.ble (i + 1) m = true := Nat.ble_eq_true_of_le (by omega)
    have b3 : Nat.ble m 8 = true := Nat.ble_eq_true_of_le hm
    have b4 : Nat.beq m i = false := Bool.eq_false_iff.2 fun q => by have := Nat.eq_of_beq_eq_true q; omega
    show (match Nat.ble i (i + 1) && Nat.ble (i + 1) m && Nat.ble m 8 with | true => some (Value.slice (some ⟨b, bif Nat.beq m i then 0 else 0 + i * 1, none⟩) (i + 1 - i) (m - i)) | false => none) = _
    simp only [b1, b2, b3, b4, Bool.and_self, cond_false, Nat.zero_add, Nat.mul_one]
    rw [show i + 1 - i = 1 by omega]
  have s2 : sliceV w 1 (.slice (some ⟨b, 0, none⟩) m 8) none (some (.int .i64 (i : Int))) = some (.slice (some ⟨b, 0, none⟩) i 8) := slice_own (o := 0) (n := m) (k := 8) (lo := none) (hi := some (.int .i64 (i : Int))) hO rfl (natOr_nat m i .i64) (by omega) (by omega)
  have s3 := slice_own (o := 0) (n := m) (k := 8) (lo := some (.int .i64 ((i + 1 : Nat) : Int))) (hi := none) hO (natOr_nat 0 (i + 1) .i64) rfl (by omega) (by omega)
  have hx : ((A.drop (i + 1)).take (m - 1 - i)).length = m - (i + 1) := by rw [List.length_take, List.length_drop]; omega
  obtain ⟨w2, p1, p2, p3, p4⟩ := append_room (xs := (A.drop (i + 1)).take (m - 1 - i)) (i := i) (n := m - (i + 1)) (cap := 8) (c := 8 - (i + 1)) (p := some ⟨b, if i + 1 = 8 then 0 else 0 + (i + 1), none⟩) Try.ty22 Try.ty3 rfl (by omega) hO f (by
    have : aCells w b (if i + 1 = 8 then 0 else 0 + (i + 1)) (m - (i + 1)) = some (((A.drop (i + 1)).take (m - 1 - i)).flatMap icells) := by
      by_cases h8 : i + 1 = 8
      · rw [if_pos h8]
        have hz : m - (i + 1) = 0 := by omega
        have hz2 : m - 1 - i = 0 := by omega
        rw [hz, hz2]; simp [aCells]
      · rw [if_neg h8, Nat.zero_add, own_first hO (.inr (by omega))]
        rw [show m - (i + 1) = m - 1 - i by omega]
    simp only [aNew, aFirst, Nat.mul_one, this]) hx (by omega) (by omega) (by omega)
  have hB : (setsI A i ((A.drop (i + 1)).take (m - 1 - i))).length = 8 := by rw [setsI_len (by omega)]; exact hA
  have hmi : i + (m - (i + 1)) = m - 1 := by omega
  rw [hmi] at p1
  have s4 := slice_own (o := 0) (n := m - 1) (k := 8) (lo := some (.int .i64 ((m - 1 : Nat) : Int))) (hi := some (.int .i64 (m : Int))) p2 (natOr_nat 0 (m - 1) .i64) (natOr_nat (m - 1) m .i64) (by omega) (by omega)
  obtain ⟨w3, q1, q2, q3, q4⟩ := stores_ints p2 p3.fresh (o := m - 1) (xs := [0]) (by simp; omega)
  have s1' : m - (m - 1) = 1 := by omega
  have hcl : clearV (prg Try.prog) w2 (.slice (some ⟨b, if m - 1 = 8 then 0 else 0 + (m - 1), none⟩) (m - (m - 1)) (8 - (m - 1))) 22 = some w3 := by
    rw [s1', if_neg (by omega), Nat.zero_add]
    simp only [clearV, Try.ty22, Try.ty3]
    exact q1
  rw [if_neg (by omega), Nat.zero_add] at hcl s4
  generalize (if i + 1 = 8 then 0 else 0 + (i + 1)) = o3 at s3 p1
  have htk := taken_out hA hi hm
  have hlen3 : (setsI (setsI A i ((A.drop (i + 1)).take (m - 1 - i))) (m - 1) [0]).length = 8 := by rw [setsI_len (by simp; omega)]; exact hB
  generalize setsI (setsI A i ((A.drop (i + 1)).take (m - 1 - i))) (m - 1) [0] = A3 at *
  refine callT_code rfl Try.func119 rfl Try.s119_eq rfl ?_
  unfold Try.s119
  simp -dsimp -implicitDefEqProofs (maxSteps := 2000000) (disch := first | assumption | omega | (simp only [nx]; omega) | ((repeat refine Fresh.push ?_ _); assumption) | (simp only [smA]; done) | (simp [oneCell, AW.next_push]; done) | fail) only [go_sem, Nat.reduceEqDiff, reduceIte, Nat.reduceAdd, Int.toNat_natCast, Nat.add_zero, Owes_true, Try.results119, s1, hne, s2, s3, p1, s4]
  refine stepR_clear (by simp -dsimp -implicitDefEqProofs (maxSteps := 2000000) (disch := first | assumption | omega | (simp only [nx]; omega) | ((repeat refine Fresh.push ?_ _); assumption) | (simp only [smA]; done) | (simp [oneCell, AW.next_push]; done) | fail) only [go_sem, Nat.reduceEqDiff, reduceIte, Nat.reduceAdd, Int.toNat_natCast, Nat.add_zero, Owes_true, s4]; exact hcl) ?_
  simp -dsimp -implicitDefEqProofs (maxSteps := 2000000) (disch := first | assumption | omega | (simp only [nx]; omega) | ((repeat refine Fresh.push ?_ _); assumption) | (simp only [smA]; done) | (simp [oneCell, AW.next_push]; done) | fail) only [go_sem, Nat.reduceEqDiff, reduceIte, Nat.reduceAdd, Int.toNat_natCast, Nat.add_zero, Owes_true, Try.results119]
  exact ⟨trivial, by omega, A3, hlen3, htk, q2, p3.trans q3 (Within.refl _ _)⟩
end Go.Proofs
