/- This program: its code, contracts, numbers, part 2. -/
import Derived.Test.YtlilncofnckgdaaPaa
import Derived.Test.YtlilncofnckgdaaNa
import Derived.Test.YtlilncofnckgdaaNc
import Derived.Test.YtlilncofnckgdaaChecked
import Derived.Test.YtlilncofnckgdaaSh
import Derived.Test.YtlilncofnckgdaaSf
import Derived.Test.YtlilncofnckgdaaCz
set_option linter.unusedVariables false
set_option linter.unusedSimpArgs false
namespace Go.Proofs
open Go Go.RowKit Go.Sim
set_option maxRecDepth 100000
def Try.s86 : SC := (.seq (.ops false [⟨⟨(some 2),.assign (.const (.bool false)),4,"",⟨[]⟩,none⟩,none,false⟩]) (.seq (.seq (.ops false [⟨⟨(some 4),.move (.tmp 0),22,"",⟨[]⟩,none⟩,none,false⟩,⟨⟨(some 5),.call ⟨.builtin .len,⟨[(.tmp 4)]⟩,⟨[22]⟩⟩,3,"",⟨[]⟩,none⟩,none,false⟩,⟨⟨(some 6),.call ⟨.value (.func 88),⟨[(.tmp 5)]⟩,⟨[3]⟩⟩,4,"",⟨[]⟩,none⟩,none,false⟩,⟨⟨(some 7),.unOp .not 4 (.tmp 6),4,"",⟨[]⟩,none⟩,none,false⟩]) (.cond (.tmp 7) (.seq (.ops false [⟨⟨(some 2),.assign (.const (.bool false)),4,"",⟨[]⟩,none⟩,none,false⟩]) .ret) .skip)) (.seq (.ops false [⟨⟨(some 3),.alloc 123,0,"",⟨[]⟩,none⟩,none,false⟩]) (.seq (.ops false [⟨⟨(some 8),.slice 123 (.tmp 3) none none none,22,"",⟨[]⟩,none⟩,none,false⟩,⟨⟨(some 9),.move (.tmp 0),22,"",⟨[]⟩,none⟩,none,false⟩,⟨⟨(some 10),.call ⟨.builtin .copy,⟨[(.tmp 8),(.tmp 9)]⟩,⟨[22,22]⟩⟩,3,"",⟨[]⟩,none⟩,none,false⟩,⟨⟨(some 11),.slice 123 (.tmp 3) none (some (.tmp 10)) none,22,"",⟨[]⟩,none⟩,none,false⟩,⟨⟨(some 12),.call ⟨.value (.func 117),⟨[(.tmp 11)]⟩,⟨[22]⟩⟩,0,"",⟨[]⟩,none⟩,none,false⟩]) (.seq (.ops true [⟨⟨(some 13),.load 123 (.tmp 3),123,"",⟨[]⟩,none⟩,none,true⟩,⟨⟨(some 14),.move (.tmp 0),22,"",⟨[]⟩,none⟩,none,true⟩,⟨⟨(some 15),.call ⟨.builtin .len,⟨[(.tmp 14)]⟩,⟨[22]⟩⟩,3,"",⟨[]⟩,none⟩,none,true⟩,⟨⟨(some 16),.call ⟨.value (.func 118),⟨[(.tmp 15)]⟩,⟨[3]⟩⟩,123,"",⟨[]⟩,none⟩,none,true⟩,⟨⟨(some 17),.binOp .eql 123 (.tmp 13) (.tmp 16) 123,4,"",⟨[]⟩,none⟩,none,true⟩,⟨⟨(some 2),.assign (.tmp 17),4,"",⟨[]⟩,none⟩,none,true⟩]) .ret)))))
def Try.s88 : SC := (.seq (.ops false [⟨⟨(some 2),.assign (.const (.bool false)),4,"",⟨[]⟩,none⟩,none,false⟩]) (.seq (.ops false [⟨⟨(some 3),.move (.tmp 0),3,"",⟨[]⟩,none⟩,none,false⟩,⟨⟨(some 4),.call ⟨.value (.func 64),⟨[(.tmp 3),(.const (.int .i64 1)),(.const (.int .i64 8))]⟩,⟨[3,3,3]⟩⟩,4,"",⟨[]⟩,none⟩,none,false⟩,⟨⟨(some 2),.assign (.tmp 4),4,"",⟨[]⟩,none⟩,none,false⟩]) .ret))
def Try.s89 : SC := (.seq (.ops false [⟨⟨(some 4),.assign (.const (.bool false)),4,"",⟨[]⟩,none⟩,none,false⟩]) (.seq (.ops false [⟨⟨(some 5),.move (.tmp 1),3,"",⟨[]⟩,none⟩,none,false⟩,⟨⟨(some 6),.move (.tmp 0),3,"",⟨[]⟩,none⟩,none,false⟩,⟨⟨(some 7),.call ⟨.value (.func 93),⟨[(.tmp 6)]⟩,⟨[3]⟩⟩,3,"",⟨[]⟩,none⟩,none,false⟩,⟨⟨(some 8),.binOp .sub 3 (.tmp 7) (.const (.int .i64 1)) 3,3,"",⟨[]⟩,none⟩,none,false⟩,⟨⟨(some 9),.call ⟨.value (.func 64),⟨[(.tmp 5),(.const (.int .i64 0)),(.tmp 8)]⟩,⟨[3,3,3]⟩⟩,4,"",⟨[]⟩,none⟩,none,false⟩,⟨⟨(some 4),.assign (.tmp 9),4,"",⟨[]⟩,none⟩,none,false⟩]) .ret))
def Try.s90 : SC := (.seq (.ops false [⟨⟨(some 4),.assign (.const (.slice none 0 0)),22,"",⟨[]⟩,none⟩,none,false⟩]) (.seq (.ops false [⟨⟨(some 10),.move (.tmp 0),3,"",⟨[]⟩,none⟩,none,false⟩,⟨⟨(some 11),.call ⟨.value (.func 118),⟨[(.tmp 10)]⟩,⟨[3]⟩⟩,123,"",⟨[]⟩,none⟩,none,false⟩,⟨⟨(some 5),.alloc 123,0,"",⟨[]⟩,none⟩,none,false⟩,⟨⟨none,.store 123 (.tmp 5) (.tmp 11),0,"",⟨[]⟩,none⟩,none,false⟩]) (.seq (.ops false [⟨⟨(some 12),.move (.tmp 0),3,"",⟨[]⟩,none⟩,none,false⟩,⟨⟨(some 13),.slice 123 (.tmp 5) none (some (.tmp 12)) none,22,"",⟨[]⟩,none⟩,none,false⟩,⟨⟨(some 6),.assign (.tmp 13),22,"",⟨[]⟩,none⟩,none,false⟩]) (.seq (.ops false [⟨⟨(some 7),.assign (.const (.slice none 0 0)),22,"",⟨[]⟩,none⟩,none,false⟩]) (.seq (.block 0 (.loop (.seq (.seq (.ops false [⟨⟨(some 14),.move (.tmp 6),22,"",⟨[]⟩,none⟩,none,false⟩,⟨⟨(some 15),.call ⟨.builtin .len,⟨[(.tmp 14)]⟩,⟨[22]⟩⟩,3,"",⟨[]⟩,none⟩,none,false⟩,⟨⟨(some 16),.binOp .gtr 3 (.tmp 15) (.const (.int .i64 0)) 3,4,"",⟨[]⟩,none⟩,none,false⟩]) (.cond (.tmp 16) .skip (.exit 0))) (.block 1 (.seq (.ops false [⟨⟨(some 17),.move (.tmp 6),22,"",⟨[]⟩,none⟩,none,false⟩,⟨⟨(some 18),.call ⟨.builtin .len,⟨[(.tmp 17)]⟩,⟨[22]⟩⟩,3,"",⟨[]⟩,none⟩,none,false⟩,⟨⟨(some 19),.binOp .sub 3 (.tmp 18) (.const (.int .i64 1)) 3,3,"",⟨[]⟩,none⟩,none,false⟩,⟨⟨(some 20),.call ⟨.value (.func 93),⟨[(.tmp 19)]⟩,⟨[3]⟩⟩,3,"",⟨[]⟩,none⟩,none,false⟩,⟨⟨(some 8),.assign (.tmp 20),3,"",⟨[]⟩,none⟩,none,false⟩]) (.seq (.ops false [⟨⟨(some 21),.move (.tmp 1),3,"",⟨[]⟩,none⟩,none,false⟩,⟨⟨(some 22),.move (.tmp 8),3,"",⟨[]⟩,none⟩,none,false⟩,⟨⟨(some 23),.binOp .quo 3 (.tmp 21) (.tmp 22) 3,3,"",⟨[]⟩,none⟩,none,false⟩,⟨⟨(some 9),.assign (.tmp 23),3,"",⟨[]⟩,none⟩,none,false⟩]) (.seq (.ops false [⟨⟨(some 24),.move (.tmp 1),3,"",⟨[]⟩,none⟩,none,false⟩,⟨⟨(some 25),.move (.tmp 8),3,"",⟨[]⟩,none⟩,none,false⟩,⟨⟨(some 26),.binOp .rem 3 (.tmp 24) (.tmp 25) 3,3,"",⟨[]⟩,none⟩,none,false⟩,⟨⟨(some 1),.assign (.tmp 26),3,"",⟨[]⟩,none⟩,none,false⟩]) (.seq (.ops false [⟨⟨(some 27),.move (.tmp 7),22,"",⟨[]⟩,none⟩,none,false⟩,⟨⟨(some 28),.move (.tmp 6),22,"",⟨[]⟩,none⟩,none,false⟩,⟨⟨(some 29),.move (.tmp 9),3,"",⟨[]⟩,none⟩,none,false⟩,⟨⟨(some 30),.indexAddr 22 (.tmp 28) (.tmp 29),0,"",⟨[]⟩,none⟩,none,false⟩,⟨⟨(some 31),.load 3 (.tmp 30),3,"",⟨[]⟩,none⟩,none,false⟩,⟨⟨(some 32),.buildSlice 22 1 ⟨[(0,(.tmp 31))]⟩,22,"",⟨[]⟩,none⟩,none,false⟩,⟨⟨(some 33),.call ⟨.builtin .append,⟨[(.tmp 27),(.tmp 32)]⟩,⟨[22,22]⟩⟩,22,"",⟨[]⟩,none⟩,none,false⟩,⟨⟨(some 7),.assign (.tmp 33),22,"",⟨[]⟩,none⟩,none,false⟩]) (.ops false [⟨⟨(some 34),.move (.tmp 6),22,"",⟨[]⟩,none⟩,none,false⟩,⟨⟨(some 35),.move (.tmp 9),3,"",⟨[]⟩,none⟩,none,false⟩,⟨⟨(some 36),.move (.tmp 9),3,"",⟨[]⟩,none⟩,none,false⟩,⟨⟨(some 37),.binOp .add 3 (.tmp 36) (.const (.int .i64 1)) 3,3,"",⟨[]⟩,none⟩,none,false⟩,⟨⟨(some 38),.call ⟨.value (.func 119),⟨[(.tmp 34),(.tmp 35),(.tmp 37)]⟩,⟨[22,3,3]⟩⟩,22,"",⟨[]⟩,none⟩,none,false⟩,⟨⟨(some 6),.assign (.tmp 38),22,"",⟨[]⟩,none⟩,none,false⟩]))))))))) (.seq (.ops false [⟨⟨(some 39),.move (.tmp 7),22,"",⟨[]⟩,none⟩,none,false⟩,⟨⟨(some 4),.assign (.tmp 39),22,"",⟨[]⟩,none⟩,none,false⟩]) .ret))))))
def Try.s91 : SC := (.seq (.ops false [⟨⟨(some 4),.assign (.const (.slice none 0 0)),22,"",⟨[]⟩,none⟩,none,false⟩]) (.seq (.ops false [⟨⟨(some 5),.assign (.const (.slice none 0 0)),22,"",⟨[]⟩,none⟩,none,false⟩,⟨⟨(some 6),.assign (.const (.slice none 0 0)),22,"",⟨[]⟩,none⟩,none,false⟩]) (.seq (.seq (.ops false [⟨⟨(some 7),.assign (.const (.int .i64 0)),3,"",⟨[]⟩,none⟩,none,false⟩]) (.block 0 (.loop (.seq (.seq (.ops false [⟨⟨(some 10),.move (.tmp 7),3,"",⟨[]⟩,none⟩,none,false⟩,⟨⟨(some 11),.move (.tmp 0),3,"",⟨[]⟩,none⟩,none,false⟩,⟨⟨(some 12),.binOp .lss 3 (.tmp 10) (.tmp 11) 3,4,"",⟨[]⟩,none⟩,none,false⟩]) (.cond (.tmp 12) .skip (.exit 0))) (.seq (.block 1 (.ops false [⟨⟨(some 15),.move (.tmp 5),22,"",⟨[]⟩,none⟩,none,false⟩,⟨⟨(some 16),.move (.tmp 7),3,"",⟨[]⟩,none⟩,none,false⟩,⟨⟨(some 17),.buildSlice 22 1 ⟨[(0,(.tmp 16))]⟩,22,"",⟨[]⟩,none⟩,none,false⟩,⟨⟨(some 18),.call ⟨.builtin .append,⟨[(.tmp 15),(.tmp 17)]⟩,⟨[22,22]⟩⟩,22,"",⟨[]⟩,none⟩,none,false⟩,⟨⟨(some 5),.assign (.tmp 18),22,"",⟨[]⟩,none⟩,none,false⟩])) (.ops false [⟨⟨(some 13),.move (.tmp 7),3,"",⟨[]⟩,none⟩,none,false⟩,⟨⟨(some 14),.binOp .add 3 (.tmp 13) (.const (.int .i64 1)) 3,3,"",⟨[]⟩,none⟩,none,false⟩,⟨⟨(some 7),.assign (.tmp 14),3,"",⟨[]⟩,none⟩,none,false⟩])))))) (.seq (.seq (.ops false [⟨⟨(some 8),.assign (.const (.int .i64 0)),3,"",⟨[]⟩,none⟩,none,false⟩]) (.block 2 (.loop (.seq (.seq (.ops false [⟨⟨(some 19),.move (.tmp 8),3,"",⟨[]⟩,none⟩,none,false⟩,⟨⟨(some 20),.move (.tmp 0),3,"",⟨[]⟩,none⟩,none,false⟩,⟨⟨(some 21),.binOp .lss 3 (.tmp 19) (.tmp 20) 3,4,"",⟨[]⟩,none⟩,none,false⟩]) (.cond (.tmp 21) .skip (.exit 2))) (.seq (.block 3 (.seq (.ops false [⟨⟨(some 24),.move (.tmp 1),3,"",⟨[]⟩,none⟩,none,false⟩,⟨⟨(some 25),.move (.tmp 0),3,"",⟨[]⟩,none⟩,none,false⟩,⟨⟨(some 26),.binOp .sub 3 (.tmp 25) (.const (.int .i64 1)) 3,3,"",⟨[]⟩,none⟩,none,false⟩,⟨⟨(some 27),.move (.tmp 8),3,"",⟨[]⟩,none⟩,none,false⟩,⟨⟨(some 28),.binOp .sub 3 (.tmp 26) (.tmp 27) 3,3,"",⟨[]⟩,none⟩,none,false⟩,⟨⟨(some 29),.call ⟨.value (.func 87),⟨[(.tmp 28)]⟩,⟨[3]⟩⟩,3,"",⟨[]⟩,none⟩,none,false⟩,⟨⟨(some 30),.binOp .quo 3 (.tmp 24) (.tmp 29) 3,3,"",⟨[]⟩,none⟩,none,false⟩,⟨⟨(some 9),.assign (.tmp 30),3,"",⟨[]⟩,none⟩,none,false⟩]) (.seq (.ops false [⟨⟨(some 31),.move (.tmp 1),3,"",⟨[]⟩,none⟩,none,false⟩,⟨⟨(some 32),.move (.tmp 0),3,"",⟨[]⟩,none⟩,none,false⟩,⟨⟨(some 33),.binOp .sub 3 (.tmp 32) (.const (.int .i64 1)) 3,3,"",⟨[]⟩,none⟩,none,false⟩,⟨⟨(some 34),.move (.tmp 8),3,"",⟨[]⟩,none⟩,none,false⟩,⟨⟨(some 35),.binOp .sub 3 (.tmp 33) (.tmp 34) 3,3,"",⟨[]⟩,none⟩,none,false⟩,⟨⟨(some 36),.call ⟨.value (.func 87),⟨[(.tmp 35)]⟩,⟨[3]⟩⟩,3,"",⟨[]⟩,none⟩,none,false⟩,⟨⟨(some 37),.binOp .rem 3 (.tmp 31) (.tmp 36) 3,3,"",⟨[]⟩,none⟩,none,false⟩,⟨⟨(some 1),.assign (.tmp 37),3,"",⟨[]⟩,none⟩,none,false⟩]) (.seq (.ops false [⟨⟨(some 38),.move (.tmp 6),22,"",⟨[]⟩,none⟩,none,false⟩,⟨⟨(some 39),.move (.tmp 5),22,"",⟨[]⟩,none⟩,none,false⟩,⟨⟨(some 40),.move (.tmp 9),3,"",⟨[]⟩,none⟩,none,false⟩,⟨⟨(some 41),.indexAddr 22 (.tmp 39) (.tmp 40),0,"",⟨[]⟩,none⟩,none,false⟩,⟨⟨(some 42),.load 3 (.tmp 41),3,"",⟨[]⟩,none⟩,none,false⟩,⟨⟨(some 43),.buildSlice 22 1 ⟨[(0,(.tmp 42))]⟩,22,"",⟨[]⟩,none⟩,none,false⟩,⟨⟨(some 44),.call ⟨.builtin .append,⟨[(.tmp 38),(.tmp 43)]⟩,⟨[22,22]⟩⟩,22,"",⟨[]⟩,none⟩,none,false⟩,⟨⟨(some 6),.assign (.tmp 44),22,"",⟨[]⟩,none⟩,none,false⟩]) (.ops true [⟨⟨(some 45),.move (.tmp 5),22,"",⟨[]⟩,none⟩,none,true⟩,⟨⟨(some 46),.move (.tmp 9),3,"",⟨[]⟩,none⟩,none,true⟩,⟨⟨(some 47),.slice 22 (.tmp 45) none (some (.tmp 46)) none,22,"",⟨[]⟩,none⟩,none,true⟩,⟨⟨(some 49),.move (.tmp 5),22,"",⟨[]⟩,none⟩,none,true⟩,⟨⟨(some 50),.move (.tmp 9),3,"",⟨[]⟩,none⟩,none,true⟩,⟨⟨(some 51),.binOp .add 3 (.tmp 50) (.const (.int .i64 1)) 3,3,"",⟨[]⟩,none⟩,none,true⟩,⟨⟨(some 52),.slice 22 (.tmp 49) (some (.tmp 51)) none none,22,"",⟨[]⟩,none⟩,none,true⟩,⟨⟨(some 48),.call ⟨.value (.func 50),⟨[(.tmp 47)]⟩,⟨[22]⟩⟩,22,"",⟨[]⟩,none⟩,none,true⟩,⟨⟨(some 53),.call ⟨.builtin .append,⟨[(.tmp 48),(.tmp 52)]⟩,⟨[22,22]⟩⟩,22,"",⟨[]⟩,none⟩,none,false⟩,⟨⟨(some 5),.assign (.tmp 53),22,"",⟨[]⟩,none⟩,none,true⟩]))))) (.ops false [⟨⟨(some 22),.move (.tmp 8),3,"",⟨[]⟩,none⟩,none,false⟩,⟨⟨(some 23),.binOp .add 3 (.tmp 22) (.const (.int .i64 1)) 3,3,"",⟨[]⟩,none⟩,none,false⟩,⟨⟨(some 8),.assign (.tmp 23),3,"",⟨[]⟩,none⟩,none,false⟩])))))) (.seq (.ops false [⟨⟨(some 54),.move (.tmp 6),22,"",⟨[]⟩,none⟩,none,false⟩,⟨⟨(some 4),.assign (.tmp 54),22,"",⟨[]⟩,none⟩,none,false⟩]) .ret)))))
def Try.s92 : SC := (.seq (.ops false [⟨⟨(some 3),.assign (.const (.bool false)),4,"",⟨[]⟩,none⟩,none,false⟩]) (.seq (.ops false [⟨⟨(some 4),.load 3 (.tmp 1),3,"",⟨[]⟩,none⟩,none,false⟩,⟨⟨(some 5),.move (.tmp 0),3,"",⟨[]⟩,none⟩,none,false⟩,⟨⟨(some 6),.call ⟨.value (.func 89),⟨[(.tmp 4),(.tmp 5)]⟩,⟨[3,3]⟩⟩,4,"",⟨[]⟩,none⟩,none,false⟩,⟨⟨(some 3),.assign (.tmp 6),4,"",⟨[]⟩,none⟩,none,false⟩]) .ret))
def Try.s119 : SC := (.seq (.ops false [⟨⟨(some 6),.assign (.const (.slice none 0 0)),22,"",⟨[]⟩,none⟩,none,false⟩]) (.seq (.ops false [⟨⟨(some 8),.move (.tmp 0),22,"",⟨[]⟩,none⟩,none,false⟩,⟨⟨(some 9),.move (.tmp 1),3,"",⟨[]⟩,none⟩,none,false⟩,⟨⟨(some 10),.move (.tmp 2),3,"",⟨[]⟩,none⟩,none,false⟩,⟨⟨(some 11),.move (.tmp 0),22,"",⟨[]⟩,none⟩,none,false⟩,⟨⟨(some 12),.call ⟨.builtin .len,⟨[(.tmp 11)]⟩,⟨[22]⟩⟩,3,"",⟨[]⟩,none⟩,none,false⟩,⟨⟨(some 13),.slice 22 (.tmp 8) (some (.tmp 9)) (some (.tmp 10)) (some (.tmp 12)),22,"",⟨[]⟩,none⟩,none,false⟩]) (.seq (.seq (.ops false [⟨⟨(some 14),.move (.tmp 1),3,"",⟨[]⟩,none⟩,none,false⟩,⟨⟨(some 15),.move (.tmp 2),3,"",⟨[]⟩,none⟩,none,false⟩,⟨⟨(some 16),.binOp .eql 3 (.tmp 14) (.tmp 15) 3,4,"",⟨[]⟩,none⟩,none,false⟩]) (.cond (.tmp 16) (.seq (.ops false [⟨⟨(some 17),.move (.tmp 0),22,"",⟨[]⟩,none⟩,none,false⟩,⟨⟨(some 6),.assign (.tmp 17),22,"",⟨[]⟩,none⟩,none,false⟩]) .ret) .skip)) (.seq (.ops false [⟨⟨(some 18),.move (.tmp 0),22,"",⟨[]⟩,none⟩,none,false⟩,⟨⟨(some 19),.call ⟨.builtin .len,⟨[(.tmp 18)]⟩,⟨[22]⟩⟩,3,"",⟨[]⟩,none⟩,none,false⟩,⟨⟨(some 7),.assign (.tmp 19),3,"",⟨[]⟩,none⟩,none,false⟩]) (.seq (.ops true [⟨⟨(some 20),.move (.tmp 0),22,"",⟨[]⟩,none⟩,none,true⟩,⟨⟨(some 21),.move (.tmp 1),3,"",⟨[]⟩,none⟩,none,true⟩,⟨⟨(some 22),.slice 22 (.tmp 20) none (some (.tmp 21)) none,22,"",⟨[]⟩,none⟩,none,true⟩,⟨⟨(some 23),.move (.tmp 0),22,"",⟨[]⟩,none⟩,none,true⟩,⟨⟨(some 24),.move (.tmp 2),3,"",⟨[]⟩,none⟩,none,true⟩,⟨⟨(some 25),.slice 22 (.tmp 23) (some (.tmp 24)) none none,22,"",⟨[]⟩,none⟩,none,true⟩,⟨⟨(some 26),.call ⟨.builtin .append,⟨[(.tmp 22),(.tmp 25)]⟩,⟨[22,22]⟩⟩,22,"",⟨[]⟩,none⟩,none,false⟩,⟨⟨(some 0),.assign (.tmp 26),22,"",⟨[]⟩,none⟩,none,true⟩]) (.seq (.ops false [⟨⟨(some 27),.move (.tmp 0),22,"",⟨[]⟩,none⟩,none,false⟩,⟨⟨(some 28),.move (.tmp 0),22,"",⟨[]⟩,none⟩,none,false⟩,⟨⟨(some 29),.call ⟨.builtin .len,⟨[(.tmp 28)]⟩,⟨[22]⟩⟩,3,"",⟨[]⟩,none⟩,none,false⟩,⟨⟨(some 30),.move (.tmp 7),3,"",⟨[]⟩,none⟩,none,false⟩,⟨⟨(some 31),.slice 22 (.tmp 27) (some (.tmp 29)) (some (.tmp 30)) none,22,"",⟨[]⟩,none⟩,none,false⟩,⟨⟨none,.call ⟨.builtin .clear,⟨[(.tmp 31)]⟩,⟨[22]⟩⟩,0,"",⟨[]⟩,none⟩,none,false⟩]) (.seq (.ops false [⟨⟨(some 32),.move (.tmp 0),22,"",⟨[]⟩,none⟩,none,false⟩,⟨⟨(some 6),.assign (.tmp 32),22,"",⟨[]⟩,none⟩,none,false⟩]) .ret)))))))
def Try.s34 : SC := (.seq (.ops false [⟨⟨(some 2),.assign (.const (.int .i64 0)),3,"",⟨[]⟩,none⟩,none,false⟩,⟨⟨(some 3),.assign (.const (.int .i64 0)),25,"",⟨[]⟩,none⟩,none,false⟩]) (.seq (.seq (.ops false [⟨⟨(some 11),.move (.tmp 0),22,"",⟨[]⟩,none⟩,none,false⟩,⟨⟨(some 12),.call ⟨.value (.func 86),⟨[(.tmp 11)]⟩,⟨[22]⟩⟩,4,"",⟨[]⟩,none⟩,none,false⟩,⟨⟨(some 13),.unOp .not 4 (.tmp 12),4,"",⟨[]⟩,none⟩,none,false⟩]) (.cond (.tmp 13) (.seq (.ops false [⟨⟨(some 2),.assign (.const (.int .i64 0)),3,"",⟨[]⟩,none⟩,none,false⟩,⟨⟨(some 3),.assign (.const (.int .i64 104)),25,"",⟨[]⟩,none⟩,none,false⟩]) .ret) .skip)) (.seq (.ops false [⟨⟨(some 4),.assign (.const (.int .i64 0)),3,"",⟨[]⟩,none⟩,none,false⟩]) (.seq (.seq (.ops false [⟨⟨(some 14),.move (.tmp 0),22,"",⟨[]⟩,none⟩,none,false⟩,⟨⟨(some 15),.call ⟨.builtin .len,⟨[(.tmp 14)]⟩,⟨[22]⟩⟩,3,"",⟨[]⟩,none⟩,none,false⟩,⟨⟨(some 16),.move (.const (.int .i64 0)),3,"",⟨[]⟩,none⟩,none,false⟩]) (.block 0 (.loop (.seq (.ops false [⟨⟨(some 17),.binOp .lss 3 (.tmp 16) (.tmp 15) 3,0,"",⟨[]⟩,none⟩,none,false⟩]) (.seq (.cond (.tmp 17) .skip (.exit 0)) (.seq (.block 1 (.seq (.ops false [⟨⟨(some 18),.move (.tmp 16),3,"",⟨[]⟩,none⟩,none,false⟩,⟨⟨(some 19),.indexAddr 22 (.tmp 14) (.tmp 16),0,"",⟨[]⟩,none⟩,none,false⟩,⟨⟨(some 20),.load 3 (.tmp 19),3,"",⟨[]⟩,none⟩,none,false⟩,⟨⟨(some 5),.assign (.tmp 18),3,"",⟨[]⟩,none⟩,none,false⟩,⟨⟨(some 6),.assign (.tmp 20),3,"",⟨[]⟩,none⟩,none,false⟩]) (.seq (.ops false [⟨⟨(some 21),.move (.tmp 0),22,"",⟨[]⟩,none⟩,none,false⟩,⟨⟨(some 22),.move (.tmp 5),3,"",⟨[]⟩,none⟩,none,false⟩,⟨⟨(some 23),.slice 22 (.tmp 21) (some (.tmp 22)) none none,22,"",⟨[]⟩,none⟩,none,false⟩,⟨⟨(some 7),.assign (.tmp 23),22,"",⟨[]⟩,none⟩,none,false⟩]) (.seq (.ops false [⟨⟨(some 8),.assign (.const (.int .i64 0)),3,"",⟨[]⟩,none⟩,none,false⟩]) (.seq (.seq (.ops false [⟨⟨(some 24),.move (.tmp 7),22,"",⟨[]⟩,none⟩,none,false⟩,⟨⟨(some 25),.call ⟨.builtin .len,⟨[(.tmp 24)]⟩,⟨[22]⟩⟩,3,"",⟨[]⟩,none⟩,none,false⟩,⟨⟨(some 26),.move (.const (.int .i64 0)),3,"",⟨[]⟩,none⟩,none,false⟩]) (.block 2 (.loop (.seq (.ops false [⟨⟨(some 27),.binOp .lss 3 (.tmp 26) (.tmp 25) 3,0,"",⟨[]⟩,none⟩,none,false⟩]) (.seq (.cond (.tmp 27) .skip (.exit 2)) (.seq (.block 3 (.seq (.ops false [⟨⟨(some 28),.indexAddr 22 (.tmp 24) (.tmp 26),0,"",⟨[]⟩,none⟩,none,false⟩,⟨⟨(some 29),.load 3 (.tmp 28),3,"",⟨[]⟩,none⟩,none,false⟩,⟨⟨(some 10),.assign (.tmp 29),3,"",⟨[]⟩,none⟩,none,false⟩]) (.seq (.ops false [⟨⟨(some 30),.move (.tmp 10),3,"",⟨[]⟩,none⟩,none,false⟩,⟨⟨(some 31),.move (.tmp 6),3,"",⟨[]⟩,none⟩,none,false⟩,⟨⟨(some 32),.binOp .lss 3 (.tmp 30) (.tmp 31) 3,4,"",⟨[]⟩,none⟩,none,false⟩]) (.cond (.tmp 32) (.ops false [⟨⟨(some 33),.move (.tmp 8),3,"",⟨[]⟩,none⟩,none,false⟩,⟨⟨(some 34),.binOp .add 3 (.tmp 33) (.const (.int .i64 1)) 3,3,"",⟨[]⟩,none⟩,none,false⟩,⟨⟨(some 8),.assign (.tmp 34),3,"",⟨[]⟩,none⟩,none,false⟩]) .skip)))) (.ops false [⟨⟨(some 35),.binOp .add 3 (.tmp 26) (.const (.int .i64 1)) 3,3,"",⟨[]⟩,none⟩,none,false⟩,⟨⟨(some 26),.move (.tmp 35),3,"",⟨[]⟩,none⟩,none,false⟩]))))))) (.ops false [⟨⟨(some 36),.move (.tmp 4),3,"",⟨[]⟩,none⟩,none,false⟩,⟨⟨(some 37),.move (.tmp 7),22,"",⟨[]⟩,none⟩,none,false⟩,⟨⟨(some 38),.call ⟨.builtin .len,⟨[(.tmp 37)]⟩,⟨[22]⟩⟩,3,"",⟨[]⟩,none⟩,none,false⟩,⟨⟨(some 39),.binOp .mul 3 (.tmp 36) (.tmp 38) 3,3,"",⟨[]⟩,none⟩,none,false⟩,⟨⟨(some 40),.move (.tmp 8),3,"",⟨[]⟩,none⟩,none,false⟩,⟨⟨(some 41),.binOp .add 3 (.tmp 39) (.tmp 40) 3,3,"",⟨[]⟩,none⟩,none,false⟩,⟨⟨(some 4),.assign (.tmp 41),3,"",⟨[]⟩,none⟩,none,false⟩])))))) (.ops false [⟨⟨(some 42),.binOp .add 3 (.tmp 16) (.const (.int .i64 1)) 3,3,"",⟨[]⟩,none⟩,none,false⟩,⟨⟨(some 16),.move (.tmp 42),3,"",⟨[]⟩,none⟩,none,false⟩]))))))) (.seq (.ops false [⟨⟨(some 43),.move (.tmp 4),3,"",⟨[]⟩,none⟩,none,false⟩,⟨⟨(some 2),.assign (.tmp 43),3,"",⟨[]⟩,none⟩,none,false⟩,⟨⟨(some 3),.assign (.const (.int .i64 0)),25,"",⟨[]⟩,none⟩,none,false⟩]) .ret)))))
def Try.s36 : SC := (.seq (.ops false [⟨⟨(some 4),.assign (.const (.slice none 0 0)),22,"",⟨[]⟩,none⟩,none,false⟩,⟨⟨(some 5),.assign (.const (.int .i64 0)),25,"",⟨[]⟩,none⟩,none,false⟩]) (.seq (.seq (.ops false [⟨⟨(some 6),.move (.tmp 0),3,"",⟨[]⟩,none⟩,none,false⟩,⟨⟨(some 7),.call ⟨.value (.func 88),⟨[(.tmp 6)]⟩,⟨[3]⟩⟩,4,"",⟨[]⟩,none⟩,none,false⟩,⟨⟨(some 8),.unOp .not 4 (.tmp 7),4,"",⟨[]⟩,none⟩,none,false⟩]) (.cond (.tmp 8) (.seq (.ops false [⟨⟨(some 4),.assign (.const (.slice none 0 0)),22,"",⟨[]⟩,none⟩,none,false⟩,⟨⟨(some 5),.assign (.const (.int .i64 104)),25,"",⟨[]⟩,none⟩,none,false⟩]) .ret) .skip)) (.seq (.seq (.ops false [⟨⟨(some 9),.move (.tmp 0),3,"",⟨[]⟩,none⟩,none,false⟩,⟨⟨(some 10),.move (.tmp 1),3,"",⟨[]⟩,none⟩,none,false⟩,⟨⟨(some 11),.call ⟨.value (.func 89),⟨[(.tmp 9),(.tmp 10)]⟩,⟨[3,3]⟩⟩,4,"",⟨[]⟩,none⟩,none,false⟩,⟨⟨(some 12),.unOp .not 4 (.tmp 11),4,"",⟨[]⟩,none⟩,none,false⟩]) (.cond (.tmp 12) (.seq (.ops false [⟨⟨(some 4),.assign (.const (.slice none 0 0)),22,"",⟨[]⟩,none⟩,none,false⟩,⟨⟨(some 5),.assign (.const (.int .i64 7)),25,"",⟨[]⟩,none⟩,none,false⟩]) .ret) .skip)) (.seq (.ops false [⟨⟨(some 13),.move (.tmp 0),3,"",⟨[]⟩,none⟩,none,false⟩,⟨⟨(some 14),.move (.tmp 1),3,"",⟨[]⟩,none⟩,none,false⟩,⟨⟨(some 15),.call ⟨.value (.func 90),⟨[(.tmp 13),(.tmp 14)]⟩,⟨[3,3]⟩⟩,22,"",⟨[]⟩,none⟩,none,false⟩,⟨⟨(some 4),.assign (.tmp 15),22,"",⟨[]⟩,none⟩,none,false⟩,⟨⟨(some 5),.assign (.const (.int .i64 0)),25,"",⟨[]⟩,none⟩,none,false⟩]) .ret))))
def Try.s38 : SC := (.seq (.ops false [⟨⟨(some 3),.box 3 (.tmp 0),0,"",⟨[]⟩,none⟩,none,false⟩,⟨⟨(some 6),.assign (.const (.slice none 0 0)),22,"",⟨[]⟩,none⟩,none,false⟩,⟨⟨(some 7),.assign (.const (.int .i64 0)),25,"",⟨[]⟩,none⟩,none,false⟩]) (.seq (.ops false [⟨⟨(some 9),.makeFunc (.func 92) ⟨[]⟩ ⟨[(.tmp 3)]⟩,79,"",⟨[]⟩,none⟩,none,false⟩,⟨⟨(some 8),.assign (.tmp 9),79,"",⟨[]⟩,none⟩,none,false⟩]) (.seq (.seq (.ops false [⟨⟨(some 10),.load 3 (.tmp 3),3,"",⟨[]⟩,none⟩,none,false⟩,⟨⟨(some 11),.call ⟨.value (.func 88),⟨[(.tmp 10)]⟩,⟨[3]⟩⟩,4,"",⟨[]⟩,none⟩,none,false⟩,⟨⟨(some 12),.unOp .not 4 (.tmp 11),4,"",⟨[]⟩,none⟩,none,false⟩,⟨⟨(some 13),.move (.tmp 12),4,"",⟨[]⟩,none⟩,none,false⟩,⟨⟨(some 14),.move (.tmp 2),22,"",⟨[]⟩,none⟩,some ((some 13),false),false⟩,⟨⟨(some 15),.call ⟨.builtin .len,⟨[(.tmp 14)]⟩,⟨[22]⟩⟩,3,"",⟨[]⟩,none⟩,some ((some 13),false),false⟩,⟨⟨(some 16),.call ⟨.value (.func 64),⟨[(.tmp 15),(.const (.int .i64 1)),(.const (.int .i64 16))]⟩,⟨[3,3,3]⟩⟩,4,"",⟨[]⟩,none⟩,some ((some 13),false),false⟩,⟨⟨(some 17),.unOp .not 4 (.tmp 16),4,"",⟨[]⟩,none⟩,some ((some 13),false),false⟩,⟨⟨(some 18),.pick (.tmp 13) (.const (.bool true)) (.tmp 17),4,"",⟨[]⟩,none⟩,none,false⟩,⟨⟨(some 19),.move (.tmp 18),4,"",⟨[]⟩,none⟩,none,false⟩,⟨⟨(some 20),.move (.tmp 2),22,"",⟨[]⟩,none⟩,some ((some 19),false),false⟩,⟨⟨(some 21),.move (.tmp 8),79,"",⟨[]⟩,none⟩,some ((some 19),false),false⟩,⟨⟨(some 22),.call ⟨.value (.func 65),⟨[(.tmp 20),(.tmp 21)]⟩,⟨[22,79]⟩⟩,4,"",⟨[]⟩,none⟩,some ((some 19),false),false⟩,⟨⟨(some 23),.unOp .not 4 (.tmp 22),4,"",⟨[]⟩,none⟩,some ((some 19),false),false⟩,⟨⟨(some 24),.pick (.tmp 19) (.const (.bool true)) (.tmp 23),4,"",⟨[]⟩,none⟩,none,false⟩]) (.cond (.tmp 24) (.seq (.ops false [⟨⟨(some 6),.assign (.const (.slice none 0 0)),22,"",⟨[]⟩,none⟩,none,false⟩,⟨⟨(some 7),.assign (.const (.int .i64 104)),25,"",⟨[]⟩,none⟩,none,false⟩]) .ret) .skip)) (.seq (.seq (.ops false [⟨⟨(some 25),.move (.tmp 1),3,"",⟨[]⟩,none⟩,none,false⟩,⟨⟨(some 26),.load 3 (.tmp 3),3,"",⟨[]⟩,none⟩,none,false⟩,⟨⟨(some 27),.call ⟨.value (.func 64),⟨[(.tmp 25),(.const (.int .i64 0)),(.tmp 26)]⟩,⟨[3,3,3]⟩⟩,4,"",⟨[]⟩,none⟩,none,false⟩,⟨⟨(some 28),.unOp .not 4 (.tmp 27),4,"",⟨[]⟩,none⟩,none,false⟩]) (.cond (.tmp 28) (.seq (.ops false [⟨⟨(some 6),.assign (.const (.slice none 0 0)),22,"",⟨[]⟩,none⟩,none,false⟩,⟨⟨(some 7),.assign (.const (.int .i64 7)),25,"",⟨[]⟩,none⟩,none,false⟩]) .ret) .skip)) (.seq (.ops true [⟨⟨(some 29),.load 3 (.tmp 3),3,"",⟨[]⟩,none⟩,none,true⟩,⟨⟨(some 30),.move (.tmp 2),22,"",⟨[]⟩,none⟩,none,true⟩,⟨⟨(some 32),.load 3 (.tmp 3),3,"",⟨[]⟩,none⟩,none,true⟩,⟨⟨(some 36),.move (.tmp 1),3,"",⟨[]⟩,none⟩,none,true⟩,⟨⟨(some 31),.call ⟨.value (.func 68),⟨[(.tmp 30)]⟩,⟨[22]⟩⟩,3,"",⟨[]⟩,none⟩,none,true⟩,⟨⟨(some 33),.call ⟨.value (.func 93),⟨[(.tmp 32)]⟩,⟨[3]⟩⟩,3,"",⟨[]⟩,none⟩,none,true⟩,⟨⟨(some 34),.binOp .rem 3 (.tmp 31) (.tmp 33) 3,3,"",⟨[]⟩,none⟩,none,true⟩,⟨⟨(some 35),.call ⟨.value (.func 90),⟨[(.tmp 29),(.tmp 34)]⟩,⟨[3,3]⟩⟩,22,"",⟨[]⟩,none⟩,none,true⟩,⟨⟨(some 37),.slice 22 (.tmp 35) none (some (.tmp 36)) none,22,"",⟨[]⟩,none⟩,none,true⟩,⟨⟨(some 6),.assign (.tmp 37),22,"",⟨[]⟩,none⟩,none,true⟩,⟨⟨(some 7),.assign (.const (.int .i64 0)),25,"",⟨[]⟩,none⟩,none,true⟩]) .ret)))))
def Try.s50 : SC := (.seq (.ops false [⟨⟨(some 2),.assign (.const (.slice none 0 0)),22,"",⟨[]⟩,none⟩,none,false⟩]) (.seq (.ops false [⟨⟨(some 3),.buildSlice 22 0 ⟨[]⟩,22,"",⟨[]⟩,none⟩,none,false⟩,⟨⟨(some 4),.move (.tmp 0),22,"",⟨[]⟩,none⟩,none,false⟩,⟨⟨(some 5),.call ⟨.builtin .append,⟨[(.tmp 3),(.tmp 4)]⟩,⟨[22,22]⟩⟩,22,"",⟨[]⟩,none⟩,none,false⟩,⟨⟨(some 2),.assign (.tmp 5),22,"",⟨[]⟩,none⟩,none,false⟩]) .ret))
def Try.s35 : SC := (.seq (.ops false [⟨⟨(some 2),.assign (.const (.int .i64 0)),3,"",⟨[]⟩,none⟩,none,false⟩,⟨⟨(some 3),.assign (.const (.int .i64 0)),25,"",⟨[]⟩,none⟩,none,false⟩]) (.seq (.ops false [⟨⟨(some 11),.move (.tmp 0),22,"",⟨[]⟩,none⟩,none,false⟩,⟨⟨(some 12),.call ⟨.builtin .len,⟨[(.tmp 11)]⟩,⟨[22]⟩⟩,3,"",⟨[]⟩,none⟩,none,false⟩,⟨⟨(some 4),.assign (.tmp 12),3,"",⟨[]⟩,none⟩,none,false⟩]) (.seq (.ops false [⟨⟨(some 13),.move (.tmp 4),3,"",⟨[]⟩,none⟩,none,false⟩,⟨⟨(some 14),.call ⟨.value (.func 46),⟨[(.const (.int .i64 1)),(.tmp 13),(.const (.int .i64 8))]⟩,⟨[3,3,3]⟩⟩,4,"",⟨[]⟩,none⟩,none,false⟩,⟨⟨(some 5),.assign (.tmp 14),4,"",⟨[]⟩,none⟩,none,false⟩]) (.seq (.seq (.ops false [⟨⟨(some 6),.assign (.const (.int .i64 0)),3,"",⟨[]⟩,none⟩,none,false⟩]) (.block 0 (.loop (.seq (.seq (.ops false [⟨⟨(some 15),.move (.tmp 5),4,"",⟨[]⟩,none⟩,none,false⟩,⟨⟨(some 16),.move (.tmp 15),4,"",⟨[]⟩,none⟩,none,false⟩,⟨⟨(some 17),.move (.tmp 6),3,"",⟨[]⟩,none⟩,some ((some 16),true),false⟩,⟨⟨(some 18),.move (.tmp 4),3,"",⟨[]⟩,none⟩,some ((some 16),true),false⟩,⟨⟨(some 19),.binOp .lss 3 (.tmp 17) (.tmp 18) 3,4,"",⟨[]⟩,none⟩,some ((some 16),true),false⟩,⟨⟨(some 20),.pick (.tmp 16) (.tmp 19) (.const (.bool false)),4,"",⟨[]⟩,none⟩,none,false⟩]) (.cond (.tmp 20) .skip (.exit 0))) (.seq (.block 1 (.ops false [⟨⟨(some 23),.move (.tmp 0),22,"",⟨[]⟩,none⟩,none,false⟩,⟨⟨(some 24),.move (.tmp 6),3,"",⟨[]⟩,none⟩,none,false⟩,⟨⟨(some 25),.indexAddr 22 (.tmp 23) (.tmp 24),0,"",⟨[]⟩,none⟩,none,false⟩,⟨⟨(some 26),.load 3 (.tmp 25),3,"",⟨[]⟩,none⟩,none,false⟩,⟨⟨(some 27),.move (.tmp 4),3,"",⟨[]⟩,none⟩,none,false⟩,⟨⟨(some 28),.binOp .sub 3 (.tmp 27) (.const (.int .i64 1)) 3,3,"",⟨[]⟩,none⟩,none,false⟩,⟨⟨(some 29),.call ⟨.value (.func 46),⟨[(.const (.int .i64 0)),(.tmp 26),(.tmp 28)]⟩,⟨[3,3,3]⟩⟩,4,"",⟨[]⟩,none⟩,none,false⟩,⟨⟨(some 30),.move (.tmp 29),4,"",⟨[]⟩,none⟩,none,false⟩,⟨⟨(some 31),.move (.tmp 0),22,"",⟨[]⟩,none⟩,some ((some 30),true),false⟩,⟨⟨(some 32),.move (.tmp 0),22,"",⟨[]⟩,none⟩,some ((some 30),true),false⟩,⟨⟨(some 33),.move (.tmp 6),3,"",⟨[]⟩,none⟩,some ((some 30),true),false⟩,⟨⟨(some 34),.indexAddr 22 (.tmp 32) (.tmp 33),0,"",⟨[]⟩,none⟩,some ((some 30),true),false⟩,⟨⟨(some 35),.load 3 (.tmp 34),3,"",⟨[]⟩,none⟩,some ((some 30),true),false⟩,⟨⟨(some 36),.call ⟨.value (.func 53),⟨[(.tmp 31),(.tmp 35)]⟩,⟨[22,3]⟩⟩,3,"",⟨[]⟩,none⟩,some ((some 30),true),false⟩,⟨⟨(some 37),.move (.tmp 6),3,"",⟨[]⟩,none⟩,some ((some 30),true),false⟩,⟨⟨(some 38),.binOp .eql 3 (.tmp 36) (.tmp 37) 3,4,"",⟨[]⟩,none⟩,some ((some 30),true),false⟩,⟨⟨(some 39),.pick (.tmp 30) (.tmp 38) (.const (.bool false)),4,"",⟨[]⟩,none⟩,none,false⟩,⟨⟨(some 5),.assign (.tmp 39),4,"",⟨[]⟩,none⟩,none,false⟩])) (.ops false [⟨⟨(some 21),.move (.tmp 6),3,"",⟨[]⟩,none⟩,none,false⟩,⟨⟨(some 22),.binOp .add 3 (.tmp 21) (.const (.int .i64 1)) 3,3,"",⟨[]⟩,none⟩,none,false⟩,⟨⟨(some 6),.assign (.tmp 22),3,"",⟨[]⟩,none⟩,none,false⟩])))))) (.seq (.seq (.ops false [⟨⟨(some 40),.move (.tmp 5),4,"",⟨[]⟩,none⟩,none,false⟩,⟨⟨(some 41),.unOp .not 4 (.tmp 40),4,"",⟨[]⟩,none⟩,none,false⟩]) (.cond (.tmp 41) (.seq (.ops false [⟨⟨(some 2),.assign (.const (.int .i64 0)),3,"",⟨[]⟩,none⟩,none,false⟩,⟨⟨(some 3),.assign (.const (.int .i64 104)),25,"",⟨[]⟩,none⟩,none,false⟩]) .ret) .skip)) (.seq (.ops false [⟨⟨(some 7),.assign (.const (.int .i64 0)),3,"",⟨[]⟩,none⟩,none,false⟩]) (.seq (.seq (.ops false [⟨⟨(some 8),.assign (.const (.int .i64 0)),3,"",⟨[]⟩,none⟩,none,false⟩]) (.block 2 (.loop (.seq (.seq (.ops false [⟨⟨(some 42),.move (.tmp 8),3,"",⟨[]⟩,none⟩,none,false⟩,⟨⟨(some 43),.move (.tmp 4),3,"",⟨[]⟩,none⟩,none,false⟩,⟨⟨(some 44),.binOp .lss 3 (.tmp 42) (.tmp 43) 3,4,"",⟨[]⟩,none⟩,none,false⟩]) (.cond (.tmp 44) .skip (.exit 2))) (.seq (.block 3 (.seq (.ops false [⟨⟨(some 9),.assign (.const (.int .i64 0)),3,"",⟨[]⟩,none⟩,none,false⟩]) (.seq (.seq (.ops false [⟨⟨(some 47),.move (.tmp 8),3,"",⟨[]⟩,none⟩,none,false⟩,⟨⟨(some 48),.binOp .add 3 (.tmp 47) (.const (.int .i64 1)) 3,3,"",⟨[]⟩,none⟩,none,false⟩,⟨⟨(some 10),.assign (.tmp 48),3,"",⟨[]⟩,none⟩,none,false⟩]) (.block 4 (.loop (.seq (.seq (.ops false [⟨⟨(some 49),.move (.tmp 10),3,"",⟨[]⟩,none⟩,none,false⟩,⟨⟨(some 50),.move (.tmp 4),3,"",⟨[]⟩,none⟩,none,false⟩,⟨⟨(some 51),.binOp .lss 3 (.tmp 49) (.tmp 50) 3,4,"",⟨[]⟩,none⟩,none,false⟩]) (.cond (.tmp 51) .skip (.exit 4))) (.seq (.block 5 (.seq (.ops true [⟨⟨(some 54),.move (.tmp 0),22,"",⟨[]⟩,none⟩,none,true⟩,⟨⟨(some 55),.move (.tmp 10),3,"",⟨[]⟩,none⟩,none,true⟩,⟨⟨(some 56),.indexAddr 22 (.tmp 54) (.tmp 55),0,"",⟨[]⟩,none⟩,none,true⟩,⟨⟨(some 57),.load 3 (.tmp 56),3,"",⟨[]⟩,none⟩,none,true⟩,⟨⟨(some 58),.move (.tmp 0),22,"",⟨[]⟩,none⟩,none,true⟩,⟨⟨(some 59),.move (.tmp 8),3,"",⟨[]⟩,none⟩,none,true⟩,⟨⟨(some 60),.indexAddr 22 (.tmp 58) (.tmp 59),0,"",⟨[]⟩,none⟩,none,true⟩,⟨⟨(some 61),.load 3 (.tmp 60),3,"",⟨[]⟩,none⟩,none,true⟩,⟨⟨(some 62),.binOp .lss 3 (.tmp 57) (.tmp 61) 3,4,"",⟨[]⟩,none⟩,none,true⟩]) (.cond (.tmp 62) (.ops false [⟨⟨(some 63),.move (.tmp 9),3,"",⟨[]⟩,none⟩,none,false⟩,⟨⟨(some 64),.binOp .add 3 (.tmp 63) (.const (.int .i64 1)) 3,3,"",⟨[]⟩,none⟩,none,false⟩,⟨⟨(some 9),.assign (.tmp 64),3,"",⟨[]⟩,none⟩,none,false⟩]) .skip))) (.ops false [⟨⟨(some 52),.move (.tmp 10),3,"",⟨[]⟩,none⟩,none,false⟩,⟨⟨(some 53),.binOp .add 3 (.tmp 52) (.const (.int .i64 1)) 3,3,"",⟨[]⟩,none⟩,none,false⟩,⟨⟨(some 10),.assign (.tmp 53),3,"",⟨[]⟩,none⟩,none,false⟩])))))) (.ops false [⟨⟨(some 65),.move (.tmp 7),3,"",⟨[]⟩,none⟩,none,false⟩,⟨⟨(some 66),.move (.tmp 9),3,"",⟨[]⟩,none⟩,none,false⟩,⟨⟨(some 67),.move (.tmp 4),3,"",⟨[]⟩,none⟩,none,false⟩,⟨⟨(some 68),.binOp .sub 3 (.tmp 67) (.const (.int .i64 1)) 3,3,"",⟨[]⟩,none⟩,none,false⟩,⟨⟨(some 69),.move (.tmp 8),3,"",⟨[]⟩,none⟩,none,false⟩,⟨⟨(some 70),.binOp .sub 3 (.tmp 68) (.tmp 69) 3,3,"",⟨[]⟩,none⟩,none,false⟩,⟨⟨(some 71),.call ⟨.value (.func 87),⟨[(.tmp 70)]⟩,⟨[3]⟩⟩,3,"",⟨[]⟩,none⟩,none,false⟩,⟨⟨(some 72),.binOp .mul 3 (.tmp 66) (.tmp 71) 3,3,"",⟨[]⟩,none⟩,none,false⟩,⟨⟨(some 73),.binOp .add 3 (.tmp 65) (.tmp 72) 3,3,"",⟨[]⟩,none⟩,none,false⟩,⟨⟨(some 7),.assign (.tmp 73),3,"",⟨[]⟩,none⟩,none,false⟩])))) (.ops false [⟨⟨(some 45),.move (.tmp 8),3,"",⟨[]⟩,none⟩,none,false⟩,⟨⟨(some 46),.binOp .add 3 (.tmp 45) (.const (.int .i64 1)) 3,3,"",⟨[]⟩,none⟩,none,false⟩,⟨⟨(some 8),.assign (.tmp 46),3,"",⟨[]⟩,none⟩,none,false⟩])))))) (.seq (.ops false [⟨⟨(some 74),.move (.tmp 7),3,"",⟨[]⟩,none⟩,none,false⟩,⟨⟨(some 2),.assign (.tmp 74),3,"",⟨[]⟩,none⟩,none,false⟩,⟨⟨(some 3),.assign (.const (.int .i64 0)),25,"",⟨[]⟩,none⟩,none,false⟩]) .ret))))))))
def Try.s37 : SC := (.seq (.ops false [⟨⟨(some 4),.assign (.const (.slice none 0 0)),22,"",⟨[]⟩,none⟩,none,false⟩,⟨⟨(some 5),.assign (.const (.int .i64 0)),25,"",⟨[]⟩,none⟩,none,false⟩]) (.seq (.seq (.ops false [⟨⟨(some 6),.move (.tmp 0),3,"",⟨[]⟩,none⟩,none,false⟩,⟨⟨(some 7),.call ⟨.value (.func 46),⟨[(.const (.int .i64 1)),(.tmp 6),(.const (.int .i64 8))]⟩,⟨[3,3,3]⟩⟩,4,"",⟨[]⟩,none⟩,none,false⟩,⟨⟨(some 8),.unOp .not 4 (.tmp 7),4,"",⟨[]⟩,none⟩,none,false⟩]) (.cond (.tmp 8) (.seq (.ops false [⟨⟨(some 4),.assign (.const (.slice none 0 0)),22,"",⟨[]⟩,none⟩,none,false⟩,⟨⟨(some 5),.assign (.const (.int .i64 104)),25,"",⟨[]⟩,none⟩,none,false⟩]) .ret) .skip)) (.seq (.seq (.ops false [⟨⟨(some 9),.move (.tmp 1),3,"",⟨[]⟩,none⟩,none,false⟩,⟨⟨(some 10),.move (.tmp 0),3,"",⟨[]⟩,none⟩,none,false⟩,⟨⟨(some 11),.call ⟨.value (.func 87),⟨[(.tmp 10)]⟩,⟨[3]⟩⟩,3,"",⟨[]⟩,none⟩,none,false⟩,⟨⟨(some 12),.binOp .sub 3 (.tmp 11) (.const (.int .i64 1)) 3,3,"",⟨[]⟩,none⟩,none,false⟩,⟨⟨(some 13),.call ⟨.value (.func 46),⟨[(.const (.int .i64 0)),(.tmp 9),(.tmp 12)]⟩,⟨[3,3,3]⟩⟩,4,"",⟨[]⟩,none⟩,none,false⟩,⟨⟨(some 14),.unOp .not 4 (.tmp 13),4,"",⟨[]⟩,none⟩,none,false⟩]) (.cond (.tmp 14) (.seq (.ops false [⟨⟨(some 4),.assign (.const (.slice none 0 0)),22,"",⟨[]⟩,none⟩,none,false⟩,⟨⟨(some 5),.assign (.const (.int .i64 7)),25,"",⟨[]⟩,none⟩,none,false⟩]) .ret) .skip)) (.seq (.ops false [⟨⟨(some 15),.move (.tmp 0),3,"",⟨[]⟩,none⟩,none,false⟩,⟨⟨(some 16),.move (.tmp 1),3,"",⟨[]⟩,none⟩,none,false⟩,⟨⟨(some 17),.call ⟨.value (.func 91),⟨[(.tmp 15),(.tmp 16)]⟩,⟨[3,3]⟩⟩,22,"",⟨[]⟩,none⟩,none,false⟩,⟨⟨(some 4),.assign (.tmp 17),22,"",⟨[]⟩,none⟩,none,false⟩,⟨⟨(some 5),.assign (.const (.int .i64 0)),25,"",⟨[]⟩,none⟩,none,false⟩]) .ret))))
def Try.s39_c9 : SC := (.seq (.seq (.ops false [⟨⟨(some 9),.assign (.const (.int .i64 0)),3,"",⟨[]⟩,none⟩,none,false⟩]) (.block 0 (.loop (.seq (.seq (.ops false [⟨⟨(some 17),.move (.tmp 8),4,"",⟨[]⟩,none⟩,none,false⟩,⟨⟨(some 18),.move (.tmp 17),4,"",⟨[]⟩,none⟩,none,false⟩,⟨⟨(some 19),.move (.tmp 9),3,"",⟨[]⟩,none⟩,some ((some 18),true),false⟩,⟨⟨(some 20),.move (.tmp 2),22,"",⟨[]⟩,none⟩,some ((some 18),true),false⟩,⟨⟨(some 21),.call ⟨.builtin .len,⟨[(.tmp 20)]⟩,⟨[22]⟩⟩,3,"",⟨[]⟩,none⟩,some ((some 18),true),false⟩,⟨⟨(some 22),.binOp .lss 3 (.tmp 19) (.tmp 21) 3,4,"",⟨[]⟩,none⟩,some ((some 18),true),false⟩,⟨⟨(some 23),.pick (.tmp 18) (.tmp 22) (.const (.bool false)),4,"",⟨[]⟩,none⟩,none,false⟩]) (.cond (.tmp 23) .skip (.exit 0))) (.seq (.block 1 (.ops true [⟨⟨(some 26),.move (.tmp 2),22,"",⟨[]⟩,none⟩,none,true⟩,⟨⟨(some 27),.move (.tmp 9),3,"",⟨[]⟩,none⟩,none,true⟩,⟨⟨(some 28),.indexAddr 22 (.tmp 26) (.tmp 27),0,"",⟨[]⟩,none⟩,none,true⟩,⟨⟨(some 29),.load 3 (.tmp 28),3,"",⟨[]⟩,none⟩,none,true⟩,⟨⟨(some 30),.move (.tmp 0),3,"",⟨[]⟩,none⟩,none,true⟩,⟨⟨(some 31),.call ⟨.value (.func 87),⟨[(.tmp 30)]⟩,⟨[3]⟩⟩,3,"",⟨[]⟩,none⟩,none,true⟩,⟨⟨(some 32),.binOp .sub 3 (.tmp 31) (.const (.int .i64 1)) 3,3,"",⟨[]⟩,none⟩,none,true⟩,⟨⟨(some 33),.call ⟨.value (.func 46),⟨[(.const (.int .i64 0)),(.tmp 29),(.tmp 32)]⟩,⟨[3,3,3]⟩⟩,4,"",⟨[]⟩,none⟩,none,false⟩,⟨⟨(some 8),.assign (.tmp 33),4,"",⟨[]⟩,none⟩,none,true⟩])) (.ops false [⟨⟨(some 24),.move (.tmp 9),3,"",⟨[]⟩,none⟩,none,false⟩,⟨⟨(some 25),.binOp .add 3 (.tmp 24) (.const (.int .i64 1)) 3,3,"",⟨[]⟩,none⟩,none,false⟩,⟨⟨(some 9),.assign (.tmp 25),3,"",⟨[]⟩,none⟩,none,false⟩])))))) (.seq (.seq (.ops false [⟨⟨(some 34),.move (.tmp 8),4,"",⟨[]⟩,none⟩,none,false⟩,⟨⟨(some 35),.unOp .not 4 (.tmp 34),4,"",⟨[]⟩,none⟩,none,false⟩]) (.cond (.tmp 35) (.seq (.ops false [⟨⟨(some 6),.assign (.const (.slice none 0 0)),22,"",⟨[]⟩,none⟩,none,false⟩,⟨⟨(some 7),.assign (.const (.int .i64 104)),25,"",⟨[]⟩,none⟩,none,false⟩]) .ret) .skip)) (.seq (.seq (.ops false [⟨⟨(some 36),.move (.tmp 1),3,"",⟨[]⟩,none⟩,none,false⟩,⟨⟨(some 37),.move (.tmp 0),3,"",⟨[]⟩,none⟩,none,false⟩,⟨⟨(some 38),.call ⟨.value (.func 46),⟨[(.const (.int .i64 0)),(.tmp 36),(.tmp 37)]⟩,⟨[3,3,3]⟩⟩,4,"",⟨[]⟩,none⟩,none,false⟩,⟨⟨(some 39),.unOp .not 4 (.tmp 38),4,"",⟨[]⟩,none⟩,none,false⟩]) (.cond (.tmp 39) (.seq (.ops false [⟨⟨(some 6),.assign (.const (.slice none 0 0)),22,"",⟨[]⟩,none⟩,none,false⟩,⟨⟨(some 7),.assign (.const (.int .i64 7)),25,"",⟨[]⟩,none⟩,none,false⟩]) .ret) .skip)) (.seq (.ops false [⟨⟨(some 40),.move (.tmp 0),3,"",⟨[]⟩,none⟩,none,false⟩,⟨⟨(some 41),.move (.tmp 2),22,"",⟨[]⟩,none⟩,none,false⟩,⟨⟨(some 42),.call ⟨.value (.func 48),⟨[(.tmp 41)]⟩,⟨[22]⟩⟩,3,"",⟨[]⟩,none⟩,none,false⟩,⟨⟨(some 43),.move (.tmp 0),3,"",⟨[]⟩,none⟩,none,false⟩,⟨⟨(some 44),.call ⟨.value (.func 87),⟨[(.tmp 43)]⟩,⟨[3]⟩⟩,3,"",⟨[]⟩,none⟩,none,false⟩,⟨⟨(some 45),.call ⟨.value (.func 49),⟨[(.tmp 42),(.tmp 44)]⟩,⟨[3,3]⟩⟩,3,"",⟨[]⟩,none⟩,none,false⟩,⟨⟨(some 46),.call ⟨.value (.func 91),⟨[(.tmp 40),(.tmp 45)]⟩,⟨[3,3]⟩⟩,22,"",⟨[]⟩,none⟩,none,false⟩,⟨⟨(some 47),.move (.tmp 1),3,"",⟨[]⟩,none⟩,none,false⟩,⟨⟨(some 48),.slice 22 (.tmp 46) none (some (.tmp 47)) none,22,"",⟨[]⟩,none⟩,none,false⟩,⟨⟨(some 6),.assign (.tmp 48),22,"",⟨[]⟩,none⟩,none,false⟩,⟨⟨(some 7),.assign (.const (.int .i64 0)),25,"",⟨[]⟩,none⟩,none,false⟩]) .ret))))
def Try.s39 : SC := (.seq (.ops false [⟨⟨(some 6),.assign (.const (.slice none 0 0)),22,"",⟨[]⟩,none⟩,none,false⟩,⟨⟨(some 7),.assign (.const (.int .i64 0)),25,"",⟨[]⟩,none⟩,none,false⟩]) (.seq (.ops false [⟨⟨(some 10),.move (.tmp 0),3,"",⟨[]⟩,none⟩,none,false⟩,⟨⟨(some 11),.call ⟨.value (.func 46),⟨[(.const (.int .i64 1)),(.tmp 10),(.const (.int .i64 8))]⟩,⟨[3,3,3]⟩⟩,4,"",⟨[]⟩,none⟩,none,false⟩,⟨⟨(some 12),.move (.tmp 11),4,"",⟨[]⟩,none⟩,none,false⟩,⟨⟨(some 13),.move (.tmp 2),22,"",⟨[]⟩,none⟩,some ((some 12),true),false⟩,⟨⟨(some 14),.call ⟨.builtin .len,⟨[(.tmp 13)]⟩,⟨[22]⟩⟩,3,"",⟨[]⟩,none⟩,some ((some 12),true),false⟩,⟨⟨(some 15),.call ⟨.value (.func 46),⟨[(.const (.int .i64 1)),(.tmp 14),(.const (.int .i64 16))]⟩,⟨[3,3,3]⟩⟩,4,"",⟨[]⟩,none⟩,some ((some 12),true),false⟩,⟨⟨(some 16),.pick (.tmp 12) (.tmp 15) (.const (.bool false)),4,"",⟨[]⟩,none⟩,none,false⟩,⟨⟨(some 8),.assign (.tmp 16),4,"",⟨[]⟩,none⟩,none,false⟩]) Try.s39_c9))
def Try.s53 : SC := (.seq (.ops false [⟨⟨(some 4),.assign (.const (.int .i64 0)),3,"",⟨[]⟩,none⟩,none,false⟩]) (.seq (.seq (.ops false [⟨⟨(some 5),.assign (.const (.int .i64 0)),3,"",⟨[]⟩,none⟩,none,false⟩]) (.block 0 (.loop (.seq (.seq (.ops false [⟨⟨(some 6),.move (.tmp 5),3,"",⟨[]⟩,none⟩,none,false⟩,⟨⟨(some 7),.move (.tmp 0),22,"",⟨[]⟩,none⟩,none,false⟩,⟨⟨(some 8),.call ⟨.builtin .len,⟨[(.tmp 7)]⟩,⟨[22]⟩⟩,3,"",⟨[]⟩,none⟩,none,false⟩,⟨⟨(some 9),.binOp .lss 3 (.tmp 6) (.tmp 8) 3,4,"",⟨[]⟩,none⟩,none,false⟩]) (.cond (.tmp 9) .skip (.exit 0))) (.seq (.block 1 (.seq (.ops false [⟨⟨(some 12),.move (.tmp 0),22,"",⟨[]⟩,none⟩,none,false⟩,⟨⟨(some 13),.move (.tmp 5),3,"",⟨[]⟩,none⟩,none,false⟩,⟨⟨(some 14),.indexAddr 22 (.tmp 12) (.tmp 13),0,"",⟨[]⟩,none⟩,none,false⟩,⟨⟨(some 15),.load 3 (.tmp 14),3,"",⟨[]⟩,none⟩,none,false⟩,⟨⟨(some 16),.move (.tmp 1),3,"",⟨[]⟩,none⟩,none,false⟩,⟨⟨(some 17),.binOp .eql 3 (.tmp 15) (.tmp 16) 3,4,"",⟨[]⟩,none⟩,none,false⟩]) (.cond (.tmp 17) (.seq (.ops false [⟨⟨(some 18),.move (.tmp 5),3,"",⟨[]⟩,none⟩,none,false⟩,⟨⟨(some 4),.assign (.tmp 18),3,"",⟨[]⟩,none⟩,none,false⟩]) .ret) .skip))) (.ops false [⟨⟨(some 10),.move (.tmp 5),3,"",⟨[]⟩,none⟩,none,false⟩,⟨⟨(some 11),.binOp .add 3 (.tmp 10) (.const (.int .i64 1)) 3,3,"",⟨[]⟩,none⟩,none,false⟩,⟨⟨(some 5),.assign (.tmp 11),3,"",⟨[]⟩,none⟩,none,false⟩])))))) (.seq (.ops false [⟨⟨(some 4),.assign (.const (.int .i64 (-1))),3,"",⟨[]⟩,none⟩,none,false⟩]) .ret)))
def Try.s49 : SC := (.seq (.ops false [⟨⟨(some 4),.assign (.const (.int .i64 0)),3,"",⟨[]⟩,none⟩,none,false⟩]) (.seq (.seq (.ops false [⟨⟨(some 5),.move (.tmp 1),3,"",⟨[]⟩,none⟩,none,false⟩,⟨⟨(some 6),.binOp .leq 3 (.tmp 5) (.const (.int .i64 0)) 3,4,"",⟨[]⟩,none⟩,none,false⟩]) (.cond (.tmp 6) (.seq (.ops false [⟨⟨(some 4),.assign (.const (.int .i64 0)),3,"",⟨[]⟩,none⟩,none,false⟩]) .ret) .skip)) (.seq (.ops false [⟨⟨(some 7),.move (.tmp 0),3,"",⟨[]⟩,none⟩,none,false⟩,⟨⟨(some 8),.move (.tmp 1),3,"",⟨[]⟩,none⟩,none,false⟩,⟨⟨(some 9),.binOp .rem 3 (.tmp 7) (.tmp 8) 3,3,"",⟨[]⟩,none⟩,none,false⟩,⟨⟨(some 10),.move (.tmp 1),3,"",⟨[]⟩,none⟩,none,false⟩,⟨⟨(some 11),.binOp .add 3 (.tmp 9) (.tmp 10) 3,3,"",⟨[]⟩,none⟩,none,false⟩,⟨⟨(some 12),.move (.tmp 1),3,"",⟨[]⟩,none⟩,none,false⟩,⟨⟨(some 13),.binOp .rem 3 (.tmp 11) (.tmp 12) 3,3,"",⟨[]⟩,none⟩,none,false⟩,⟨⟨(some 4),.assign (.tmp 13),3,"",⟨[]⟩,none⟩,none,false⟩]) .ret)))
def Try.s22 : SC := (.seq (.ops false [⟨⟨(some 4),.assign (.const (.bool false)),4,"",⟨[]⟩,none⟩,none,false⟩]) (.seq (.ops false [⟨⟨(some 7),.move (.tmp 0),22,"",⟨[]⟩,none⟩,none,false⟩,⟨⟨(some 8),.call ⟨.builtin .len,⟨[(.tmp 7)]⟩,⟨[22]⟩⟩,3,"",⟨[]⟩,none⟩,none,false⟩,⟨⟨(some 9),.move (.tmp 1),22,"",⟨[]⟩,none⟩,none,false⟩,⟨⟨(some 10),.call ⟨.builtin .len,⟨[(.tmp 9)]⟩,⟨[22]⟩⟩,3,"",⟨[]⟩,none⟩,none,false⟩,⟨⟨(some 11),.binOp .eql 3 (.tmp 8) (.tmp 10) 3,4,"",⟨[]⟩,none⟩,none,false⟩,⟨⟨(some 5),.assign (.tmp 11),4,"",⟨[]⟩,none⟩,none,false⟩]) (.seq (.seq (.ops false [⟨⟨(some 6),.assign (.const (.int .i64 0)),3,"",⟨[]⟩,none⟩,none,false⟩]) (.block 0 (.loop (.seq (.seq (.ops false [⟨⟨(some 12),.move (.tmp 5),4,"",⟨[]⟩,none⟩,none,false⟩,⟨⟨(some 13),.move (.tmp 12),4,"",⟨[]⟩,none⟩,none,false⟩,⟨⟨(some 14),.move (.tmp 6),3,"",⟨[]⟩,none⟩,some ((some 13),true),false⟩,⟨⟨(some 15),.move (.tmp 0),22,"",⟨[]⟩,none⟩,some ((some 13),true),false⟩,⟨⟨(some 16),.call ⟨.builtin .len,⟨[(.tmp 15)]⟩,⟨[22]⟩⟩,3,"",⟨[]⟩,none⟩,some ((some 13),true),false⟩,⟨⟨(some 17),.binOp .lss 3 (.tmp 14) (.tmp 16) 3,4,"",⟨[]⟩,none⟩,some ((some 13),true),false⟩,⟨⟨(some 18),.pick (.tmp 13) (.tmp 17) (.const (.bool false)),4,"",⟨[]⟩,none⟩,none,false⟩]) (.cond (.tmp 18) .skip (.exit 0))) (.seq (.block 1 (.ops true [⟨⟨(some 21),.move (.tmp 0),22,"",⟨[]⟩,none⟩,none,true⟩,⟨⟨(some 22),.move (.tmp 6),3,"",⟨[]⟩,none⟩,none,true⟩,⟨⟨(some 23),.indexAddr 22 (.tmp 21) (.tmp 22),0,"",⟨[]⟩,none⟩,none,true⟩,⟨⟨(some 24),.load 3 (.tmp 23),3,"",⟨[]⟩,none⟩,none,true⟩,⟨⟨(some 25),.move (.tmp 1),22,"",⟨[]⟩,none⟩,none,true⟩,⟨⟨(some 26),.move (.tmp 6),3,"",⟨[]⟩,none⟩,none,true⟩,⟨⟨(some 27),.indexAddr 22 (.tmp 25) (.tmp 26),0,"",⟨[]⟩,none⟩,none,true⟩,⟨⟨(some 28),.load 3 (.tmp 27),3,"",⟨[]⟩,none⟩,none,true⟩,⟨⟨(some 29),.binOp .eql 3 (.tmp 24) (.tmp 28) 3,4,"",⟨[]⟩,none⟩,none,true⟩,⟨⟨(some 5),.assign (.tmp 29),4,"",⟨[]⟩,none⟩,none,true⟩])) (.ops false [⟨⟨(some 19),.move (.tmp 6),3,"",⟨[]⟩,none⟩,none,false⟩,⟨⟨(some 20),.binOp .add 3 (.tmp 19) (.const (.int .i64 1)) 3,3,"",⟨[]⟩,none⟩,none,false⟩,⟨⟨(some 6),.assign (.tmp 20),3,"",⟨[]⟩,none⟩,none,false⟩])))))) (.seq (.ops false [⟨⟨(some 30),.move (.tmp 5),4,"",⟨[]⟩,none⟩,none,false⟩,⟨⟨(some 4),.assign (.tmp 30),4,"",⟨[]⟩,none⟩,none,false⟩]) .ret))))
def Try.s117 : SC := (.seq (.ops false [⟨⟨(some 3),.move (.tmp 0),22,"",⟨[]⟩,none⟩,none,false⟩,⟨⟨(some 4),.call ⟨.builtin .len,⟨[(.tmp 3)]⟩,⟨[22]⟩⟩,3,"",⟨[]⟩,none⟩,none,false⟩,⟨⟨(some 2),.assign (.tmp 4),3,"",⟨[]⟩,none⟩,none,false⟩]) (.ops false [⟨⟨(some 5),.move (.tmp 0),22,"",⟨[]⟩,none⟩,none,false⟩,⟨⟨(some 6),.move (.tmp 2),3,"",⟨[]⟩,none⟩,none,false⟩,⟨⟨(some 7),.move (.tmp 2),3,"",⟨[]⟩,none⟩,none,false⟩,⟨⟨(some 8),.convert 3 121 (.tmp 7),121,"",⟨[]⟩,none⟩,none,false⟩,⟨⟨(some 9),.call ⟨.value (.func 125),⟨[(.tmp 8)]⟩,⟨[121]⟩⟩,3,"",⟨[]⟩,none⟩,none,false⟩,⟨⟨(some 10),.call ⟨.value (.func 124),⟨[(.tmp 5),(.const (.int .i64 0)),(.tmp 6),(.tmp 9)]⟩,⟨[22,3,3,3]⟩⟩,0,"",⟨[]⟩,none⟩,none,false⟩]))
def Try.s124 : SC := (.seq (.ops false [⟨⟨(some 8),.assign (.const (.bool true)),4,"",⟨[]⟩,none⟩,none,false⟩]) (.seq (.ops false [⟨⟨(some 9),.assign (.const (.bool true)),4,"",⟨[]⟩,none⟩,none,false⟩]) (.block 0 (.loop (.block 1 (.seq (.ops false [⟨⟨(some 19),.move (.tmp 2),3,"",⟨[]⟩,none⟩,none,false⟩,⟨⟨(some 20),.move (.tmp 1),3,"",⟨[]⟩,none⟩,none,false⟩,⟨⟨(some 21),.binOp .sub 3 (.tmp 19) (.tmp 20) 3,3,"",⟨[]⟩,none⟩,none,false⟩,⟨⟨(some 10),.assign (.tmp 21),3,"",⟨[]⟩,none⟩,none,false⟩]) (.seq (.seq (.ops false [⟨⟨(some 22),.move (.tmp 10),3,"",⟨[]⟩,none⟩,none,false⟩,⟨⟨(some 23),.binOp .leq 3 (.tmp 22) (.const (.int .i64 12)) 3,4,"",⟨[]⟩,none⟩,none,false⟩]) (.cond (.tmp 23) (.seq (.ops false [⟨⟨(some 24),.move (.tmp 0),22,"",⟨[]⟩,none⟩,none,false⟩,⟨⟨(some 25),.move (.tmp 1),3,"",⟨[]⟩,none⟩,none,false⟩,⟨⟨(some 26),.move (.tmp 2),3,"",⟨[]⟩,none⟩,none,false⟩,⟨⟨(some 27),.call ⟨.value (.func 126),⟨[(.tmp 24),(.tmp 25),(.tmp 26)]⟩,⟨[22,3,3]⟩⟩,0,"",⟨[]⟩,none⟩,none,false⟩]) .ret) .skip)) (.seq (.seq (.ops false [⟨⟨(some 28),.move (.tmp 3),3,"",⟨[]⟩,none⟩,none,false⟩,⟨⟨(some 29),.binOp .eql 3 (.tmp 28) (.const (.int .i64 0)) 3,4,"",⟨[]⟩,none⟩,none,false⟩]) (.cond (.tmp 29) (.seq (.ops false [⟨⟨(some 30),.move (.tmp 0),22,"",⟨[]⟩,none⟩,none,false⟩,⟨⟨(some 31),.move (.tmp 1),3,"",⟨[]⟩,none⟩,none,false⟩,⟨⟨(some 32),.move (.tmp 2),3,"",⟨[]⟩,none⟩,none,false⟩,⟨⟨(some 33),.call ⟨.value (.func 127),⟨[(.tmp 30),(.tmp 31),(.tmp 32)]⟩,⟨[22,3,3]⟩⟩,0,"",⟨[]⟩,none⟩,none,false⟩]) .ret) .skip)) (.seq (.seq (.ops false [⟨⟨(some 34),.move (.tmp 8),4,"",⟨[]⟩,none⟩,none,false⟩,⟨⟨(some 35),.unOp .not 4 (.tmp 34),4,"",⟨[]⟩,none⟩,none,false⟩]) (.cond (.tmp 35) (.seq (.ops false [⟨⟨(some 36),.move (.tmp 0),22,"",⟨[]⟩,none⟩,none,false⟩,⟨⟨(some 37),.move (.tmp 1),3,"",⟨[]⟩,none⟩,none,false⟩,⟨⟨(some 38),.move (.tmp 2),3,"",⟨[]⟩,none⟩,none,false⟩,⟨⟨(some 39),.call ⟨.value (.func 128),⟨[(.tmp 36),(.tmp 37),(.tmp 38)]⟩,⟨[22,3,3]⟩⟩,0,"",⟨[]⟩,none⟩,none,false⟩]) (.ops false [⟨⟨(some 40),.move (.tmp 3),3,"",⟨[]⟩,none⟩,none,false⟩,⟨⟨(some 41),.binOp .sub 3 (.tmp 40) (.const (.int .i64 1)) 3,3,"",⟨[]⟩,none⟩,none,false⟩,⟨⟨(some 3),.assign (.tmp 41),3,"",⟨[]⟩,none⟩,none,false⟩])) .skip)) (.seq (.ops false [⟨⟨(some 43),.move (.tmp 0),22,"",⟨[]⟩,none⟩,none,false⟩,⟨⟨(some 44),.move (.tmp 1),3,"",⟨[]⟩,none⟩,none,false⟩,⟨⟨(some 45),.move (.tmp 2),3,"",⟨[]⟩,none⟩,none,false⟩,⟨⟨(some 46),.call ⟨.value (.func 129),⟨[(.tmp 43),(.tmp 44),(.tmp 45)]⟩,⟨[22,3,3]⟩⟩,133,"",⟨[]⟩,none⟩,none,false⟩,⟨⟨(some 42),.move (.tmp 46),133,"",⟨[]⟩,none⟩,none,false⟩,⟨⟨(some 47),.extract (.tmp 42) 0,3,"",⟨[]⟩,none⟩,none,false⟩,⟨⟨(some 48),.extract (.tmp 42) 1,132,"",⟨[]⟩,none⟩,none,false⟩,⟨⟨(some 11),.assign (.tmp 47),3,"",⟨[]⟩,none⟩,none,false⟩,⟨⟨(some 12),.assign (.tmp 48),132,"",⟨[]⟩,none⟩,none,false⟩]) (.seq (.seq (.ops false [⟨⟨(some 49),.move (.tmp 12),132,"",⟨[]⟩,none⟩,none,false⟩,⟨⟨(some 50),.binOp .eql 132 (.tmp 49) (.const (.int .i64 2)) 132,4,"",⟨[]⟩,none⟩,none,false⟩]) (.cond (.tmp 50) (.seq (.ops false [⟨⟨(some 51),.move (.tmp 0),22,"",⟨[]⟩,none⟩,none,false⟩,⟨⟨(some 52),.move (.tmp 1),3,"",⟨[]⟩,none⟩,none,false⟩,⟨⟨(some 53),.move (.tmp 2),3,"",⟨[]⟩,none⟩,none,false⟩,⟨⟨(some 54),.call ⟨.value (.func 130),⟨[(.tmp 51),(.tmp 52),(.tmp 53)]⟩,⟨[22,3,3]⟩⟩,0,"",⟨[]⟩,none⟩,none,false⟩]) (.seq (.ops false [⟨⟨(some 55),.move (.tmp 2),3,"",⟨[]⟩,none⟩,none,false⟩,⟨⟨(some 56),.binOp .sub 3 (.tmp 55) (.const (.int .i64 1)) 3,3,"",⟨[]⟩,none⟩,none,false⟩,⟨⟨(some 57),.move (.tmp 11),3,"",⟨[]⟩,none⟩,none,false⟩,⟨⟨(some 58),.move (.tmp 1),3,"",⟨[]⟩,none⟩,none,false⟩,⟨⟨(some 59),.binOp .sub 3 (.tmp 57) (.tmp 58) 3,3,"",⟨[]⟩,none⟩,none,false⟩,⟨⟨(some 60),.binOp .sub 3 (.tmp 56) (.tmp 59) 3,3,"",⟨[]⟩,none⟩,none,false⟩,⟨⟨(some 11),.assign (.tmp 60),3,"",⟨[]⟩,none⟩,none,false⟩]) (.ops false [⟨⟨(some 12),.assign (.const (.int .i64 1)),132,"",⟨[]⟩,none⟩,none,false⟩]))) .skip)) (.seq (.seq (.ops false [⟨⟨(some 61),.move (.tmp 8),4,"",⟨[]⟩,none⟩,none,false⟩,⟨⟨(some 62),.move (.tmp 61),4,"",⟨[]⟩,none⟩,none,false⟩,⟨⟨(some 63),.move (.tmp 9),4,"",⟨[]⟩,none⟩,some ((some 62),true),false⟩,⟨⟨(some 64),.pick (.tmp 62) (.tmp 63) (.const (.bool false)),4,"",⟨[]⟩,none⟩,none,false⟩,⟨⟨(some 65),.move (.tmp 64),4,"",⟨[]⟩,none⟩,none,false⟩,⟨⟨(some 66),.move (.tmp 12),132,"",⟨[]⟩,none⟩,some ((some 65),true),false⟩,⟨⟨(some 67),.binOp .eql 132 (.tmp 66) (.const (.int .i64 1)) 132,4,"",⟨[]⟩,none⟩,some ((some 65),true),false⟩,⟨⟨(some 68),.pick (.tmp 65) (.tmp 67) (.const (.bool false)),4,"",⟨[]⟩,none⟩,none,false⟩]) (.cond (.tmp 68) (.seq (.ops false [⟨⟨(some 69),.move (.tmp 0),22,"",⟨[]⟩,none⟩,none,false⟩,⟨⟨(some 70),.move (.tmp 1),3,"",⟨[]⟩,none⟩,none,false⟩,⟨⟨(some 71),.move (.tmp 2),3,"",⟨[]⟩,none⟩,none,false⟩,⟨⟨(some 72),.call ⟨.value (.func 131),⟨[(.tmp 69),(.tmp 70),(.tmp 71)]⟩,⟨[22,3,3]⟩⟩,4,"",⟨[]⟩,none⟩,none,false⟩]) (.cond (.tmp 72) .ret .skip)) .skip)) (.seq (.seq (.ops true [⟨⟨(some 73),.move (.tmp 1),3,"",⟨[]⟩,none⟩,none,true⟩,⟨⟨(some 74),.binOp .gtr 3 (.tmp 73) (.const (.int .i64 0)) 3,4,"",⟨[]⟩,none⟩,none,true⟩,⟨⟨(some 75),.move (.tmp 74),4,"",⟨[]⟩,none⟩,none,true⟩,⟨⟨(some 76),.move (.tmp 0),22,"",⟨[]⟩,none⟩,some ((some 75),true),true⟩,⟨⟨(some 77),.move (.tmp 1),3,"",⟨[]⟩,none⟩,some ((some 75),true),true⟩,⟨⟨(some 78),.binOp .sub 3 (.tmp 77) (.const (.int .i64 1)) 3,3,"",⟨[]⟩,none⟩,some ((some 75),true),true⟩,⟨⟨(some 79),.indexAddr 22 (.tmp 76) (.tmp 78),0,"",⟨[]⟩,none⟩,some ((some 75),true),true⟩,⟨⟨(some 80),.load 3 (.tmp 79),3,"",⟨[]⟩,none⟩,some ((some 75),true),true⟩,⟨⟨(some 81),.move (.tmp 0),22,"",⟨[]⟩,none⟩,some ((some 75),true),true⟩,⟨⟨(some 82),.move (.tmp 11),3,"",⟨[]⟩,none⟩,some ((some 75),true),true⟩,⟨⟨(some 83),.indexAddr 22 (.tmp 81) (.tmp 82),0,"",⟨[]⟩,none⟩,some ((some 75),true),true⟩,⟨⟨(some 84),.load 3 (.tmp 83),3,"",⟨[]⟩,none⟩,some ((some 75),true),true⟩,⟨⟨(some 85),.call ⟨.value (.func 132),⟨[(.tmp 80),(.tmp 84)]⟩,⟨[3,3]⟩⟩,4,"",⟨[]⟩,none⟩,some ((some 75),true),false⟩,⟨⟨(some 86),.unOp .not 4 (.tmp 85),4,"",⟨[]⟩,none⟩,some ((some 75),true),true⟩,⟨⟨(some 87),.pick (.tmp 75) (.tmp 86) (.const (.bool false)),4,"",⟨[]⟩,none⟩,none,true⟩]) (.cond (.tmp 87) (.seq (.ops false [⟨⟨(some 88),.move (.tmp 0),22,"",⟨[]⟩,none⟩,none,false⟩,⟨⟨(some 89),.move (.tmp 1),3,"",⟨[]⟩,none⟩,none,false⟩,⟨⟨(some 90),.move (.tmp 2),3,"",⟨[]⟩,none⟩,none,false⟩,⟨⟨(some 91),.move (.tmp 11),3,"",⟨[]⟩,none⟩,none,false⟩,⟨⟨(some 92),.call ⟨.value (.func 133),⟨[(.tmp 88),(.tmp 89),(.tmp 90),(.tmp 91)]⟩,⟨[22,3,3,3]⟩⟩,3,"",⟨[]⟩,none⟩,none,false⟩,⟨⟨(some 13),.assign (.tmp 92),3,"",⟨[]⟩,none⟩,none,false⟩]) (.seq (.ops false [⟨⟨(some 93),.move (.tmp 13),3,"",⟨[]⟩,none⟩,none,false⟩,⟨⟨(some 1),.assign (.tmp 93),3,"",⟨[]⟩,none⟩,none,false⟩]) (.exit 1))) .skip)) (.seq (.ops false [⟨⟨(some 95),.move (.tmp 0),22,"",⟨[]⟩,none⟩,none,false⟩,⟨⟨(some 96),.move (.tmp 1),3,"",⟨[]⟩,none⟩,none,false⟩,⟨⟨(some 97),.move (.tmp 2),3,"",⟨[]⟩,none⟩,none,false⟩,⟨⟨(some 98),.move (.tmp 11),3,"",⟨[]⟩,none⟩,none,false⟩,⟨⟨(some 99),.call ⟨.value (.func 134),⟨[(.tmp 95),(.tmp 96),(.tmp 97),(.tmp 98)]⟩,⟨[22,3,3,3]⟩⟩,127,"",⟨[]⟩,none⟩,none,false⟩,⟨⟨(some 94),.move (.tmp 99),127,"",⟨[]⟩,none⟩,none,false⟩,⟨⟨(some 100),.extract (.tmp 94) 0,3,"",⟨[]⟩,none⟩,none,false⟩,⟨⟨(some 101),.extract (.tmp 94) 1,4,"",⟨[]⟩,none⟩,none,false⟩,⟨⟨(some 14),.assign (.tmp 100),3,"",⟨[]⟩,none⟩,none,false⟩,⟨⟨(some 15),.assign (.tmp 101),4,"",⟨[]⟩,none⟩,none,false⟩]) (.seq (.ops false [⟨⟨(some 102),.move (.tmp 15),4,"",⟨[]⟩,none⟩,none,false⟩,⟨⟨(some 9),.assign (.tmp 102),4,"",⟨[]⟩,none⟩,none,false⟩]) (.seq (.ops false [⟨⟨(some 103),.move (.tmp 14),3,"",⟨[]⟩,none⟩,none,false⟩,⟨⟨(some 104),.move (.tmp 1),3,"",⟨[]⟩,none⟩,none,false⟩,⟨⟨(some 105),.binOp .sub 3 (.tmp 103) (.tmp 104) 3,3,"",⟨[]⟩,none⟩,none,false⟩,⟨⟨(some 106),.move (.tmp 2),3,"",⟨[]⟩,none⟩,none,false⟩,⟨⟨(some 107),.move (.tmp 14),3,"",⟨[]⟩,none⟩,none,false⟩,⟨⟨(some 108),.binOp .sub 3 (.tmp 106) (.tmp 107) 3,3,"",⟨[]⟩,none⟩,none,false⟩,⟨⟨(some 16),.assign (.tmp 105),3,"",⟨[]⟩,none⟩,none,false⟩,⟨⟨(some 17),.assign (.tmp 108),3,"",⟨[]⟩,none⟩,none,false⟩]) (.seq (.ops false [⟨⟨(some 109),.move (.tmp 10),3,"",⟨[]⟩,none⟩,none,false⟩,⟨⟨(some 110),.binOp .quo 3 (.tmp 109) (.const (.int .i64 8)) 3,3,"",⟨[]⟩,none⟩,none,false⟩,⟨⟨(some 18),.assign (.tmp 110),3,"",⟨[]⟩,none⟩,none,false⟩]) (.seq (.ops false [⟨⟨(some 111),.move (.tmp 16),3,"",⟨[]⟩,none⟩,none,false⟩,⟨⟨(some 112),.move (.tmp 17),3,"",⟨[]⟩,none⟩,none,false⟩,⟨⟨(some 113),.binOp .lss 3 (.tmp 111) (.tmp 112) 3,4,"",⟨[]⟩,none⟩,none,false⟩]) (.cond (.tmp 113) (.seq (.ops false [⟨⟨(some 114),.move (.tmp 16),3,"",⟨[]⟩,none⟩,none,false⟩,⟨⟨(some 115),.move (.tmp 18),3,"",⟨[]⟩,none⟩,none,false⟩,⟨⟨(some 116),.binOp .geq 3 (.tmp 114) (.tmp 115) 3,4,"",⟨[]⟩,none⟩,none,false⟩,⟨⟨(some 8),.assign (.tmp 116),4,"",⟨[]⟩,none⟩,none,false⟩]) (.seq (.ops false [⟨⟨(some 117),.move (.tmp 0),22,"",⟨[]⟩,none⟩,none,false⟩,⟨⟨(some 118),.move (.tmp 1),3,"",⟨[]⟩,none⟩,none,false⟩,⟨⟨(some 119),.move (.tmp 14),3,"",⟨[]⟩,none⟩,none,false⟩,⟨⟨(some 120),.move (.tmp 3),3,"",⟨[]⟩,none⟩,none,false⟩,⟨⟨(some 121),.call ⟨.value (.func 124),⟨[(.tmp 117),(.tmp 118),(.tmp 119),(.tmp 120)]⟩,⟨[22,3,3,3]⟩⟩,0,"",⟨[]⟩,none⟩,none,false⟩]) (.ops false [⟨⟨(some 122),.move (.tmp 14),3,"",⟨[]⟩,none⟩,none,false⟩,⟨⟨(some 123),.binOp .add 3 (.tmp 122) (.const (.int .i64 1)) 3,3,"",⟨[]⟩,none⟩,none,false⟩,⟨⟨(some 1),.assign (.tmp 123),3,"",⟨[]⟩,none⟩,none,false⟩]))) (.seq (.ops false [⟨⟨(some 124),.move (.tmp 17),3,"",⟨[]⟩,none⟩,none,false⟩,⟨⟨(some 125),.move (.tmp 18),3,"",⟨[]⟩,none⟩,none,false⟩,⟨⟨(some 126),.binOp .geq 3 (.tmp 124) (.tmp 125) 3,4,"",⟨[]⟩,none⟩,none,false⟩,⟨⟨(some 8),.assign (.tmp 126),4,"",⟨[]⟩,none⟩,none,false⟩]) (.seq (.ops false [⟨⟨(some 127),.move (.tmp 0),22,"",⟨[]⟩,none⟩,none,false⟩,⟨⟨(some 128),.move (.tmp 14),3,"",⟨[]⟩,none⟩,none,false⟩,⟨⟨(some 129),.binOp .add 3 (.tmp 128) (.const (.int .i64 1)) 3,3,"",⟨[]⟩,none⟩,none,false⟩,⟨⟨(some 130),.move (.tmp 2),3,"",⟨[]⟩,none⟩,none,false⟩,⟨⟨(some 131),.move (.tmp 3),3,"",⟨[]⟩,none⟩,none,false⟩,⟨⟨(some 132),.call ⟨.value (.func 124),⟨[(.tmp 127),(.tmp 129),(.tmp 130),(.tmp 131)]⟩,⟨[22,3,3,3]⟩⟩,0,"",⟨[]⟩,none⟩,none,false⟩]) (.ops false [⟨⟨(some 133),.move (.tmp 14),3,"",⟨[]⟩,none⟩,none,false⟩,⟨⟨(some 2),.assign (.tmp 133),3,"",⟨[]⟩,none⟩,none,false⟩]))))))))))))))))))))))
def Try.s132 : SC := (.seq (.ops false [⟨⟨(some 4),.assign (.const (.bool false)),4,"",⟨[]⟩,none⟩,none,false⟩]) (.seq (.ops false [⟨⟨(some 5),.move (.tmp 0),3,"",⟨[]⟩,none⟩,none,false⟩,⟨⟨(some 6),.call ⟨.value (.func 142),⟨[(.tmp 5)]⟩,⟨[3]⟩⟩,4,"",⟨[]⟩,none⟩,none,false⟩,⟨⟨(some 7),.move (.tmp 6),4,"",⟨[]⟩,none⟩,none,false⟩,⟨⟨(some 8),.move (.tmp 1),3,"",⟨[]⟩,none⟩,some ((some 7),true),false⟩,⟨⟨(some 9),.call ⟨.value (.func 142),⟨[(.tmp 8)]⟩,⟨[3]⟩⟩,4,"",⟨[]⟩,none⟩,some ((some 7),true),false⟩,⟨⟨(some 10),.unOp .not 4 (.tmp 9),4,"",⟨[]⟩,none⟩,some ((some 7),true),false⟩,⟨⟨(some 11),.pick (.tmp 7) (.tmp 10) (.const (.bool false)),4,"",⟨[]⟩,none⟩,none,false⟩,⟨⟨(some 12),.move (.tmp 11),4,"",⟨[]⟩,none⟩,none,false⟩,⟨⟨(some 13),.move (.tmp 0),3,"",⟨[]⟩,none⟩,some ((some 12),false),false⟩,⟨⟨(some 14),.move (.tmp 1),3,"",⟨[]⟩,none⟩,some ((some 12),false),false⟩,⟨⟨(some 15),.binOp .lss 3 (.tmp 13) (.tmp 14) 3,4,"",⟨[]⟩,none⟩,some ((some 12),false),false⟩,⟨⟨(some 16),.pick (.tmp 12) (.const (.bool true)) (.tmp 15),4,"",⟨[]⟩,none⟩,none,false⟩,⟨⟨(some 4),.assign (.tmp 16),4,"",⟨[]⟩,none⟩,none,false⟩]) .ret))
def Try.s142 : SC := (.seq (.ops false [⟨⟨(some 2),.assign (.const (.bool false)),4,"",⟨[]⟩,none⟩,none,false⟩]) (.seq (.ops false [⟨⟨(some 3),.move (.tmp 0),3,"",⟨[]⟩,none⟩,none,false⟩,⟨⟨(some 4),.move (.tmp 0),3,"",⟨[]⟩,none⟩,none,false⟩,⟨⟨(some 5),.binOp .neq 3 (.tmp 3) (.tmp 4) 3,4,"",⟨[]⟩,none⟩,none,false⟩,⟨⟨(some 2),.assign (.tmp 5),4,"",⟨[]⟩,none⟩,none,false⟩]) .ret))
def Try.s6 : SC := (.seq (.ops false [⟨⟨(some 4),.box 45 (.tmp 1),0,"",⟨[]⟩,none⟩,none,false⟩,⟨⟨(some 6),.assign (.const (.bool false)),4,"",⟨[]⟩,none⟩,none,false⟩]) (.seq (.ops false [⟨⟨(some 14),.move (.tmp 0),22,"",⟨[]⟩,none⟩,none,false⟩,⟨⟨(some 15),.call ⟨.value (.func 34),⟨[(.tmp 14)]⟩,⟨[22]⟩⟩,39,"",⟨[]⟩,none⟩,none,false⟩,⟨⟨(some 13),.move (.tmp 15),39,"",⟨[]⟩,none⟩,none,false⟩,⟨⟨(some 16),.extract (.tmp 13) 0,3,"",⟨[]⟩,none⟩,none,false⟩,⟨⟨(some 17),.extract (.tmp 13) 1,25,"",⟨[]⟩,none⟩,none,false⟩,⟨⟨(some 7),.assign (.tmp 16),3,"",⟨[]⟩,none⟩,none,false⟩,⟨⟨(some 8),.assign (.tmp 17),25,"",⟨[]⟩,none⟩,none,false⟩]) (.seq (.ops false [⟨⟨(some 19),.move (.tmp 0),22,"",⟨[]⟩,none⟩,none,false⟩,⟨⟨(some 20),.call ⟨.value (.func 35),⟨[(.tmp 19)]⟩,⟨[22]⟩⟩,39,"",⟨[]⟩,none⟩,none,false⟩,⟨⟨(some 18),.move (.tmp 20),39,"",⟨[]⟩,none⟩,none,false⟩,⟨⟨(some 21),.extract (.tmp 18) 0,3,"",⟨[]⟩,none⟩,none,false⟩,⟨⟨(some 22),.extract (.tmp 18) 1,25,"",⟨[]⟩,none⟩,none,false⟩,⟨⟨(some 9),.assign (.tmp 21),3,"",⟨[]⟩,none⟩,none,false⟩,⟨⟨(some 10),.assign (.tmp 22),25,"",⟨[]⟩,none⟩,none,false⟩]) (.seq (.seq (.ops false [⟨⟨(some 23),.move (.tmp 7),3,"",⟨[]⟩,none⟩,none,false⟩,⟨⟨(some 24),.move (.tmp 9),3,"",⟨[]⟩,none⟩,none,false⟩,⟨⟨(some 25),.binOp .neq 3 (.tmp 23) (.tmp 24) 3,4,"",⟨[]⟩,none⟩,none,false⟩,⟨⟨(some 26),.move (.tmp 25),4,"",⟨[]⟩,none⟩,none,false⟩,⟨⟨(some 27),.move (.tmp 8),25,"",⟨[]⟩,none⟩,some ((some 26),false),false⟩,⟨⟨(some 28),.move (.tmp 10),25,"",⟨[]⟩,none⟩,some ((some 26),false),false⟩,⟨⟨(some 29),.binOp .neq 25 (.tmp 27) (.tmp 28) 25,4,"",⟨[]⟩,none⟩,some ((some 26),false),false⟩,⟨⟨(some 30),.pick (.tmp 26) (.const (.bool true)) (.tmp 29),4,"",⟨[]⟩,none⟩,none,false⟩]) (.cond (.tmp 30) (.seq (.ops false [⟨⟨(some 6),.assign (.const (.bool false)),4,"",⟨[]⟩,none⟩,none,false⟩]) .ret) .skip)) (.seq (.ops false [⟨⟨(some 32),.indexAddr 45 (.tmp 4) (.const (.int .i64 0)),0,"",⟨[]⟩,none⟩,none,false⟩,⟨⟨(some 33),.load 3 (.tmp 32),3,"",⟨[]⟩,none⟩,none,false⟩,⟨⟨(some 34),.indexAddr 45 (.tmp 4) (.const (.int .i64 1)),0,"",⟨[]⟩,none⟩,none,false⟩,⟨⟨(some 35),.load 3 (.tmp 34),3,"",⟨[]⟩,none⟩,none,false⟩,⟨⟨(some 36),.call ⟨.value (.func 36),⟨[(.tmp 33),(.tmp 35)]⟩,⟨[3,3]⟩⟩,47,"",⟨[]⟩,none⟩,none,false⟩,⟨⟨(some 31),.move (.tmp 36),47,"",⟨[]⟩,none⟩,none,false⟩,⟨⟨(some 37),.extract (.tmp 31) 0,22,"",⟨[]⟩,none⟩,none,false⟩,⟨⟨(some 38),.extract (.tmp 31) 1,25,"",⟨[]⟩,none⟩,none,false⟩,⟨⟨(some 11),.assign (.tmp 37),22,"",⟨[]⟩,none⟩,none,false⟩,⟨⟨(some 8),.assign (.tmp 38),25,"",⟨[]⟩,none⟩,none,false⟩]) (.seq (.ops false [⟨⟨(some 40),.indexAddr 45 (.tmp 4) (.const (.int .i64 0)),0,"",⟨[]⟩,none⟩,none,false⟩,⟨⟨(some 41),.load 3 (.tmp 40),3,"",⟨[]⟩,none⟩,none,false⟩,⟨⟨(some 42),.indexAddr 45 (.tmp 4) (.const (.int .i64 1)),0,"",⟨[]⟩,none⟩,none,false⟩,⟨⟨(some 43),.load 3 (.tmp 42),3,"",⟨[]⟩,none⟩,none,false⟩,⟨⟨(some 44),.call ⟨.value (.func 37),⟨[(.tmp 41),(.tmp 43)]⟩,⟨[3,3]⟩⟩,47,"",⟨[]⟩,none⟩,none,false⟩,⟨⟨(some 39),.move (.tmp 44),47,"",⟨[]⟩,none⟩,none,false⟩,⟨⟨(some 45),.extract (.tmp 39) 0,22,"",⟨[]⟩,none⟩,none,false⟩,⟨⟨(some 46),.extract (.tmp 39) 1,25,"",⟨[]⟩,none⟩,none,false⟩,⟨⟨(some 12),.assign (.tmp 45),22,"",⟨[]⟩,none⟩,none,false⟩,⟨⟨(some 10),.assign (.tmp 46),25,"",⟨[]⟩,none⟩,none,false⟩]) (.seq (.seq (.ops false [⟨⟨(some 47),.move (.tmp 11),22,"",⟨[]⟩,none⟩,none,false⟩,⟨⟨(some 48),.move (.tmp 12),22,"",⟨[]⟩,none⟩,none,false⟩,⟨⟨(some 49),.call ⟨.value (.func 22),⟨[(.tmp 47),(.tmp 48)]⟩,⟨[22,22]⟩⟩,4,"",⟨[]⟩,none⟩,none,false⟩,⟨⟨(some 50),.unOp .not 4 (.tmp 49),4,"",⟨[]⟩,none⟩,none,false⟩,⟨⟨(some 51),.move (.tmp 50),4,"",⟨[]⟩,none⟩,none,false⟩,⟨⟨(some 52),.move (.tmp 8),25,"",⟨[]⟩,none⟩,some ((some 51),false),false⟩,⟨⟨(some 53),.move (.tmp 10),25,"",⟨[]⟩,none⟩,some ((some 51),false),false⟩,⟨⟨(some 54),.binOp .neq 25 (.tmp 52) (.tmp 53) 25,4,"",⟨[]⟩,none⟩,some ((some 51),false),false⟩,⟨⟨(some 55),.pick (.tmp 51) (.const (.bool true)) (.tmp 54),4,"",⟨[]⟩,none⟩,none,false⟩]) (.cond (.tmp 55) (.seq (.ops false [⟨⟨(some 6),.assign (.const (.bool false)),4,"",⟨[]⟩,none⟩,none,false⟩]) .ret) .skip)) (.seq (.ops false [⟨⟨(some 57),.indexAddr 45 (.tmp 4) (.const (.int .i64 0)),0,"",⟨[]⟩,none⟩,none,false⟩,⟨⟨(some 58),.load 3 (.tmp 57),3,"",⟨[]⟩,none⟩,none,false⟩,⟨⟨(some 59),.indexAddr 45 (.tmp 4) (.const (.int .i64 2)),0,"",⟨[]⟩,none⟩,none,false⟩,⟨⟨(some 60),.load 3 (.tmp 59),3,"",⟨[]⟩,none⟩,none,false⟩,⟨⟨(some 61),.move (.tmp 2),22,"",⟨[]⟩,none⟩,none,false⟩,⟨⟨(some 62),.call ⟨.value (.func 38),⟨[(.tmp 58),(.tmp 60),(.tmp 61)]⟩,⟨[3,3,22]⟩⟩,47,"",⟨[]⟩,none⟩,none,false⟩,⟨⟨(some 56),.move (.tmp 62),47,"",⟨[]⟩,none⟩,none,false⟩,⟨⟨(some 63),.extract (.tmp 56) 0,22,"",⟨[]⟩,none⟩,none,false⟩,⟨⟨(some 64),.extract (.tmp 56) 1,25,"",⟨[]⟩,none⟩,none,false⟩,⟨⟨(some 11),.assign (.tmp 63),22,"",⟨[]⟩,none⟩,none,false⟩,⟨⟨(some 8),.assign (.tmp 64),25,"",⟨[]⟩,none⟩,none,false⟩]) (.seq (.ops false [⟨⟨(some 66),.indexAddr 45 (.tmp 4) (.const (.int .i64 0)),0,"",⟨[]⟩,none⟩,none,false⟩,⟨⟨(some 67),.load 3 (.tmp 66),3,"",⟨[]⟩,none⟩,none,false⟩,⟨⟨(some 68),.indexAddr 45 (.tmp 4) (.const (.int .i64 2)),0,"",⟨[]⟩,none⟩,none,false⟩,⟨⟨(some 69),.load 3 (.tmp 68),3,"",⟨[]⟩,none⟩,none,false⟩,⟨⟨(some 70),.move (.tmp 2),22,"",⟨[]⟩,none⟩,none,false⟩,⟨⟨(some 71),.call ⟨.value (.func 39),⟨[(.tmp 67),(.tmp 69),(.tmp 70)]⟩,⟨[3,3,22]⟩⟩,47,"",⟨[]⟩,none⟩,none,false⟩,⟨⟨(some 65),.move (.tmp 71),47,"",⟨[]⟩,none⟩,none,false⟩,⟨⟨(some 72),.extract (.tmp 65) 0,22,"",⟨[]⟩,none⟩,none,false⟩,⟨⟨(some 73),.extract (.tmp 65) 1,25,"",⟨[]⟩,none⟩,none,false⟩,⟨⟨(some 12),.assign (.tmp 72),22,"",⟨[]⟩,none⟩,none,false⟩,⟨⟨(some 10),.assign (.tmp 73),25,"",⟨[]⟩,none⟩,none,false⟩]) (.seq (.ops false [⟨⟨(some 74),.move (.tmp 11),22,"",⟨[]⟩,none⟩,none,false⟩,⟨⟨(some 75),.move (.tmp 12),22,"",⟨[]⟩,none⟩,none,false⟩,⟨⟨(some 76),.call ⟨.value (.func 22),⟨[(.tmp 74),(.tmp 75)]⟩,⟨[22,22]⟩⟩,4,"",⟨[]⟩,none⟩,none,false⟩,⟨⟨(some 77),.move (.tmp 76),4,"",⟨[]⟩,none⟩,none,false⟩,⟨⟨(some 78),.move (.tmp 8),25,"",⟨[]⟩,none⟩,some ((some 77),true),false⟩,⟨⟨(some 79),.move (.tmp 10),25,"",⟨[]⟩,none⟩,some ((some 77),true),false⟩,⟨⟨(some 80),.binOp .eql 25 (.tmp 78) (.tmp 79) 25,4,"",⟨[]⟩,none⟩,some ((some 77),true),false⟩,⟨⟨(some 81),.pick (.tmp 77) (.tmp 80) (.const (.bool false)),4,"",⟨[]⟩,none⟩,none,false⟩,⟨⟨(some 82),.move (.tmp 81),4,"",⟨[]⟩,none⟩,none,false⟩,⟨⟨(some 83),.call ⟨.value (.func 25),⟨[]⟩,⟨[]⟩⟩,4,"",⟨[]⟩,none⟩,some ((some 82),true),false⟩,⟨⟨(some 84),.pick (.tmp 82) (.tmp 83) (.const (.bool false)),4,"",⟨[]⟩,none⟩,none,false⟩,⟨⟨(some 6),.assign (.tmp 84),4,"",⟨[]⟩,none⟩,none,false⟩]) .ret))))))))))
theorem Try.s86_eq : Try.f86.body.map sOf = some Try.s86 := by kernel_rfl
theorem Try.s88_eq : Try.f88.body.map sOf = some Try.s88 := by kernel_rfl
theorem Try.s89_eq : Try.f89.body.map sOf = some Try.s89 := by kernel_rfl
theorem Try.s90_eq : Try.f90.body.map sOf = some Try.s90 := by kernel_rfl
theorem Try.s91_eq : Try.f91.body.map sOf = some Try.s91 := by kernel_rfl
theorem Try.s92_eq : Try.f92.body.map sOf = some Try.s92 := by kernel_rfl
theorem Try.s119_eq : Try.f119.body.map sOf = some Try.s119 := by kernel_rfl
theorem Try.s34_eq : Try.f34.body.map sOf = some Try.s34 := by kernel_rfl
theorem Try.s36_eq : Try.f36.body.map sOf = some Try.s36 := by kernel_rfl
theorem Try.s38_eq : Try.f38.body.map sOf = some Try.s38 := by kernel_rfl
theorem Try.s50_eq : Try.f50.body.map sOf = some Try.s50 := by kernel_rfl
theorem Try.s35_eq : Try.f35.body.map sOf = some Try.s35 := by kernel_rfl
theorem Try.s37_eq : Try.f37.body.map sOf = some Try.s37 := by kernel_rfl
theorem Try.s39_eq : Try.f39.body.map sOf = some Try.s39 := by kernel_rfl
theorem Try.s53_eq : Try.f53.body.map sOf = some Try.s53 := by kernel_rfl
theorem Try.s49_eq : Try.f49.body.map sOf = some Try.s49 := by kernel_rfl
theorem Try.s22_eq : Try.f22.body.map sOf = some Try.s22 := by kernel_rfl
theorem Try.s117_eq : Try.f117.body.map sOf = some Try.s117 := by kernel_rfl
theorem Try.s124_eq : Try.f124.body.map sOf = some Try.s124 := by kernel_rfl
theorem Try.s132_eq : Try.f132.body.map sOf = some Try.s132 := by kernel_rfl
theorem Try.s142_eq : Try.f142.body.map sOf = some Try.s142 := by kernel_rfl
theorem Try.s6_eq : Try.f6.body.map sOf = some Try.s6 := by kernel_rfl
end Go.Proofs

namespace Go.Proofs
open Go Go.RowKit Go.Sim
set_option maxRecDepth 100000
theorem Try.ty123 : (prg Try.prog).ty 123 = some ⟨true, (.array 8 3), 8, 64, .agg #[.int .i64 0, .int .i64 0, .int .i64 0, .int .i64 0, .int .i64 0, .int .i64 0, .int .i64 0, .int .i64 0]⟩ := by kernel_rfl
attribute [go_sem] Try.ty123
end Go.Proofs

namespace Go.Sim
open Go Go.RowKit
section
variable {P : Program} {told : ToldF} {d : Option Tmp} {ty0 : TypeId} {pos : String} {af : Array Edge} {gd : Option (Tmp × Bool)} {t : Tmps} {w : AW} {K : Tmps → AW → Prop}
theorem stepR_copy {draw tie : Bool} {x y : Operand} {dT xT : TypeId} {tk : Tok ((⟨d, .call ⟨.builtin .copy, ⟨[x, y]⟩, ⟨[dT, xT]⟩⟩, ty0, pos, af, gd⟩ : Oper), t, w, K)} {v : Value} {w' : AW}
    (h : copyV (prg P) w (ev t x) (ev t y) dT xT = some (v, w')) (k : Owes (draw && tie) (WLe w w') (K (putTmp t d v) w') .mk) : StepR P told draw tie ⟨d, .call ⟨.builtin .copy, ⟨[x, y]⟩, ⟨[dT, xT]⟩⟩, ty0, pos, af, gd⟩ t w K tk := by
  show EffT P told _ t w _
  exact effT_still (fun call => by simp only [effect, h, gave]) k
theorem stepR_clear {draw tie : Bool} {x : Operand} {ty : TypeId} {tk : Tok ((⟨d, .call ⟨.builtin .clear, ⟨[x]⟩, ⟨[ty]⟩⟩, ty0, pos, af, gd⟩ : Oper), t, w, K)} {w' : AW}
    (h : clearV (prg P) w (ev t x) ty = some w') (k : Owes (draw && tie) (WLe w w') (K (putTmp t d undef) w') .mk) : StepR P told draw tie ⟨d, .call ⟨.builtin .clear, ⟨[x]⟩, ⟨[ty]⟩⟩, ty0, pos, af, gd⟩ t w K tk := by
  show EffT P told _ t w _
  exact effT_still (fun call => by simp only [effect, h, wrote]) k
end
theorem setsL_cut : ∀ (l c : List Value) (o : Nat), o + l.length ≤ c.length → setsL c o l = c.take o ++ l ++ c.drop (o + l.length)
  | [], c, o, _ => by simp [setsL]
  | v :: l, c, o, h => by
    rw [List.length_cons] at h
    rw [setsL, setsL_cut l _ _ (by rw [setL_eq, List.length_set]; omega), setL_eq, List.drop_set_of_lt (by omega), List.take_succ_eq_append_getElem (by rw [List.length_set]; omega), List.take_set_of_le (Nat.le_refl _)]
    rw [List.length_cons, show o + 1 + l.length = o + (l.length + 1) by omega]
    simp
def setsI (A : List Int) (o : Nat) (xs : List Int) : List Int := A.take o ++ xs ++ A.drop (o + xs.length)
theorem setsI_len {A : List Int} {o : Nat} {xs : List Int} (h : o + xs.length ≤ A.length) : (setsI A o xs).length = A.length := by
  unfold setsI; rw [List.length_append, List.length_append, List.length_take, List.length_drop]; omega
theorem setsI_eq {A : List Int} {o : Nat} {xs : List Int} (h : o + xs.length ≤ A.length) : setsL (A.flatMap icells) o (xs.flatMap icells) = (setsI A o xs).flatMap icells := by
  rw [setsL_cut _ _ _ (by rw [icells_flat_len, icells_flat_len]; exact h), icells_flat_len]
  unfold setsI
  rw [flat_icells, flat_icells, flat_icells, List.map_append, List.map_append, List.map_take, List.map_drop]
theorem stores_ints {w : AW} {b : Nat} {e : TypeId} {A : List Int} (h : Own w b e (A.flatMap icells)) (f : Fresh w) {o : Nat} {xs : List Int} (ho : o + xs.length ≤ A.length) :
    ∃ w', aStores b o (xs.flatMap icells) w = some w' ∧ Own w' b e ((setsI A o xs).flatMap icells) ∧ MutS (fun j => j = b) w w' ∧ w'.next = w.next := by
  cases xs with
  | nil =>
    refine ⟨w, rfl, ?_, MutS.refl f, rfl⟩
    have : setsI A o [] = A := by simp [setsI]
    rw [this]; exact h
  | cons x xs =>
    refine ⟨_, stores_own _ o w _ h (by simp [icells]) (by rw [icells_flat_len, icells_flat_len]; exact ho) (fun v hv => by
      obtain ⟨y, _, hy⟩ := List.mem_flatMap.1 hv
      exact icells_one y v hy), ?_, MutS.put (S := fun j => j = b) f rfl h.lt _, AW.next_put _ _ _⟩
    rw [setsI_eq ho]
    exact h.put _
theorem first_arr {w w' : AW} {v : Value} {L : List Int} (h : ArrOf w 1 icells v L) (k : Keep w.next w w') {n : Nat} (hn : n ≤ L.length) (h0 : 1 ≤ n) : ∃ b o c, v = .slice (some ⟨b, o, none⟩) L.length c ∧ aFirst w' 1 n v = some ((L.take n).flatMap icells) := by
  obtain ⟨p, c, rfl, h1, h2, hat⟩ := h.open
  obtain ⟨b, o, rfl, _⟩ := hat 0 (by omega)
  refine ⟨b, o, c, rfl, ?_⟩
  show aCells w' b o (n * 1) = _
  rw [Nat.mul_one]
  have := aCells_of (w := w') (b := b) ((L.take n).flatMap icells) o fun i v hv => by
    have hi : i < n := by
      have := (List.getElem?_eq_some_iff.1 hv).1
      rw [icells_flat_len, List.length_take] at this; omega
    obtain ⟨b1, o1, e, _, hc⟩ := hat i (by omega)
    injection e with e; injection e with e1 e2
    subst e1 e2
    have := hc w' k 0 _ rfl
    rw [flat_icells, List.getElem?_map, List.getElem?_take, if_pos hi, List.getElem?_eq_getElem (show i < L.length by omega)] at hv
    simp only [Option.map_some, Option.some.injEq] at hv
    subst hv
    simpa using this
  rw [icells_flat_len, List.length_take, Nat.min_eq_left hn] at this
  exact this
theorem copy_ints {g : Prg} {w w0 : AW} {b : Nat} {e e0 : TypeId} {A L : List Int} {ty xty : TypeId} {a1 a2 : Bool} {n1 b1 b2 : Nat} {d2 : TypeDesc} {z1 z2 : Value} (h : g.ty ty = some ⟨a1, .slice e0, n1, b1, z1⟩) (h2 : g.ty e0 = some ⟨a2, d2, 1, b2, z2⟩)
    (hO : Own w b e (A.flatMap icells)) (f : Fresh w) {v : Value} (hv : ArrOf w0 1 icells v L) (k : Keep w0.next w0 w) (h1 : 1 ≤ L.length) (hl : L.length ≤ A.length) {c : Nat} :
    ∃ w', copyV g w (.slice (some ⟨b, 0, none⟩) A.length c) v ty xty = some (.int .i64 (L.length : Int), w') ∧ Own w' b e ((setsI A 0 L).flatMap icells) ∧ MutS (fun j => j = b) w w' ∧ w'.next = w.next := by
  obtain ⟨b1, o1, c1, rfl, hf⟩ := first_arr hv k (Nat.le_refl _) h1
  rw [List.take_of_length_le (Nat.le_refl _)] at hf
  obtain ⟨w', s1, s2, s3, s4⟩ := stores_ints hO f (o := 0) (xs := L) (by omega)
  refine ⟨w', ?_, s2, s3, s4⟩
  have hm : Nat.min L.length A.length = L.length := Nat.min_eq_left hl
  simp only [copyV, h, h2, hm, hf, s1]
  rfl
theorem natOr_nat (d n : Nat) (k : IntKind) : natOr d (some (.int k (n : Int))) = some n := rfl
theorem slice_own {w : AW} {b o n k l m : Nat} {e : TypeId} {c : List Value} (h : Own w b e c) {lo hi : Option Value} (hlo : natOr 0 lo = some l) (hhi : natOr n hi = some m) (h1 : l ≤ m) (h2 : m ≤ k) :
    sliceV w 1 (.slice (some ⟨b, o, none⟩) n k) lo hi = some (.slice (some ⟨b, if l = k then o else o + l, none⟩) (m - l) (k - l)) := by
  have b1 : Nat.ble l m = true := Nat.ble_eq_true_of_le h1
  have b2 : Nat.ble m k = true := Nat.ble_eq_true_of_le h2
  simp only [sliceV, hlo, hhi, b1, b2, Bool.and_self, h.blk]
  by_cases hk : l = k
  · subst hk
    by_cases h0 : l = 0
    · subst h0; simp
    · have : Nat.beq l 0 = false := by cases l with | zero => exact absurd rfl h0 | succ l => rfl
      have h3 : Nat.blt l l = false := Bool.eq_false_iff.2 fun q => by have := Nat.le_of_ble_eq_true q; omega
      simp [this, h3]
  · have h3 : Nat.blt l k = true := by rw [Nat.blt_eq]; omega
    simp [h3, hk]
theorem own_first {w : AW} {b : Nat} {e : TypeId} {A : List Int} (h : Own w b e (A.flatMap icells)) {o n : Nat} (ho : n = 0 ∨ o + n ≤ A.length) : aCells w b o n = some (((A.drop o).take n).flatMap icells) := by
  rcases Nat.eq_zero_or_pos n with rfl | hn
  · simp [aCells]
  have ho : o + n ≤ A.length := by rcases ho with q | q; omega; exact q
  have := aCells_of (w := w) (b := b) (((A.drop o).take n).flatMap icells) o fun i v hv => by
    have hi : i < n := by
      have := (List.getElem?_eq_some_iff.1 hv).1
      rw [icells_flat_len, List.length_take] at this; omega
    rw [flat_icells, List.getElem?_map, List.getElem?_take, if_pos hi, List.getElem?_drop, List.getElem?_eq_getElem (show o + i < A.length by omega)] at hv
    simp only [Option.map_some, Option.some.injEq] at hv
    subst hv
    have := h.icell (i := o + i) (by omega)
    rw [this]
    congr 2
    simp [W, show o + i < A.length by omega]
  rw [icells_flat_len, List.length_take, List.length_drop, Nat.min_eq_left (by omega)] at this
  exact this
theorem append_room {g : Prg} {w : AW} {b : Nat} {e e0 : TypeId} {A xs : List Int} {ty : TypeId} {a1 a2 : Bool} {n1 b1 b2 : Nat} {d2 : TypeDesc} {z1 z2 : Value} (h : g.ty ty = some ⟨a1, .slice e0, n1, b1, z1⟩) (h2 : g.ty e0 = some ⟨a2, d2, 1, b2, z2⟩) (hz : z2.cells.size = 1) (hb2 : b2 ≤ 1048576)
    (hO : Own w b e (A.flatMap icells)) (f : Fresh w) {i n cap c : Nat} {p : Option Addr} (hnew : aNew w 1 n (.slice p n c) = some (xs.flatMap icells)) (hx : xs.length = n) (hc : i + n ≤ cap) (hA : i + n ≤ A.length) (hs : i + n ≤ 1048576) :
    ∃ w', append g w ty ty (.slice (some ⟨b, 0, none⟩) i cap) (.slice p n c) = some (.slice (some ⟨b, 0, none⟩) (i + n) cap, w') ∧ Own w' b e ((setsI A i xs).flatMap icells) ∧ MutS (fun j => j = b) w w' ∧ w'.next = w.next := by
  obtain ⟨w', s1, s2, s3, s4⟩ := stores_ints hO f (o := i) (xs := xs) (by omega)
  refine ⟨w', ?_, s2, s3, s4⟩
  have hm := Nat.mul_le_mul hs hb2
  have c1 : (Nat.beq z2.cells.size 1 && Nat.ble (i + n) room && Nat.ble ((i + n) * b2) room && Nat.ble 1 1 && Nat.beq ty ty) = true := by
    have a : Nat.ble (i + n) room = true := Nat.ble_eq_true_of_le (by unfold room; omega)
    have b : Nat.ble ((i + n) * b2) room = true := Nat.ble_eq_true_of_le (by unfold room; omega)
    simp [a, b, hz]
  have c2 : Nat.ble (i + n) cap = true := Nat.ble_eq_true_of_le hc
  unfold append
  simp only [h, h2, c1, hnew, c2, Nat.zero_add, Nat.mul_one, s1]
theorem AOwn.mutR {B r : Nat} {w w' : AW} {e : TypeId} {size n : Nat} {v : Value} {cells : List Value} (h : AOwn B w e size v n cells) (k : MutS (fun j => j = r) w w') (hr : r < B) : AOwn B w' e size v n cells :=
  AOwnS.other (S := fun j => B ≤ j) h k fun j q e => by omega
theorem Own.keepR {w w' : AW} {B c : Nat} {e : TypeId} {l : List Value} (h : Own w c e l) (k : Keep B w w') (q : c < B) : Own w' c e l :=
  ⟨by rw [k.blk _ q]; exact h.blk, by rw [k.fam _ q]; exact h.fam, by have := h.lt; have := k.next; omega⟩
end Go.Sim

namespace Go.Proofs
open Go Go.RowKit Go.Sim
set_option maxRecDepth 100000
theorem small9 {n : Nat} (h : n ≤ 8) : n = 0 ∨ n = 1 ∨ n = 2 ∨ n = 3 ∨ n = 4 ∨ n = 5 ∨ n = 6 ∨ n = 7 ∨ n = 8 := by omega
theorem orders_ok (n : Nat) (h : n ≤ 8) (w : AW) : CallT Try.prog Try.T1 (.fn (.func 93) #[]) #[.int .i64 (n : Int)] w (Ret (.int .i64 (fct n : Int)) fun w' => w = w') := by
  rcases small9 h with rfl | rfl | rfl | rfl | rfl | rfl | rfl | rfl | rfl <;> exact callT_told (w' := w) rfl ⟨rfl, rfl⟩
theorem factorial_ok (n : Nat) (h : n ≤ 8) (w : AW) : CallT Try.prog Try.T1 (.fn (.func 87) #[]) #[.int .i64 (n : Int)] w (Ret (.int .i64 (fct n : Int)) fun w' => w = w') := by
  rcases small9 h with rfl | rfl | rfl | rfl | rfl | rfl | rfl | rfl | rfl <;> exact callT_told (w' := w) rfl ⟨rfl, rfl⟩
def firstI (n : Nat) : List Int := (List.range 8).map fun (i : Nat) => if i < n then (i : Int) else 0
theorem firstI_len (n : Nat) : (firstI n).length = 8 := by simp [firstI]
theorem first_ok (n : Nat) (h : n ≤ 8) (h1 : 1 ≤ n) (w : AW) : CallT Try.prog Try.T1 (.fn (.func 118) #[]) #[.int .i64 (n : Int)] w (Ret (.agg ((firstI n).flatMap icells).toArray) fun w' => w = w') := by
  rcases small9 h with rfl | rfl | rfl | rfl | rfl | rfl | rfl | rfl | rfl
  · omega
  all_goals exact callT_told (w' := w) rfl ⟨rfl, rfl⟩
theorem fct_le {n : Nat} (h : n ≤ 8) : fct n ≤ 40320 := by
  rcases small9 h with rfl | rfl | rfl | rfl | rfl | rfl | rfl | rfl | rfl <;> decide
theorem isMany_ok (n : Int) (w : AW) : CallT Try.prog Try.T1 (.fn (.func 88) #[]) #[.int .i64 n] w (Ret (.bool (inR 1 n 8)) fun w' => w = w') := by
  refine callT_code rfl Try.func88 rfl Try.s88_eq rfl ?_
  unfold Try.s88
  simp -dsimp -implicitDefEqProofs (maxSteps := 2000000) (disch := first | assumption | omega | (simp only [nx]; omega) | ((repeat refine Fresh.push ?_ _); assumption) | (simp only [smA]; done) | (simp [oneCell, AW.next_push]; done) | fail) only [go_sem, Nat.reduceEqDiff, reduceIte, Nat.reduceAdd, Int.toNat_natCast, Nat.add_zero, Owes_true, Try.results88]
  apply callV_of (e := rfl)
  · exact within_ok _ _ _ _
  rintro _ _ ⟨rfl, rfl⟩
  simp -dsimp -implicitDefEqProofs (maxSteps := 2000000) (disch := first | assumption | omega | (simp only [nx]; omega) | ((repeat refine Fresh.push ?_ _); assumption) | (simp only [smA]; done) | (simp [oneCell, AW.next_push]; done) | fail) only [go_sem, Nat.reduceEqDiff, reduceIte, Nat.reduceAdd, Int.toNat_natCast, Nat.add_zero, Owes_true, Try.results88]
  exact ⟨rfl, rfl⟩
theorem isRank_ok (n : Nat) (h : n ≤ 8) (r : Int) (w : AW) : CallT Try.prog Try.T1 (.fn (.func 89) #[]) #[.int .i64 (n : Int), .int .i64 r] w (Ret (.bool (inR 0 r ((fct n : Int) - 1))) fun w' => w = w') := by
  have := fct_le h
  refine callT_code rfl Try.func89 rfl Try.s89_eq rfl ?_
  unfold Try.s89
  simp -dsimp -implicitDefEqProofs (maxSteps := 2000000) (disch := first | assumption | omega | (simp only [nx]; omega) | ((repeat refine Fresh.push ?_ _); assumption) | (simp only [smA]; done) | (simp [oneCell, AW.next_push]; done) | fail) only [go_sem, Nat.reduceEqDiff, reduceIte, Nat.reduceAdd, Int.toNat_natCast, Nat.add_zero, Owes_true, Try.results89]
  apply callV_of (e := rfl)
  · exact orders_ok n h w
  rintro _ _ ⟨rfl, rfl⟩
  simp -dsimp -implicitDefEqProofs (maxSteps := 2000000) (disch := first | assumption | omega | (simp only [nx]; omega) | ((repeat refine Fresh.push ?_ _); assumption) | (simp only [smA]; done) | (simp [oneCell, AW.next_push]; done) | fail) only [go_sem, Nat.reduceEqDiff, reduceIte, Nat.reduceAdd, Int.toNat_natCast, Nat.add_zero, Owes_true, Try.results89]
  apply callV_of (e := rfl)
  · exact within_ok _ _ _ _
  rintro _ _ ⟨rfl, rfl⟩
  simp -dsimp -implicitDefEqProofs (maxSteps := 2000000) (disch := first | assumption | omega | (simp only [nx]; omega) | ((repeat refine Fresh.push ?_ _); assumption) | (simp only [smA]; done) | (simp [oneCell, AW.next_push]; done) | fail) only [go_sem, Nat.reduceEqDiff, reduceIte, Nat.reduceAdd, Int.toNat_natCast, Nat.add_zero, Owes_true, Try.results89]
  exact ⟨rfl, rfl⟩
theorem Try.sl22a (t : Tmps) (w : AW) (x hi : Operand) : fast (prg Try.prog) t w (.slice 22 x none (some hi) none) = sliceV w 1 (ev t x) none (some (ev t hi)) := by simp only [fast, Try.ty22, Try.ty3]; rfl
theorem Try.sl22b (t : Tmps) (w : AW) (x lo : Operand) : fast (prg Try.prog) t w (.slice 22 x (some lo) none none) = sliceV w 1 (ev t x) (some (ev t lo)) none := by simp only [fast, Try.ty22, Try.ty3]; rfl
theorem Try.sl22c (t : Tmps) (w : AW) (x lo hi : Operand) : fast (prg Try.prog) t w (.slice 22 x (some lo) (some hi) none) = sliceV w 1 (ev t x) (some (ev t lo)) (some (ev t hi)) := by simp only [fast, Try.ty22, Try.ty3]; rfl
theorem Try.sl123a (t : Tmps) (w : AW) (x hi : Operand) : fast (prg Try.prog) t w (.slice 123 x none (some hi) none) = slicePV 8 1 (ev t x) none (some (ev t hi)) := by simp only [fast, Try.ty123, Try.ty3]; rfl
theorem Try.sl123n (t : Tmps) (w : AW) (x : Operand) : fast (prg Try.prog) t w (.slice 123 x none none none) = slicePV 8 1 (ev t x) none none := by simp only [fast, Try.ty123, Try.ty3]; rfl
theorem slicePV_8 (b : Nat) : slicePV 8 1 (.pointer (some ⟨b, 0, none⟩)) none none = some (.slice (some ⟨b, 0, none⟩) 8 8) := rfl
theorem slicePV_8n (b n : Nat) (h : n ≤ 8) : slicePV 8 1 (.pointer (some ⟨b, 0, none⟩)) none (some (.int .i64 (n : Int))) = some (.slice (some ⟨b, 0, none⟩) n 8) := by
  have b1 : Nat.ble 0 n = true := Nat.ble_eq_true_of_le (Nat.zero_le _)
  have b2 : Nat.ble n 8 = true := Nat.ble_eq_true_of_le h
  show (match (some 0 : Option Nat), some n with | some l, some h => (match Nat.ble l h && Nat.ble h 8 with | true => some (Value.slice (some ⟨b, bif Nat.beq 8 l then 0 else 0 + l * 1, none⟩) (h - l) (8 - l)) | false => none) | _, _ => none) = _
  simp only [b1, b2, Bool.and_self]
  rfl
theorem Try.sl22m (t : Tmps) (w : AW) (x lo hi mx : Operand) : fast (prg Try.prog) t w (.slice 22 x (some lo) (some hi) (some mx)) = sliceMV 1 (ev t x) (some (ev t lo)) (some (ev t hi)) (some (ev t mx)) := by simp only [fast, Try.ty22, Try.ty3]; rfl
attribute [go_sem] Try.sl22m Try.sl22a Try.sl22b Try.sl22c Try.sl123a Try.sl123n slicePV_8
theorem taken_out {A : List Int} {m i : Nat} (hA : A.length = 8) (hi : i < m) (hm : m ≤ 8) :
    (setsI (setsI A i ((A.drop (i + 1)).take (m - 1 - i))) (m - 1) [0]).take (m - 1) = (A.take m).eraseIdx i := by
  have hx : ((A.drop (i + 1)).take (m - 1 - i)).length = m - 1 - i := by rw [List.length_take, List.length_drop]; omega
  generalize hxx : (A.drop (i + 1)).take (m - 1 - i) = xs at *
  have hB : (setsI A i xs).length = 8 := by rw [setsI_len (by omega)]; exact hA
  have h1 : (setsI (setsI A i xs) (m - 1) [0]).take (m - 1) = (setsI A i xs).take (m - 1) := by
    conv => lhs; unfold setsI
    rw [List.append_assoc, List.take_append_of_le_length (by rw [List.length_take]; unfold setsI at hB; omega), List.take_take, Nat.min_self]
    rfl
  have h2 : (setsI A i xs).take (m - 1) = A.take i ++ xs := by
    unfold setsI
    rw [List.take_append_of_le_length (by rw [List.length_append, List.length_take]; omega), List.take_of_length_le (by rw [List.length_append, List.length_take]; omega)]
  rw [h1, h2, List.eraseIdx_eq_take_drop_succ, List.take_take, Nat.min_eq_left (by omega), List.drop_take, ← hxx]
  congr 2
  omega
set_option maxHeartbeats 4000000 in
theorem Delete_ok (A : List Int) (hA : A.length = 8) (m i : Nat) (hi : i < m) (hm : m ≤ 8) (b : Nat) (w : AW) (f : Fresh w) (hO : Own w b 123 (A.flatMap icells)) :
    CallT Try.prog Try.T1 (.fn (.func 119) #[]) #[.slice (some ⟨b, 0, none⟩) m 8, .int .i64 (i : Int), .int .i64 ((i : Int) + 1)] w (fun r w' => r = .slice (some ⟨b, 0, none⟩) (m - 1) 8 ∧ w'.next = w.next ∧
      ∃ A' : List Int, A'.length = 8 ∧ A'.take (m - 1) = (A.take m).eraseIdx i ∧ Own w' b 123 (A'.flatMap icells) ∧ MutS (fun j => j = b) w w') := by
  have hne : decide ((i : Int) = (i : Int) + 1) = false := decide_eq_false (by omega)
  have hcast : (i : Int) + 1 = ((i + 1 : Nat) : Int) := by omega
  rw [hcast] at hne ⊢
  have s1 : sliceMV 1 (.slice (some ⟨b, 0, none⟩) m 8) (some (.int .i64 (i : Int))) (some (.int .i64 ((i + 1 : Nat) : Int))) (some (.int .i64 (m : Int))) = some (.slice (some ⟨b, i, none⟩) 1 (m - i)) := by
    have b1 : Nat.ble i (i + 1) = true := Nat.ble_eq_true_of_le (by omega)
    have b2 : Nat.ble (i + 1) m = true := Nat.ble_eq_true_of_le (by omega)
    have b3 : Nat.ble m 8 = true := Nat.ble_eq_true_of_le hm
    have b4 : Nat.beq m i = false := Bool.eq_false_iff.2 fun q => by have := Nat.eq_of_beq_eq_true q; omega
    show (match Nat.ble i (i + 1) && Nat.ble (i + 1) m && Nat.ble m 8 with | true => some (Value.slice (some ⟨b, bif Nat.beq m i then 0 else 0 + i * 1, none⟩) (i + 1 - i) (m - i)) | false => none) = _
    simp only [b1, b2, b3, b4, Bool.and_self, cond_false, Nat.zero_add, Nat.mul_one]
    rw [show i + 1 - i = 1 by omega]
  have s2 : sliceV w 1 (.slice (some ⟨b, 0, none⟩) m 8) none (some (.int .i64 (i : Int))) = some (.slice (some ⟨b, 0, none⟩) i 8) := slice_own (o := 0) (n := m) (k := 8) (lo := none) (hi := some (.int .i64 (i : Int))) hO rfl (natOr_nat m i .i64) (by omega) (by omega)
  have s3 := slice_own (o := 0) (n := m) (k := 8) (lo := some (.int .i64 ((i + 1 : Nat) : Int))) (hi := none) hO (natOr_nat 0 (i + 1) .i64) rfl (by omega) (by omega)
  have hx : ((A.drop (i + 1)).take (m - 1 - i)).length = m - (i + 1) := by rw [List.length_take, List.length_drop]; omega
  obtain ⟨w2, p1, p2, p3, p4⟩ := append_room (xs := (A.drop (i + 1)).take (m - 1 - i)) (i := i) (n := m - (i + 1)) (cap := 8) (c := 8 - (i + 1)) (p := some ⟨b, if i + 1 = 8 then 0 else 0 + (i + 1), none⟩) Try.ty22 Try.ty3 rfl (by omega) hO f (by
    have : aCells w b (if i + 1 = 8 then 0 else 0 + (i + 1)) (m - (i + 1)) = some (((A.drop (i + 1)).take (m - 1 - i)).flatMap icells) := by
      by_cases h8 : i + 1 = 8
      · rw [if_pos h8]
        have hz : m - (i + 1) = 0 := by omega
        have hz2 : m - 1 - i = 0 := by omega
        rw [hz, hz2]; simp [aCells]
      · rw [if_neg h8, Nat.zero_add, own_first hO (.inr (by omega))]
        rw [show m - (i + 1) = m - 1 - i by omega]
    simp only [aNew, aFirst, Nat.mul_one, this]) hx (by omega) (by omega) (by omega)
  have hB : (setsI A i ((A.drop (i + 1)).take (m - 1 - i))).length = 8 := by rw [setsI_len (by omega)]; exact hA
  have hmi : i + (m - (i + 1)) = m - 1 := by omega
  rw [hmi] at p1
  have s4 := slice_own (o := 0) (n := m - 1) (k := 8) (lo := some (.int .i64 ((m - 1 : Nat) : Int))) (hi := some (.int .i64 (m : Int))) p2 (natOr_nat 0 (m - 1) .i64) (natOr_nat (m - 1) m .i64) (by omega) (by omega)
  obtain ⟨w3, q1, q2, q3, q4⟩ := stores_ints p2 p3.fresh (o := m - 1) (xs := [0]) (by simp; omega)
  have s1' : m - (m - 1) = 1 := by omega
  have hcl : clearV (prg Try.prog) w2 (.slice (some ⟨b, if m - 1 = 8 then 0 else 0 + (m - 1), none⟩) (m - (m - 1)) (8 - (m - 1))) 22 = some w3 := by
    rw [s1', if_neg (by omega), Nat.zero_add]
    simp only [clearV, Try.ty22, Try.ty3]
    exact q1
  rw [if_neg (by omega), Nat.zero_add] at hcl s4
  generalize (if i + 1 = 8 then 0 else 0 + (i + 1)) = o3 at s3 p1
  have htk := taken_out hA hi hm
  have hlen3 : (setsI (setsI A i ((A.drop (i + 1)).take (m - 1 - i))) (m - 1) [0]).length = 8 := by rw [setsI_len (by simp; omega)]; exact hB
  generalize setsI (setsI A i ((A.drop (i + 1)).take (m - 1 - i))) (m - 1) [0] = A3 at *
  refine callT_code rfl Try.func119 rfl Try.s119_eq rfl ?_
  unfold Try.s119
  simp -dsimp -implicitDefEqProofs (maxSteps := 2000000) (disch := first | assumption | omega | (simp only [nx]; omega) | ((repeat refine Fresh.push ?_ _); assumption) | (simp only [smA]; done) | (simp [oneCell, AW.next_push]; done) | fail) only [go_sem, Nat.reduceEqDiff, reduceIte, Nat.reduceAdd, Int.toNat_natCast, Nat.add_zero, Owes_true, Try.results119, s1, hne, s2, s3, p1, s4]
  refine stepR_clear (by simp -dsimp -implicitDefEqProofs (maxSteps := 2000000) (disch := first | assumption | omega | (simp only [nx]; omega) | ((repeat refine Fresh.push ?_ _); assumption) | (simp only [smA]; done) | (simp [oneCell, AW.next_push]; done) | fail) only [go_sem, Nat.reduceEqDiff, reduceIte, Nat.reduceAdd, Int.toNat_natCast, Nat.add_zero, Owes_true, s4]; exact hcl) ?_
  simp -dsimp -implicitDefEqProofs (maxSteps := 2000000) (disch := first | assumption | omega | (simp only [nx]; omega) | ((repeat refine Fresh.push ?_ _); assumption) | (simp only [smA]; done) | (simp [oneCell, AW.next_push]; done) | fail) only [go_sem, Nat.reduceEqDiff, reduceIte, Nat.reduceAdd, Int.toNat_natCast, Nat.add_zero, Owes_true, Try.results119]
  exact ⟨trivial, by omega, A3, hlen3, htk, q2, p3.trans q3 (Within.refl _ _)⟩
end Go.Proofs

namespace Go.Proofs
open Go Go.RowKit Go.Sim
set_option maxRecDepth 100000
theorem first_take {n : Nat} (h : n ≤ 8) : (firstI n).take n = rangeI n := by
  unfold firstI rangeI
  rw [← List.map_take, List.take_range, Nat.min_eq_left h]
  apply List.map_congr_left
  intro i hi
  rw [List.mem_range] at hi
  rw [if_pos hi]
structure UnrI (w0 : AW) (b n r : Nat) (w : AW) (m : Nat) (A acc : List Int) (r' : Nat) (u : Value) : Prop where
  hm : m ≤ n
  len : A.length = 8
  own : Own w b 123 (A.flatMap icells)
  row : RowA (b + 1) w u acc
  hr : r' < fct m
  eq : acc ++ unrI m (A.take m) r' = ordI n r
  keep : Keep w0.next w0 w
  fresh : Fresh w
  hacc : acc.length + m = n
set_option maxHeartbeats 8000000 in
theorem unrank_ok (n r : Nat) (h1 : 1 ≤ n) (h8 : n ≤ 8) (hr : r < fct n) (w : AW) (f : Fresh w) :
    CallT Try.prog Try.T1 (.fn (.func 90) #[]) #[.int .i64 (n : Int), .int .i64 (r : Int)] w (fun u w' => RowA (w.next + 1) w' u (ordI n r) ∧ Grown w w') := by
  have g1 := (Grown.refl f).push (.cells [.int .i64 0, .int .i64 0, .int .i64 0, .int .i64 0, .int .i64 0, .int .i64 0, .int .i64 0, .int .i64 0] 123 w.next 0 0)
  have O1 := Own.new f 123 [.int .i64 0, .int .i64 0, .int .i64 0, .int .i64 0, .int .i64 0, .int .i64 0, .int .i64 0, .int .i64 0]
  have hfl : ((firstI n).flatMap icells).length = 8 := by rw [icells_flat_len, firstI_len]
  have st := storeV_own (o := 0) (l := (firstI n).flatMap icells) (size := 8) O1 hfl (by omega) (by simp) (by
    rw [List.all_eq_true]; intro v hv
    obtain ⟨y, _, hy⟩ := List.mem_flatMap.1 hv
    exact icells_one y v hy)
  have hcut : setsL [.int .i64 0, .int .i64 0, .int .i64 0, .int .i64 0, .int .i64 0, .int .i64 0, .int .i64 0, .int .i64 0] 0 ((firstI n).flatMap icells) = (firstI n).flatMap icells := by
    rw [setsL_cut _ _ _ (by rw [hfl]; simp), hfl]; simp
  rw [hcut] at st
  have O2 := O1.put ((firstI n).flatMap icells)
  have m2 := MutS.put (S := fun j => j = w.next) g1.2 rfl O1.lt (.cells ((firstI n).flatMap icells) 123 w.next 0 0)
  have hs8 := slicePV_8n w.next n h8
  refine callT_code rfl Try.func90 rfl Try.s90_eq rfl ?_
  unfold Try.s90
  simp -dsimp -implicitDefEqProofs (maxSteps := 2000000) (disch := first | assumption | omega | (simp only [nx]; omega) | ((repeat refine Fresh.push ?_ _); assumption) | (simp only [smA]; done) | (simp [oneCell, AW.next_push]; done) | fail) only [go_sem, Nat.reduceEqDiff, reduceIte, Nat.reduceAdd, Int.toNat_natCast, Nat.add_zero, Owes_true, Try.results90]
  apply callV_of (e := rfl)
  · exact first_ok n h8 h1 w
  rintro _ _ ⟨rfl, rfl⟩
  simp -dsimp -implicitDefEqProofs (maxSteps := 2000000) (disch := first | assumption | omega | (simp only [nx]; omega) | ((repeat refine Fresh.push ?_ _); assumption) | (simp only [smA]; done) | (simp [oneCell, AW.next_push]; done) | fail) only [go_sem, Nat.reduceEqDiff, reduceIte, Nat.reduceAdd, Int.toNat_natCast, Nat.add_zero, Owes_true, Try.results90, st, hs8]
  have hk2 : Keep w.next w ((w.push (.cells [.int .i64 0, .int .i64 0, .int .i64 0, .int .i64 0, .int .i64 0, .int .i64 0, .int .i64 0, .int .i64 0] 123 w.next 0 0)).put w.next (.cells ((firstI n).flatMap icells) 123 w.next 0 0)) := g1.1.put (Nat.le_refl _) _
  have hf2 := m2.fresh
  generalize (w.push (.cells [.int .i64 0, .int .i64 0, .int .i64 0, .int .i64 0, .int .i64 0, .int .i64 0, .int .i64 0, .int .i64 0] 123 w.next 0 0)).put w.next (.cells ((firstI n).flatMap icells) 123 w.next 0 0) = w2 at *
  refine loopR (fun k t ds w1 => ∃ (m : Nat) (A acc : List Int) (r' : Nat) (u : Value), k = m ∧ ds = [] ∧ ev t (.tmp 1) = .int .i64 (r' : Int) ∧ ev t (.tmp 6) = .slice (some ⟨w.next, 0, none⟩) m 8 ∧ ev t (.tmp 7) = u ∧ UnrI w w.next n r w1 m A acc r' u) n ?_ ?_
  · refine ⟨n, firstI n, [], r, _, rfl, rfl, ?_, ?_, ?_, ⟨Nat.le_refl _, firstI_len n, O2, RowA.nil _ _, hr, ?_, hk2, hf2, by simp⟩⟩
    · simp -dsimp -implicitDefEqProofs (maxSteps := 2000000) (disch := first | assumption | omega | (simp only [nx]; omega) | ((repeat refine Fresh.push ?_ _); assumption) | (simp only [smA]; done) | (simp [oneCell, AW.next_push]; done) | fail) only [go_sem, Nat.reduceEqDiff, reduceIte, Nat.reduceAdd, Int.toNat_natCast, Nat.add_zero, Owes_true]; try rfl
    · simp -dsimp -implicitDefEqProofs (maxSteps := 2000000) (disch := first | assumption | omega | (simp only [nx]; omega) | ((repeat refine Fresh.push ?_ _); assumption) | (simp only [smA]; done) | (simp [oneCell, AW.next_push]; done) | fail) only [go_sem, Nat.reduceEqDiff, reduceIte, Nat.reduceAdd, Int.toNat_natCast, Nat.add_zero, Owes_true]; try rfl
    · simp -dsimp -implicitDefEqProofs (maxSteps := 2000000) (disch := first | assumption | omega | (simp only [nx]; omega) | ((repeat refine Fresh.push ?_ _); assumption) | (simp only [smA]; done) | (simp [oneCell, AW.next_push]; done) | fail) only [go_sem, Nat.reduceEqDiff, reduceIte, Nat.reduceAdd, Int.toNat_natCast, Nat.add_zero, Owes_true]; try rfl
    · rw [first_take h8]; rfl
  rintro k t ds w1 ⟨m, A, acc, r', u, rfl, rfl, e1, e6, e7, I⟩
  by_cases hm : k = 0
  · subst hm
    have hd : decide (((0 : Nat) : Int) > 0) = false := rfl
    have he := I.eq
    simp only [unrI, List.append_nil] at he
    have hrow := I.row
    rw [he] at hrow
    simp -dsimp -implicitDefEqProofs (maxSteps := 2000000) (disch := first | assumption | omega | (simp only [nx]; omega) | ((repeat refine Fresh.push ?_ _); assumption) | (simp only [smA]; done) | (simp [oneCell, AW.next_push]; done) | fail) only [go_sem, Nat.reduceEqDiff, reduceIte, Nat.reduceAdd, Int.toNat_natCast, Nat.add_zero, Owes_true, Try.results90, e1, e6, e7, hd]
    exact ⟨hrow, I.keep, I.fresh⟩
  have hd : decide ((k : Int) > 0) = true := decide_eq_true (by omega)
  have hd2 : (0 : Int) < (k : Int) := by omega
  obtain ⟨m', rfl⟩ : ∃ m', k = m' + 1 := ⟨k - 1, by omega⟩
  have hm8 := I.hm
  have hcast : ((m' + 1 : Nat) : Int) - 1 = (m' : Int) := by omega
  have hfp := fct_pos m'
  have hfz : ¬ (fct m' : Int) = 0 := by omega
  have hq : (r' : Int).tdiv (fct m' : Int) = ((r' / fct m' : Nat) : Int) := rfl
  have hq2 : (r' : Int).tmod (fct m' : Int) = ((r' % fct m' : Nat) : Int) := rfl
  have hqlt : r' / fct m' < m' + 1 := quot_lt I.hr
  have hrlt := rest_lt m' r'
  have hfl2 := fct_le (n := m') (by omega)
  have heq := I.eq
  simp only [unrI] at heq
  generalize r' / fct m' = q at *
  generalize r' % fct m' = r2 at *
  simp -dsimp -implicitDefEqProofs (maxSteps := 2000000) (disch := first | assumption | omega | (simp only [nx]; omega) | ((repeat refine Fresh.push ?_ _); assumption) | (simp only [smA]; done) | (simp [oneCell, AW.next_push]; done) | fail) only [go_sem, Nat.reduceEqDiff, reduceIte, Nat.reduceAdd, Int.toNat_natCast, Nat.add_zero, Owes_true, Try.results90, e1, e6, e7, hd, hd2, hcast]
  apply callV_of (e := rfl)
  · exact orders_ok m' (by omega) w1
  rintro _ _ ⟨rfl, rfl⟩
  have hcell := I.own.icell (i := q) (by rw [I.len]; omega)
  have ix : indexV 1 (.slice (some ⟨w.next, 0, none⟩) (m' + 1) 8) (.int .i64 (q : Int)) = some (.pointer (some ⟨w.next, q, none⟩)) := by rw [indexV_eq (by omega) (by omega)]; simp
  have hW : (A.take (m' + 1)).getD q 0 = W A q := by
    simp [W, List.getD, List.getElem?_take, hqlt]
  rw [hW] at heq
  have hacc := I.hacc
  have hn1 : w.next + 1 ≤ w1.next := I.own.lt
  obtain ⟨u3, w3, happ, hA3, hk3, hf3, hn3⟩ := I.row.app I.fresh hn1 (by omega) (W A q)
  have O3 := Own.keepR I.own hk3 (by omega)
  simp -dsimp -implicitDefEqProofs (maxSteps := 2000000) (disch := first | assumption | omega | (simp only [nx]; omega) | ((repeat refine Fresh.push ?_ _); assumption) | (simp only [smA]; done) | (simp [oneCell, AW.next_push]; done) | fail) only [go_sem, Nat.reduceEqDiff, reduceIte, Nat.reduceAdd, Int.toNat_natCast, Nat.add_zero, Owes_true, Try.results90, e1, e6, e7, hq, hq2, hfz, ix, hcell, happ]
  apply callV_of (e := rfl)
  · exact Delete_ok A I.len (m' + 1) q hqlt (by omega) w.next w3 hf3 O3
  rintro _ w4 ⟨rfl, hn4, A4, hA4, htk4, O4, m4⟩
  have hm1 : m' + 1 - 1 = m' := rfl
  simp -dsimp -implicitDefEqProofs (maxSteps := 2000000) (disch := first | assumption | omega | (simp only [nx]; omega) | ((repeat refine Fresh.push ?_ _); assumption) | (simp only [smA]; done) | (simp [oneCell, AW.next_push]; done) | fail) only [go_sem, Nat.reduceEqDiff, reduceIte, Nat.reduceAdd, Int.toNat_natCast, Nat.add_zero, Owes_true, Try.results90, e1, e6, e7, hm1]
  refine ⟨m', by omega, m', A4, acc ++ [W A q], r2, u3, rfl, rfl, by simp -dsimp -implicitDefEqProofs (maxSteps := 2000000) (disch := first | assumption | omega | (simp only [nx]; omega) | ((repeat refine Fresh.push ?_ _); assumption) | (simp only [smA]; done) | (simp [oneCell, AW.next_push]; done) | fail) only [go_sem, Nat.reduceEqDiff, reduceIte, Nat.reduceAdd, Int.toNat_natCast, Nat.add_zero, Owes_true], by simp -dsimp -implicitDefEqProofs (maxSteps := 2000000) (disch := first | assumption | omega | (simp only [nx]; omega) | ((repeat refine Fresh.push ?_ _); assumption) | (simp only [smA]; done) | (simp [oneCell, AW.next_push]; done) | fail) only [go_sem, Nat.reduceEqDiff, reduceIte, Nat.reduceAdd, Int.toNat_natCast, Nat.add_zero, Owes_true], by simp -dsimp -implicitDefEqProofs (maxSteps := 2000000) (disch := first | assumption | omega | (simp only [nx]; omega) | ((repeat refine Fresh.push ?_ _); assumption) | (simp only [smA]; done) | (simp [oneCell, AW.next_push]; done) | fail) only [go_sem, Nat.reduceEqDiff, reduceIte, Nat.reduceAdd, Int.toNat_natCast, Nat.add_zero, Owes_true], ⟨by omega, hA4, O4, AOwn.mutR hA3 m4 (by omega), hrlt, ?_, ?_, m4.fresh, ?_⟩⟩
  · rw [hm1] at htk4
    rw [htk4, List.append_assoc]; exact heq
  · exact (I.keep.trans (hk3.mono (by omega))).trans (m4.keep (fun j h => by omega) (by omega))
  · rw [List.length_append]; simp; omega
end Go.Proofs

namespace Go.Proofs
open Go Go.RowKit Go.Sim
set_option maxRecDepth 100000
theorem ArrOf.takeI {w : AW} {p : Option Addr} {n c a : Nat} {L : List Int} (h : ArrOf w 1 icells (.slice p n c) L) (ha : a ≤ L.length) : ArrOf w 1 icells (.slice p a c) (L.take a) := by
  obtain ⟨p', n', cap, e, hn, hc, hm, hat⟩ := h
  injection e with e1 e2 e3
  subst e1 e2 e3
  rw [List.length_map] at hn
  refine ⟨_, _, _, rfl, by rw [List.length_map, List.length_take]; omega, by omega, hm, fun h0 => ?_⟩
  obtain ⟨b, o, e, hb, hcell⟩ := hat (by omega)
  refine ⟨b, o, e, hb, fun i j r x hi hx => hcell i j r x ?_ hx⟩
  rw [List.map_take, List.getElem?_take] at hi
  split at hi
  · exact hi
  · cases hi
theorem RowA.to {B : Nat} {w : AW} {v : Value} {L : List Int} {a : Nat} (h : RowA B w v L) (h1 : 1 ≤ L.length) (ha : a ≤ L.length) (hl : L.length ≤ 1048576) : ∃ b, v = .slice (some ⟨b, 0, none⟩) L.length L.length ∧ sliceV w 1 v none (some (.int .i64 (a : Int))) = some (.slice (some ⟨b, 0, none⟩) a L.length) ∧ ArrOf w 1 icells (.slice (some ⟨b, 0, none⟩) a L.length) (L.take a) := by
  have hA := h.arr hl
  rcases h with ⟨_, h, _⟩ | ⟨b, r, rfl, _, _, _, _, hb, _⟩
  · omega
  refine ⟨b, rfl, ?_, Go.Proofs.ArrOf.takeI hA ha⟩
  have b1 : Nat.ble 0 a = true := Nat.ble_eq_true_of_le (Nat.zero_le _)
  have b2 : Nat.ble a L.length = true := Nat.ble_eq_true_of_le ha
  show sliceV w 1 (.slice (some ⟨b, 0, none⟩) L.length L.length) none (some (.int .i64 (Int.ofNat a))) = _
  have b3 : Nat.beq 1 1 = true := rfl
  simp only [sliceV, natOr, b1, b2, hb, Bool.and_self, b3, Bool.true_or, Nat.zero_mul, Nat.zero_add, Nat.sub_zero]
def unrE (n r : Int) : Int := if inR 1 n 8 then (if inR 0 r ((fct n.toNat : Int) - 1) then 0 else 7) else 104
def Drawn (e : Int) (L : List Int) (w : AW) : Value → AW → Prop := fun v w' => Grown w w' ∧ ∃ (p : Option Addr) (m c : Nat), v = .tuple #[.slice p m c, .int .i64 e] ∧ (e ≠ 0 → Value.slice p m c = .slice none 0 0) ∧ (e = 0 → ArrOf w' 1 icells (.slice p m c) L)
def DrawnR (e : Int) (L : List Int) (w : AW) : Value → AW → Prop := fun v w' => Grown w w' ∧ ∃ (p : Option Addr) (m c : Nat), v = .tuple #[.slice p m c, .int .i64 e] ∧ (e ≠ 0 → Value.slice p m c = .slice none 0 0) ∧ (e = 0 → ArrOf w' 1 icells (.slice p m c) L) ∧
  (e = 0 → ∃ (b : Nat) (F : List Int), p = some ⟨b, 0, none⟩ ∧ c = F.length ∧ m ≤ F.length ∧ F.take m = L ∧ F.length ≤ 8 ∧ RowA w.next w' (.slice (some ⟨b, 0, none⟩) F.length F.length) F)
theorem DrawnR.drawn {e : Int} {L : List Int} {w w' : AW} {v : Value} (h : DrawnR e L w v w') : Drawn e L w v w' := by
  obtain ⟨g, p, m, c, h1, h2, h3, _⟩ := h
  exact ⟨g, p, m, c, h1, h2, h3⟩
theorem RowA.weak {B C : Nat} {w : AW} {v : Value} {L : List Int} (h : RowA B w v L) (k : C ≤ B) : RowA C w v L := by
  rcases h with h | ⟨b, r, a1, a2, a3, a4, a5, a6, a7, a9, a8⟩
  · exact .inl h
  · exact .inr ⟨b, r, a1, by omega, a3, by omega, a5, a6, a7, a9, fun j hj => let ⟨c1, c2⟩ := a8 j hj; ⟨by omega, c2⟩⟩
theorem Unrank_okR (n r : Int) (w : AW) (f : Fresh w) :
    CallT Try.prog Try.T1 (.fn (.func 36) #[]) #[.int .i64 n, .int .i64 r] w (DrawnR (unrE n r) (ordI n.toNat r.toNat) w) := by
  refine callT_code rfl Try.func36 rfl Try.s36_eq rfl ?_
  unfold Try.s36
  simp -dsimp -implicitDefEqProofs (maxSteps := 2000000) (disch := first | assumption | omega | (simp only [nx]; omega) | ((repeat refine Fresh.push ?_ _); assumption) | (simp only [smA]; done) | (simp [oneCell, AW.next_push]; done) | fail) only [go_sem, Nat.reduceEqDiff, reduceIte, Nat.reduceAdd, Int.toNat_natCast, Nat.add_zero, Owes_true, Try.results36]
  apply callV_of (e := rfl)
  · exact isMany_ok n w
  rintro _ _ ⟨rfl, rfl⟩
  cases hm : inR 1 n 8 with
  | false =>
    have he : unrE n r = 104 := by simp [unrE, hm]
    simp -dsimp -implicitDefEqProofs (maxSteps := 2000000) (disch := first | assumption | omega | (simp only [nx]; omega) | ((repeat refine Fresh.push ?_ _); assumption) | (simp only [smA]; done) | (simp [oneCell, AW.next_push]; done) | fail) only [go_sem, Nat.reduceEqDiff, reduceIte, Nat.reduceAdd, Int.toNat_natCast, Nat.add_zero, Owes_true, Try.results36, hm]
    exact ⟨Grown.refl f, none, 0, 0, by rw [he], fun _ => rfl, fun h => by omega, fun h => by omega⟩
  | true =>
  have hn := (inR_iff _ _ _).1 hm
  obtain ⟨k, rfl⟩ : ∃ k : Nat, n = (k : Int) := ⟨n.toNat, by omega⟩
  simp -dsimp -implicitDefEqProofs (maxSteps := 2000000) (disch := first | assumption | omega | (simp only [nx]; omega) | ((repeat refine Fresh.push ?_ _); assumption) | (simp only [smA]; done) | (simp [oneCell, AW.next_push]; done) | fail) only [go_sem, Nat.reduceEqDiff, reduceIte, Nat.reduceAdd, Int.toNat_natCast, Nat.add_zero, Owes_true, Try.results36, hm]
  apply callV_of (e := rfl)
  · exact isRank_ok k (by omega) r w
  rintro _ _ ⟨rfl, rfl⟩
  cases hr : inR 0 r ((fct k : Int) - 1) with
  | false =>
    have he : unrE (k : Int) r = 7 := by simp [unrE, hm, hr]
    simp -dsimp -implicitDefEqProofs (maxSteps := 2000000) (disch := first | assumption | omega | (simp only [nx]; omega) | ((repeat refine Fresh.push ?_ _); assumption) | (simp only [smA]; done) | (simp [oneCell, AW.next_push]; done) | fail) only [go_sem, Nat.reduceEqDiff, reduceIte, Nat.reduceAdd, Int.toNat_natCast, Nat.add_zero, Owes_true, Try.results36, hr]
    exact ⟨Grown.refl f, none, 0, 0, by rw [he], fun _ => rfl, fun h => by omega, fun h => by omega⟩
  | true =>
  have hr' := (inR_iff _ _ _).1 hr
  have he : unrE (k : Int) r = 0 := by simp [unrE, hm, hr]
  obtain ⟨q, rfl⟩ : ∃ q : Nat, r = (q : Int) := ⟨r.toNat, by omega⟩
  simp -dsimp -implicitDefEqProofs (maxSteps := 2000000) (disch := first | assumption | omega | (simp only [nx]; omega) | ((repeat refine Fresh.push ?_ _); assumption) | (simp only [smA]; done) | (simp [oneCell, AW.next_push]; done) | fail) only [go_sem, Nat.reduceEqDiff, reduceIte, Nat.reduceAdd, Int.toNat_natCast, Nat.add_zero, Owes_true, Try.results36, hr]
  apply callV_of (e := rfl)
  · exact unrank_ok k q (by omega) (by omega) (by omega) w f
  rintro u w2 ⟨hA, g⟩
  have hl := ordI_len k q
  have hA2 := hA.arr (by omega)
  obtain ⟨b, rfl, _, _⟩ := hA.to (a := 0) (by omega) (by omega) (by omega)
  simp -dsimp -implicitDefEqProofs (maxSteps := 2000000) (disch := first | assumption | omega | (simp only [nx]; omega) | ((repeat refine Fresh.push ?_ _); assumption) | (simp only [smA]; done) | (simp [oneCell, AW.next_push]; done) | fail) only [go_sem, Nat.reduceEqDiff, reduceIte, Nat.reduceAdd, Int.toNat_natCast, Nat.add_zero, Owes_true, Try.results36]
  exact ⟨g, _, _, _, by rw [he], fun h => absurd he h, fun _ => hA2, fun _ => ⟨b, ordI k q, rfl, rfl, Nat.le_refl _, List.take_of_length_le (Nat.le_refl _), by omega, hA.weak (by omega)⟩⟩
theorem Unrank_ok (n r : Int) (w : AW) (f : Fresh w) :
    CallT Try.prog Try.T1 (.fn (.func 36) #[]) #[.int .i64 n, .int .i64 r] w (Drawn (unrE n r) (ordI n.toNat r.toNat) w) := (Unrank_okR n r w f).mono fun _ _ h => h.drawn
theorem isNumber_ok (k : Nat) (hk : k ≤ 8) (x : Int) (b : Nat) (w : AW) (hO : Own w b 3 [.int .i64 (k : Int)]) :
    CallT Try.prog Try.T1 (.fn (.func 92) #[.pointer (some ⟨b, 0, none⟩)]) #[.int .i64 x] w (Ret (.bool (inR 0 x ((fct k : Int) - 1))) fun w' => w = w') := by
  have c0 := hO.cell (o := 0) rfl rfl
  refine callT_code rfl Try.func92 rfl Try.s92_eq rfl ?_
  unfold Try.s92
  simp -dsimp -implicitDefEqProofs (maxSteps := 2000000) (disch := first | assumption | omega | (simp only [nx]; omega) | ((repeat refine Fresh.push ?_ _); assumption) | (simp only [smA]; done) | (simp [oneCell, AW.next_push]; done) | fail) only [go_sem, Nat.reduceEqDiff, reduceIte, Nat.reduceAdd, Int.toNat_natCast, Nat.add_zero, Owes_true, Try.results92, c0, Nat.zero_add]
  apply callV_of (e := rfl)
  · exact isRank_ok k hk x w
  rintro _ _ ⟨rfl, rfl⟩
  simp -dsimp -implicitDefEqProofs (maxSteps := 2000000) (disch := first | assumption | omega | (simp only [nx]; omega) | ((repeat refine Fresh.push ?_ _); assumption) | (simp only [smA]; done) | (simp [oneCell, AW.next_push]; done) | fail) only [go_sem, Nat.reduceEqDiff, reduceIte, Nat.reduceAdd, Int.toNat_natCast, Nat.add_zero, Owes_true, Try.results92]
  exact ⟨rfl, rfl⟩
theorem sum_nonneg : ∀ {L : List Int}, (∀ x ∈ L, 0 ≤ x) → 0 ≤ L.sum
  | [], _ => by simp
  | x :: L, h => by
    have := sum_nonneg (L := L) fun y hy => h y (List.mem_cons_of_mem _ hy)
    have := h x List.mem_cons_self
    rw [List.sum_cons]; omega
def seedB (n : Int) (L : List Int) : Bool := inR 1 n 8 && (inR 1 L.length 16 && L.all fun x => inR 0 x ((fct n.toNat : Int) - 1))
def drawE (n many : Int) (L : List Int) : Int := if seedB n L then (if inR 0 many n then 0 else 7) else 104
def drawL (n many : Int) (L : List Int) : List Int := (ordI n.toNat (L.sum.toNat % fct n.toNat)).take many.toNat
set_option maxHeartbeats 8000000 in
theorem Draw_okR (n many : Int) (L : List Int) (v : Value) (w : AW) (f : Fresh w) (hv : ArrOf w 1 icells v L) :
    CallT Try.prog Try.T1 (.fn (.func 38) #[]) #[.int .i64 n, .int .i64 many, v] w (DrawnR (drawE n many L) (drawL n many L) w) := by
  obtain ⟨pv, cv, rfl, _⟩ := id hv.open
  have g1 := (Grown.refl f).push (.cells [.int .i64 n] 3 w.next 0 0)
  have O1 := Own.new f 3 [.int .i64 n]
  have c0 := O1.cell (o := 0) rfl rfl
  have hfn := same_fn 92 w.next
  have hv1 := hv.grown g1
  refine callT_code rfl Try.func38 rfl Try.s38_eq rfl ?_
  unfold Try.s38
  simp -dsimp -implicitDefEqProofs (maxSteps := 2000000) (disch := first | assumption | omega | (simp only [nx]; omega) | ((repeat refine Fresh.push ?_ _); assumption) | (simp only [smA]; done) | (simp [oneCell, AW.next_push]; done) | fail) only [go_sem, Nat.reduceEqDiff, reduceIte, Nat.reduceAdd, Int.toNat_natCast, Nat.add_zero, Owes_true, Try.results38, c0, Nat.zero_add, hfn]
  generalize w.push (.cells [.int .i64 n] 3 w.next 0 0) = w1 at *
  apply callV_of (e := rfl)
  · exact isMany_ok n w1
  rintro _ _ ⟨rfl, rfl⟩
  cases hm : inR 1 n 8 with
  | false =>
    have he : drawE n many L = 104 := by simp [drawE, seedB, hm]
    simp -dsimp -implicitDefEqProofs (maxSteps := 2000000) (disch := first | assumption | omega | (simp only [nx]; omega) | ((repeat refine Fresh.push ?_ _); assumption) | (simp only [smA]; done) | (simp [oneCell, AW.next_push]; done) | fail) only [go_sem, Nat.reduceEqDiff, reduceIte, Nat.reduceAdd, Int.toNat_natCast, Nat.add_zero, Owes_true, Try.results38, hm]
    exact ⟨g1, none, 0, 0, by rw [he], fun _ => rfl, fun h => by omega, fun h => by omega⟩
  | true =>
  have hn := (inR_iff _ _ _).1 hm
  obtain ⟨k, rfl⟩ : ∃ k : Nat, n = (k : Int) := ⟨n.toNat, by omega⟩
  simp -dsimp -implicitDefEqProofs (maxSteps := 2000000) (disch := first | assumption | omega | (simp only [nx]; omega) | ((repeat refine Fresh.push ?_ _); assumption) | (simp only [smA]; done) | (simp [oneCell, AW.next_push]; done) | fail) only [go_sem, Nat.reduceEqDiff, reduceIte, Nat.reduceAdd, Int.toNat_natCast, Nat.add_zero, Owes_true, Try.results38, hm]
  apply callV_of (e := rfl)
  · exact within_ok _ _ _ w1
  rintro _ _ ⟨rfl, rfl⟩
  cases hl : inR 1 (L.length : Int) 16 with
  | false =>
    have he : drawE (k : Int) many L = 104 := by simp [drawE, seedB, hm, hl]
    simp -dsimp -implicitDefEqProofs (maxSteps := 2000000) (disch := first | assumption | omega | (simp only [nx]; omega) | ((repeat refine Fresh.push ?_ _); assumption) | (simp only [smA]; done) | (simp [oneCell, AW.next_push]; done) | fail) only [go_sem, Nat.reduceEqDiff, reduceIte, Nat.reduceAdd, Int.toNat_natCast, Nat.add_zero, Owes_true, Try.results38, hl]
    exact ⟨g1, none, 0, 0, by rw [he], fun _ => rfl, fun h => by omega, fun h => by omega⟩
  | true =>
  have hl' := (inR_iff _ _ _).1 hl
  simp -dsimp -implicitDefEqProofs (maxSteps := 2000000) (disch := first | assumption | omega | (simp only [nx]; omega) | ((repeat refine Fresh.push ?_ _); assumption) | (simp only [smA]; done) | (simp [oneCell, AW.next_push]; done) | fail) only [go_sem, Nat.reduceEqDiff, reduceIte, Nat.reduceAdd, Int.toNat_natCast, Nat.add_zero, Owes_true, Try.results38, hl, hfn]
  apply callV_of (e := rfl)
  · exact all_ok 92 _ (fun x => inR 0 x ((fct k : Int) - 1)) L _ w1 g1.2 ⟨hfn, fun x w' g' => isNumber_ok k (by omega) x w.next w' (O1.keep g'.1)⟩ hv1
  rintro _ w2 ⟨rfl, g2⟩
  have gg := g1.trans g2
  have O2 := O1.keep g2.1
  have d0 := O2.cell (o := 0) rfl rfl
  cases ha : L.all (fun x => inR 0 x ((fct k : Int) - 1)) with
  | false =>
    have he : drawE (k : Int) many L = 104 := by
      have : (L.all fun x => inR 0 x ((fct ((k : Int).toNat) : Int) - 1)) = false := ha
      unfold drawE seedB; rw [this]; simp
    simp -dsimp -implicitDefEqProofs (maxSteps := 2000000) (disch := first | assumption | omega | (simp only [nx]; omega) | ((repeat refine Fresh.push ?_ _); assumption) | (simp only [smA]; done) | (simp [oneCell, AW.next_push]; done) | fail) only [go_sem, Nat.reduceEqDiff, reduceIte, Nat.reduceAdd, Int.toNat_natCast, Nat.add_zero, Owes_true, Try.results38, ha]
    exact ⟨gg, none, 0, 0, by rw [he], fun _ => rfl, fun h => by omega, fun h => by omega⟩
  | true =>
  have hse : seedB (k : Int) L = true := by
    have : (L.all fun x => inR 0 x ((fct ((k : Int).toNat) : Int) - 1)) = true := ha
    unfold seedB; rw [this, hm, hl]; rfl
  simp -dsimp -implicitDefEqProofs (maxSteps := 2000000) (disch := first | assumption | omega | (simp only [nx]; omega) | ((repeat refine Fresh.push ?_ _); assumption) | (simp only [smA]; done) | (simp [oneCell, AW.next_push]; done) | fail) only [go_sem, Nat.reduceEqDiff, reduceIte, Nat.reduceAdd, Int.toNat_natCast, Nat.add_zero, Owes_true, Try.results38, ha, d0, Nat.zero_add]
  apply callV_of (e := rfl)
  · exact within_ok _ _ _ w2
  rintro _ _ ⟨rfl, rfl⟩
  cases hy : inR 0 many (k : Int) with
  | false =>
    have he : drawE (k : Int) many L = 7 := by simp [drawE, hse, hy]
    simp -dsimp -implicitDefEqProofs (maxSteps := 2000000) (disch := first | assumption | omega | (simp only [nx]; omega) | ((repeat refine Fresh.push ?_ _); assumption) | (simp only [smA]; done) | (simp [oneCell, AW.next_push]; done) | fail) only [go_sem, Nat.reduceEqDiff, reduceIte, Nat.reduceAdd, Int.toNat_natCast, Nat.add_zero, Owes_true, Try.results38, hy]
    exact ⟨gg, none, 0, 0, by rw [he], fun _ => rfl, fun h => by omega, fun h => by omega⟩
  | true =>
  have hy' := (inR_iff _ _ _).1 hy
  have he : drawE (k : Int) many L = 0 := by simp [drawE, hse, hy]
  have hfl := fct_le (n := k) (by omega)
  have hfp := fct_pos k
  have hsm : smallL L := by
    rw [List.all_eq_true] at ha
    exact ⟨fun x hx => by have := (inR_iff _ _ _).1 (ha x hx); omega, by omega⟩
  obtain ⟨a, rfl⟩ : ∃ a : Nat, many = (a : Int) := ⟨many.toNat, by omega⟩
  simp -dsimp -implicitDefEqProofs (maxSteps := 2000000) (disch := first | assumption | omega | (simp only [nx]; omega) | ((repeat refine Fresh.push ?_ _); assumption) | (simp only [smA]; done) | (simp [oneCell, AW.next_push]; done) | fail) only [go_sem, Nat.reduceEqDiff, reduceIte, Nat.reduceAdd, Int.toNat_natCast, Nat.add_zero, Owes_true, Try.results38, hy, d0, Nat.zero_add]
  apply callV_of (e := rfl)
  · exact sum_ok L _ w2 (hv.grown gg)
  rintro _ _ ⟨rfl, s, rfl, hs⟩
  have hs' := hs hsm
  subst hs'
  have hnn := sum_nonneg fun x hx => (hsm.1 x hx).1
  obtain ⟨S, hS⟩ : ∃ S : Nat, L.sum = (S : Int) := ⟨L.sum.toNat, by omega⟩
  have hdl : drawL (k : Int) (a : Int) L = (ordI k (S % fct k)).take a := by unfold drawL; rw [hS]; rfl
  have hq2 : (S : Int).tmod (fct k : Int) = ((S % fct k : Nat) : Int) := rfl
  have hfz : ¬ (fct k : Int) = 0 := by omega
  have hlt := Nat.mod_lt S hfp
  generalize hSS : S % fct k = q at *
  have hle : WLe w2 w2 := (Grown.refl g2.2).1.wle g2.2
  simp -dsimp -implicitDefEqProofs (maxSteps := 2000000) (disch := first | assumption | omega | (simp only [nx]; omega) | ((repeat refine Fresh.push ?_ _); assumption) | (simp only [smA]; done) | (simp [oneCell, AW.next_push]; done) | fail) only [go_sem, Nat.reduceEqDiff, reduceIte, Nat.reduceAdd, Int.toNat_natCast, Nat.add_zero, Owes_true, Try.results38, hle, hS]
  apply callV_of (e := rfl)
  · exact orders_ok k (by omega) w2
  rintro _ _ ⟨rfl, rfl⟩
  simp -dsimp -implicitDefEqProofs (maxSteps := 2000000) (disch := first | assumption | omega | (simp only [nx]; omega) | ((repeat refine Fresh.push ?_ _); assumption) | (simp only [smA]; done) | (simp [oneCell, AW.next_push]; done) | fail) only [go_sem, Nat.reduceEqDiff, reduceIte, Nat.reduceAdd, Int.toNat_natCast, Nat.add_zero, Owes_true, Try.results38, hle, hS, hfz, hq2]
  apply callV_of (e := rfl)
  · exact unrank_ok k q (by omega) (by omega) hlt w2 g2.2
  rintro u w3 ⟨hA, g3⟩
  have hlen := ordI_len k q
  obtain ⟨b, rfl, hsl, hA2⟩ := hA.to (a := a) (by omega) (by omega) (by omega)
  have hle2 : WLe w2 w3 := g3.1.wle g2.2
  simp -dsimp -implicitDefEqProofs (maxSteps := 2000000) (disch := first | assumption | omega | (simp only [nx]; omega) | ((repeat refine Fresh.push ?_ _); assumption) | (simp only [smA]; done) | (simp [oneCell, AW.next_push]; done) | fail) only [go_sem, Nat.reduceEqDiff, reduceIte, Nat.reduceAdd, Int.toNat_natCast, Nat.add_zero, Owes_true, Try.results38, hle2, hsl]
  have hwn := gg.1.next
  exact ⟨gg.trans g3, _, _, _, by rw [he], fun h => absurd he h, fun _ => by rw [hdl]; exact hA2, fun _ => ⟨b, ordI k q, rfl, rfl, by omega, by rw [hdl], by omega, hA.weak (by omega)⟩⟩
theorem Draw_ok (n many : Int) (L : List Int) (v : Value) (w : AW) (f : Fresh w) (hv : ArrOf w 1 icells v L) :
    CallT Try.prog Try.T1 (.fn (.func 38) #[]) #[.int .i64 n, .int .i64 many, v] w (Drawn (drawE n many L) (drawL n many L) w) := (Draw_okR n many L v w f hv).mono fun _ _ h => h.drawn
end Go.Proofs

namespace Go.Proofs
open Go Go.RowKit Go.Sim
set_option maxRecDepth 100000
noncomputable def Try.s126r6 : Array Oper := match Try.f126.body with
  | some c => regionAt 6 c
  | none => #[]
noncomputable def Try.s126 : SC :=
 (.seq
  (.ops false [
    ⟨⟨(some 8), .move (.tmp 1), 3, "", ⟨[]⟩, none⟩, none, false⟩,
    ⟨⟨(some 9), .binOp .add 3 (.tmp 8) (.const (.int .i64 1)) 3, 3, "", ⟨[]⟩, none⟩, none, false⟩,
    ⟨⟨(some 6), .assign (.tmp 9), 3, "", ⟨[]⟩, none⟩, none, false⟩])
  (.block 0
   (.loop
    (.seq
     (.seq
      (.ops false [
        ⟨⟨(some 10), .move (.tmp 6), 3, "", ⟨[]⟩, none⟩, none, false⟩,
        ⟨⟨(some 11), .move (.tmp 2), 3, "", ⟨[]⟩, none⟩, none, false⟩,
        ⟨⟨(some 12), .binOp .lss 3 (.tmp 10) (.tmp 11) 3, 4, "", ⟨[]⟩, none⟩, none, false⟩])
      (.cond (.tmp 12)
       .skip
       (.exit 0)))
     (.seq
      (.block 1
       (.seq
        (.ops false [
          ⟨⟨(some 15), .move (.tmp 6), 3, "", ⟨[]⟩, none⟩, none, false⟩,
          ⟨⟨(some 7), .assign (.tmp 15), 3, "", ⟨[]⟩, none⟩, none, false⟩])
        (.block 2
         (.loop
          (.seq
           (.seq
            (.ops true [
              ⟨⟨(some 16), .move (.tmp 7), 3, "", ⟨[]⟩, none⟩, none, true⟩,
              ⟨⟨(some 17), .move (.tmp 1), 3, "", ⟨[]⟩, none⟩, none, true⟩,
              ⟨⟨(some 18), .binOp .gtr 3 (.tmp 16) (.tmp 17) 3, 4, "", ⟨[]⟩, none⟩, none, true⟩,
              ⟨⟨(some 19), .move (.tmp 18), 4, "", ⟨[]⟩, none⟩, none, true⟩,
              ⟨⟨(some 20), .move (.tmp 0), 22, "", ⟨[]⟩, none⟩, some ((some 19), true), true⟩,
              ⟨⟨(some 21), .move (.tmp 7), 3, "", ⟨[]⟩, none⟩, some ((some 19), true), true⟩,
              ⟨⟨(some 22), .indexAddr 22 (.tmp 20) (.tmp 21), 0, "", ⟨[]⟩, none⟩, some ((some 19), true), true⟩,
              ⟨⟨(some 23), .load 3 (.tmp 22), 3, "", ⟨[]⟩, none⟩, some ((some 19), true), true⟩,
              ⟨⟨(some 24), .move (.tmp 0), 22, "", ⟨[]⟩, none⟩, some ((some 19), true), true⟩,
              ⟨⟨(some 25), .move (.tmp 7), 3, "", ⟨[]⟩, none⟩, some ((some 19), true), true⟩,
              ⟨⟨(some 26), .binOp .sub 3 (.tmp 25) (.const (.int .i64 1)) 3, 3, "", ⟨[]⟩, none⟩, some ((some 19), true), true⟩,
              ⟨⟨(some 27), .indexAddr 22 (.tmp 24) (.tmp 26), 0, "", ⟨[]⟩, none⟩, some ((some 19), true), true⟩,
              ⟨⟨(some 28), .load 3 (.tmp 27), 3, "", ⟨[]⟩, none⟩, some ((some 19), true), true⟩,
              ⟨⟨(some 29), .call ⟨.value (.func 132), ⟨[(.tmp 23), (.tmp 28)]⟩, ⟨[3, 3]⟩⟩, 4, "", ⟨[]⟩, none⟩, some ((some 19), true), false⟩,
              ⟨⟨(some 30), .pick (.tmp 19) (.tmp 29) (.const (.bool false)), 4, "", ⟨[]⟩, none⟩, none, true⟩])
            (.cond (.tmp 30)
             .skip
             (.exit 2)))
           (.seq
            (.block 3
             (.raw (.region 6 Try.s126r6 true)))
            (.ops false [
              ⟨⟨(some 31), .move (.tmp 7), 3, "", ⟨[]⟩, none⟩, none, false⟩,
              ⟨⟨(some 32), .binOp .sub 3 (.tmp 31) (.const (.int .i64 1)) 3, 3, "", ⟨[]⟩, none⟩, none, false⟩,
              ⟨⟨(some 7), .assign (.tmp 32), 3, "", ⟨[]⟩, none⟩, none, false⟩])))))))
      (.ops false [
        ⟨⟨(some 13), .move (.tmp 6), 3, "", ⟨[]⟩, none⟩, none, false⟩,
        ⟨⟨(some 14), .binOp .add 3 (.tmp 13) (.const (.int .i64 1)) 3, 3, "", ⟨[]⟩, none⟩, none, false⟩,
        ⟨⟨(some 6), .assign (.tmp 14), 3, "", ⟨[]⟩, none⟩, none, false⟩]))))))
def Try.x126r6 : List XOp := [
  ⟨⟨⟨(some 33), .move (.tmp 0), 22, "", ⟨[]⟩, none⟩, none, false⟩, 0, 0, false, none⟩,
  ⟨⟨⟨(some 34), .move (.tmp 7), 3, "", ⟨[]⟩, none⟩, none, false⟩, 1, 0, false, none⟩,
  ⟨⟨⟨(some 35), .move (.tmp 0), 22, "", ⟨[]⟩, none⟩, none, false⟩, 2, 0, false, none⟩,
  ⟨⟨⟨(some 36), .move (.tmp 7), 3, "", ⟨[]⟩, none⟩, none, false⟩, 3, 0, false, none⟩,
  ⟨⟨⟨(some 37), .binOp .sub 3 (.tmp 36) (.const (.int .i64 1)) 3, 3, "", ⟨[]⟩, none⟩, none, false⟩, 4, 0, false, none⟩,
  ⟨⟨⟨(some 38), .move (.tmp 0), 22, "", ⟨[]⟩, none⟩, none, false⟩, 5, 0, false, none⟩,
  ⟨⟨⟨(some 39), .move (.tmp 7), 3, "", ⟨[]⟩, none⟩, none, false⟩, 6, 0, false, none⟩,
  ⟨⟨⟨(some 40), .binOp .sub 3 (.tmp 39) (.const (.int .i64 1)) 3, 3, "", ⟨[]⟩, none⟩, none, false⟩, 7, 0, false, none⟩,
  ⟨⟨⟨(some 41), .indexAddr 22 (.tmp 38) (.tmp 40), 0, "", ⟨[]⟩, none⟩, none, false⟩, 8, 0, false, none⟩,
  ⟨⟨⟨(some 42), .load 3 (.tmp 41), 3, "", ⟨[]⟩, none⟩, none, false⟩, 9, 0, false, some (3, (.tmp 41))⟩,
  ⟨⟨⟨(some 43), .move (.tmp 0), 22, "", ⟨[]⟩, none⟩, none, false⟩, 10, 0, false, none⟩,
  ⟨⟨⟨(some 44), .move (.tmp 7), 3, "", ⟨[]⟩, none⟩, none, false⟩, 11, 0, false, none⟩,
  ⟨⟨⟨(some 45), .indexAddr 22 (.tmp 43) (.tmp 44), 0, "", ⟨[]⟩, none⟩, none, false⟩, 12, 0, false, none⟩,
  ⟨⟨⟨(some 46), .load 3 (.tmp 45), 3, "", ⟨[]⟩, none⟩, none, false⟩, 13, 0, false, some (3, (.tmp 45))⟩,
  ⟨⟨⟨(some 47), .indexAddr 22 (.tmp 33) (.tmp 34), 0, "", ⟨[]⟩, none⟩, none, false⟩, 14, 0, false, none⟩,
  ⟨⟨⟨none, .store 3 (.tmp 47) (.tmp 42), 0, "", ⟨[]⟩, none⟩, none, false⟩, 15, 32739, true, none⟩,
  ⟨⟨⟨(some 48), .indexAddr 22 (.tmp 35) (.tmp 37), 0, "", ⟨[]⟩, none⟩, none, false⟩, 16, 0, false, none⟩,
  ⟨⟨⟨none, .store 3 (.tmp 48) (.tmp 46), 0, "", ⟨[]⟩, none⟩, none, false⟩, 17, 131071, true, none⟩]
theorem Try.s126_eq : Try.f126.body.map (sOfX [6]) = some Try.s126 := by kernel_rfl
theorem Try.x126r6_eq : xRegion Try.s126r6 = some Try.x126r6 := by kernel_rfl
theorem Try.x126r6_kinds : xkinds Try.x126r6 = true := by kernel_rfl
end Go.Proofs
