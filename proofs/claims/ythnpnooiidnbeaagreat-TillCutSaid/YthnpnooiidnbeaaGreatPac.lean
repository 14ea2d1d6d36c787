/- This program: its code, contracts, numbers, part 3. -/
import Derived.Test.YthnpnooiidnbeaaGreatPaa
import Derived.Test.YthnpnooiidnbeaaGreatNa
import Derived.Test.YthnpnooiidnbeaaGreatPab
import Derived.Test.YthnpnooiidnbeaaGreatNc
import Derived.Test.YthnpnooiidnbeaaGreatSh
set_option linter.unusedVariables false
set_option linter.unusedSimpArgs false
namespace Go.Proofs
open Go Go.RowKit Go.Sim
set_option maxRecDepth 100000
def Tryz.s144 : SC := (.seq (.ops false [⟨⟨(some 6),.load 3 (.tmp 1),3,"",⟨[]⟩,none⟩,none,false⟩,⟨⟨(some 7),.binOp .add 3 (.tmp 6) (.const (.int .i64 1)) 3,3,"",⟨[]⟩,none⟩,none,false⟩,⟨⟨(some 8),.move (.const (.int .i64 0)),3,"",⟨[]⟩,none⟩,none,false⟩]) (.block 0 (.loop (.seq (.ops false [⟨⟨(some 9),.binOp .lss 3 (.tmp 8) (.tmp 7) 3,4,"",⟨[]⟩,none⟩,none,false⟩]) (.seq (.cond (.tmp 9) .skip (.exit 0)) (.seq (.block 1 (.seq (.ops false [⟨⟨(some 10),.move (.tmp 8),3,"",⟨[]⟩,none⟩,none,false⟩,⟨⟨(some 4),.assign (.tmp 10),3,"",⟨[]⟩,none⟩,none,false⟩]) (.seq (.ops true [⟨⟨(some 11),.fieldAddr 119 (.tmp 2) 1,0,"",⟨[]⟩,none⟩,none,true⟩,⟨⟨(some 12),.load 43 (.tmp 11),43,"",⟨[]⟩,none⟩,none,true⟩,⟨⟨(some 13),.move (.tmp 4),3,"",⟨[]⟩,none⟩,none,true⟩,⟨⟨(some 14),.indexAddr 43 (.tmp 12) (.tmp 13),0,"",⟨[]⟩,none⟩,none,true⟩,⟨⟨(some 15),.fieldAddr 76 (.tmp 14) 0,0,"",⟨[]⟩,none⟩,none,true⟩,⟨⟨(some 16),.load 3 (.tmp 15),3,"",⟨[]⟩,none⟩,none,true⟩,⟨⟨(some 17),.fieldAddr 119 (.tmp 2) 1,0,"",⟨[]⟩,none⟩,none,true⟩,⟨⟨(some 18),.load 43 (.tmp 17),43,"",⟨[]⟩,none⟩,none,true⟩,⟨⟨(some 19),.load 3 (.tmp 1),3,"",⟨[]⟩,none⟩,none,true⟩,⟨⟨(some 20),.indexAddr 43 (.tmp 18) (.tmp 19),0,"",⟨[]⟩,none⟩,none,true⟩,⟨⟨(some 21),.fieldAddr 76 (.tmp 20) 0,0,"",⟨[]⟩,none⟩,none,true⟩,⟨⟨(some 22),.load 3 (.tmp 21),3,"",⟨[]⟩,none⟩,none,true⟩,⟨⟨(some 23),.fieldAddr 119 (.tmp 2) 0,0,"",⟨[]⟩,none⟩,none,true⟩,⟨⟨(some 24),.fieldAddr 46 (.tmp 23) 0,0,"",⟨[]⟩,none⟩,none,true⟩,⟨⟨(some 25),.load 3 (.tmp 24),3,"",⟨[]⟩,none⟩,none,true⟩,⟨⟨(some 26),.binOp .sub 3 (.tmp 22) (.tmp 25) 3,3,"",⟨[]⟩,none⟩,none,true⟩,⟨⟨(some 27),.binOp .gtr 3 (.tmp 16) (.tmp 26) 3,4,"",⟨[]⟩,none⟩,none,true⟩,⟨⟨(some 5),.assign (.tmp 27),4,"",⟨[]⟩,none⟩,none,true⟩]) (.seq (.ops true [⟨⟨(some 28),.move (.tmp 5),4,"",⟨[]⟩,none⟩,none,true⟩,⟨⟨(some 29),.move (.tmp 28),4,"",⟨[]⟩,none⟩,none,true⟩,⟨⟨(some 30),.load 119 (.tmp 2),119,"",⟨[]⟩,none⟩,some ((some 29),true),true⟩,⟨⟨(some 31),.move (.tmp 4),3,"",⟨[]⟩,none⟩,some ((some 29),true),true⟩,⟨⟨(some 33),.load 119 (.tmp 2),119,"",⟨[]⟩,none⟩,some ((some 29),true),true⟩,⟨⟨(some 34),.load 3 (.tmp 1),3,"",⟨[]⟩,none⟩,some ((some 29),true),true⟩,⟨⟨(some 32),.call ⟨.value (.func 73),⟨[(.tmp 30),(.tmp 31)]⟩,⟨[119,3]⟩⟩,3,"",⟨[]⟩,none⟩,some ((some 29),true),true⟩,⟨⟨(some 35),.call ⟨.value (.func 73),⟨[(.tmp 33),(.tmp 34)]⟩,⟨[119,3]⟩⟩,3,"",⟨[]⟩,none⟩,some ((some 29),true),false⟩,⟨⟨(some 36),.binOp .eql 3 (.tmp 32) (.tmp 35) 3,4,"",⟨[]⟩,none⟩,some ((some 29),true),true⟩,⟨⟨(some 37),.pick (.tmp 29) (.tmp 36) (.const (.bool false)),4,"",⟨[]⟩,none⟩,none,true⟩,⟨⟨(some 38),.move (.tmp 37),4,"",⟨[]⟩,none⟩,none,true⟩,⟨⟨(some 39),.move (.tmp 0),98,"",⟨[]⟩,none⟩,some ((some 38),true),true⟩,⟨⟨(some 40),.move (.tmp 4),3,"",⟨[]⟩,none⟩,some ((some 38),true),true⟩,⟨⟨(some 41),.call ⟨.value (.tmp 39),⟨[(.tmp 40)]⟩,⟨[3]⟩⟩,4,"",⟨[]⟩,none⟩,some ((some 38),true),false⟩,⟨⟨(some 42),.unOp .not 4 (.tmp 41),4,"",⟨[]⟩,none⟩,some ((some 38),true),true⟩,⟨⟨(some 43),.pick (.tmp 38) (.tmp 42) (.const (.bool false)),4,"",⟨[]⟩,none⟩,none,true⟩]) (.cond (.tmp 43) .ret .skip))))) (.ops false [⟨⟨(some 44),.binOp .add 3 (.tmp 8) (.const (.int .i64 1)) 3,3,"",⟨[]⟩,none⟩,none,false⟩,⟨⟨(some 8),.move (.tmp 44),3,"",⟨[]⟩,none⟩,none,false⟩])))))))
def Tryz.s145 : SC := (.seq (.ops false [⟨⟨(some 4),.assign (.const (.slice none 0 0)),22,"",⟨[]⟩,none⟩,none,false⟩]) (.seq (.ops false [⟨⟨(some 8),.move (.tmp 0),22,"",⟨[]⟩,none⟩,none,false⟩,⟨⟨(some 9),.call ⟨.builtin .len,⟨[(.tmp 8)]⟩,⟨[22]⟩⟩,3,"",⟨[]⟩,none⟩,none,false⟩,⟨⟨(some 10),.makeSlice 22 (.const (.int .i64 0)) (.tmp 9),22,"",⟨[]⟩,none⟩,none,false⟩,⟨⟨(some 5),.assign (.tmp 10),22,"",⟨[]⟩,none⟩,none,false⟩]) (.seq (.seq (.ops false [⟨⟨(some 11),.move (.tmp 0),22,"",⟨[]⟩,none⟩,none,false⟩,⟨⟨(some 12),.call ⟨.builtin .len,⟨[(.tmp 11)]⟩,⟨[22]⟩⟩,3,"",⟨[]⟩,none⟩,none,false⟩,⟨⟨(some 13),.move (.const (.int .i64 0)),3,"",⟨[]⟩,none⟩,none,false⟩]) (.block 0 (.loop (.seq (.ops false [⟨⟨(some 14),.binOp .lss 3 (.tmp 13) (.tmp 12) 3,0,"",⟨[]⟩,none⟩,none,false⟩]) (.seq (.cond (.tmp 14) .skip (.exit 0)) (.seq (.block 1 (.seq (.ops false [⟨⟨(some 15),.indexAddr 22 (.tmp 11) (.tmp 13),0,"",⟨[]⟩,none⟩,none,false⟩,⟨⟨(some 16),.load 3 (.tmp 15),3,"",⟨[]⟩,none⟩,none,false⟩,⟨⟨(some 7),.assign (.tmp 16),3,"",⟨[]⟩,none⟩,none,false⟩]) (.ops false [⟨⟨(some 17),.move (.tmp 5),22,"",⟨[]⟩,none⟩,none,false⟩,⟨⟨(some 18),.move (.tmp 1),41,"",⟨[]⟩,none⟩,none,false⟩,⟨⟨(some 19),.move (.tmp 7),3,"",⟨[]⟩,none⟩,none,false⟩,⟨⟨(some 20),.call ⟨.value (.tmp 18),⟨[(.tmp 19)]⟩,⟨[3]⟩⟩,3,"",⟨[]⟩,none⟩,none,false⟩,⟨⟨(some 21),.buildSlice 22 1 ⟨[(0,(.tmp 20))]⟩,22,"",⟨[]⟩,none⟩,none,false⟩,⟨⟨(some 22),.call ⟨.builtin .append,⟨[(.tmp 17),(.tmp 21)]⟩,⟨[22,22]⟩⟩,22,"",⟨[]⟩,none⟩,none,false⟩,⟨⟨(some 5),.assign (.tmp 22),22,"",⟨[]⟩,none⟩,none,false⟩]))) (.ops false [⟨⟨(some 23),.binOp .add 3 (.tmp 13) (.const (.int .i64 1)) 3,3,"",⟨[]⟩,none⟩,none,false⟩,⟨⟨(some 13),.move (.tmp 23),3,"",⟨[]⟩,none⟩,none,false⟩]))))))) (.seq (.ops false [⟨⟨(some 24),.move (.tmp 5),22,"",⟨[]⟩,none⟩,none,false⟩,⟨⟨(some 4),.assign (.tmp 24),22,"",⟨[]⟩,none⟩,none,false⟩]) .ret))))
def Tryz.s43 : SC := (.seq (.ops false [⟨⟨(some 4),.assign (.const (.int .i64 0)),3,"",⟨[]⟩,none⟩,none,false⟩]) (.seq (.seq (.ops false [⟨⟨(some 5),.move (.tmp 1),3,"",⟨[]⟩,none⟩,none,false⟩,⟨⟨(some 6),.binOp .leq 3 (.tmp 5) (.const (.int .i64 0)) 3,4,"",⟨[]⟩,none⟩,none,false⟩]) (.cond (.tmp 6) (.seq (.ops false [⟨⟨(some 4),.assign (.const (.int .i64 0)),3,"",⟨[]⟩,none⟩,none,false⟩]) .ret) .skip)) (.seq (.ops false [⟨⟨(some 7),.move (.tmp 0),3,"",⟨[]⟩,none⟩,none,false⟩,⟨⟨(some 8),.move (.tmp 1),3,"",⟨[]⟩,none⟩,none,false⟩,⟨⟨(some 9),.binOp .rem 3 (.tmp 7) (.tmp 8) 3,3,"",⟨[]⟩,none⟩,none,false⟩,⟨⟨(some 10),.move (.tmp 1),3,"",⟨[]⟩,none⟩,none,false⟩,⟨⟨(some 11),.binOp .add 3 (.tmp 9) (.tmp 10) 3,3,"",⟨[]⟩,none⟩,none,false⟩,⟨⟨(some 12),.move (.tmp 1),3,"",⟨[]⟩,none⟩,none,false⟩,⟨⟨(some 13),.binOp .rem 3 (.tmp 11) (.tmp 12) 3,3,"",⟨[]⟩,none⟩,none,false⟩,⟨⟨(some 4),.assign (.tmp 13),3,"",⟨[]⟩,none⟩,none,false⟩]) .ret)))
theorem Tryz.s144_eq : Tryz.f144.body.map sOf = some Tryz.s144 := by kernel_rfl
theorem Tryz.s145_eq : Tryz.f145.body.map sOf = some Tryz.s145 := by kernel_rfl
theorem Tryz.s43_eq : Tryz.f43.body.map sOf = some Tryz.s43 := by kernel_rfl
end Go.Proofs

namespace Go.Proofs
open Go Go.RowKit Go.Sim
set_option maxRecDepth 100000
def Tryz.s140 : SC := (.seq (.ops false [⟨⟨(some 4),.assign (.const (.int .i64 0)),3,"",⟨[]⟩,none⟩,none,false⟩]) (.seq (.ops false [⟨⟨(some 7),.move (.tmp 0),3,"",⟨[]⟩,none⟩,none,false⟩,⟨⟨(some 8),.call ⟨.value (.func 157),⟨[(.tmp 7)]⟩,⟨[3]⟩⟩,4,"",⟨[]⟩,none⟩,none,false⟩,⟨⟨(some 5),.assign (.tmp 8),4,"",⟨[]⟩,none⟩,none,false⟩]) (.seq (.ops false [⟨⟨(some 9),.move (.tmp 1),3,"",⟨[]⟩,none⟩,none,false⟩,⟨⟨(some 10),.call ⟨.value (.func 157),⟨[(.tmp 9)]⟩,⟨[3]⟩⟩,4,"",⟨[]⟩,none⟩,none,false⟩,⟨⟨(some 6),.assign (.tmp 10),4,"",⟨[]⟩,none⟩,none,false⟩]) (.seq (.seq (.ops false [⟨⟨(some 11),.move (.tmp 5),4,"",⟨[]⟩,none⟩,none,false⟩]) (.cond (.tmp 11) (.seq (.seq (.ops false [⟨⟨(some 12),.move (.tmp 6),4,"",⟨[]⟩,none⟩,none,false⟩]) (.cond (.tmp 12) (.seq (.ops false [⟨⟨(some 4),.assign (.const (.int .i64 0)),3,"",⟨[]⟩,none⟩,none,false⟩]) .ret) .skip)) (.seq (.ops false [⟨⟨(some 4),.assign (.const (.int .i64 (-1))),3,"",⟨[]⟩,none⟩,none,false⟩]) .ret)) .skip)) (.seq (.seq (.ops false [⟨⟨(some 13),.move (.tmp 6),4,"",⟨[]⟩,none⟩,none,false⟩]) (.cond (.tmp 13) (.seq (.ops false [⟨⟨(some 4),.assign (.const (.int .i64 1)),3,"",⟨[]⟩,none⟩,none,false⟩]) .ret) .skip)) (.seq (.seq (.ops false [⟨⟨(some 14),.move (.tmp 0),3,"",⟨[]⟩,none⟩,none,false⟩,⟨⟨(some 15),.move (.tmp 1),3,"",⟨[]⟩,none⟩,none,false⟩,⟨⟨(some 16),.binOp .lss 3 (.tmp 14) (.tmp 15) 3,4,"",⟨[]⟩,none⟩,none,false⟩]) (.cond (.tmp 16) (.seq (.ops false [⟨⟨(some 4),.assign (.const (.int .i64 (-1))),3,"",⟨[]⟩,none⟩,none,false⟩]) .ret) .skip)) (.seq (.seq (.ops false [⟨⟨(some 17),.move (.tmp 0),3,"",⟨[]⟩,none⟩,none,false⟩,⟨⟨(some 18),.move (.tmp 1),3,"",⟨[]⟩,none⟩,none,false⟩,⟨⟨(some 19),.binOp .gtr 3 (.tmp 17) (.tmp 18) 3,4,"",⟨[]⟩,none⟩,none,false⟩]) (.cond (.tmp 19) (.seq (.ops false [⟨⟨(some 4),.assign (.const (.int .i64 1)),3,"",⟨[]⟩,none⟩,none,false⟩]) .ret) .skip)) (.seq (.ops false [⟨⟨(some 4),.assign (.const (.int .i64 0)),3,"",⟨[]⟩,none⟩,none,false⟩]) .ret))))))))
def Tryz.s157 : SC := (.seq (.ops false [⟨⟨(some 2),.assign (.const (.bool false)),4,"",⟨[]⟩,none⟩,none,false⟩]) (.seq (.ops false [⟨⟨(some 3),.move (.tmp 0),3,"",⟨[]⟩,none⟩,none,false⟩,⟨⟨(some 4),.move (.tmp 0),3,"",⟨[]⟩,none⟩,none,false⟩,⟨⟨(some 5),.binOp .neq 3 (.tmp 3) (.tmp 4) 3,4,"",⟨[]⟩,none⟩,none,false⟩,⟨⟨(some 2),.assign (.tmp 5),4,"",⟨[]⟩,none⟩,none,false⟩]) .ret))
def Tryz.s158 : SC := (.seq (.ops false [⟨⟨(some 4),.assign (.const (.bool false)),4,"",⟨[]⟩,none⟩,none,false⟩]) (.seq (.ops false [⟨⟨(some 5),.move (.tmp 0),43,"",⟨[]⟩,none⟩,none,false⟩,⟨⟨(some 6),.move (.tmp 1),185,"",⟨[]⟩,none⟩,none,false⟩,⟨⟨(some 7),.call ⟨.value (.func 165),⟨[(.tmp 5),(.tmp 6)]⟩,⟨[43,185]⟩⟩,3,"",⟨[]⟩,none⟩,none,false⟩,⟨⟨(some 8),.binOp .geq 3 (.tmp 7) (.const (.int .i64 0)) 3,4,"",⟨[]⟩,none⟩,none,false⟩,⟨⟨(some 4),.assign (.tmp 8),4,"",⟨[]⟩,none⟩,none,false⟩]) .ret))
def Tryz.s159 : SC := (.seq (.ops false [⟨⟨(some 2),.box 76 (.tmp 0),0,"",⟨[]⟩,none⟩,none,false⟩,⟨⟨(some 3),.assign (.const (.bool false)),4,"",⟨[]⟩,none⟩,none,false⟩]) (.seq (.ops false [⟨⟨(some 4),.load 185 (.tmp 1),185,"",⟨[]⟩,none⟩,none,false⟩,⟨⟨(some 5),.load 76 (.tmp 2),76,"",⟨[]⟩,none⟩,none,false⟩,⟨⟨(some 6),.call ⟨.value (.tmp 4),⟨[(.tmp 5)]⟩,⟨[76]⟩⟩,4,"",⟨[]⟩,none⟩,none,false⟩,⟨⟨(some 7),.unOp .not 4 (.tmp 6),4,"",⟨[]⟩,none⟩,none,false⟩,⟨⟨(some 3),.assign (.tmp 7),4,"",⟨[]⟩,none⟩,none,false⟩]) .ret))
def Tryz.s165 : SC := (.seq (.ops false [⟨⟨(some 4),.assign (.const (.int .i64 0)),3,"",⟨[]⟩,none⟩,none,false⟩]) (.seq (.seq (.ops false [⟨⟨(some 6),.move (.tmp 0),43,"",⟨[]⟩,none⟩,none,false⟩,⟨⟨(some 7),.call ⟨.builtin .len,⟨[(.tmp 6)]⟩,⟨[43]⟩⟩,3,"",⟨[]⟩,none⟩,none,false⟩,⟨⟨(some 8),.move (.const (.int .i64 0)),3,"",⟨[]⟩,none⟩,none,false⟩]) (.block 0 (.loop (.seq (.ops false [⟨⟨(some 9),.binOp .lss 3 (.tmp 8) (.tmp 7) 3,0,"",⟨[]⟩,none⟩,none,false⟩]) (.seq (.cond (.tmp 9) .skip (.exit 0)) (.seq (.block 1 (.seq (.ops false [⟨⟨(some 10),.move (.tmp 8),3,"",⟨[]⟩,none⟩,none,false⟩,⟨⟨(some 5),.assign (.tmp 10),3,"",⟨[]⟩,none⟩,none,false⟩]) (.seq (.ops false [⟨⟨(some 11),.move (.tmp 1),185,"",⟨[]⟩,none⟩,none,false⟩,⟨⟨(some 12),.move (.tmp 0),43,"",⟨[]⟩,none⟩,none,false⟩,⟨⟨(some 13),.move (.tmp 5),3,"",⟨[]⟩,none⟩,none,false⟩,⟨⟨(some 14),.indexAddr 43 (.tmp 12) (.tmp 13),0,"",⟨[]⟩,none⟩,none,false⟩,⟨⟨(some 15),.load 76 (.tmp 14),76,"",⟨[]⟩,none⟩,none,false⟩,⟨⟨(some 16),.call ⟨.value (.tmp 11),⟨[(.tmp 15)]⟩,⟨[76]⟩⟩,4,"",⟨[]⟩,none⟩,none,false⟩]) (.cond (.tmp 16) (.seq (.ops false [⟨⟨(some 17),.move (.tmp 5),3,"",⟨[]⟩,none⟩,none,false⟩,⟨⟨(some 4),.assign (.tmp 17),3,"",⟨[]⟩,none⟩,none,false⟩]) .ret) .skip)))) (.ops false [⟨⟨(some 18),.binOp .add 3 (.tmp 8) (.const (.int .i64 1)) 3,3,"",⟨[]⟩,none⟩,none,false⟩,⟨⟨(some 8),.move (.tmp 18),3,"",⟨[]⟩,none⟩,none,false⟩]))))))) (.seq (.ops false [⟨⟨(some 4),.assign (.const (.int .i64 (-1))),3,"",⟨[]⟩,none⟩,none,false⟩]) .ret)))
theorem Tryz.s140_eq : Tryz.f140.body.map sOf = some Tryz.s140 := by kernel_rfl
theorem Tryz.s157_eq : Tryz.f157.body.map sOf = some Tryz.s157 := by kernel_rfl
theorem Tryz.s158_eq : Tryz.f158.body.map sOf = some Tryz.s158 := by kernel_rfl
theorem Tryz.s159_eq : Tryz.f159.body.map sOf = some Tryz.s159 := by kernel_rfl
theorem Tryz.s165_eq : Tryz.f165.body.map sOf = some Tryz.s165 := by kernel_rfl
end Go.Proofs

namespace Go.Proofs
open Go Go.RowKit Go.Sim
set_option maxRecDepth 100000
structure DealN where
  day : Int
  who : Int
  sum : Int
def dcells (d : DealN) : List Value := [.int .i64 d.day, .int .i64 d.who, .int .i64 d.sum]
def dealB (d : DealN) : Bool := inR 0 d.day 36500 && inR 0 d.who 23 && inR 1 d.sum 1073741824
theorem isDealing_ok (d : DealN) (w : AW) (f : Fresh w) : CallT Tryz.prog Tryz.T1 (.fn (.func 142) #[]) #[.agg #[.int .i64 d.day, .int .i64 d.who, .int .i64 d.sum]] w (Ret (.bool (dealB d)) (Grown w)) := by
  have g := (Grown.refl f).push (.cells [.int .i64 d.day, .int .i64 d.who, .int .i64 d.sum] 76 w.next 0 0)
  have hO := Own.new f 76 [.int .i64 d.day, .int .i64 d.who, .int .i64 d.sum]
  have c0 := hO.cell (o := 0) rfl rfl
  have c1 := hO.cell (o := 1) rfl rfl
  have c2 := hO.cell (o := 2) rfl rfl
  unfold dealB
  refine callT_code rfl Tryz.func142 rfl Tryz.s142_eq rfl ?_
  unfold Tryz.s142
  simp -dsimp -implicitDefEqProofs (maxSteps := 2000000) (disch := first | assumption | omega | (simp only [nx]; omega) | ((repeat refine Fresh.push ?_ _); assumption) | (simp only [smA]; done) | (simp [oneCell, AW.next_push]; done) | fail) only [go_sem, Nat.reduceEqDiff, reduceIte, Nat.reduceAdd, Int.toNat_natCast, Nat.add_zero, Owes_true, Tryz.results142, Nat.zero_add, c0, c1, c2]
  apply callV_of (e := rfl)
  · exact within_ok _ _ _ _
  rintro _ _ ⟨rfl, rfl⟩
  cases h1 : inR 0 d.day 36500 with
  | false =>
    simp -dsimp -implicitDefEqProofs (maxSteps := 2000000) (disch := first | assumption | omega | (simp only [nx]; omega) | ((repeat refine Fresh.push ?_ _); assumption) | (simp only [smA]; done) | (simp [oneCell, AW.next_push]; done) | fail) only [go_sem, Nat.reduceEqDiff, reduceIte, Nat.reduceAdd, Int.toNat_natCast, Nat.add_zero, Owes_true, Tryz.results142, h1]
    exact ⟨by simp, g⟩
  | true =>
  simp -dsimp -implicitDefEqProofs (maxSteps := 2000000) (disch := first | assumption | omega | (simp only [nx]; omega) | ((repeat refine Fresh.push ?_ _); assumption) | (simp only [smA]; done) | (simp [oneCell, AW.next_push]; done) | fail) only [go_sem, Nat.reduceEqDiff, reduceIte, Nat.reduceAdd, Int.toNat_natCast, Nat.add_zero, Owes_true, Tryz.results142, h1, Nat.zero_add, c0, c1, c2]
  apply callV_of (e := rfl)
  · exact isPerson_ok _ _
  rintro _ _ ⟨rfl, rfl⟩
  cases h2 : inR 0 d.who 23 with
  | false =>
    simp -dsimp -implicitDefEqProofs (maxSteps := 2000000) (disch := first | assumption | omega | (simp only [nx]; omega) | ((repeat refine Fresh.push ?_ _); assumption) | (simp only [smA]; done) | (simp [oneCell, AW.next_push]; done) | fail) only [go_sem, Nat.reduceEqDiff, reduceIte, Nat.reduceAdd, Int.toNat_natCast, Nat.add_zero, Owes_true, Tryz.results142, h2]
    exact ⟨by simp, g⟩
  | true =>
  simp -dsimp -implicitDefEqProofs (maxSteps := 2000000) (disch := first | assumption | omega | (simp only [nx]; omega) | ((repeat refine Fresh.push ?_ _); assumption) | (simp only [smA]; done) | (simp [oneCell, AW.next_push]; done) | fail) only [go_sem, Nat.reduceEqDiff, reduceIte, Nat.reduceAdd, Int.toNat_natCast, Nat.add_zero, Owes_true, Tryz.results142, h2, Nat.zero_add, c0, c1, c2]
  apply callV_of (e := rfl)
  · exact isSum_ok _ _
  rintro _ _ ⟨rfl, rfl⟩
  simp -dsimp -implicitDefEqProofs (maxSteps := 2000000) (disch := first | assumption | omega | (simp only [nx]; omega) | ((repeat refine Fresh.push ?_ _); assumption) | (simp only [smA]; done) | (simp [oneCell, AW.next_push]; done) | fail) only [go_sem, Nat.reduceEqDiff, reduceIte, Nat.reduceAdd, Int.toNat_natCast, Nat.add_zero, Owes_true, Tryz.results142]
  exact ⟨by simp, g⟩
theorem isNaN_ok (n : Int) (w : AW) : CallT Tryz.prog Tryz.T1 (.fn (.func 157) #[]) #[.int .i64 n] w (Ret (.bool false) fun w' => w = w') := by
  refine callT_code rfl Tryz.func157 rfl Tryz.s157_eq rfl ?_
  unfold Tryz.s157
  simp -dsimp -implicitDefEqProofs (maxSteps := 2000000) (disch := first | assumption | omega | (simp only [nx]; omega) | ((repeat refine Fresh.push ?_ _); assumption) | (simp only [smA]; done) | (simp [oneCell, AW.next_push]; done) | fail) only [go_sem, Nat.reduceEqDiff, reduceIte, Nat.reduceAdd, Int.toNat_natCast, Nat.add_zero, Owes_true, Tryz.results157]
  exact ⟨rfl, rfl⟩
def cmpI (a b : Int) : Int := if a < b then -1 else if b < a then 1 else 0
theorem cmp_ok (a b : Int) (w : AW) : CallT Tryz.prog Tryz.T1 (.fn (.func 140) #[]) #[.int .i64 a, .int .i64 b] w (Ret (.int .i64 (cmpI a b)) fun w' => w = w') := by
  unfold cmpI
  refine callT_code rfl Tryz.func140 rfl Tryz.s140_eq rfl ?_
  unfold Tryz.s140
  simp -dsimp -implicitDefEqProofs (maxSteps := 2000000) (disch := first | assumption | omega | (simp only [nx]; omega) | ((repeat refine Fresh.push ?_ _); assumption) | (simp only [smA]; done) | (simp [oneCell, AW.next_push]; done) | fail) only [go_sem, Nat.reduceEqDiff, reduceIte, Nat.reduceAdd, Int.toNat_natCast, Nat.add_zero, Owes_true, Tryz.results140]
  apply callV_of (e := rfl)
  · exact isNaN_ok _ _
  rintro _ _ ⟨rfl, rfl⟩
  simp -dsimp -implicitDefEqProofs (maxSteps := 2000000) (disch := first | assumption | omega | (simp only [nx]; omega) | ((repeat refine Fresh.push ?_ _); assumption) | (simp only [smA]; done) | (simp [oneCell, AW.next_push]; done) | fail) only [go_sem, Nat.reduceEqDiff, reduceIte, Nat.reduceAdd, Int.toNat_natCast, Nat.add_zero, Owes_true, Tryz.results140]
  apply callV_of (e := rfl)
  · exact isNaN_ok _ _
  rintro _ _ ⟨rfl, rfl⟩
  by_cases h1 : a < b
  · simp -dsimp -implicitDefEqProofs (maxSteps := 2000000) (disch := first | assumption | omega | (simp only [nx]; omega) | ((repeat refine Fresh.push ?_ _); assumption) | (simp only [smA]; done) | (simp [oneCell, AW.next_push]; done) | fail) only [go_sem, Nat.reduceEqDiff, reduceIte, Nat.reduceAdd, Int.toNat_natCast, Nat.add_zero, Owes_true, Tryz.results140, h1]
    exact ⟨by simp, rfl⟩
  · by_cases h2 : b < a
    · simp -dsimp -implicitDefEqProofs (maxSteps := 2000000) (disch := first | assumption | omega | (simp only [nx]; omega) | ((repeat refine Fresh.push ?_ _); assumption) | (simp only [smA]; done) | (simp [oneCell, AW.next_push]; done) | fail) only [go_sem, Nat.reduceEqDiff, reduceIte, Nat.reduceAdd, Int.toNat_natCast, Nat.add_zero, Owes_true, Tryz.results140, h1, h2]
      exact ⟨by simp, rfl⟩
    · simp -dsimp -implicitDefEqProofs (maxSteps := 2000000) (disch := first | assumption | omega | (simp only [nx]; omega) | ((repeat refine Fresh.push ?_ _); assumption) | (simp only [smA]; done) | (simp [oneCell, AW.next_push]; done) | fail) only [go_sem, Nat.reduceEqDiff, reduceIte, Nat.reduceAdd, Int.toNat_natCast, Nat.add_zero, Owes_true, Tryz.results140, h1, h2]
      exact ⟨by simp, rfl⟩
theorem byDay_ok (d e : DealN) (w : AW) (f : Fresh w) : CallT Tryz.prog Tryz.T1 (.fn (.func 139) #[]) #[.agg #[.int .i64 d.day, .int .i64 d.who, .int .i64 d.sum], .agg #[.int .i64 e.day, .int .i64 e.who, .int .i64 e.sum]] w (Ret (.int .i64 (cmpI d.day e.day)) (Grown w)) := by
  have g1 := (Grown.refl f).push (.cells [.int .i64 d.day, .int .i64 d.who, .int .i64 d.sum] 76 w.next 0 0)
  have O1 := Own.new f 76 [.int .i64 d.day, .int .i64 d.who, .int .i64 d.sum]
  have hn1 := AW.next_push w (.cells [.int .i64 d.day, .int .i64 d.who, .int .i64 d.sum] 76 w.next 0 0)
  have g2 := g1.push (.cells [.int .i64 e.day, .int .i64 e.who, .int .i64 e.sum] 76 (w.push (.cells [.int .i64 d.day, .int .i64 d.who, .int .i64 d.sum] 76 w.next 0 0)).next 0 0)
  have O2 := Own.new g1.2 76 [.int .i64 e.day, .int .i64 e.who, .int .i64 e.sum]
  have c0 := (O1.keep ((Grown.refl g1.2).push (.cells [.int .i64 e.day, .int .i64 e.who, .int .i64 e.sum] 76 (w.push (.cells [.int .i64 d.day, .int .i64 d.who, .int .i64 d.sum] 76 w.next 0 0)).next 0 0)).1).cell (o := 0) rfl rfl
  have m0 := O2.cell (o := 0) rfl rfl
  rw [hn1] at g2 c0 m0
  refine callT_code rfl Tryz.func139 rfl Tryz.s139_eq rfl ?_
  unfold Tryz.s139
  simp -dsimp -implicitDefEqProofs (maxSteps := 2000000) (disch := first | assumption | omega | (simp only [nx]; omega) | ((repeat refine Fresh.push ?_ _); assumption) | (simp only [smA]; done) | (simp [oneCell, AW.next_push]; done) | fail) only [go_sem, Nat.reduceEqDiff, reduceIte, Nat.reduceAdd, Int.toNat_natCast, Nat.add_zero, Owes_true, Tryz.results139, Nat.zero_add, hn1, c0, m0]
  apply callV_of (e := rfl)
  · exact cmp_ok _ _ _
  rintro _ _ ⟨rfl, rfl⟩
  simp -dsimp -implicitDefEqProofs (maxSteps := 2000000) (disch := first | assumption | omega | (simp only [nx]; omega) | ((repeat refine Fresh.push ?_ _); assumption) | (simp only [smA]; done) | (simp [oneCell, AW.next_push]; done) | fail) only [go_sem, Nat.reduceEqDiff, reduceIte, Nat.reduceAdd, Int.toNat_natCast, Nat.add_zero, Owes_true, Tryz.results139]
  exact ⟨rfl, g2⟩
end Go.Proofs

namespace Go.Proofs
open Go Go.RowKit Go.Sim
set_option maxRecDepth 100000
theorem same_agg3 (a b c : Int) : same 12 (.agg #[.int .i64 a, .int .i64 b, .int .i64 c]) (.agg #[.int .i64 a, .int .i64 b, .int .i64 c]) = true := by simp [same, same.all, intEq_eq]
theorem allD1_ok (d : DealN) (b : Nat) (w : AW) (f : Fresh w) (h : Own w b 185 [.func (.func 142) #[] #[]]) : CallT Tryz.prog Tryz.T1 (.fn (.func 159) #[.pointer (some ⟨b, 0, none⟩)]) #[.agg #[.int .i64 d.day, .int .i64 d.who, .int .i64 d.sum]] w (Ret (.bool (!dealB d)) (Grown w)) := by
  have g := (Grown.refl f).push (.cells [.int .i64 d.day, .int .i64 d.who, .int .i64 d.sum] 76 w.next 0 0)
  have hO := Own.new f 76 [.int .i64 d.day, .int .i64 d.who, .int .i64 d.sum]
  have c0 := hO.cell (o := 0) rfl rfl
  have c1 := hO.cell (o := 1) rfl rfl
  have c2 := hO.cell (o := 2) rfl rfl
  have a0 := (h.keep g.1).cell (o := 0) rfl rfl
  have hs := same_fn0 142
  refine callT_code rfl Tryz.func159 rfl Tryz.s159_eq rfl ?_
  unfold Tryz.s159
  simp -dsimp -implicitDefEqProofs (maxSteps := 2000000) (disch := first | assumption | omega | (simp only [nx]; omega) | ((repeat refine Fresh.push ?_ _); assumption) | (simp only [smA]; done) | (simp [oneCell, AW.next_push]; done) | fail) only [go_sem, Nat.reduceEqDiff, reduceIte, Nat.reduceAdd, Int.toNat_natCast, Nat.add_zero, Owes_true, Tryz.results159, c0, c1, c2, a0, Nat.zero_add, hs]
  apply callV_of (e := rfl)
  · exact isDealing_ok d _ g.2
  rintro _ w1 ⟨rfl, g1⟩
  simp -dsimp -implicitDefEqProofs (maxSteps := 2000000) (disch := first | assumption | omega | (simp only [nx]; omega) | ((repeat refine Fresh.push ?_ _); assumption) | (simp only [smA]; done) | (simp [oneCell, AW.next_push]; done) | fail) only [go_sem, Nat.reduceEqDiff, reduceIte, Nat.reduceAdd, Int.toNat_natCast, Nat.add_zero, Owes_true, Tryz.results159]
  exact ⟨rfl, g.trans g1⟩
theorem indexD_ok (l : List DealN) (v : Value) (b : Nat) (w : AW) (f : Fresh w) (hs : ArrOf w 3 dcells v l) (h : Own w b 185 [.func (.func 142) #[] #[]]) :
    CallT Tryz.prog Tryz.T1 (.fn (.func 165) #[]) #[v, .func (.func 159) #[] #[.pointer (some ⟨b, 0, none⟩)]] w (fun r w' => Grown w w' ∧ ∃ n : Int, r = .int .i64 n ∧ decide (n ≥ 0) = !l.all dealB) := by
  obtain ⟨p, cap, rfl, _, _, hat⟩ := hs.open
  have hfn := same_fn 159 b
  refine callT_code rfl Tryz.func165 rfl Tryz.s165_eq rfl ?_
  unfold Tryz.s165
  simp -dsimp -implicitDefEqProofs (maxSteps := 2000000) (disch := first | assumption | omega | (simp only [nx]; omega) | ((repeat refine Fresh.push ?_ _); assumption) | (simp only [smA]; done) | (simp [oneCell, AW.next_push]; done) | fail) only [go_sem, Nat.reduceEqDiff, reduceIte, Nat.reduceAdd, Int.toNat_natCast, Nat.add_zero, Owes_true, Tryz.results165]
  refine loopR (fun k t ds w1 => ∃ i : Nat, i ≤ l.length ∧ k = l.length - i ∧ ds = [] ∧ ev t (.tmp 0) = .slice p l.length cap ∧ ev t (.tmp 1) = .func (.func 159) #[] #[.pointer (some ⟨b, 0, none⟩)] ∧ ev t (.tmp 6) = .slice p l.length cap ∧ ev t (.tmp 7) = .int .i64 (l.length : Int) ∧ ev t (.tmp 8) = .int .i64 (i : Int) ∧ Grown w w1 ∧ (l.take i).all dealB = true) (l.length) ?_ ?_
  · refine ⟨0, by omega, by omega, rfl, ?_, ?_, ?_, ?_, ?_, Grown.refl f, rfl⟩ <;> simp -dsimp -implicitDefEqProofs (maxSteps := 2000000) (disch := first | assumption | omega | (simp only [nx]; omega) | ((repeat refine Fresh.push ?_ _); assumption) | (simp only [smA]; done) | (simp [oneCell, AW.next_push]; done) | fail) only [go_sem, Nat.reduceEqDiff, reduceIte, Nat.reduceAdd, Int.toNat_natCast, Nat.add_zero, Owes_true] <;> rfl
  rintro k t ds w1 ⟨i, hii, rfl, rfl, e0, e1, e6, e7, e8, g1, ha⟩
  by_cases hlt : (i : Int) < (l.length : Int)
  case neg =>
    obtain rfl : i = l.length := by omega
    rw [List.take_of_length_le (Nat.le_refl _)] at ha
    simp -dsimp -implicitDefEqProofs (maxSteps := 2000000) (disch := first | assumption | omega | (simp only [nx]; omega) | ((repeat refine Fresh.push ?_ _); assumption) | (simp only [smA]; done) | (simp [oneCell, AW.next_push]; done) | fail) only [go_sem, Nat.reduceEqDiff, reduceIte, Nat.reduceAdd, Int.toNat_natCast, Nat.add_zero, Owes_true, Tryz.results165, e0, e1, e6, e7, e8, hlt]
    exact ⟨g1, -1, rfl, by rw [ha]; rfl⟩
  have hlt' : i < l.length := by omega
  obtain ⟨b1, o1, rfl, hb1, hcell⟩ := hat i hlt'
  have a0 := hcell w1 g1.1 0 _ rfl
  have a1 := hcell w1 g1.1 1 _ rfl
  have a2 := hcell w1 g1.1 2 _ rfl
  simp only [Nat.add_zero] at a0 a1 a2
  have hone := allD1_ok l[i] b w1 g1.2 (h.keep g1.1)
  generalize hli : dealB l[i] = B at *
  simp -dsimp -implicitDefEqProofs (maxSteps := 2000000) (disch := first | assumption | omega | (simp only [nx]; omega) | ((repeat refine Fresh.push ?_ _); assumption) | (simp only [smA]; done) | (simp [oneCell, AW.next_push]; done) | fail) only [go_sem, Nat.reduceEqDiff, reduceIte, Nat.reduceAdd, Int.toNat_natCast, Nat.add_zero, Owes_true, Tryz.results165, e0, e1, e6, e7, e8, hlt, indexV_eq, a0, a1, a2, hfn]
  apply callV_of (e := rfl)
  · exact hone
  rintro _ w2 ⟨rfl, g2⟩
  cases B with
  | true =>
    simp -dsimp -implicitDefEqProofs (maxSteps := 2000000) (disch := first | assumption | omega | (simp only [nx]; omega) | ((repeat refine Fresh.push ?_ _); assumption) | (simp only [smA]; done) | (simp [oneCell, AW.next_push]; done) | fail) only [go_sem, Nat.reduceEqDiff, reduceIte, Nat.reduceAdd, Int.toNat_natCast, Nat.add_zero, Owes_true, Tryz.results165, e0, e1, e6, e7, e8]
    refine ⟨_, by omega, i + 1, by omega, rfl, rfl, by (simp -dsimp -implicitDefEqProofs (maxSteps := 2000000) (disch := first | assumption | omega | (simp only [nx]; omega) | ((repeat refine Fresh.push ?_ _); assumption) | (simp only [smA]; done) | (simp [oneCell, AW.next_push]; done) | fail) only [go_sem, Nat.reduceEqDiff, reduceIte, Nat.reduceAdd, Int.toNat_natCast, Nat.add_zero, Owes_true, e0]; try rfl), by (simp -dsimp -implicitDefEqProofs (maxSteps := 2000000) (disch := first | assumption | omega | (simp only [nx]; omega) | ((repeat refine Fresh.push ?_ _); assumption) | (simp only [smA]; done) | (simp [oneCell, AW.next_push]; done) | fail) only [go_sem, Nat.reduceEqDiff, reduceIte, Nat.reduceAdd, Int.toNat_natCast, Nat.add_zero, Owes_true, e1]; try rfl), by (simp -dsimp -implicitDefEqProofs (maxSteps := 2000000) (disch := first | assumption | omega | (simp only [nx]; omega) | ((repeat refine Fresh.push ?_ _); assumption) | (simp only [smA]; done) | (simp [oneCell, AW.next_push]; done) | fail) only [go_sem, Nat.reduceEqDiff, reduceIte, Nat.reduceAdd, Int.toNat_natCast, Nat.add_zero, Owes_true, e6]; try rfl), by (simp -dsimp -implicitDefEqProofs (maxSteps := 2000000) (disch := first | assumption | omega | (simp only [nx]; omega) | ((repeat refine Fresh.push ?_ _); assumption) | (simp only [smA]; done) | (simp [oneCell, AW.next_push]; done) | fail) only [go_sem, Nat.reduceEqDiff, reduceIte, Nat.reduceAdd, Int.toNat_natCast, Nat.add_zero, Owes_true, e7]; try rfl), by (simp -dsimp -implicitDefEqProofs (maxSteps := 2000000) (disch := first | assumption | omega | (simp only [nx]; omega) | ((repeat refine Fresh.push ?_ _); assumption) | (simp only [smA]; done) | (simp [oneCell, AW.next_push]; done) | fail) only [go_sem, Nat.reduceEqDiff, reduceIte, Nat.reduceAdd, Int.toNat_natCast, Nat.add_zero, Owes_true, e8]; try rfl), g1.trans g2, by rw [List.take_succ_eq_append_getElem hlt', List.all_append, ha]; simp [hli]⟩
  | false =>
    simp -dsimp -implicitDefEqProofs (maxSteps := 2000000) (disch := first | assumption | omega | (simp only [nx]; omega) | ((repeat refine Fresh.push ?_ _); assumption) | (simp only [smA]; done) | (simp [oneCell, AW.next_push]; done) | fail) only [go_sem, Nat.reduceEqDiff, reduceIte, Nat.reduceAdd, Int.toNat_natCast, Nat.add_zero, Owes_true, Tryz.results165, e0, e1, e6, e7, e8]
    refine ⟨g1.trans g2, (i : Int), rfl, ?_⟩
    have h1 : l.all dealB = false := by
      rw [List.all_eq_false]; exact ⟨l[i], List.getElem_mem hlt', by rw [hli]; simp⟩
    rw [h1]; simp
theorem containsD_ok (l : List DealN) (v : Value) (b : Nat) (w : AW) (f : Fresh w) (hs : ArrOf w 3 dcells v l) (h : Own w b 185 [.func (.func 142) #[] #[]]) :
    CallT Tryz.prog Tryz.T1 (.fn (.func 158) #[]) #[v, .func (.func 159) #[] #[.pointer (some ⟨b, 0, none⟩)]] w (Ret (.bool (!l.all dealB)) (Grown w)) := by
  obtain ⟨p, cap, rfl, _⟩ := id hs.open
  have hfn := same_fn 159 b
  refine callT_code rfl Tryz.func158 rfl Tryz.s158_eq rfl ?_
  unfold Tryz.s158
  simp -dsimp -implicitDefEqProofs (maxSteps := 2000000) (disch := first | assumption | omega | (simp only [nx]; omega) | ((repeat refine Fresh.push ?_ _); assumption) | (simp only [smA]; done) | (simp [oneCell, AW.next_push]; done) | fail) only [go_sem, Nat.reduceEqDiff, reduceIte, Nat.reduceAdd, Int.toNat_natCast, Nat.add_zero, Owes_true, Tryz.results158, hfn]
  apply callV_of (e := rfl)
  · exact indexD_ok l _ b w f hs h
  rintro _ w1 ⟨g1, n, rfl, hn⟩
  simp -dsimp -implicitDefEqProofs (maxSteps := 2000000) (disch := first | assumption | omega | (simp only [nx]; omega) | ((repeat refine Fresh.push ?_ _); assumption) | (simp only [smA]; done) | (simp [oneCell, AW.next_push]; done) | fail) only [go_sem, Nat.reduceEqDiff, reduceIte, Nat.reduceAdd, Int.toNat_natCast, Nat.add_zero, Owes_true, Tryz.results158, hn]
  exact ⟨rfl, g1⟩
theorem allD_ok (l : List DealN) (v : Value) (w : AW) (f : Fresh w) (hs : ArrOf w 3 dcells v l) :
    CallT Tryz.prog Tryz.T1 (.fn (.func 141) #[]) #[v, .func (.func 142) #[] #[]] w (Ret (.bool (l.all dealB)) (Grown w)) := by
  obtain ⟨p, cap, rfl, _⟩ := id hs.open
  have hfn := same_fn 159 w.next
  have hs0 := same_fn0 142
  have g := (Grown.refl f).push (.cells [.func (.func 142) #[] #[]] 185 w.next 0 0)
  have hO := Own.new f 185 [.func (.func 142) #[] #[]]
  refine callT_code rfl Tryz.func141 rfl Tryz.s141_eq rfl ?_
  unfold Tryz.s141
  simp -dsimp -implicitDefEqProofs (maxSteps := 2000000) (disch := first | assumption | omega | (simp only [nx]; omega) | ((repeat refine Fresh.push ?_ _); assumption) | (simp only [smA]; done) | (simp [oneCell, AW.next_push]; done) | fail) only [go_sem, Nat.reduceEqDiff, reduceIte, Nat.reduceAdd, Int.toNat_natCast, Nat.add_zero, Owes_true, Tryz.results141, hfn, hs0]
  apply callV_of (e := rfl)
  · exact containsD_ok l _ w.next _ g.2 (hs.grown g) hO
  rintro _ w1 ⟨rfl, g1⟩
  simp -dsimp -implicitDefEqProofs (maxSteps := 2000000) (disch := first | assumption | omega | (simp only [nx]; omega) | ((repeat refine Fresh.push ?_ _); assumption) | (simp only [smA]; done) | (simp [oneCell, AW.next_push]; done) | fail) only [go_sem, Nat.reduceEqDiff, reduceIte, Nat.reduceAdd, Int.toNat_natCast, Nat.add_zero, Owes_true, Tryz.results141]
  exact ⟨by rw [Bool.not_not], g.trans g1⟩
def ordAt (l : List DealN) (i : Nat) : Bool := match l[i]?, l[i + 1]? with
  | some a, some b => decide (a.day ≤ b.day)
  | _, _ => true
def ordB (l : List DealN) : Bool := (List.range (l.length - 1)).all (ordAt l)
set_option maxHeartbeats 4000000 in
theorem sorted_ok (l : List DealN) (v : Value) (w : AW) (f : Fresh w) (hs : ArrOf w 3 dcells v l) :
    CallT Tryz.prog Tryz.T1 (.fn (.func 143) #[]) #[v, .func (.func 139) #[] #[]] w (Ret (.bool (ordB l)) (Grown w)) := by
  obtain ⟨p, cap, rfl, _, _, hat⟩ := hs.open
  have hs0 := same_fn0 139
  have hz : (l.length : Int) - 1 - ((0 : Nat) : Int) = (l.length : Int) - 1 := by omega
  refine callT_code rfl Tryz.func143 rfl Tryz.s143_eq rfl ?_
  unfold Tryz.s143
  simp -dsimp -implicitDefEqProofs (maxSteps := 2000000) (disch := first | assumption | omega | (simp only [nx]; omega) | ((repeat refine Fresh.push ?_ _); assumption) | (simp only [smA]; done) | (simp [oneCell, AW.next_push]; done) | fail) only [go_sem, Nat.reduceEqDiff, reduceIte, Nat.reduceAdd, Int.toNat_natCast, Nat.add_zero, Owes_true, Tryz.results143]
  refine loopR (fun k t ds w1 => ∃ m : Nat, m ≤ l.length - 1 ∧ k = l.length - 1 - m ∧ ds = [] ∧ ev t (.tmp 0) = .slice p l.length cap ∧ ev t (.tmp 1) = .func (.func 139) #[] #[] ∧ ev t (.tmp 5) = .int .i64 ((l.length : Int) - 1 - (m : Int)) ∧ Grown w w1 ∧ (∀ i, l.length - 1 - m ≤ i → i < l.length - 1 → ordAt l i = true)) (l.length - 1) ?_ ?_
  · refine ⟨0, by omega, by omega, rfl, ?_, ?_, ?_, Grown.refl f, (fun i h1 h2 => by omega)⟩ <;> simp -dsimp -implicitDefEqProofs (maxSteps := 2000000) (disch := first | assumption | omega | (simp only [nx]; omega) | ((repeat refine Fresh.push ?_ _); assumption) | (simp only [smA]; done) | (simp [oneCell, AW.next_push]; done) | fail) only [go_sem, Nat.reduceEqDiff, reduceIte, Nat.reduceAdd, Int.toNat_natCast, Nat.add_zero, Owes_true, hz] <;> rfl
  rintro k t ds w1 ⟨m, him, rfl, rfl, e0, e1, e5, g1, ha⟩
  by_cases hlt : (0 : Int) < (l.length : Int) - 1 - (m : Int)
  case neg =>
    have hall : ordB l = true := by
      unfold ordB; rw [List.all_eq_true]
      exact fun i hi => ha i (by omega) (List.mem_range.1 hi)
    simp -dsimp -implicitDefEqProofs (maxSteps := 2000000) (disch := first | assumption | omega | (simp only [nx]; omega) | ((repeat refine Fresh.push ?_ _); assumption) | (simp only [smA]; done) | (simp [oneCell, AW.next_push]; done) | fail) only [go_sem, Nat.reduceEqDiff, reduceIte, Nat.reduceAdd, Int.toNat_natCast, Nat.add_zero, Owes_true, Tryz.results143, e0, e1, e5, hlt]
    exact ⟨by rw [hall], g1⟩
  obtain ⟨i, hi⟩ : ∃ i : Nat, (l.length : Int) - 1 - (m : Int) = ((i + 1 : Nat) : Int) := ⟨l.length - 1 - m - 1, by omega⟩
  have hi1 : i + 1 < l.length := by omega
  have hi0 : i < l.length := by omega
  have hi1' : ((i + 1 : Nat) : Int) < (l.length : Int) := by omega
  have hi0' : (i : Int) < (l.length : Int) := by omega
  have hms : ((i + 1 : Nat) : Int) - 1 = (i : Int) := by omega
  have hnx : (l.length : Int) - 1 - ((m : Int) + 1) = (i : Int) := by omega
  have hnx' : (l.length : Int) - 1 - ((m + 1 : Nat) : Int) = (i : Int) := by omega
  obtain ⟨b1, o1, rfl, hb1, hcell⟩ := hat (i + 1) hi1
  obtain ⟨b2, o2, e2, hb2, hcell2⟩ := hat i hi0
  injection e2 with e2
  injection e2 with e2a e2b
  subst e2a e2b
  have a0 := hcell w1 g1.1 0 _ rfl
  have a1 := hcell w1 g1.1 1 _ rfl
  have a2 := hcell w1 g1.1 2 _ rfl
  have x0 := hcell2 w1 g1.1 0 _ rfl
  have x1 := hcell2 w1 g1.1 1 _ rfl
  have x2 := hcell2 w1 g1.1 2 _ rfl
  simp only [Nat.add_zero] at a0 a1 a2 x0 x1 x2
  have hat1 : ordAt l i = decide (l[i].day ≤ l[i + 1].day) := by
    unfold ordAt; rw [List.getElem?_eq_getElem hi0, List.getElem?_eq_getElem hi1]
  have hcall := byDay_ok l[i + 1] l[i] w1 g1.2
  rw [hi] at e5 hlt
  generalize l[i + 1] = y at *
  generalize l[i] = x at *
  generalize hj : i + 1 = j at *
  have hf1 := g1.2
  have hsy : same 12 (Value.agg #[.int .i64 y.day, .int .i64 y.who, .int .i64 y.sum]) (Value.agg #[.int .i64 y.day, .int .i64 y.who, .int .i64 y.sum]) = true := same_agg3 _ _ _
  have hsx : same 12 (Value.agg #[.int .i64 x.day, .int .i64 x.who, .int .i64 x.sum]) (Value.agg #[.int .i64 x.day, .int .i64 x.who, .int .i64 x.sum]) = true := same_agg3 _ _ _
  simp -dsimp -implicitDefEqProofs (maxSteps := 2000000) (disch := first | assumption | omega | (simp only [nx]; omega) | ((repeat refine Fresh.push ?_ _); assumption) | (simp only [smA]; done) | (simp [oneCell, AW.next_push]; done) | fail) only [go_sem, Nat.reduceEqDiff, reduceIte, Nat.reduceAdd, Int.toNat_natCast, Nat.add_zero, Owes_true, e0, e1, e5, hlt, hms, hi1', hi0', indexV_eq, a0, a1, a2, x0, x1, x2, hs0, hsy, hsx]
  apply callV_of (e := rfl)
  · exact hcall
  rintro _ w2 ⟨rfl, g2⟩
  have hle := g2.1.wle g1.2
  have gg := g1.trans g2
  by_cases hd : y.day < x.day
  · have hc : cmpI y.day x.day = -1 := by unfold cmpI; rw [if_pos hd]
    have hbad : ordB l = false := by
      unfold ordB; rw [List.all_eq_false]
      exact ⟨i, List.mem_range.2 (by omega), by rw [hat1, decide_eq_false (by omega)]; simp⟩
    have hm1 : decide ((-1 : Int) < 0) = true := rfl
    rw [hc]
    simp -dsimp -implicitDefEqProofs (maxSteps := 2000000) (disch := first | assumption | omega | (simp only [nx]; omega) | ((repeat refine Fresh.push ?_ _); assumption) | (simp only [smA]; done) | (simp [oneCell, AW.next_push]; done) | fail) only [go_sem, Nat.reduceEqDiff, reduceIte, Nat.reduceAdd, Int.toNat_natCast, Nat.add_zero, Owes_true, Tryz.results143, hm1]
    exact ⟨by rw [hbad], gg⟩
  · have hc : ¬ cmpI y.day x.day < 0 := by unfold cmpI; rw [if_neg hd]; split <;> omega
    have hnext : ∀ q, l.length - 1 - (m + 1) ≤ q → q < l.length - 1 → ordAt l q = true := fun q h1 h2 => by
      by_cases hq : q = i
      · subst hq; rw [hat1]; exact decide_eq_true (by omega)
      · exact ha q (by omega) h2
    generalize cmpI y.day x.day = c at *
    simp -dsimp -implicitDefEqProofs (maxSteps := 2000000) (disch := first | assumption | omega | (simp only [nx]; omega) | ((repeat refine Fresh.push ?_ _); assumption) | (simp only [smA]; done) | (simp [oneCell, AW.next_push]; done) | fail) only [go_sem, Nat.reduceEqDiff, reduceIte, Nat.reduceAdd, Int.toNat_natCast, Nat.add_zero, Owes_true, Tryz.results143, hc, e0, e1, e5]
    refine ⟨_, by omega, m + 1, by omega, rfl, rfl, by (simp -dsimp -implicitDefEqProofs (maxSteps := 2000000) (disch := first | assumption | omega | (simp only [nx]; omega) | ((repeat refine Fresh.push ?_ _); assumption) | (simp only [smA]; done) | (simp [oneCell, AW.next_push]; done) | fail) only [go_sem, Nat.reduceEqDiff, reduceIte, Nat.reduceAdd, Int.toNat_natCast, Nat.add_zero, Owes_true, e0, hms, hnx, hnx']; try rfl), by (simp -dsimp -implicitDefEqProofs (maxSteps := 2000000) (disch := first | assumption | omega | (simp only [nx]; omega) | ((repeat refine Fresh.push ?_ _); assumption) | (simp only [smA]; done) | (simp [oneCell, AW.next_push]; done) | fail) only [go_sem, Nat.reduceEqDiff, reduceIte, Nat.reduceAdd, Int.toNat_natCast, Nat.add_zero, Owes_true, e1, hms, hnx, hnx']; try rfl), by (simp -dsimp -implicitDefEqProofs (maxSteps := 2000000) (disch := first | assumption | omega | (simp only [nx]; omega) | ((repeat refine Fresh.push ?_ _); assumption) | (simp only [smA]; done) | (simp [oneCell, AW.next_push]; done) | fail) only [go_sem, Nat.reduceEqDiff, reduceIte, Nat.reduceAdd, Int.toNat_natCast, Nat.add_zero, Owes_true, e5, hms, hnx, hnx']; try rfl), gg, hnext⟩
def dealsB (l : List DealN) : Bool := decide (l.length ≤ 64) && l.all dealB && ordB l
theorem areDealings_ok (l : List DealN) (v : Value) (w : AW) (f : Fresh w) (hs : ArrOf w 3 dcells v l) :
    CallT Tryz.prog Tryz.T1 (.fn (.func 113) #[]) #[v] w (Ret (.bool (dealsB l)) (Grown w)) := by
  obtain ⟨p, cap, rfl, _⟩ := id hs.open
  have hs0 := same_fn0 142
  have hs1 := same_fn0 139
  refine callT_code rfl Tryz.func113 rfl Tryz.s113_eq rfl ?_
  unfold Tryz.s113
  unfold dealsB
  by_cases h : (l.length : Int) ≤ 64
  case neg =>
    simp -dsimp -implicitDefEqProofs (maxSteps := 2000000) (disch := first | assumption | omega | (simp only [nx]; omega) | ((repeat refine Fresh.push ?_ _); assumption) | (simp only [smA]; done) | (simp [oneCell, AW.next_push]; done) | fail) only [go_sem, Nat.reduceEqDiff, reduceIte, Nat.reduceAdd, Int.toNat_natCast, Nat.add_zero, Owes_true, Tryz.results113, h, hs0, hs1]
    exact ⟨by rw [decide_eq_false (by omega : ¬ l.length ≤ 64), Bool.false_and, Bool.false_and], Grown.refl f⟩
  simp -dsimp -implicitDefEqProofs (maxSteps := 2000000) (disch := first | assumption | omega | (simp only [nx]; omega) | ((repeat refine Fresh.push ?_ _); assumption) | (simp only [smA]; done) | (simp [oneCell, AW.next_push]; done) | fail) only [go_sem, Nat.reduceEqDiff, reduceIte, Nat.reduceAdd, Int.toNat_natCast, Nat.add_zero, Owes_true, Tryz.results113, h, hs0, hs1]
  apply callV_of (e := rfl)
  · exact allD_ok l _ _ f hs
  rintro _ w1 ⟨rfl, g1⟩
  rw [decide_eq_true (by omega : l.length ≤ 64), Bool.true_and]
  cases hq : l.all dealB with
  | false =>
    simp -dsimp -implicitDefEqProofs (maxSteps := 2000000) (disch := first | assumption | omega | (simp only [nx]; omega) | ((repeat refine Fresh.push ?_ _); assumption) | (simp only [smA]; done) | (simp [oneCell, AW.next_push]; done) | fail) only [go_sem, Nat.reduceEqDiff, reduceIte, Nat.reduceAdd, Int.toNat_natCast, Nat.add_zero, Owes_true, Tryz.results113, hq]
    exact ⟨rfl, g1⟩
  | true =>
    simp -dsimp -implicitDefEqProofs (maxSteps := 2000000) (disch := first | assumption | omega | (simp only [nx]; omega) | ((repeat refine Fresh.push ?_ _); assumption) | (simp only [smA]; done) | (simp [oneCell, AW.next_push]; done) | fail) only [go_sem, Nat.reduceEqDiff, reduceIte, Nat.reduceAdd, Int.toNat_natCast, Nat.add_zero, Owes_true, Tryz.results113, hq, hs1]
    apply callV_of (e := rfl)
    · exact sorted_ok l _ _ g1.2 (hs.grown g1)
    rintro _ w2 ⟨rfl, g2⟩
    simp -dsimp -implicitDefEqProofs (maxSteps := 2000000) (disch := first | assumption | omega | (simp only [nx]; omega) | ((repeat refine Fresh.push ?_ _); assumption) | (simp only [smA]; done) | (simp [oneCell, AW.next_push]; done) | fail) only [go_sem, Nat.reduceEqDiff, reduceIte, Nat.reduceAdd, Int.toNat_natCast, Nat.add_zero, Owes_true, Tryz.results113]
    exact ⟨rfl, g1.trans g2⟩
end Go.Proofs

namespace Go.Proofs
open Go Go.RowKit Go.Sim
set_option maxRecDepth 100000
structure WatchN where
  days : Int
  sum : Int
  small : Int
  more : Int
def watchB (d : WatchN) : Bool := inR 1 d.days 366 && inR 1 d.sum 1073741824 && inR 1 d.small d.sum && inR 1 d.more 64
theorem isWatch_ok (d : WatchN) (w : AW) (f : Fresh w) : CallT Tryz.prog Tryz.T1 (.fn (.func 114) #[]) #[.agg #[.int .i64 d.days, .int .i64 d.sum, .int .i64 d.small, .int .i64 d.more]] w (Ret (.bool (watchB d)) (Grown w)) := by
  have g := (Grown.refl f).push (.cells [.int .i64 d.days, .int .i64 d.sum, .int .i64 d.small, .int .i64 d.more] 46 w.next 0 0)
  have hO := Own.new f 46 [.int .i64 d.days, .int .i64 d.sum, .int .i64 d.small, .int .i64 d.more]
  have c0 := hO.cell (o := 0) rfl rfl
  have c1 := hO.cell (o := 1) rfl rfl
  have c2 := hO.cell (o := 2) rfl rfl
  have c3 := hO.cell (o := 3) rfl rfl
  unfold watchB
  refine callT_code rfl Tryz.func114 rfl Tryz.s114_eq rfl ?_
  unfold Tryz.s114
  simp -dsimp -implicitDefEqProofs (maxSteps := 2000000) (disch := first | assumption | omega | (simp only [nx]; omega) | ((repeat refine Fresh.push ?_ _); assumption) | (simp only [smA]; done) | (simp [oneCell, AW.next_push]; done) | fail) only [go_sem, Nat.reduceEqDiff, reduceIte, Nat.reduceAdd, Int.toNat_natCast, Nat.add_zero, Owes_true, Tryz.results114, Nat.zero_add, c0, c1, c2, c3]
  apply callV_of (e := rfl)
  · exact within_ok _ _ _ _
  rintro _ _ ⟨rfl, rfl⟩
  cases h1 : inR 1 d.days 366 with
  | false =>
    simp -dsimp -implicitDefEqProofs (maxSteps := 2000000) (disch := first | assumption | omega | (simp only [nx]; omega) | ((repeat refine Fresh.push ?_ _); assumption) | (simp only [smA]; done) | (simp [oneCell, AW.next_push]; done) | fail) only [go_sem, Nat.reduceEqDiff, reduceIte, Nat.reduceAdd, Int.toNat_natCast, Nat.add_zero, Owes_true, Tryz.results114, h1]
    exact ⟨by simp, g⟩
  | true =>
  simp -dsimp -implicitDefEqProofs (maxSteps := 2000000) (disch := first | assumption | omega | (simp only [nx]; omega) | ((repeat refine Fresh.push ?_ _); assumption) | (simp only [smA]; done) | (simp [oneCell, AW.next_push]; done) | fail) only [go_sem, Nat.reduceEqDiff, reduceIte, Nat.reduceAdd, Int.toNat_natCast, Nat.add_zero, Owes_true, Tryz.results114, h1, Nat.zero_add, c0, c1, c2, c3]
  apply callV_of (e := rfl)
  · exact isSum_ok _ _
  rintro _ _ ⟨rfl, rfl⟩
  cases h2 : inR 1 d.sum 1073741824 with
  | false =>
    simp -dsimp -implicitDefEqProofs (maxSteps := 2000000) (disch := first | assumption | omega | (simp only [nx]; omega) | ((repeat refine Fresh.push ?_ _); assumption) | (simp only [smA]; done) | (simp [oneCell, AW.next_push]; done) | fail) only [go_sem, Nat.reduceEqDiff, reduceIte, Nat.reduceAdd, Int.toNat_natCast, Nat.add_zero, Owes_true, Tryz.results114, h2]
    exact ⟨by simp, g⟩
  | true =>
  simp -dsimp -implicitDefEqProofs (maxSteps := 2000000) (disch := first | assumption | omega | (simp only [nx]; omega) | ((repeat refine Fresh.push ?_ _); assumption) | (simp only [smA]; done) | (simp [oneCell, AW.next_push]; done) | fail) only [go_sem, Nat.reduceEqDiff, reduceIte, Nat.reduceAdd, Int.toNat_natCast, Nat.add_zero, Owes_true, Tryz.results114, h2, Nat.zero_add, c0, c1, c2, c3]
  apply callV_of (e := rfl)
  · exact within_ok _ _ _ _
  rintro _ _ ⟨rfl, rfl⟩
  cases h3 : inR 1 d.small d.sum with
  | false =>
    simp -dsimp -implicitDefEqProofs (maxSteps := 2000000) (disch := first | assumption | omega | (simp only [nx]; omega) | ((repeat refine Fresh.push ?_ _); assumption) | (simp only [smA]; done) | (simp [oneCell, AW.next_push]; done) | fail) only [go_sem, Nat.reduceEqDiff, reduceIte, Nat.reduceAdd, Int.toNat_natCast, Nat.add_zero, Owes_true, Tryz.results114, h3]
    exact ⟨by simp, g⟩
  | true =>
  simp -dsimp -implicitDefEqProofs (maxSteps := 2000000) (disch := first | assumption | omega | (simp only [nx]; omega) | ((repeat refine Fresh.push ?_ _); assumption) | (simp only [smA]; done) | (simp [oneCell, AW.next_push]; done) | fail) only [go_sem, Nat.reduceEqDiff, reduceIte, Nat.reduceAdd, Int.toNat_natCast, Nat.add_zero, Owes_true, Tryz.results114, h3, Nat.zero_add, c0, c1, c2, c3]
  apply callV_of (e := rfl)
  · exact within_ok _ _ _ _
  rintro _ _ ⟨rfl, rfl⟩
  simp -dsimp -implicitDefEqProofs (maxSteps := 2000000) (disch := first | assumption | omega | (simp only [nx]; omega) | ((repeat refine Fresh.push ?_ _); assumption) | (simp only [smA]; done) | (simp [oneCell, AW.next_push]; done) | fail) only [go_sem, Nat.reduceEqDiff, reduceIte, Nat.reduceAdd, Int.toNat_natCast, Nat.add_zero, Owes_true, Tryz.results114]
  exact ⟨by simp, g⟩
end Go.Proofs

namespace Go.Proofs
open Go Go.RowKit Go.Sim
set_option maxRecDepth 100000
def deskL (W : WatchN) (v : Value) (A : List Int) : List Value := .int .i64 W.days :: .int .i64 W.sum :: .int .i64 W.small :: .int .i64 W.more :: v :: icl A
theorem deskL_len (W : WatchN) (v : Value) {A : List Int} (h : A.length = 24) : (deskL W v A).length = 29 := by simp [deskL, icl_len, h]
theorem deskL_one (W : WatchN) (p : Option Addr) (n c : Nat) (A : List Int) : ∀ x ∈ deskL W (.slice p n c) A, oneCell x = true := by
  intro x hx
  simp only [deskL, List.mem_cons] at hx
  rcases hx with rfl | rfl | rfl | rfl | rfl | hx
  · rfl
  · rfl
  · rfl
  · rfl
  · rfl
  · exact icl_one A x hx
theorem same_iclN (n : Nat) : ∀ (A : List Int), same.all (n + 1) (icl A) (icl A) = true
  | [] => rfl
  | a :: A => by
    have ih := same_iclN n A
    have hi : intEq a a = true := by rw [intEq_eq]; simp
    show (same (n + 1) (.int .i64 a) (.int .i64 a) && same.all (n + 1) (icl A) (icl A)) = true
    rw [ih, Bool.and_true]
    exact hi
theorem same_desk (W : WatchN) (p : Option Addr) (n c : Nat) (A : List Int) : same 12 (.agg (deskL W (.slice p n c) A).toArray) (.agg (deskL W (.slice p n c) A).toArray) = true := by
  have h1 : ∀ x : Int, same 11 (.int .i64 x) (.int .i64 x) = true := fun x => by
    show intEq x x = true
    rw [intEq_eq]; simp
  have h2 : same 11 (.slice p n c) (.slice p n c) = true := by
    have := same_sliceP p n c
    cases p with
    | none => exact this
    | some a => obtain ⟨b, o, s⟩ := a; cases s <;> exact this
  show same.all 11 (deskL W (.slice p n c) A).toArray.toList (deskL W (.slice p n c) A).toArray.toList = true
  simp only [List.toList_toArray, deskL, same.all, h1, h2, Bool.true_and]
  exact same_iclN 10 A
section
variable {w : AW} {b : Nat} {W : WatchN} {p : Option Addr} {n c : Nat} {A : List Int}
theorem desk_load (h : Own w b 119 (deskL W (.slice p n c) A)) (hA : A.length = 24) : loadV w true 29 (.pointer (some ⟨b, 0, none⟩)) = some (.agg (deskL W (.slice p n c) A).toArray) :=
  loadAll h (deskL_len _ _ hA) (deskL_one _ _ _ _ _)
theorem desk_lab (h : Own w b 119 (deskL W (.slice p n c) A)) {u : Nat} (hu : u < A.length) : w.cell? ⟨b, 5 + u, none⟩ = some (.int .i64 (lb A u)) :=
  h.cell (by rw [deskL, show 5 + u = u + 1 + 1 + 1 + 1 + 1 from by omega]; simp only [List.getElem?_cons_succ]; exact icl_at hu) rfl
end
theorem idx24b (b p : Nat) (h : p < 24) : indexA 1 24 (.pointer (some ⟨b, 5, none⟩)) (.int .i64 (p : Int)) = some (.pointer (some ⟨b, 5 + p, none⟩)) := by
  rw [indexA_eq h]; simp
def leadAt (A : List Int) (l : List DealN) (k : Nat) : Int := match l[k]? with
  | some d => lb A d.who.toNat
  | none => 0
def sumAt (l : List DealN) (k : Nat) : Int := match l[k]? with
  | some d => d.sum
  | none => 0
def dayAt (l : List DealN) (k : Nat) : Int := match l[k]? with
  | some d => d.day
  | none => 0
theorem leadAt_eq {A : List Int} {l : List DealN} {k : Nat} (h : k < l.length) : leadAt A l k = lb A l[k].who.toNat := by simp [leadAt, h]
theorem sumAt_eq {l : List DealN} {k : Nat} (h : k < l.length) : sumAt l k = l[k].sum := by simp [sumAt, h]
theorem dayAt_eq {l : List DealN} {k : Nat} (h : k < l.length) : dayAt l k = l[k].day := by simp [dayAt, h]
theorem dealB_iff (d : DealN) : dealB d = true ↔ (0 ≤ d.day ∧ d.day ≤ 36500) ∧ (0 ≤ d.who ∧ d.who ≤ 23) ∧ (1 ≤ d.sum ∧ d.sum ≤ 1073741824) := by
  simp [dealB, inR_iff, and_assoc]
theorem leader_ok (W : WatchN) (v : Value) (l : List DealN) (A : List Int) (k : Nat) (hk : k < l.length) (w : AW) (f : Fresh w) (hs : ArrOf w 3 dcells v l) (hd : ∀ d ∈ l, dealB d = true) (hA : A.length = 24) :
    CallT Tryz.prog Tryz.T1 (.fn (.func 73) #[]) #[.agg (deskL W v A).toArray, .int .i64 (k : Int)] w (Ret (.int .i64 (leadAt A l k)) (Grown w)) := by
  obtain ⟨p, c, rfl, _, _, hat⟩ := id hs.open
  have gD := (Grown.refl f).push (.cells (deskL W (.slice p l.length c) A) 119 w.next 0 0)
  have oD := Own.new f 119 (deskL W (.slice p l.length c) A)
  have d0 := oD.cell (o := 0) rfl rfl
  have d1 := oD.cell (o := 1) rfl rfl
  have d2 := oD.cell (o := 2) rfl rfl
  have d3 := oD.cell (o := 3) rfl rfl
  have d4 := oD.cell (o := 4) rfl rfl
  obtain ⟨b1, o1, rfl, hb1, hcell⟩ := hat k hk
  have a1 := hcell _ gD.1 1 _ rfl
  have hlt : (k : Int) < (l.length : Int) := by omega
  have hdk := (dealB_iff _).1 (hd _ (List.getElem_mem hk))
  rw [leadAt_eq hk]
  generalize l[k].who = x at *
  obtain ⟨X, rfl⟩ : ∃ X : Nat, x = (X : Int) := ⟨x.toNat, by omega⟩
  have hlab := desk_lab oD (u := X) (by omega)
  have ip := idx24b w.next X (by omega)
  rw [Int.toNat_natCast]
  refine callT_code rfl Tryz.func73 rfl Tryz.s73_eq rfl ?_
  unfold Tryz.s73
  simp -dsimp -implicitDefEqProofs (maxSteps := 2000000) (disch := first | assumption | omega | (simp only [nx]; omega) | ((repeat refine Fresh.push ?_ _); assumption) | (simp only [smA]; done) | (simp [oneCell, AW.next_push]; done) | fail) only [go_sem, Nat.reduceEqDiff, reduceIte, Nat.reduceAdd, Int.toNat_natCast, Nat.add_zero, Owes_true, Tryz.results73, Nat.zero_add, d4, indexV_eq, a1, ip, hlab]
  exact ⟨rfl, gD⟩
theorem sumOf_ok (W : WatchN) (v : Value) (l : List DealN) (A : List Int) (k : Nat) (hk : k < l.length) (w : AW) (f : Fresh w) (hs : ArrOf w 3 dcells v l) :
    CallT Tryz.prog Tryz.T1 (.fn (.func 117) #[]) #[.agg (deskL W v A).toArray, .int .i64 (k : Int)] w (Ret (.int .i64 (sumAt l k)) (Grown w)) := by
  obtain ⟨p, c, rfl, _, _, hat⟩ := id hs.open
  have gD := (Grown.refl f).push (.cells (deskL W (.slice p l.length c) A) 119 w.next 0 0)
  have oD := Own.new f 119 (deskL W (.slice p l.length c) A)
  have d0 := oD.cell (o := 0) rfl rfl
  have d1 := oD.cell (o := 1) rfl rfl
  have d2 := oD.cell (o := 2) rfl rfl
  have d3 := oD.cell (o := 3) rfl rfl
  have d4 := oD.cell (o := 4) rfl rfl
  obtain ⟨b1, o1, rfl, hb1, hcell⟩ := hat k hk
  have a2 := hcell _ gD.1 2 _ rfl
  have hlt : (k : Int) < (l.length : Int) := by omega
  rw [sumAt_eq hk]
  generalize l[k].sum = x at *
  refine callT_code rfl Tryz.func117 rfl Tryz.s117_eq rfl ?_
  unfold Tryz.s117
  simp -dsimp -implicitDefEqProofs (maxSteps := 2000000) (disch := first | assumption | omega | (simp only [nx]; omega) | ((repeat refine Fresh.push ?_ _); assumption) | (simp only [smA]; done) | (simp [oneCell, AW.next_push]; done) | fail) only [go_sem, Nat.reduceEqDiff, reduceIte, Nat.reduceAdd, Int.toNat_natCast, Nat.add_zero, Owes_true, Tryz.results117, Nat.zero_add, d4, indexV_eq, a2]
  exact ⟨rfl, gD⟩
def smallB (W : WatchN) (l : List DealN) (k : Nat) : Bool := inR W.small (sumAt l k) (W.sum - 1)
theorem isSmall_ok (W : WatchN) (v : Value) (l : List DealN) (A : List Int) (k : Nat) (hk : k < l.length) (w : AW) (f : Fresh w) (hs : ArrOf w 3 dcells v l) (hA : A.length = 24) (hW : watchB W = true) :
    CallT Tryz.prog Tryz.T1 (.fn (.func 116) #[]) #[.agg (deskL W v A).toArray, .int .i64 (k : Int)] w (Ret (.bool (smallB W l k)) (Grown w)) := by
  obtain ⟨p, c, rfl, _⟩ := id hs.open
  have gD := (Grown.refl f).push (.cells (deskL W (.slice p l.length c) A) 119 w.next 0 0)
  have oD := Own.new f 119 (deskL W (.slice p l.length c) A)
  have d0 := oD.cell (o := 0) rfl rfl
  have d1 := oD.cell (o := 1) rfl rfl
  have d2 := oD.cell (o := 2) rfl rfl
  have d3 := oD.cell (o := 3) rfl rfl
  have d4 := oD.cell (o := 4) rfl rfl
  have hld := desk_load oD hA
  have hsm := same_desk W p l.length c A
  simp only [watchB, Bool.and_eq_true, inR_iff] at hW
  unfold smallB
  refine callT_code rfl Tryz.func116 rfl Tryz.s116_eq rfl ?_
  unfold Tryz.s116
  simp -dsimp -implicitDefEqProofs (maxSteps := 2000000) (disch := first | assumption | omega | (simp only [nx]; omega) | ((repeat refine Fresh.push ?_ _); assumption) | (simp only [smA]; done) | (simp [oneCell, AW.next_push]; done) | fail) only [go_sem, Nat.reduceEqDiff, reduceIte, Nat.reduceAdd, Int.toNat_natCast, Nat.add_zero, Owes_true, Tryz.results116, Nat.zero_add, d1, d2, hld, hsm]
  apply callV_of (e := rfl)
  · exact sumOf_ok W _ l A k hk _ gD.2 (hs.grown gD)
  rintro _ w1 ⟨rfl, g1⟩
  have hle := g1.1.wle gD.2
  simp -dsimp -implicitDefEqProofs (maxSteps := 2000000) (disch := first | assumption | omega | (simp only [nx]; omega) | ((repeat refine Fresh.push ?_ _); assumption) | (simp only [smA]; done) | (simp [oneCell, AW.next_push]; done) | fail) only [go_sem, Nat.reduceEqDiff, reduceIte, Nat.reduceAdd, Int.toNat_natCast, Nat.add_zero, Owes_true, Tryz.results116, hle]
  apply callV_of (e := rfl)
  · exact within_ok _ _ _ _
  rintro _ _ ⟨rfl, rfl⟩
  simp -dsimp -implicitDefEqProofs (maxSteps := 2000000) (disch := first | assumption | omega | (simp only [nx]; omega) | ((repeat refine Fresh.push ?_ _); assumption) | (simp only [smA]; done) | (simp [oneCell, AW.next_push]; done) | fail) only [go_sem, Nat.reduceEqDiff, reduceIte, Nat.reduceAdd, Int.toNat_natCast, Nat.add_zero, Owes_true, Tryz.results116]
  exact ⟨rfl, gD.trans g1⟩
theorem window_ok (W : WatchN) (v : Value) (A : List Int) (k : Nat) (w : AW) (f : Fresh w) :
    CallT Tryz.prog Tryz.T1 (.fn (.func 115) #[]) #[.agg (deskL W v A).toArray, .int .i64 (k : Int)] w (fun r w' => r = .func (.func 144) #[] #[.pointer (some ⟨w.next + 1, 0, none⟩), .pointer (some ⟨w.next, 0, none⟩)] ∧ Own w' w.next 119 (deskL W v A) ∧ Own w' (w.next + 1) 3 [.int .i64 (k : Int)] ∧ Grown w w' ∧ w'.next = w.next + 1 + 1) := by
  have gD := ((Grown.refl f).push (.cells (deskL W v A) 119 w.next 0 0)).push (.cells [.int .i64 (k : Int)] 3 (w.next + 1) 0 0)
  have oD := (Own.new f 119 (deskL W v A)).push (.cells [.int .i64 (k : Int)] 3 (w.next + 1) 0 0)
  have oK := Own.new (f.push (.cells (deskL W v A) 119 w.next 0 0)) 3 [.int .i64 (k : Int)]
  rw [AW.next_push] at oK
  refine callT_code rfl Tryz.func115 rfl Tryz.s115_eq rfl ?_
  unfold Tryz.s115
  simp -dsimp -implicitDefEqProofs (maxSteps := 2000000) (disch := first | assumption | omega | (simp only [nx]; omega) | ((repeat refine Fresh.push ?_ _); assumption) | (simp only [smA]; done) | (simp [oneCell, AW.next_push]; done) | fail) only [go_sem, Nat.reduceEqDiff, reduceIte, Nat.reduceAdd, Int.toNat_natCast, Nat.add_zero, Owes_true, Tryz.results115]
  exact ⟨trivial, oD, oK, gD, by simp only [AW.next_push]⟩
end Go.Proofs

namespace Go.Sim
open Go
def rfOf : Code → Option (Code × Code)
  | .rangeFunc _ _ a b => some (a, b)
  | .seq a b => match rfOf a with
    | some x => some x
    | none => rfOf b
  | .cond _ a b => match rfOf a with
    | some x => some x
    | none => rfOf b
  | .block _ b => rfOf b
  | .loop b => rfOf b
  | .scope b => rfOf b
  | _ => none
def codeA (f : Func) : Code :=
  match f.body with
  | some c => match rfOf c with
    | some (a, _) => a
    | none => .skip
  | none => .skip
def codeB (f : Func) : Code :=
  match f.body with
  | some c => match rfOf c with
    | some (_, b) => b
    | none => .skip
  | none => .skip
end Go.Sim

namespace Go.Proofs
open Go Go.RowKit Go.Sim
set_option maxRecDepth 100000
noncomputable def Tryz.s74 : SC :=
 (.seq
  (.ops false [
    ⟨⟨(some 2), .box 119 (.tmp 0), 0, "", ⟨[]⟩, none⟩, none, false⟩,
    ⟨⟨(some 4), .alloc 123, 0, "", ⟨[]⟩, none⟩, none, false⟩])
  (.seq
   (.ops false [
     ⟨⟨(some 5), .alloc 123, 0, "", ⟨[]⟩, none⟩, none, false⟩])
   (.seq
    (.seq
     (.ops false [
       ⟨⟨(some 7), .load 119 (.tmp 2), 119, "", ⟨[]⟩, none⟩, none, false⟩,
       ⟨⟨(some 8), .move (.tmp 1), 3, "", ⟨[]⟩, none⟩, none, false⟩,
       ⟨⟨(some 9), .call ⟨.value (.func 115), ⟨[(.tmp 7), (.tmp 8)]⟩, ⟨[119, 3]⟩⟩, 169, "", ⟨[]⟩, none⟩, none, false⟩])
     (.block 0
      (.raw (.rangeFunc (.tmp 9) ⟨[10]⟩ (codeA Tryz.f74) (codeB Tryz.f74)))))
    (.seq
     (.ops false [
       ⟨⟨(some 26), .fieldAddr 123 (.tmp 5) 0, 0, "", ⟨[]⟩, none⟩, none, false⟩,
       ⟨⟨(some 27), .load 22 (.tmp 26), 22, "", ⟨[]⟩, none⟩, none, false⟩,
       ⟨⟨(some 28), .load 119 (.tmp 2), 119, "", ⟨[]⟩, none⟩, none, false⟩,
       ⟨⟨(some 29), .makeFunc (.func 117) ⟨[(.tmp 28)]⟩ ⟨[]⟩, 41, "", ⟨[]⟩, none⟩, none, false⟩,
       ⟨⟨(some 30), .call ⟨.value (.func 99), ⟨[(.tmp 27), (.tmp 29)]⟩, ⟨[22, 41]⟩⟩, 3, "", ⟨[]⟩, none⟩, none, false⟩,
       ⟨⟨(some 31), .fieldAddr 123 (.tmp 5) 2, 0, "", ⟨[]⟩, none⟩, none, false⟩,
       ⟨⟨none, .store 3 (.tmp 31) (.tmp 30), 0, "", ⟨[]⟩, none⟩, none, false⟩])
     (.seq
      (.ops false [
        ⟨⟨(some 32), .load 123 (.tmp 5), 123, "", ⟨[]⟩, none⟩, none, false⟩,
        ⟨⟨none, .store 123 (.tmp 4) (.tmp 32), 0, "", ⟨[]⟩, none⟩, none, false⟩])
      .ret)))))
noncomputable def Tryz.ra74 : SC :=
 (.ops false [
   ⟨⟨(some 6), .assign (.tmp 10), 3, "", ⟨[]⟩, none⟩, none, false⟩])
noncomputable def Tryz.rb74 : SC :=
 (.block 1
  (.seq
   (.ops false [
     ⟨⟨(some 11), .fieldAddr 123 (.tmp 5) 0, 0, "", ⟨[]⟩, none⟩, none, false⟩,
     ⟨⟨(some 12), .load 22 (.tmp 11), 22, "", ⟨[]⟩, none⟩, none, false⟩,
     ⟨⟨(some 13), .move (.tmp 6), 3, "", ⟨[]⟩, none⟩, none, false⟩,
     ⟨⟨(some 14), .buildSlice 22 1 ⟨[(0, (.tmp 13))]⟩, 22, "", ⟨[]⟩, none⟩, none, false⟩,
     ⟨⟨(some 15), .call ⟨.builtin .append, ⟨[(.tmp 12), (.tmp 14)]⟩, ⟨[22, 22]⟩⟩, 22, "", ⟨[]⟩, none⟩, none, false⟩,
     ⟨⟨(some 16), .fieldAddr 123 (.tmp 5) 0, 0, "", ⟨[]⟩, none⟩, none, false⟩,
     ⟨⟨none, .store 22 (.tmp 16) (.tmp 15), 0, "", ⟨[]⟩, none⟩, none, false⟩])
   (.seq
    (.ops false [
      ⟨⟨(some 17), .load 119 (.tmp 2), 119, "", ⟨[]⟩, none⟩, none, false⟩,
      ⟨⟨(some 18), .move (.tmp 6), 3, "", ⟨[]⟩, none⟩, none, false⟩,
      ⟨⟨(some 19), .call ⟨.value (.func 116), ⟨[(.tmp 17), (.tmp 18)]⟩, ⟨[119, 3]⟩⟩, 4, "", ⟨[]⟩, none⟩, none, false⟩])
    (.cond (.tmp 19)
     (.ops false [
       ⟨⟨(some 20), .fieldAddr 123 (.tmp 5) 1, 0, "", ⟨[]⟩, none⟩, none, false⟩,
       ⟨⟨(some 21), .load 22 (.tmp 20), 22, "", ⟨[]⟩, none⟩, none, false⟩,
       ⟨⟨(some 22), .move (.tmp 6), 3, "", ⟨[]⟩, none⟩, none, false⟩,
       ⟨⟨(some 23), .buildSlice 22 1 ⟨[(0, (.tmp 22))]⟩, 22, "", ⟨[]⟩, none⟩, none, false⟩,
       ⟨⟨(some 24), .call ⟨.builtin .append, ⟨[(.tmp 21), (.tmp 23)]⟩, ⟨[22, 22]⟩⟩, 22, "", ⟨[]⟩, none⟩, none, false⟩,
       ⟨⟨(some 25), .fieldAddr 123 (.tmp 5) 1, 0, "", ⟨[]⟩, none⟩, none, false⟩,
       ⟨⟨none, .store 22 (.tmp 25) (.tmp 24), 0, "", ⟨[]⟩, none⟩, none, false⟩])
     .skip))))
theorem Tryz.s74_eq : Tryz.f74.body.map sOf = some Tryz.s74 := by kernel_rfl
theorem Tryz.ra74_eq : sOf (codeA Tryz.f74) = Tryz.ra74 := by kernel_rfl
theorem Tryz.rb74_eq : sOf (codeB Tryz.f74) = Tryz.rb74 := by kernel_rfl
end Go.Proofs

namespace Go.Proofs
open Go Go.RowKit Go.Sim
set_option maxRecDepth 100000
theorem Tryz.bv22 (t : Tmps) (l : List (Nat × Operand)) : makes (prg Tryz.prog) t (.buildSlice 22 1 ⟨l⟩) = bsQ 3 1 1 [.int .i64 0] (l.map fun p => (p.1, ev t p.2)) := makes_bs Tryz.ty22 Tryz.ty3 rfl (by kernel_rfl)
theorem bsQ_00v {e : TypeId} {z : Nat} : bsQ e 0 z [] [] = some ([], e, fun n => .slice (some ⟨n, 0, none⟩) 0 0) := rfl
attribute [go_sem] Tryz.bv22 bsQ_00v
theorem first1 {u : AW} {b : Nat} {x : Value} (hx : u.cell? ⟨b, 0, none⟩ = some x) : aFirst u 1 1 (.slice (some ⟨b, 0, none⟩) 1 1) = some [x] := by
  show aCells u b 0 (1 * 1) = some [x]
  simp only [Nat.one_mul, aCells, hx]
theorem app_int {S : Nat → Prop} {w : AW} {v : Value} {L : List Int} (h : AOwnS S w 3 1 v L.length (L.flatMap icells)) (f : Fresh w) (x : Int) (hr : L.length + 1 ≤ 1048576) :
    ∃ p n c w', append (prg Tryz.prog) (w.push (.cells [.int .i64 x] 3 w.next 0 0)) 22 22 v (.slice (some ⟨w.next, 0, none⟩) 1 1) = some (.slice p n c, w') ∧ AOwnS (fun j => S j ∨ j = w.next + 1) w' 3 1 (.slice p n c) (L ++ [x]).length ((L ++ [x]).flatMap icells) ∧ MutS S w w' ∧ w'.next = w.next + 1 + 1 := by
  have g := (Grown.refl f).push (.cells [.int .i64 x] 3 w.next 0 0)
  have o := Own.new f 3 [.int .i64 x]
  have hn : (w.push (.cells [.int .i64 x] 3 w.next 0 0)).next = w.next + 1 := AW.next_push _ _
  obtain ⟨v', w', h1, h2, h3, h4, h5, h6, _⟩ := append_anyS Tryz.ty22 Tryz.ty3 rfl (by omega) (by omega) (h.keep g.1) g.2 (first1 (o.cell (o := 0) rfl rfl)) rfl (fun y hy => by simp at hy; subst hy; rfl) hr
  rw [hn] at h2 h4 h5 h6
  obtain ⟨p, n, c, rfl⟩ := h2.isSlice
  refine ⟨p, n, c, w', h1, ?_, ⟨fun i hi _ => by rw [h5 i (by omega)]; exact g.1.blk i hi, fun i hi q => by rw [h6 i (by omega) q]; exact g.1.fam i hi, by omega, h3⟩, h4⟩
  rw [List.length_append, List.flatMap_append]
  exact h2
structure VP where
  d : Nat
  q : Nat
  v : Nat
  y : Nat
  x : Nat
  dm : Nat
  lp : Nat
def VP.ok (c : VP) (n : Nat) : Prop := n ≤ c.d ∧ c.d < c.q ∧ c.q < c.v ∧ c.v < c.y ∧ c.y < c.x ∧ c.x < c.dm ∧ c.dm < c.lp
structure VI (W0 : AW) (c : VP) (W : WatchN) (v0 : Value) (A : List Int) (k : Int) (lp : ALoop) (L M : List Int) (w : AW) : Prop where
  od : Own w c.d 119 (deskL W v0 A)
  oq : Own w c.q 123 [.slice none 0 0, .slice none 0 0, .int .i64 0]
  oy : Own w c.y 119 (deskL W v0 A)
  ox : Own w c.x 3 [.int .i64 k]
  ov : ∃ (p r : Option Addr) (m n e g : Nat) (S T : Nat → Prop), Own w c.v 123 [.slice p m e, .slice r n g, .int .i64 0] ∧ AOwnS S w 3 1 (.slice p m e) L.length (L.flatMap icells) ∧ AOwnS T w 3 1 (.slice r n g) M.length (M.flatMap icells) ∧ (∀ j, S j → c.lp < j ∧ j < w.next ∧ ¬ T j) ∧ (∀ j, T j → c.lp < j ∧ j < w.next)
  loop : w.blk c.lp = some (.loop lp)
  mark : w.blk c.dm = some (.deferred (some []))
  keep : Keep W0.next W0 w
  lt : c.lp < w.next
  fresh : Fresh w
theorem VI.mut {W0 : AW} {c : VP} {W : WatchN} {v0 : Value} {A : List Int} {k : Int} {lp lp2 : ALoop} {L M : List Int} {w w' : AW} (h : VI W0 c W v0 A k lp L M w) (hc : c.ok W0.next) (m : MutS (fun j => j = c.lp) w w') (hl : w'.blk c.lp = some (.loop lp2)) : VI W0 c W v0 A k lp2 L M w' := by
  obtain ⟨h1, h2, h3, h4, h5, h6, h7⟩ := hc
  obtain ⟨p, r, a, b, e, g, S, T, k1, k2, k3, k4, k5⟩ := h.ov
  have hlt := h.lt
  have hn := m.next
  exact ⟨m.own h.od (by omega), m.own h.oq (by omega), m.own h.oy (by omega), m.own h.ox (by omega), ⟨p, r, a, b, e, g, S, T, m.own k1 (by omega), k2.other m fun j q z => by have := (k4 j q).1; omega, k3.other m fun j q z => by have := (k5 j q).1; omega, fun j q => ⟨(k4 j q).1, by have := (k4 j q).2.1; omega, (k4 j q).2.2⟩, fun j q => ⟨(k5 j q).1, by have := (k5 j q).2; omega⟩⟩,
    hl, by rw [m.blk _ (by omega) (by omega)]; exact h.mark, h.keep.trans (m.keep (fun j q => by omega) h.keep.next), by omega, m.fresh⟩
theorem VI.relp {W0 : AW} {c : VP} {W : WatchN} {v0 : Value} {A : List Int} {k : Int} {lp : ALoop} {L M : List Int} {w : AW} (h : VI W0 c W v0 A k lp L M w) (hc : c.ok W0.next) (lp2 : ALoop) : VI W0 c W v0 A k lp2 L M (w.put c.lp (.loop lp2)) :=
  h.mut hc (MutS.put (S := fun j => j = c.lp) h.fresh rfl h.lt _) (by rw [AW.blk_put _ _ _ _ (Trie.in_ _) (Trie.in_ _), if_pos rfl])
theorem VI.grown {W0 : AW} {c : VP} {W : WatchN} {v0 : Value} {A : List Int} {k : Int} {lp : ALoop} {L M : List Int} {w w' : AW} (h : VI W0 c W v0 A k lp L M w) (hc : c.ok W0.next) (g : Grown w w') : VI W0 c W v0 A k lp L M w' :=
  h.mut hc (.of g) (by rw [g.1.blk _ h.lt]; exact h.loop)
theorem VI.all {W0 : AW} {c : VP} {W : WatchN} {v0 : Value} {A : List Int} {k : Int} {lp : ALoop} {L M : List Int} {w : AW} (h : VI W0 c W v0 A k lp L M w) (hc : c.ok W0.next) (x : Int) (hr : L.length + 1 ≤ 1048576) :
    ∃ (p r : Option Addr) (m n e g : Nat) (w1 w2 : AW) (q : Option Addr) (a b : Nat), w.cell? ⟨c.v, 0, none⟩ = some (.slice p m e) ∧ append (prg Tryz.prog) (w.push (.cells [.int .i64 x] 3 w.next 0 0)) 22 22 (.slice p m e) (.slice (some ⟨w.next, 0, none⟩) 1 1) = some (.slice q a b, w1) ∧
      storeV w1 false 1 (.pointer (some ⟨c.v, 0, none⟩)) (.slice q a b) = some w2 ∧ VI W0 c W v0 A k lp (L ++ [x]) M w2 := by
  obtain ⟨h1, h2, h3, h4, h5, h6, h7⟩ := hc
  obtain ⟨p, r, a, b, e, g, S, T, k1, k2, k3, k4, k5⟩ := h.ov
  have hlt := h.lt
  obtain ⟨q, n', c', w1, a1, a2, a3, a4⟩ := app_int k2 h.fresh x hr
  have o1 := a3.own k1 (fun z => by have := (k4 _ z).1; omega)
  have st := storeV_own1 (o := 0) (v := .slice q n' c') o1 (by simp) rfl
  simp only [setL] at st
  have m2 := MutS.put (S := fun j => j = c.v) a3.fresh rfl o1.lt (.cells [.slice q n' c', .slice r b g, .int .i64 0] 123 c.v 0 0)
  have hn2 : (w1.put c.v (.cells [.slice q n' c', .slice r b g, .int .i64 0] 123 c.v 0 0)).next = w.next + 1 + 1 := by rw [AW.next_put]; exact a4
  have m : MutS (fun j => S j ∨ j = c.v) w (w1.put c.v (.cells [.slice q n' c', .slice r b g, .int .i64 0] 123 c.v 0 0)) := (a3.mono fun j z => .inl z).trans (m2.mono fun j z => .inr z) (Within.refl _ _)
  have out : ∀ j, j ≤ c.lp → j ≠ c.v → ¬ (S j ∨ j = c.v) := fun j hj hv z => z.elim (fun z => by have := (k4 _ z).1; omega) hv
  refine ⟨p, r, a, b, e, g, w1, _, q, n', c', k1.cell (o := 0) rfl rfl, a1, st, ⟨m.own h.od (out _ (by omega) (by omega)), m.own h.oq (out _ (by omega) (by omega)), m.own h.oy (out _ (by omega) (by omega)), m.own h.ox (out _ (by omega) (by omega)), ⟨q, r, n', b, c', g, _, T, o1.put _, a2.other m2 (fun j z y => ?_), k3.other m (fun j z y => ?_), fun j z => ?_, fun j z => ?_⟩, ?_, ?_, ?_, by omega, m.fresh⟩⟩
  · rcases z with z | z
    · have := (k4 _ z).1; omega
    · omega
  · rcases y with y | y
    · exact (k4 _ y).2.2 z
    · have := (k5 _ z).1; omega
  · rcases z with z | z
    · exact ⟨(k4 _ z).1, by have := (k4 _ z).2.1; omega, (k4 _ z).2.2⟩
    · exact ⟨by omega, by omega, fun y => by have := (k5 _ y).2; omega⟩
  · exact ⟨(k5 _ z).1, by have := (k5 _ z).2; omega⟩
  · rw [m.blk _ hlt (out _ (by omega) (by omega))]; exact h.loop
  · rw [m.blk _ (by omega) (out _ (by omega) (by omega))]; exact h.mark
  · exact h.keep.trans (m.keep (fun j z => z.elim (fun z => by have := (k4 _ z).1; omega) (fun z => by omega)) h.keep.next)
theorem VI.sm {W0 : AW} {c : VP} {W : WatchN} {v0 : Value} {A : List Int} {k : Int} {lp : ALoop} {L M : List Int} {w : AW} (h : VI W0 c W v0 A k lp L M w) (hc : c.ok W0.next) (x : Int) (hr : M.length + 1 ≤ 1048576) :
    ∃ (p r : Option Addr) (m n e g : Nat) (w1 w2 : AW) (q : Option Addr) (a b : Nat), w.cell? ⟨c.v, 1, none⟩ = some (.slice r n g) ∧ append (prg Tryz.prog) (w.push (.cells [.int .i64 x] 3 w.next 0 0)) 22 22 (.slice r n g) (.slice (some ⟨w.next, 0, none⟩) 1 1) = some (.slice q a b, w1) ∧
      storeV w1 false 1 (.pointer (some ⟨c.v, 1, none⟩)) (.slice q a b) = some w2 ∧ VI W0 c W v0 A k lp L (M ++ [x]) w2 := by
  obtain ⟨h1, h2, h3, h4, h5, h6, h7⟩ := hc
  obtain ⟨p, r, a, b, e, g, S, T, k1, k2, k3, k4, k5⟩ := h.ov
  have hlt := h.lt
  obtain ⟨q, n', c', w1, a1, a2, a3, a4⟩ := app_int k3 h.fresh x hr
  have o1 := a3.own k1 (fun z => by have := (k5 _ z).1; omega)
  have st := storeV_own1 (o := 1) (v := .slice q n' c') o1 (by simp) rfl
  simp only [setL] at st
  have m2 := MutS.put (S := fun j => j = c.v) a3.fresh rfl o1.lt (.cells [.slice p a e, .slice q n' c', .int .i64 0] 123 c.v 0 0)
  have hn2 : (w1.put c.v (.cells [.slice p a e, .slice q n' c', .int .i64 0] 123 c.v 0 0)).next = w.next + 1 + 1 := by rw [AW.next_put]; exact a4
  have m : MutS (fun j => T j ∨ j = c.v) w (w1.put c.v (.cells [.slice p a e, .slice q n' c', .int .i64 0] 123 c.v 0 0)) := (a3.mono fun j z => .inl z).trans (m2.mono fun j z => .inr z) (Within.refl _ _)
  have out : ∀ j, j ≤ c.lp → j ≠ c.v → ¬ (T j ∨ j = c.v) := fun j hj hv z => z.elim (fun z => by have := (k5 _ z).1; omega) hv
  refine ⟨p, r, a, b, e, g, w1, _, q, n', c', k1.cell (o := 1) rfl rfl, a1, st, ⟨m.own h.od (out _ (by omega) (by omega)), m.own h.oq (out _ (by omega) (by omega)), m.own h.oy (out _ (by omega) (by omega)), m.own h.ox (out _ (by omega) (by omega)), ⟨p, q, a, n', e, c', S, _, o1.put _, k2.other m (fun j z y => ?_), a2.other m2 (fun j z y => ?_), fun j z => ?_, fun j z => ?_⟩, ?_, ?_, ?_, by omega, m.fresh⟩⟩
  · rcases y with y | y
    · exact (k4 _ z).2.2 y
    · have := (k4 _ z).1; omega
  · rcases z with z | z
    · have := (k5 _ z).1; omega
    · omega
  · refine ⟨(k4 _ z).1, by have := (k4 _ z).2.1; omega, fun y => ?_⟩
    rcases y with y | y
    · exact (k4 _ z).2.2 y
    · have := (k4 _ z).2.1; omega
  · rcases z with z | z
    · exact ⟨(k5 _ z).1, by have := (k5 _ z).2; omega⟩
    · exact ⟨by omega, by omega⟩
  · rw [m.blk _ hlt (out _ (by omega) (by omega))]; exact h.loop
  · rw [m.blk _ (by omega) (out _ (by omega) (by omega))]; exact h.mark
  · exact h.keep.trans (m.keep (fun j z => z.elim (fun z => by have := (k5 _ z).1; omega) (fun z => by omega)) h.keep.next)
noncomputable abbrev lpV (s : LoopState) (t : Tmps) (dm : Nat) : ALoop := ⟨s, none, 74, t, #[10], codeA Tryz.f74, codeB Tryz.f74, dm⟩
def addSm (W : WatchN) (l : List DealN) (M : List Int) (i : Nat) : List Int := if smallB W l i = true then M ++ [(i : Int)] else M
set_option maxHeartbeats 8000000 in
theorem yieldV_ok (W0 : AW) (c : VP) (hc : c.ok W0.next) (W : WatchN) (v0 : Value) (l : List DealN) (A : List Int) (k : Int) (hs : ArrOf W0 3 dcells v0 l) (hA : A.length = 24) (hW : watchB W = true) (t : Tmps) (e2 : ev t (.tmp 2) = .pointer (some ⟨c.d, 0, none⟩)) (e5 : ev t (.tmp 5) = .pointer (some ⟨c.v, 0, none⟩)) (L M : List Int) (hL : L.length ≤ 64) (hM : M.length ≤ 64) (i : Nat) (hi : i < l.length) (w : AW)
    (h : VI W0 c W v0 A k (lpV .ready t c.dm) L M w) :
    CallT Tryz.prog Tryz.T1 (.fn (.yield c.lp) #[]) #[.int .i64 (i : Int)] w (fun v w' => v = .bool true ∧ VI W0 c W v0 A k (lpV .ready t c.dm) (L ++ [(i : Int)]) (addSm W l M i) w') := by
  have hc' := hc
  obtain ⟨h1, h2, h3, h4, h5, h6, h7⟩ := hc'
  obtain ⟨p0, c0, rfl, _⟩ := id hs.open
  refine callT_yield (lp := lpV .ready t c.dm) h.loop rfl ?_
  show CodeT Tryz.prog Tryz.T1 { fn := 74, round := some c.lp } (codeA Tryz.f74) (putTmp t (some 10) _) [] w _
  refine codeR_codeT (x := .mk) _ ?_
  rw [Tryz.ra74_eq]
  unfold Tryz.ra74
  simp -dsimp -implicitDefEqProofs (maxSteps := 2000000) (disch := first | assumption | omega | (simp only [nx]; omega) | ((repeat refine Fresh.push ?_ _); assumption) | (simp only [smA]; done) | (simp [oneCell, AW.next_push]; done) | fail) only [go_sem, Nat.reduceEqDiff, reduceIte, Nat.reduceAdd, Int.toNat_natCast, Nat.add_zero, Owes_true]
  refine ⟨trivial, _, h.loop, rfl, ?_⟩
  refine codeR_codeT (x := .mk) _ ?_
  rw [Tryz.rb74_eq]
  unfold Tryz.rb74
  have hI2 := h.relp hc (lpV .busy t c.dm)
  generalize w.put c.lp (.loop (lpV .busy t c.dm)) = w2 at *
  obtain ⟨p, r, m, n, e, g, w3, w4, q, a, b, a1, a2, a3, hI4⟩ := hI2.all hc (i : Int) (by omega)
  have hld := desk_load hI4.od hA
  have gW : Grown W0 w4 := ⟨hI4.keep, hI4.fresh⟩
  have hf2 := hI2.fresh
  simp -dsimp -implicitDefEqProofs (maxSteps := 2000000) (disch := first | assumption | omega | (simp only [nx]; omega) | ((repeat refine Fresh.push ?_ _); assumption) | (simp only [smA]; done) | (simp [oneCell, AW.next_push]; done) | fail) only [go_sem, Nat.reduceEqDiff, reduceIte, Nat.reduceAdd, Int.toNat_natCast, Nat.add_zero, Owes_true, e2, e5, a1, a2, a3, Nat.zero_add, hld]
  apply callV_of (e := rfl)
  · exact isSmall_ok W _ l A i hi w4 hI4.fresh (hs.grown gW) hA hW
  rintro _ w5 ⟨rfl, g5⟩
  have hI5 := hI4.grown hc g5
  cases hsm : smallB W l i with
  | false =>
    have hM' : addSm W l M i = M := by unfold addSm; rw [hsm]; rfl
    simp -dsimp -implicitDefEqProofs (maxSteps := 2000000) (disch := first | assumption | omega | (simp only [nx]; omega) | ((repeat refine Fresh.push ?_ _); assumption) | (simp only [smA]; done) | (simp [oneCell, AW.next_push]; done) | fail) only [go_sem, Nat.reduceEqDiff, reduceIte, Nat.reduceAdd, Int.toNat_natCast, Nat.add_zero, Owes_true]
    rw [hM']
    exact ⟨by trivial, by trivial, _, hI5.loop, by trivial, hI5.relp hc _⟩
  | true =>
    have hM' : addSm W l M i = M ++ [(i : Int)] := by unfold addSm; rw [hsm]; rfl
    obtain ⟨p, r, m, n, e, g, w6, w7, q, a, b, b1, b2, b3, hI7⟩ := hI5.sm hc (i : Int) (by omega)
    have hf5 := hI5.fresh
    simp -dsimp -implicitDefEqProofs (maxSteps := 2000000) (disch := first | assumption | omega | (simp only [nx]; omega) | ((repeat refine Fresh.push ?_ _); assumption) | (simp only [smA]; done) | (simp [oneCell, AW.next_push]; done) | fail) only [go_sem, Nat.reduceEqDiff, reduceIte, Nat.reduceAdd, Int.toNat_natCast, Nat.add_zero, Owes_true, e2, e5, b1, b2, b3, Nat.zero_add]
    rw [hM']
    exact ⟨by trivial, by trivial, _, hI7.loop, by trivial, hI7.relp hc _⟩
end Go.Proofs

namespace Go.Proofs
open Go Go.RowKit Go.Sim
set_option maxRecDepth 100000
def Gives (w0 : AW) (fn : FuncId) (cap : Array Value) (l : List Int) (g : Int → Int) : Prop := ∀ x ∈ l, ∀ w, Grown w0 w → CallT Tryz.prog Tryz.T1 (.fn (.func fn) cap) #[.int .i64 x] w (Ret (.int .i64 (g x)) (Grown w))
theorem sum_take_map {g : Int → Int} {l : List Int} {B : Int} (h : ∀ x ∈ l, 0 ≤ g x ∧ g x ≤ B) (hB : 0 ≤ B) : ∀ i, i ≤ l.length → 0 ≤ ((l.take i).map g).sum ∧ ((l.take i).map g).sum ≤ (i : Int) * B
  | 0, _ => by simp
  | i + 1, hi => by
    have ih := sum_take_map h hB i (by omega)
    have hx := h _ (List.getElem_mem (show i < l.length by omega))
    rw [List.take_succ_eq_append_getElem (by omega), List.map_append, List.sum_append]
    simp only [List.map_cons, List.map_nil, List.sum_cons, List.sum_nil, Int.add_zero]
    have : ((i + 1 : Nat) : Int) * B = (i : Int) * B + B := by
      rw [show ((i + 1 : Nat) : Int) = (i : Int) + 1 from by omega, Int.add_mul, Int.one_mul]
    omega
theorem total_ok (l : List Int) (g : Int → Int) (v : Value) (fn : FuncId) (cap : Array Value) (w : AW) (f : Fresh w) (hs : ArrOf w 1 icells v l) (hfn : same 12 (.func (.func fn) #[] cap) (.func (.func fn) #[] cap) = true) (hg : Gives w fn cap l g) (hb : ∀ x ∈ l, 0 ≤ g x ∧ g x ≤ 1073741824) (hl : l.length ≤ 1000) :
    CallT Tryz.prog Tryz.T1 (.fn (.func 99) #[]) #[v, .func (.func fn) #[] cap] w (Ret (.int .i64 (l.map g).sum) (Grown w)) := by
  obtain ⟨p, cp, rfl, _, _, hat⟩ := hs.open
  refine callT_code rfl Tryz.func99 rfl Tryz.s99_eq rfl ?_
  unfold Tryz.s99
  simp -dsimp -implicitDefEqProofs (maxSteps := 2000000) (disch := first | assumption | omega | (simp only [nx]; omega) | ((repeat refine Fresh.push ?_ _); assumption) | (simp only [smA]; done) | (simp [oneCell, AW.next_push]; done) | fail) only [go_sem, Nat.reduceEqDiff, reduceIte, Nat.reduceAdd, Int.toNat_natCast, Nat.add_zero, Owes_true, Tryz.results99]
  refine loopR (fun k t ds w1 => ∃ i : Nat, i ≤ l.length ∧ k = l.length - i ∧ ds = [] ∧ ev t (.tmp 0) = .slice p l.length cp ∧ ev t (.tmp 1) = .func (.func fn) #[] cap ∧ ev t (.tmp 5) = .int .i64 ((l.take i).map g).sum ∧ ev t (.tmp 8) = .slice p l.length cp ∧ ev t (.tmp 9) = .int .i64 (l.length : Int) ∧ ev t (.tmp 10) = .int .i64 (i : Int) ∧ Grown w w1) (l.length) ?_ ?_
  · refine ⟨0, by omega, by omega, rfl, ?_, ?_, ?_, ?_, ?_, ?_, Grown.refl f⟩ <;> simp -dsimp -implicitDefEqProofs (maxSteps := 2000000) (disch := first | assumption | omega | (simp only [nx]; omega) | ((repeat refine Fresh.push ?_ _); assumption) | (simp only [smA]; done) | (simp [oneCell, AW.next_push]; done) | fail) only [go_sem, Nat.reduceEqDiff, reduceIte, Nat.reduceAdd, Int.toNat_natCast, Nat.add_zero, Owes_true] <;> rfl
  rintro k t ds w1 ⟨i, hii, rfl, rfl, e0, e1, e5, e8, e9, e10, g1⟩
  by_cases hlt : (i : Int) < (l.length : Int)
  case neg =>
    obtain rfl : i = l.length := by omega
    rw [List.take_of_length_le (Nat.le_refl _)] at e5
    simp -dsimp -implicitDefEqProofs (maxSteps := 2000000) (disch := first | assumption | omega | (simp only [nx]; omega) | ((repeat refine Fresh.push ?_ _); assumption) | (simp only [smA]; done) | (simp [oneCell, AW.next_push]; done) | fail) only [go_sem, Nat.reduceEqDiff, reduceIte, Nat.reduceAdd, Int.toNat_natCast, Nat.add_zero, Owes_true, Tryz.results99, e0, e1, e5, e8, e9, e10, hlt]
    exact ⟨rfl, g1⟩
  have hlt' : i < l.length := by omega
  obtain ⟨b1, o1, rfl, hb1, hcell⟩ := hat i hlt'
  have a0 := hcell w1 g1.1 0 _ rfl
  rw [Nat.add_zero] at a0
  have hcall := hg l[i] (List.getElem_mem hlt') w1 g1
  have hgi := hb l[i] (List.getElem_mem hlt')
  have hst := sum_take_map hb (by omega) i (by omega)
  have hsn : ((l.take (i + 1)).map g).sum = ((l.take i).map g).sum + g l[i] := by
    rw [List.take_succ_eq_append_getElem hlt', List.map_append, List.sum_append]; simp
  generalize ((l.take i).map g).sum = S at *
  generalize g l[i] = gi at *
  simp -dsimp -implicitDefEqProofs (maxSteps := 2000000) (disch := first | assumption | omega | (simp only [nx]; omega) | ((repeat refine Fresh.push ?_ _); assumption) | (simp only [smA]; done) | (simp [oneCell, AW.next_push]; done) | fail) only [go_sem, Nat.reduceEqDiff, reduceIte, Nat.reduceAdd, Int.toNat_natCast, Nat.add_zero, Owes_true, Tryz.results99, e0, e1, e5, e8, e9, e10, hlt, indexV_eq, a0, hfn]
  apply callV_of (e := rfl)
  · exact hcall
  rintro _ w2 ⟨rfl, g2⟩
  simp -dsimp -implicitDefEqProofs (maxSteps := 2000000) (disch := first | assumption | omega | (simp only [nx]; omega) | ((repeat refine Fresh.push ?_ _); assumption) | (simp only [smA]; done) | (simp [oneCell, AW.next_push]; done) | fail) only [go_sem, Nat.reduceEqDiff, reduceIte, Nat.reduceAdd, Int.toNat_natCast, Nat.add_zero, Owes_true, Tryz.results99, e0, e1, e5, e8, e9, e10]
  refine ⟨_, by omega, i + 1, by omega, rfl, rfl, by (simp -dsimp -implicitDefEqProofs (maxSteps := 2000000) (disch := first | assumption | omega | (simp only [nx]; omega) | ((repeat refine Fresh.push ?_ _); assumption) | (simp only [smA]; done) | (simp [oneCell, AW.next_push]; done) | fail) only [go_sem, Nat.reduceEqDiff, reduceIte, Nat.reduceAdd, Int.toNat_natCast, Nat.add_zero, Owes_true, e0, hsn]; try rfl), by (simp -dsimp -implicitDefEqProofs (maxSteps := 2000000) (disch := first | assumption | omega | (simp only [nx]; omega) | ((repeat refine Fresh.push ?_ _); assumption) | (simp only [smA]; done) | (simp [oneCell, AW.next_push]; done) | fail) only [go_sem, Nat.reduceEqDiff, reduceIte, Nat.reduceAdd, Int.toNat_natCast, Nat.add_zero, Owes_true, e1, hsn]; try rfl), by (simp -dsimp -implicitDefEqProofs (maxSteps := 2000000) (disch := first | assumption | omega | (simp only [nx]; omega) | ((repeat refine Fresh.push ?_ _); assumption) | (simp only [smA]; done) | (simp [oneCell, AW.next_push]; done) | fail) only [go_sem, Nat.reduceEqDiff, reduceIte, Nat.reduceAdd, Int.toNat_natCast, Nat.add_zero, Owes_true, e5, hsn]; try rfl), by (simp -dsimp -implicitDefEqProofs (maxSteps := 2000000) (disch := first | assumption | omega | (simp only [nx]; omega) | ((repeat refine Fresh.push ?_ _); assumption) | (simp only [smA]; done) | (simp [oneCell, AW.next_push]; done) | fail) only [go_sem, Nat.reduceEqDiff, reduceIte, Nat.reduceAdd, Int.toNat_natCast, Nat.add_zero, Owes_true, e8, hsn]; try rfl), by (simp -dsimp -implicitDefEqProofs (maxSteps := 2000000) (disch := first | assumption | omega | (simp only [nx]; omega) | ((repeat refine Fresh.push ?_ _); assumption) | (simp only [smA]; done) | (simp [oneCell, AW.next_push]; done) | fail) only [go_sem, Nat.reduceEqDiff, reduceIte, Nat.reduceAdd, Int.toNat_natCast, Nat.add_zero, Owes_true, e9, hsn]; try rfl), by (simp -dsimp -implicitDefEqProofs (maxSteps := 2000000) (disch := first | assumption | omega | (simp only [nx]; omega) | ((repeat refine Fresh.push ?_ _); assumption) | (simp only [smA]; done) | (simp [oneCell, AW.next_push]; done) | fail) only [go_sem, Nat.reduceEqDiff, reduceIte, Nat.reduceAdd, Int.toNat_natCast, Nat.add_zero, Owes_true, e10, hsn]; try rfl), g1.trans g2⟩
end Go.Proofs

namespace Go.Proofs
open Go Go.RowKit Go.Sim
set_option maxRecDepth 100000
def inWin (W : WatchN) (A : List Int) (l : List DealN) (k i : Nat) : Bool := decide (dayAt l i > dayAt l k - W.days) && decide (leadAt A l i = leadAt A l k)
def winTo (W : WatchN) (A : List Int) (l : List DealN) (k n : Nat) : List Nat := (List.range n).filter (inWin W A l k)
def toI (L : List Nat) : List Int := L.map fun (n : Nat) => (n : Int)
theorem toI_len (L : List Nat) : (toI L).length = L.length := List.length_map ..
theorem winTo_succ (W : WatchN) (A : List Int) (l : List DealN) (k n : Nat) : winTo W A l k (n + 1) = if inWin W A l k n = true then winTo W A l k n ++ [n] else winTo W A l k n := by
  unfold winTo
  rw [List.range_succ, List.filter_append]
  cases h : inWin W A l k n <;> simp [h]
theorem winTo_len (W : WatchN) (A : List Int) (l : List DealN) (k n : Nat) : (winTo W A l k n).length ≤ n := by
  have := List.length_filter_le (inWin W A l k) (List.range n)
  rw [List.length_range] at this; exact this
def smalls (W : WatchN) (l : List DealN) (L : List Nat) : List Nat := L.filter (smallB W l)
theorem smalls_len (W : WatchN) (l : List DealN) (L : List Nat) : (smalls W l L).length ≤ L.length := List.length_filter_le _ _
theorem toI_add (L : List Nat) (n : Nat) : toI (L ++ [n]) = toI L ++ [(n : Int)] := by simp [toI]
theorem addSm_eq (W : WatchN) (l : List DealN) (L : List Nat) (i : Nat) : addSm W l (toI (smalls W l L)) i = toI (smalls W l (L ++ [i])) := by
  unfold addSm smalls
  rw [List.filter_append]
  cases h : smallB W l i <;> simp [h, toI]
set_option maxHeartbeats 16000000 in
theorem roundsV_ok (W0 : AW) (c : VP) (hc : c.ok W0.next) (W : WatchN) (v0 : Value) (l : List DealN) (A : List Int) (kd : Nat) (hk : kd < l.length) (hl : l.length ≤ 64) (hs : ArrOf W0 3 dcells v0 l) (hd : ∀ d ∈ l, dealB d = true) (hA : A.length = 24) (hW : watchB W = true) (tt : Tmps) (e2 : ev tt (.tmp 2) = .pointer (some ⟨c.d, 0, none⟩)) (e5 : ev tt (.tmp 5) = .pointer (some ⟨c.v, 0, none⟩)) (w : AW)
    (h : VI W0 c W v0 A (kd : Int) (lpV .ready tt c.dm) [] [] w) :
    CallT Tryz.prog Tryz.T1 (.fn (.func 144) #[.pointer (some ⟨c.x, 0, none⟩), .pointer (some ⟨c.y, 0, none⟩)]) #[.func (.yield c.lp) #[] #[]] w (fun _ w' => VI W0 c W v0 A (kd : Int) (lpV .ready tt c.dm) (toI (winTo W A l kd (kd + 1))) (toI (smalls W l (winTo W A l kd (kd + 1)))) w') := by
  obtain ⟨p, cap, rfl, hcap, hmax, hat⟩ := id hs.open
  have hW' := hW
  simp only [watchB, Bool.and_eq_true, inR_iff] at hW'
  have x0 := h.ox.cell (o := 0) rfl rfl
  refine callT_code rfl Tryz.func144 rfl Tryz.s144_eq rfl ?_
  unfold Tryz.s144
  simp -dsimp -implicitDefEqProofs (maxSteps := 2000000) (disch := first | assumption | omega | (simp only [nx]; omega) | ((repeat refine Fresh.push ?_ _); assumption) | (simp only [smA]; done) | (simp [oneCell, AW.next_push]; done) | fail) only [go_sem, Nat.reduceEqDiff, reduceIte, Nat.reduceAdd, Int.toNat_natCast, Nat.add_zero, Owes_true, Tryz.results144, Nat.zero_add, x0]
  refine loopR (fun k t ds w2 => ∃ i : Nat, i ≤ kd + 1 ∧ k = kd + 1 - i ∧ ds = [] ∧ ev t (.tmp 0) = .func (.yield c.lp) #[] #[] ∧ ev t (.tmp 1) = .pointer (some ⟨c.x, 0, none⟩) ∧ ev t (.tmp 2) = .pointer (some ⟨c.y, 0, none⟩) ∧ ev t (.tmp 7) = .int .i64 ((kd : Int) + 1) ∧ ev t (.tmp 8) = .int .i64 (i : Int) ∧ VI W0 c W (.slice p l.length cap) A (kd : Int) (lpV .ready tt c.dm) (toI (winTo W A l kd i)) (toI (smalls W l (winTo W A l kd i))) w2) (kd + 1) ?_ ?_
  · refine ⟨0, by omega, by omega, rfl, ?_, ?_, ?_, ?_, ?_, h⟩ <;> simp -dsimp -implicitDefEqProofs (maxSteps := 2000000) (disch := first | assumption | omega | (simp only [nx]; omega) | ((repeat refine Fresh.push ?_ _); assumption) | (simp only [smA]; done) | (simp [oneCell, AW.next_push]; done) | fail) only [go_sem, Nat.reduceEqDiff, reduceIte, Nat.reduceAdd, Int.toNat_natCast, Nat.add_zero, Owes_true] <;> rfl
  rintro k t ds w2 ⟨i, hii, rfl, rfl, e0, e1, e2, e7, e8, hI⟩
  by_cases hlt : (i : Int) < (kd : Int) + 1
  case neg =>
    obtain rfl : i = kd + 1 := by omega
    simp -dsimp -implicitDefEqProofs (maxSteps := 2000000) (disch := first | assumption | omega | (simp only [nx]; omega) | ((repeat refine Fresh.push ?_ _); assumption) | (simp only [smA]; done) | (simp [oneCell, AW.next_push]; done) | fail) only [go_sem, Nat.reduceEqDiff, reduceIte, Nat.reduceAdd, Int.toNat_natCast, Nat.add_zero, Owes_true, Tryz.results144, e0, e1, e2, e7, e8, hlt]
    exact hI
  have hil : i < l.length := by omega
  have hil2 : (i : Int) < (l.length : Int) := by omega
  have hkl2 : (kd : Int) < (l.length : Int) := by omega
  obtain ⟨b1, o1, rfl, hb1, hcell⟩ := hat i hil
  obtain ⟨b2, o2, q2, hb2, hcell2⟩ := hat kd hk
  cases q2
  have a0 := hcell _ hI.keep 0 _ rfl
  have ak := hcell2 _ hI.keep 0 _ rfl
  rw [Nat.add_zero] at a0 ak
  have y0 := hI.oy.cell (o := 0) rfl rfl
  have y4 := hI.oy.cell (o := 4) rfl rfl
  have x0 := hI.ox.cell (o := 0) rfl rfl
  have hld := desk_load hI.oy hA
  have hsm := same_desk W (some ⟨b1, o1, none⟩) l.length cap A
  have hi1 := (dealB_iff _).1 (hd _ (List.getElem_mem hil))
  have hk1 := (dealB_iff _).1 (hd _ (List.getElem_mem hk))
  have hwin : inWin W A l kd i = (decide (l[i].day > l[kd].day - W.days) && decide (leadAt A l i = leadAt A l kd)) := by unfold inWin; rw [dayAt_eq hil, dayAt_eq hk]
  have hsu := winTo_succ W A l kd i
  have hadd := addSm_eq W l (winTo W A l kd i) i
  have hL1 := winTo_len W A l kd i
  have hL2 := smalls_len W l (winTo W A l kd i)
  have hty := toI_add (winTo W A l kd i) i
  have gI : Grown W0 w2 := ⟨hI.keep, hI.fresh⟩
  generalize l[i].day = di at *
  generalize l[kd].day = dk at *
  have hys := yieldV_ok W0 c hc W _ l A (kd : Int) hs hA hW tt (by assumption) e5 (toI (winTo W A l kd i)) (toI (smalls W l (winTo W A l kd i))) (by rw [toI_len]; omega) (by rw [toI_len]; omega) i hil
  have hdf : ¬ (dk - W.days ≥ 9223372036854775808) := by omega
  by_cases hday : di > dk - W.days
  case neg =>
    have hno : ¬ (inWin W A l kd i = true) := by rw [hwin, decide_eq_false hday]; simp
    rw [if_neg hno] at hsu
    have hdd : decide (dk - W.days < di) = false := decide_eq_false (by omega)
    simp -dsimp -implicitDefEqProofs (maxSteps := 2000000) (disch := first | assumption | omega | (simp only [nx]; omega) | ((repeat refine Fresh.push ?_ _); assumption) | (simp only [smA]; done) | (simp [oneCell, AW.next_push]; done) | fail) only [go_sem, Nat.reduceEqDiff, reduceIte, Nat.reduceAdd, Int.toNat_natCast, Nat.add_zero, Owes_true, Tryz.results144, e0, e1, e2, e7, e8, hlt, hil2, hkl2, indexV_eq, a0, ak, y0, y4, x0, Nat.zero_add, hdd]
    refine ⟨_, by omega, i + 1, by omega, rfl, rfl, by (simp -dsimp -implicitDefEqProofs (maxSteps := 2000000) (disch := first | assumption | omega | (simp only [nx]; omega) | ((repeat refine Fresh.push ?_ _); assumption) | (simp only [smA]; done) | (simp [oneCell, AW.next_push]; done) | fail) only [go_sem, Nat.reduceEqDiff, reduceIte, Nat.reduceAdd, Int.toNat_natCast, Nat.add_zero, Owes_true, e0]; try rfl), by (simp -dsimp -implicitDefEqProofs (maxSteps := 2000000) (disch := first | assumption | omega | (simp only [nx]; omega) | ((repeat refine Fresh.push ?_ _); assumption) | (simp only [smA]; done) | (simp [oneCell, AW.next_push]; done) | fail) only [go_sem, Nat.reduceEqDiff, reduceIte, Nat.reduceAdd, Int.toNat_natCast, Nat.add_zero, Owes_true, e1]; try rfl), by (simp -dsimp -implicitDefEqProofs (maxSteps := 2000000) (disch := first | assumption | omega | (simp only [nx]; omega) | ((repeat refine Fresh.push ?_ _); assumption) | (simp only [smA]; done) | (simp [oneCell, AW.next_push]; done) | fail) only [go_sem, Nat.reduceEqDiff, reduceIte, Nat.reduceAdd, Int.toNat_natCast, Nat.add_zero, Owes_true, e2]; try rfl), by (simp -dsimp -implicitDefEqProofs (maxSteps := 2000000) (disch := first | assumption | omega | (simp only [nx]; omega) | ((repeat refine Fresh.push ?_ _); assumption) | (simp only [smA]; done) | (simp [oneCell, AW.next_push]; done) | fail) only [go_sem, Nat.reduceEqDiff, reduceIte, Nat.reduceAdd, Int.toNat_natCast, Nat.add_zero, Owes_true, e7]; try rfl), by (simp -dsimp -implicitDefEqProofs (maxSteps := 2000000) (disch := first | assumption | omega | (simp only [nx]; omega) | ((repeat refine Fresh.push ?_ _); assumption) | (simp only [smA]; done) | (simp [oneCell, AW.next_push]; done) | fail) only [go_sem, Nat.reduceEqDiff, reduceIte, Nat.reduceAdd, Int.toNat_natCast, Nat.add_zero, Owes_true, e8]; try rfl), (by rw [hsu]; exact hI)⟩
  have hdd : decide (dk - W.days < di) = true := decide_eq_true (by omega)
  simp -dsimp -implicitDefEqProofs (maxSteps := 2000000) (disch := first | assumption | omega | (simp only [nx]; omega) | ((repeat refine Fresh.push ?_ _); assumption) | (simp only [smA]; done) | (simp [oneCell, AW.next_push]; done) | fail) only [go_sem, Nat.reduceEqDiff, reduceIte, Nat.reduceAdd, Int.toNat_natCast, Nat.add_zero, Owes_true, Tryz.results144, e0, e1, e2, e7, e8, hlt, hil2, hkl2, indexV_eq, a0, ak, y0, y4, x0, Nat.zero_add, hdd, hld, hsm]
  apply callV_of (e := rfl)
  · exact leader_ok W _ l A i hil w2 hI.fresh (hs.grown gI) hd hA
  rintro _ w3 ⟨rfl, g3⟩
  have hle := g3.1.wle hI.fresh
  have hI3 := hI.grown hc g3
  simp -dsimp -implicitDefEqProofs (maxSteps := 2000000) (disch := first | assumption | omega | (simp only [nx]; omega) | ((repeat refine Fresh.push ?_ _); assumption) | (simp only [smA]; done) | (simp [oneCell, AW.next_push]; done) | fail) only [go_sem, Nat.reduceEqDiff, reduceIte, Nat.reduceAdd, Int.toNat_natCast, Nat.add_zero, Owes_true, hle]
  apply callV_of (e := rfl)
  · exact leader_ok W _ l A kd hk w3 g3.2 (hs.grown ⟨hI3.keep, hI3.fresh⟩) hd hA
  rintro _ w4 ⟨rfl, g4⟩
  have hI4 := hI3.grown hc g4
  by_cases hld2 : leadAt A l i = leadAt A l kd
  case neg =>
    have hno : ¬ (inWin W A l kd i = true) := by rw [hwin, decide_eq_false hld2]; simp
    rw [if_neg hno] at hsu
    simp -dsimp -implicitDefEqProofs (maxSteps := 2000000) (disch := first | assumption | omega | (simp only [nx]; omega) | ((repeat refine Fresh.push ?_ _); assumption) | (simp only [smA]; done) | (simp [oneCell, AW.next_push]; done) | fail) only [go_sem, Nat.reduceEqDiff, reduceIte, Nat.reduceAdd, Int.toNat_natCast, Nat.add_zero, Owes_true, Tryz.results144, e0, e1, e2, e7, e8, hld2]
    refine ⟨_, by omega, i + 1, by omega, rfl, rfl, by (simp -dsimp -implicitDefEqProofs (maxSteps := 2000000) (disch := first | assumption | omega | (simp only [nx]; omega) | ((repeat refine Fresh.push ?_ _); assumption) | (simp only [smA]; done) | (simp [oneCell, AW.next_push]; done) | fail) only [go_sem, Nat.reduceEqDiff, reduceIte, Nat.reduceAdd, Int.toNat_natCast, Nat.add_zero, Owes_true, e0]; try rfl), by (simp -dsimp -implicitDefEqProofs (maxSteps := 2000000) (disch := first | assumption | omega | (simp only [nx]; omega) | ((repeat refine Fresh.push ?_ _); assumption) | (simp only [smA]; done) | (simp [oneCell, AW.next_push]; done) | fail) only [go_sem, Nat.reduceEqDiff, reduceIte, Nat.reduceAdd, Int.toNat_natCast, Nat.add_zero, Owes_true, e1]; try rfl), by (simp -dsimp -implicitDefEqProofs (maxSteps := 2000000) (disch := first | assumption | omega | (simp only [nx]; omega) | ((repeat refine Fresh.push ?_ _); assumption) | (simp only [smA]; done) | (simp [oneCell, AW.next_push]; done) | fail) only [go_sem, Nat.reduceEqDiff, reduceIte, Nat.reduceAdd, Int.toNat_natCast, Nat.add_zero, Owes_true, e2]; try rfl), by (simp -dsimp -implicitDefEqProofs (maxSteps := 2000000) (disch := first | assumption | omega | (simp only [nx]; omega) | ((repeat refine Fresh.push ?_ _); assumption) | (simp only [smA]; done) | (simp [oneCell, AW.next_push]; done) | fail) only [go_sem, Nat.reduceEqDiff, reduceIte, Nat.reduceAdd, Int.toNat_natCast, Nat.add_zero, Owes_true, e7]; try rfl), by (simp -dsimp -implicitDefEqProofs (maxSteps := 2000000) (disch := first | assumption | omega | (simp only [nx]; omega) | ((repeat refine Fresh.push ?_ _); assumption) | (simp only [smA]; done) | (simp [oneCell, AW.next_push]; done) | fail) only [go_sem, Nat.reduceEqDiff, reduceIte, Nat.reduceAdd, Int.toNat_natCast, Nat.add_zero, Owes_true, e8]; try rfl), (by rw [hsu]; exact hI4)⟩
  have hyes : inWin W A l kd i = true := by rw [hwin, decide_eq_true hld2, decide_eq_true hday]; rfl
  rw [if_pos hyes] at hsu
  have hl3 : decide (leadAt A l i = leadAt A l kd) = true := decide_eq_true hld2
  have hsf : same 12 (Value.func (.yield c.lp) #[] #[]) (Value.func (.yield c.lp) #[] #[]) = true := by simp [same, same.all]
  simp -dsimp -implicitDefEqProofs (maxSteps := 2000000) (disch := first | assumption | omega | (simp only [nx]; omega) | ((repeat refine Fresh.push ?_ _); assumption) | (simp only [smA]; done) | (simp [oneCell, AW.next_push]; done) | fail) only [go_sem, Nat.reduceEqDiff, reduceIte, Nat.reduceAdd, Int.toNat_natCast, Nat.add_zero, Owes_true, Tryz.results144, e0, e1, e2, e7, e8, hl3, hsf]
  apply callV_of (e := rfl)
  · exact hys w4 hI4
  rintro _ w5 ⟨rfl, hI5⟩
  rw [hadd, ← hty, ← hsu] at hI5
  simp -dsimp -implicitDefEqProofs (maxSteps := 2000000) (disch := first | assumption | omega | (simp only [nx]; omega) | ((repeat refine Fresh.push ?_ _); assumption) | (simp only [smA]; done) | (simp [oneCell, AW.next_push]; done) | fail) only [go_sem, Nat.reduceEqDiff, reduceIte, Nat.reduceAdd, Int.toNat_natCast, Nat.add_zero, Owes_true, Tryz.results144, e0, e1, e2, e7, e8]
  refine ⟨_, by omega, i + 1, by omega, rfl, rfl, by (simp -dsimp -implicitDefEqProofs (maxSteps := 2000000) (disch := first | assumption | omega | (simp only [nx]; omega) | ((repeat refine Fresh.push ?_ _); assumption) | (simp only [smA]; done) | (simp [oneCell, AW.next_push]; done) | fail) only [go_sem, Nat.reduceEqDiff, reduceIte, Nat.reduceAdd, Int.toNat_natCast, Nat.add_zero, Owes_true, e0]; try rfl), by (simp -dsimp -implicitDefEqProofs (maxSteps := 2000000) (disch := first | assumption | omega | (simp only [nx]; omega) | ((repeat refine Fresh.push ?_ _); assumption) | (simp only [smA]; done) | (simp [oneCell, AW.next_push]; done) | fail) only [go_sem, Nat.reduceEqDiff, reduceIte, Nat.reduceAdd, Int.toNat_natCast, Nat.add_zero, Owes_true, e1]; try rfl), by (simp -dsimp -implicitDefEqProofs (maxSteps := 2000000) (disch := first | assumption | omega | (simp only [nx]; omega) | ((repeat refine Fresh.push ?_ _); assumption) | (simp only [smA]; done) | (simp [oneCell, AW.next_push]; done) | fail) only [go_sem, Nat.reduceEqDiff, reduceIte, Nat.reduceAdd, Int.toNat_natCast, Nat.add_zero, Owes_true, e2]; try rfl), by (simp -dsimp -implicitDefEqProofs (maxSteps := 2000000) (disch := first | assumption | omega | (simp only [nx]; omega) | ((repeat refine Fresh.push ?_ _); assumption) | (simp only [smA]; done) | (simp [oneCell, AW.next_push]; done) | fail) only [go_sem, Nat.reduceEqDiff, reduceIte, Nat.reduceAdd, Int.toNat_natCast, Nat.add_zero, Owes_true, e7]; try rfl), by (simp -dsimp -implicitDefEqProofs (maxSteps := 2000000) (disch := first | assumption | omega | (simp only [nx]; omega) | ((repeat refine Fresh.push ?_ _); assumption) | (simp only [smA]; done) | (simp [oneCell, AW.next_push]; done) | fail) only [go_sem, Nat.reduceEqDiff, reduceIte, Nat.reduceAdd, Int.toNat_natCast, Nat.add_zero, Owes_true, e8]; try rfl), hI5⟩
end Go.Proofs

namespace Go.Proofs
open Go Go.RowKit Go.Sim
set_option maxRecDepth 100000
theorem toI_at {L : List Nat} {i : Nat} (h : i < L.length) : (toI L)[i]'(by rw [toI_len]; exact h) = (L[i] : Int) := by simp [toI]
def RowN (w : AW) (v : Value) (L : List Nat) : Prop := AOwn 0 w 3 1 v (toI L).length ((toI L).flatMap icells)
theorem RowN.arr {w : AW} {v : Value} {L : List Nat} (h : RowN w v L) (hl : L.length ≤ 64) : ArrOf w 1 icells v (toI L) := AOwn.arr h icells_len (by rw [toI_len]; omega)
theorem RowN.grown {w w' : AW} {v : Value} {L : List Nat} (h : RowN w v L) (g : Grown w w') : RowN w' v L := AOwn.keep h g.1 (Nat.le_refl _)
theorem openN {w : AW} {v : Value} {L : List Nat} (h : ArrOf w 1 icells v (toI L)) : ∃ p cap, v = .slice p L.length cap ∧ L.length ≤ cap ∧ (cap : Int) ≤ 140737488355328 ∧
    ∀ i (hi : i < L.length), ∃ b o, p = some ⟨b, o, none⟩ ∧ b < w.next ∧ ∀ w', Keep w.next w w' → w'.cell? ⟨b, o + i * 1, none⟩ = some (.int .i64 (L[i] : Int)) := by
  obtain ⟨p, cap, rfl, h1, h2, h3⟩ := h.open
  refine ⟨p, cap, by rw [toI_len], by rw [← toI_len]; exact h1, h2, fun i hi => ?_⟩
  obtain ⟨b, o, rfl, hb, hc⟩ := h3 i (by rw [toI_len]; exact hi)
  refine ⟨b, o, rfl, hb, fun w' hk => ?_⟩
  have := hc w' hk 0 _ rfl
  rwa [Nat.add_zero, toI_at hi] at this
theorem sums_in {l : List DealN} (hd : ∀ d ∈ l, dealB d = true) {L : List Nat} (hN : ∀ n ∈ L, n < l.length) : ∀ i, i ≤ L.length → 0 ≤ ((L.take i).map (sumAt l)).sum ∧ ((L.take i).map (sumAt l)).sum ≤ (i : Int) * 1073741824
  | 0, _ => by simp
  | i + 1, hi => by
    have ih := sums_in hd hN i (by omega)
    have hn := hN _ (List.getElem_mem (show i < L.length by omega))
    have hx := ((dealB_iff _).1 (hd _ (List.getElem_mem hn))).2.2
    rw [← sumAt_eq hn] at hx
    rw [List.take_succ_eq_append_getElem (by omega), List.map_append, List.sum_append]
    simp only [List.map_cons, List.map_nil, List.sum_cons, List.sum_nil, Int.add_zero]
    omega
theorem sumAt_in {l : List DealN} (hd : ∀ d ∈ l, dealB d = true) {n : Nat} (hn : n < l.length) : 1 ≤ sumAt l n ∧ sumAt l n ≤ 1073741824 := by
  have hx := ((dealB_iff _).1 (hd _ (List.getElem_mem hn))).2.2
  rw [← sumAt_eq hn] at hx; exact hx
set_option maxHeartbeats 4000000 in
theorem totalD_ok (W : WatchN) (v0 : Value) (l : List DealN) (A : List Int) (L : List Nat) (hN : ∀ n ∈ L, n < l.length) (hlen : L.length ≤ 64) (v : Value) (w : AW) (f : Fresh w) (hs : ArrOf w 3 dcells v0 l) (hv : ArrOf w 1 icells v (toI L)) (hd : ∀ d ∈ l, dealB d = true) :
    CallT Tryz.prog Tryz.T1 (.fn (.func 99) #[]) #[v, .func (.func 117) #[.agg (deskL W v0 A).toArray] #[]] w (Ret (.int .i64 (L.map (sumAt l)).sum) (Grown w)) := by
  obtain ⟨p, cp, rfl, _, _, hat⟩ := openN hv
  refine callT_code rfl Tryz.func99 rfl Tryz.s99_eq rfl ?_
  unfold Tryz.s99
  simp -dsimp -implicitDefEqProofs (maxSteps := 2000000) (disch := first | assumption | omega | (simp only [nx]; omega) | ((repeat refine Fresh.push ?_ _); assumption) | (simp only [smA]; done) | (simp [oneCell, AW.next_push]; done) | fail) only [go_sem, Nat.reduceEqDiff, reduceIte, Nat.reduceAdd, Int.toNat_natCast, Nat.add_zero, Owes_true, Tryz.results99]
  refine loopR (fun k t ds w1 => ∃ i : Nat, i ≤ L.length ∧ k = L.length - i ∧ ds = [] ∧ ev t (.tmp 0) = .slice p L.length cp ∧ ev t (.tmp 1) = .func (.func 117) #[.agg (deskL W v0 A).toArray] #[] ∧ ev t (.tmp 5) = .int .i64 ((L.take i).map (sumAt l)).sum ∧ ev t (.tmp 8) = .slice p L.length cp ∧ ev t (.tmp 9) = .int .i64 (L.length : Int) ∧ ev t (.tmp 10) = .int .i64 (i : Int) ∧ Grown w w1) (L.length) ?_ ?_
  · refine ⟨0, by omega, by omega, rfl, ?_, ?_, ?_, ?_, ?_, ?_, Grown.refl f⟩ <;> simp -dsimp -implicitDefEqProofs (maxSteps := 2000000) (disch := first | assumption | omega | (simp only [nx]; omega) | ((repeat refine Fresh.push ?_ _); assumption) | (simp only [smA]; done) | (simp [oneCell, AW.next_push]; done) | fail) only [go_sem, Nat.reduceEqDiff, reduceIte, Nat.reduceAdd, Int.toNat_natCast, Nat.add_zero, Owes_true] <;> rfl
  rintro k t ds w1 ⟨i, hii, rfl, rfl, e0, e1, e5, e8, e9, e10, g1⟩
  by_cases hlt : (i : Int) < (L.length : Int)
  case neg =>
    obtain rfl : i = L.length := by omega
    rw [List.take_of_length_le (Nat.le_refl _)] at e5
    simp -dsimp -implicitDefEqProofs (maxSteps := 2000000) (disch := first | assumption | omega | (simp only [nx]; omega) | ((repeat refine Fresh.push ?_ _); assumption) | (simp only [smA]; done) | (simp [oneCell, AW.next_push]; done) | fail) only [go_sem, Nat.reduceEqDiff, reduceIte, Nat.reduceAdd, Int.toNat_natCast, Nat.add_zero, Owes_true, Tryz.results99, e0, e1, e5, e8, e9, e10, hlt]
    exact ⟨rfl, g1⟩
  have hlt' : i < L.length := by omega
  obtain ⟨b1, o1, rfl, hb1, hcell⟩ := hat i (by omega)
  have a0 := hcell w1 g1.1
  have hn := hN _ (List.getElem_mem hlt')
  have hcall := sumOf_ok W v0 l A L[i] hn w1 g1.2 (hs.grown g1)
  have hgi := sumAt_in hd hn
  have hst := sums_in hd hN i (by omega)
  have hsn : ((L.take (i + 1)).map (sumAt l)).sum = ((L.take i).map (sumAt l)).sum + sumAt l L[i] := by
    rw [List.take_succ_eq_append_getElem hlt', List.map_append, List.sum_append]; simp
  generalize ((L.take i).map (sumAt l)).sum = S at *
  generalize hgg : sumAt l L[i] = gi at *
  simp -dsimp -implicitDefEqProofs (maxSteps := 2000000) (disch := first | assumption | omega | (simp only [nx]; omega) | ((repeat refine Fresh.push ?_ _); assumption) | (simp only [smA]; done) | (simp [oneCell, AW.next_push]; done) | fail) only [go_sem, Nat.reduceEqDiff, reduceIte, Nat.reduceAdd, Int.toNat_natCast, Nat.add_zero, Owes_true, Tryz.results99, e0, e1, e5, e8, e9, e10, hlt, indexV_eq, a0]
  apply callV_of (e := rfl)
  · exact hcall
  rintro _ w2 ⟨rfl, g2⟩
  simp -dsimp -implicitDefEqProofs (maxSteps := 2000000) (disch := first | assumption | omega | (simp only [nx]; omega) | ((repeat refine Fresh.push ?_ _); assumption) | (simp only [smA]; done) | (simp [oneCell, AW.next_push]; done) | fail) only [go_sem, Nat.reduceEqDiff, reduceIte, Nat.reduceAdd, Int.toNat_natCast, Nat.add_zero, Owes_true, Tryz.results99, e0, e1, e5, e8, e9, e10]
  refine ⟨_, by omega, i + 1, by omega, rfl, rfl, by (simp -dsimp -implicitDefEqProofs (maxSteps := 2000000) (disch := first | assumption | omega | (simp only [nx]; omega) | ((repeat refine Fresh.push ?_ _); assumption) | (simp only [smA]; done) | (simp [oneCell, AW.next_push]; done) | fail) only [go_sem, Nat.reduceEqDiff, reduceIte, Nat.reduceAdd, Int.toNat_natCast, Nat.add_zero, Owes_true, e0, hsn]; try rfl), by (simp -dsimp -implicitDefEqProofs (maxSteps := 2000000) (disch := first | assumption | omega | (simp only [nx]; omega) | ((repeat refine Fresh.push ?_ _); assumption) | (simp only [smA]; done) | (simp [oneCell, AW.next_push]; done) | fail) only [go_sem, Nat.reduceEqDiff, reduceIte, Nat.reduceAdd, Int.toNat_natCast, Nat.add_zero, Owes_true, e1, hsn]; try rfl), by (simp -dsimp -implicitDefEqProofs (maxSteps := 2000000) (disch := first | assumption | omega | (simp only [nx]; omega) | ((repeat refine Fresh.push ?_ _); assumption) | (simp only [smA]; done) | (simp [oneCell, AW.next_push]; done) | fail) only [go_sem, Nat.reduceEqDiff, reduceIte, Nat.reduceAdd, Int.toNat_natCast, Nat.add_zero, Owes_true, e5, hsn]; try rfl), by (simp -dsimp -implicitDefEqProofs (maxSteps := 2000000) (disch := first | assumption | omega | (simp only [nx]; omega) | ((repeat refine Fresh.push ?_ _); assumption) | (simp only [smA]; done) | (simp [oneCell, AW.next_push]; done) | fail) only [go_sem, Nat.reduceEqDiff, reduceIte, Nat.reduceAdd, Int.toNat_natCast, Nat.add_zero, Owes_true, e8, hsn]; try rfl), by (simp -dsimp -implicitDefEqProofs (maxSteps := 2000000) (disch := first | assumption | omega | (simp only [nx]; omega) | ((repeat refine Fresh.push ?_ _); assumption) | (simp only [smA]; done) | (simp [oneCell, AW.next_push]; done) | fail) only [go_sem, Nat.reduceEqDiff, reduceIte, Nat.reduceAdd, Int.toNat_natCast, Nat.add_zero, Owes_true, e9, hsn]; try rfl), by (simp -dsimp -implicitDefEqProofs (maxSteps := 2000000) (disch := first | assumption | omega | (simp only [nx]; omega) | ((repeat refine Fresh.push ?_ _); assumption) | (simp only [smA]; done) | (simp [oneCell, AW.next_push]; done) | fail) only [go_sem, Nat.reduceEqDiff, reduceIte, Nat.reduceAdd, Int.toNat_natCast, Nat.add_zero, Owes_true, e10, hsn]; try rfl), g1.trans g2⟩
theorem rangeV_ok (W0 w3 : AW) (d q v y x : Nat) (hc : VP.ok ⟨d, q, v, y, x, w3.next, w3.next + 1⟩ W0.next) (W : WatchN) (v0 : Value) (l : List DealN) (A : List Int) (kd : Nat) (hk : kd < l.length) (hl : l.length ≤ 64) (hs : ArrOf W0 3 dcells v0 l) (hd : ∀ d ∈ l, dealB d = true) (hA : A.length = 24) (hW : watchB W = true)
    (g3 : Grown W0 w3) (o1 : Own w3 d 119 (deskL W v0 A)) (o2 : Own w3 q 123 [.slice none 0 0, .slice none 0 0, .int .i64 0]) (o3 : Own w3 v 123 [.slice none 0 0, .slice none 0 0, .int .i64 0]) (o4 : Own w3 y 119 (deskL W v0 A)) (o5 : Own w3 x 3 [.int .i64 (kd : Int)])
    (tt : Tmps) (e2 : ev tt (.tmp 2) = .pointer (some ⟨d, 0, none⟩)) (e5 : ev tt (.tmp 5) = .pointer (some ⟨v, 0, none⟩)) :
    CallT Tryz.prog Tryz.T1 (.fn (.func 144) #[.pointer (some ⟨x, 0, none⟩), .pointer (some ⟨y, 0, none⟩)]) #[.func (.yield (w3.next + 1)) #[] #[]] ((w3.push (.deferred (some []))).push (.loop (lpV .ready tt w3.next)))
      (fun _ w' => VI W0 ⟨d, q, v, y, x, w3.next, w3.next + 1⟩ W v0 A (kd : Int) (lpV .ready tt w3.next) (toI (winTo W A l kd (kd + 1))) (toI (smalls W l (winTo W A l kd (kd + 1)))) w') := by
  have hn1 : (w3.push (.deferred (some []))).next = w3.next + 1 := AW.next_push _ _
  refine roundsV_ok W0 ⟨d, q, v, y, x, w3.next, w3.next + 1⟩ hc W v0 l A kd hk hl hs hd hA hW tt e2 e5 _ ?_
  have g4 := (g3.push (.deferred (some []))).push (.loop (lpV .ready tt w3.next))
  refine ⟨(o1.push _).push _, (o2.push _).push _, (o4.push _).push _, (o5.push _).push _, ⟨none, none, 0, 0, 0, 0, fun _ => False, fun _ => False, (o3.push _).push _, .inl ⟨rfl, rfl, rfl⟩, .inl ⟨rfl, rfl, rfl⟩, fun _ q => q.elim, fun _ q => q.elim⟩, ?_, ?_, g4.1, ?_, g4.2⟩
  · show ((w3.push (.deferred (some []))).push _).blk (w3.next + 1) = _
    rw [AW.blk_push _ _ _ (Trie.in_ _) (Trie.in_ _), if_pos hn1.symm]
  · show ((w3.push (.deferred (some []))).push _).blk w3.next = _
    rw [AW.blk_push _ _ _ (Trie.in_ _) (Trie.in_ _), if_neg (by omega), AW.blk_push _ _ _ (Trie.in_ _) (Trie.in_ _), if_pos rfl]
  · show w3.next + 1 < ((w3.push (.deferred (some []))).push _).next
    rw [AW.next_push, hn1]; omega
def winOf (W : WatchN) (A : List Int) (l : List DealN) (k : Nat) : List Nat := winTo W A l k (k + 1)
def sumW (l : List DealN) (L : List Nat) : Int := (L.map (sumAt l)).sum
theorem winOf_lt {W : WatchN} {A : List Int} {l : List DealN} {k : Nat} : ∀ n ∈ winOf W A l k, n ≤ k := fun n hn => by
  have := (List.mem_filter.mp hn).1
  rw [List.mem_range] at this; omega
set_option maxHeartbeats 16000000 in
theorem view_ok (W : WatchN) (v0 : Value) (l : List DealN) (A : List Int) (kd : Nat) (hk : kd < l.length) (hl : l.length ≤ 64) (w : AW) (f : Fresh w) (hs : ArrOf w 3 dcells v0 l) (hd : ∀ d ∈ l, dealB d = true) (hA : A.length = 24) (hW : watchB W = true) :
    CallT Tryz.prog Tryz.T1 (.fn (.func 74) #[]) #[.agg (deskL W v0 A).toArray, .int .i64 (kd : Int)] w (fun r w' => ∃ (p r2 : Option Addr) (m n e g : Nat), r = .agg #[.slice p m e, .slice r2 n g, .int .i64 (sumW l (winOf W A l kd))] ∧ RowN w' (.slice p m e) (winOf W A l kd) ∧ RowN w' (.slice r2 n g) (smalls W l (winOf W A l kd)) ∧ Grown w w') := by
  obtain ⟨p0, c0, rfl, _⟩ := id hs.open
  have g1 := (Grown.refl f).push (.cells (deskL W (.slice p0 l.length c0) A) 119 w.next 0 0)
  have o1 := Own.new f 119 (deskL W (.slice p0 l.length c0) A)
  have g2 := g1.push (.cells [.slice none 0 0, .slice none 0 0, .int .i64 0] 123 (w.next + 1) 0 0)
  have o2 := Own.new g1.2 123 [.slice none 0 0, .slice none 0 0, .int .i64 0]
  rw [AW.next_push] at o2
  have g3 := g2.push (.cells [.slice none 0 0, .slice none 0 0, .int .i64 0] 123 (w.next + 1 + 1) 0 0)
  have o3 := Own.new g2.2 123 [.slice none 0 0, .slice none 0 0, .int .i64 0]
  rw [AW.next_push, AW.next_push] at o3
  have o1c := (o1.push (.cells [.slice none 0 0, .slice none 0 0, .int .i64 0] 123 (w.next + 1) 0 0)).push (.cells [.slice none 0 0, .slice none 0 0, .int .i64 0] 123 (w.next + 1 + 1) 0 0)
  have o2c := o2.push (.cells [.slice none 0 0, .slice none 0 0, .int .i64 0] 123 (w.next + 1 + 1) 0 0)
  have hn3 : (((w.push (.cells (deskL W (.slice p0 l.length c0) A) 119 w.next 0 0)).push (.cells [.slice none 0 0, .slice none 0 0, .int .i64 0] 123 (w.next + 1) 0 0)).push (.cells [.slice none 0 0, .slice none 0 0, .int .i64 0] 123 (w.next + 1 + 1) 0 0)).next = w.next + 1 + 1 + 1 := by simp only [AW.next_push]
  have hld := desk_load o1c hA
  refine callT_code rfl Tryz.func74 rfl Tryz.s74_eq rfl ?_
  unfold Tryz.s74
  simp -dsimp -implicitDefEqProofs (maxSteps := 2000000) (disch := first | assumption | omega | (simp only [nx]; omega) | ((repeat refine Fresh.push ?_ _); assumption) | (simp only [smA]; done) | (simp [oneCell, AW.next_push]; done) | fail) only [go_sem, Nat.reduceEqDiff, reduceIte, Nat.reduceAdd, Int.toNat_natCast, Nat.add_zero, Owes_true, Tryz.results74, Nat.zero_add, hld]
  generalize hw3 : (((w.push (.cells (deskL W (.slice p0 l.length c0) A) 119 w.next 0 0)).push (.cells [.slice none 0 0, .slice none 0 0, .int .i64 0] 123 (w.next + 1) 0 0)).push (.cells [.slice none 0 0, .slice none 0 0, .int .i64 0] 123 (w.next + 1 + 1) 0 0)) = w3 at *
  apply callV_of (e := rfl)
  · exact window_ok W _ A kd w3 g3.2
  rintro _ w4 ⟨rfl, oy, ox, g4, hn4⟩
  rw [hn3] at oy ox hn4
  have gg := g3.trans g4
  have hc : VP.ok ⟨w.next, w.next + 1, w.next + 1 + 1, w.next + 1 + 1 + 1, w.next + 1 + 1 + 1 + 1, w4.next, w4.next + 1⟩ w.next := by
    refine ⟨?_, ?_, ?_, ?_, ?_, ?_, ?_⟩ <;> simp only [] <;> omega
  simp -dsimp -implicitDefEqProofs (maxSteps := 2000000) (disch := first | assumption | omega | (simp only [nx]; omega) | ((repeat refine Fresh.push ?_ _); assumption) | (simp only [smA]; done) | (simp [oneCell, AW.next_push]; done) | fail) only [go_sem, Nat.reduceEqDiff, reduceIte, Nat.reduceAdd, Int.toNat_natCast, Nat.add_zero, Owes_true, Tryz.results74, hn3]
  refine codeT_range rfl (by simp -dsimp -implicitDefEqProofs (maxSteps := 2000000) (disch := first | assumption | omega | (simp only [nx]; omega) | ((repeat refine Fresh.push ?_ _); assumption) | (simp only [smA]; done) | (simp [oneCell, AW.next_push]; done) | fail) only [go_sem, Nat.reduceEqDiff, reduceIte, Nat.reduceAdd, Int.toNat_natCast, Nat.add_zero, Owes_true]; rfl) ?_
  refine (rangeV_ok w w4 w.next (w.next + 1) (w.next + 1 + 1) (w.next + 1 + 1 + 1) (w.next + 1 + 1 + 1 + 1) hc W _ l A kd hk hl hs hd hA hW gg (o1c.keep g4.1) (o2c.keep g4.1) (o3.keep g4.1) oy ox _ (by simp -dsimp -implicitDefEqProofs (maxSteps := 2000000) (disch := first | assumption | omega | (simp only [nx]; omega) | ((repeat refine Fresh.push ?_ _); assumption) | (simp only [smA]; done) | (simp [oneCell, AW.next_push]; done) | fail) only [go_sem, Nat.reduceEqDiff, reduceIte, Nat.reduceAdd, Int.toNat_natCast, Nat.add_zero, Owes_true]) (by simp -dsimp -implicitDefEqProofs (maxSteps := 2000000) (disch := first | assumption | omega | (simp only [nx]; omega) | ((repeat refine Fresh.push ?_ _); assumption) | (simp only [smA]; done) | (simp [oneCell, AW.next_push]; done) | fail) only [go_sem, Nat.reduceEqDiff, reduceIte, Nat.reduceAdd, Int.toNat_natCast, Nat.add_zero, Owes_true])).mono ?_
  rintro _ w5 hI
  refine ⟨_, hI.loop, rfl, rfl, ?_⟩
  intro W2 hW2
  obtain ⟨lpx, hIW⟩ : ∃ lpx, VI w ⟨w.next, w.next + 1, w.next + 1 + 1, w.next + 1 + 1 + 1, w.next + 1 + 1 + 1 + 1, w4.next, w4.next + 1⟩ W (.slice p0 l.length c0) A (kd : Int) lpx (toI (winOf W A l kd)) (toI (smalls W l (winOf W A l kd))) W2 := ⟨_, by rw [hW2]; exact hI.relp hc _⟩
  clear hW2 hI
  have hm2 := hIW.mark
  have hl2 := hIW.lt
  have hk2 := hIW.keep
  have hf2 := hIW.fresh
  obtain ⟨p, r, m, n, e, g, S, T, k1, k2, k3, k4, k5⟩ := hIW.ov
  have q1 := hIW.od
  have q2 := hIW.oq
  simp only [] at hm2 hl2 k1 k4 k5 q1 q2
  have hA1 : ArrOf W2 1 icells (.slice p m e) (toI (winOf W A l kd)) := k2.own.arr icells_len (by rw [toI_len]; have := winTo_len W A l kd (kd + 1); unfold winOf; omega)
  have hA2 : ArrOf W2 1 icells (.slice r n g) (toI (smalls W l (winOf W A l kd))) := k3.own.arr icells_len (by rw [toI_len]; have := winTo_len W A l kd (kd + 1); have := smalls_len W l (winOf W A l kd); unfold winOf at *; omega)
  have v0 := k1.cell (o := 0) rfl rfl
  have hld2 := desk_load q1 hA
  have gW : Grown w W2 := ⟨hk2, hf2⟩
  simp -dsimp -implicitDefEqProofs (maxSteps := 2000000) (disch := first | assumption | omega | (simp only [nx]; omega) | ((repeat refine Fresh.push ?_ _); assumption) | (simp only [smA]; done) | (simp [oneCell, AW.next_push]; done) | fail) only [go_sem, Nat.reduceEqDiff, reduceIte, Nat.reduceAdd, Int.toNat_natCast, Nat.add_zero, Owes_true, Tryz.results74, v0, Nat.zero_add, hld2]
  apply callV_of (e := rfl)
  · exact totalD_ok W _ l A (winOf W A l kd) (fun n hn => by have := winOf_lt n hn; omega) (by have := winTo_len W A l kd (kd + 1); unfold winOf; omega) _ W2 hf2 (hs.grown gW) hA1 hd
  rintro _ w6 ⟨rfl, g6⟩
  have r1 := k1.keep g6.1
  have r2 := q2.keep g6.1
  have st := storeV_own1 (o := 2) (v := .int .i64 (sumW l (winOf W A l kd))) r1 (by simp) rfl
  simp only [setL] at st
  unfold sumW at st
  have m7 := MutS.put (S := fun j => j = w.next + 1 + 1) g6.2 rfl r1.lt (.cells [.slice p m e, .slice r n g, .int .i64 ((winOf W A l kd).map (sumAt l)).sum] 123 (w.next + 1 + 1) 0 0)
  have r1' := r1.put [.slice p m e, .slice r n g, .int .i64 ((winOf W A l kd).map (sumAt l)).sum]
  have r2' := m7.own r2 (by omega)
  have s0 := r1'.cell (o := 0) rfl rfl
  have s1 := r1'.cell (o := 1) rfl rfl
  have s2 := r1'.cell (o := 2) rfl rfl
  have st2 := storeV_own (o := 0) (l := [.slice p m e, .slice r n g, .int .i64 ((winOf W A l kd).map (sumAt l)).sum]) (size := 3) r2' rfl (by omega) (by simp) (by rfl)
  simp only [setsL, setL] at st2
  have m8 := MutS.put (S := fun j => j = w.next + 1) m7.fresh rfl r2'.lt (.cells [.slice p m e, .slice r n g, .int .i64 ((winOf W A l kd).map (sumAt l)).sum] 123 (w.next + 1) 0 0)
  have r2'' := r2'.put [.slice p m e, .slice r n g, .int .i64 ((winOf W A l kd).map (sumAt l)).sum]
  simp -dsimp -implicitDefEqProofs (maxSteps := 2000000) (disch := first | assumption | omega | (simp only [nx]; omega) | ((repeat refine Fresh.push ?_ _); assumption) | (simp only [smA]; done) | (simp [oneCell, AW.next_push]; done) | fail) only [go_sem, Nat.reduceEqDiff, reduceIte, Nat.reduceAdd, Int.toNat_natCast, Nat.add_zero, Owes_true, Tryz.results74, Nat.zero_add, st, s0, s1, s2, st2]
  refine Left_one ?_ ?_
  · rw [m8.blk _ (by have := m7.next; have := g6.1.next; omega) (by omega), m7.blk _ (by have := g6.1.next; omega) (by omega), g6.1.blk _ (by omega)]; exact hm2
  have hn7 := m7.next
  have hn8 := m8.next
  have hn6 := g6.1.next
  have m9 := MutS.put (S := fun j => j = w4.next) m8.fresh rfl (by omega) (.deferred none)
  have r3 := m9.own r2'' (by omega)
  have z0 := r3.cell (o := 0) rfl rfl
  have z1 := r3.cell (o := 1) rfl rfl
  have z2 := r3.cell (o := 2) rfl rfl
  have kk : Keep w.next w _ := ((hk2.trans (g6.1.mono hk2.next)).trans (m7.keep (fun j q => by omega) (by have := hk2.next; omega))).trans ((m8.keep (fun j q => by omega) (by have := hk2.next; omega)).trans (m9.keep (fun j q => by omega) (by have := hk2.next; omega)))
  have mall : MutS (fun j => j = w.next + 1 + 1 ∨ j = w.next + 1 ∨ j = w4.next) W2 _ := (((MutS.of g6).trans (m7.mono fun j q => Or.inl q) (Within.refl _ _)).trans (m8.mono fun j q => Or.inr (Or.inl q)) (Within.refl _ _)).trans (m9.mono fun j q => Or.inr (Or.inr q)) (Within.refl _ _)
  simp -dsimp -implicitDefEqProofs (maxSteps := 2000000) (disch := first | assumption | omega | (simp only [nx]; omega) | ((repeat refine Fresh.push ?_ _); assumption) | (simp only [smA]; done) | (simp [oneCell, AW.next_push]; done) | fail) only [go_sem, Nat.reduceEqDiff, reduceIte, Nat.reduceAdd, Int.toNat_natCast, Nat.add_zero, Owes_true, Tryz.results74, Nat.zero_add, z0, z1, z2]
  refine ⟨p, r, m, n, e, g, rfl, ?_, ?_, kk, mall.fresh⟩
  · exact (k2.other mall fun j q z => by have := (k4 j q).1; omega).own
  · exact (k3.other mall fun j q z => by have := (k5 j q).1; omega).own
end Go.Proofs
