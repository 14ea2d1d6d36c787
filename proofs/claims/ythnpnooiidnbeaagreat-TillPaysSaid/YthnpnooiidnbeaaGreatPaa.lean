/- This program: its code, contracts, numbers, part 1. -/
import Derived.Test.YthnpnooiidnbeaaGreatNc
import Derived.Test.YthnpnooiidnbeaaGreatChecked
import Derived.Test.YthnpnooiidnbeaaGreatMc
import Derived.Test.YthnpnooiidnbeaaGreatProg
import Derived.Test.YthnpnooiidnbeaaGreatNa
import Derived.Test.YthnpnooiidnbeaaGreatNd
import Derived.Test.YthnpnooiidnbeaaGreatSf
import Derived.Test.YthnpnooiidnbeaaGreatSh
set_option linter.unusedVariables false
set_option linter.unusedSimpArgs false
namespace Go.Proofs
open Go Go.RowKit Go.Sim
set_option maxRecDepth 100000
theorem Tryz.ty3 : (prg Tryz.prog).ty 3 = some ⟨false, (.int .i64), 1, 8, .int .i64 0⟩ := by kernel_rfl
attribute [go_sem] Tryz.ty3
theorem Tryz.ty22 : (prg Tryz.prog).ty 22 = some ⟨false, (.slice 3), 1, 24, .slice none 0 0⟩ := by kernel_rfl
attribute [go_sem] Tryz.ty22
theorem Tryz.ty24 : (prg Tryz.prog).ty 24 = some ⟨true, (.struct #[{ name := "Coins", type := 22, offset := 0, embedded := false, tag := "", pkgPath := "", byteOffset := 0 }, { name := "Have", type := 22, offset := 1, embedded := false, tag := "", pkgPath := "", byteOffset := 24 }]), 2, 48, .agg #[.slice none 0 0, .slice none 0 0]⟩ := by kernel_rfl
attribute [go_sem] Tryz.ty24
theorem Tryz.ty98 : (prg Tryz.prog).ty 98 = some ⟨false, (.func #[3] #[4] false), 1, 8, .nilFunc⟩ := by kernel_rfl
attribute [go_sem] Tryz.ty98
theorem Tryz.ty149 : (prg Tryz.prog).ty 149 = some ⟨false, (.func #[154] #[152] false), 1, 8, .nilFunc⟩ := by kernel_rfl
attribute [go_sem] Tryz.ty149
theorem Tryz.ty152 : (prg Tryz.prog).ty 152 = some ⟨true, (.struct #[{ name := "first", type := 3, offset := 0, embedded := false, tag := "", pkgPath := "lombard/till", byteOffset := 0 }, { name := "pieces", type := 3, offset := 1, embedded := false, tag := "", pkgPath := "lombard/till", byteOffset := 8 }]), 2, 16, .agg #[.int .i64 0, .int .i64 0]⟩ := by kernel_rfl
attribute [go_sem] Tryz.ty152
theorem Tryz.ty154 : (prg Tryz.prog).ty 154 = some ⟨true, (.struct #[{ name := "kind", type := 3, offset := 0, embedded := false, tag := "", pkgPath := "lombard/till", byteOffset := 0 }, { name := "sum", type := 3, offset := 1, embedded := false, tag := "", pkgPath := "lombard/till", byteOffset := 8 }]), 2, 16, .agg #[.int .i64 0, .int .i64 0]⟩ := by kernel_rfl
attribute [go_sem] Tryz.ty154
theorem Tryz.ty180 : (prg Tryz.prog).ty 180 = some ⟨false, (.map 154 152), 1, 8, .map none⟩ := by kernel_rfl
attribute [go_sem] Tryz.ty180
theorem Tryz.ia22 (t : Tmps) (w : AW) (x y : Operand) : fast (prg Tryz.prog) t w (.indexAddr 22 x y) = indexV 1 (ev t x) (ev t y) := fast_indexAddr Tryz.ty22 Tryz.ty3
attribute [go_sem] Tryz.ia22
theorem Tryz.ln22 (t : Tmps) (w : AW) (x : Operand) : fast (prg Tryz.prog) t w (.call ⟨.builtin .len, ⟨[x]⟩, ⟨[22]⟩⟩) = lenV (ev t x) := fast_len Tryz.ty22
attribute [go_sem] Tryz.ln22
theorem Tryz.bd24 (t : Tmps) (w : AW) (l : List (Nat × Operand)) : fast (prg Tryz.prog) t w (.build 24 ⟨l⟩) = bldQ [(0, 1), (1, 1)] [.slice none 0 0, .slice none 0 0] (l.map fun p => (p.1, ev t p.2)) := fast_build (zs := [.slice none 0 0, .slice none 0 0]) Tryz.ty24 (by kernel_rfl)
attribute [go_sem] Tryz.bd24
theorem Tryz.fa24x0 (t : Tmps) (w : AW) (x : Operand) : fast (prg Tryz.prog) t w (.fieldAddr 24 x 0) = fieldOff (ev t x) 0 := fast_fieldAddr (fd := { name := "Coins", type := 22, offset := 0, embedded := false, tag := "", pkgPath := "", byteOffset := 0 }) Tryz.ty24 rfl Tryz.ty22 rfl
attribute [go_sem] Tryz.fa24x0
theorem Tryz.fa24x1 (t : Tmps) (w : AW) (x : Operand) : fast (prg Tryz.prog) t w (.fieldAddr 24 x 1) = fieldOff (ev t x) 1 := fast_fieldAddr (fd := { name := "Have", type := 22, offset := 1, embedded := false, tag := "", pkgPath := "", byteOffset := 24 }) Tryz.ty24 rfl Tryz.ty22 rfl
attribute [go_sem] Tryz.fa24x1
theorem Tryz.bd152 (t : Tmps) (w : AW) (l : List (Nat × Operand)) : fast (prg Tryz.prog) t w (.build 152 ⟨l⟩) = bldQ [(0, 1), (1, 1)] [.int .i64 0, .int .i64 0] (l.map fun p => (p.1, ev t p.2)) := fast_build (zs := [.int .i64 0, .int .i64 0]) Tryz.ty152 (by kernel_rfl)
attribute [go_sem] Tryz.bd152
theorem Tryz.fa152x1 (t : Tmps) (w : AW) (x : Operand) : fast (prg Tryz.prog) t w (.fieldAddr 152 x 1) = fieldOff (ev t x) 1 := fast_fieldAddr (fd := { name := "pieces", type := 3, offset := 1, embedded := false, tag := "", pkgPath := "lombard/till", byteOffset := 8 }) Tryz.ty152 rfl Tryz.ty3 rfl
attribute [go_sem] Tryz.fa152x1
theorem Tryz.bd154 (t : Tmps) (w : AW) (l : List (Nat × Operand)) : fast (prg Tryz.prog) t w (.build 154 ⟨l⟩) = bldQ [(0, 1), (1, 1)] [.int .i64 0, .int .i64 0] (l.map fun p => (p.1, ev t p.2)) := fast_build (zs := [.int .i64 0, .int .i64 0]) Tryz.ty154 (by kernel_rfl)
attribute [go_sem] Tryz.bd154
theorem Tryz.fa154x0 (t : Tmps) (w : AW) (x : Operand) : fast (prg Tryz.prog) t w (.fieldAddr 154 x 0) = fieldOff (ev t x) 0 := fast_fieldAddr (fd := { name := "kind", type := 3, offset := 0, embedded := false, tag := "", pkgPath := "lombard/till", byteOffset := 0 }) Tryz.ty154 rfl Tryz.ty3 rfl
attribute [go_sem] Tryz.fa154x0
theorem Tryz.fa154x1 (t : Tmps) (w : AW) (x : Operand) : fast (prg Tryz.prog) t w (.fieldAddr 154 x 1) = fieldOff (ev t x) 1 := fast_fieldAddr (fd := { name := "sum", type := 3, offset := 1, embedded := false, tag := "", pkgPath := "lombard/till", byteOffset := 8 }) Tryz.ty154 rfl Tryz.ty3 rfl
attribute [go_sem] Tryz.fa154x1
end Go.Proofs

namespace Go.Proofs
open Go Go.Shelf Go.RowKit Go.Sim
set_option maxRecDepth 1000000
theorem Tryz.fits : Fit Tryz.prog := fit_of (by decide +kernel)
theorem Tryz.mixed : Tryz.prog.follows .mixedOrders = true := by decide +kernel
theorem Tryz.told0 (N : Nat) : ToldOk Tryz.prog N (fun _ _ _ => none) := fun f args w w1 v h => by cases h
end Go.Proofs

namespace Go.Proofs
open Go Go.RowKit Go.Sim
set_option maxRecDepth 1000000
theorem Tryz.works (W : World) : Calls Tryz.prog 21 #[] W fun e W' => e = .returned (.bool true) ∧ Below W.heap.size W W' :=
  calls_true (F := 1000000) Tryz.fits Tryz.mixed Tryz.told0 (n := 99) (by decide +kernel) (by decide +kernel) W
def Tryz.T1 : ToldF := toldTrue 21 fun _ _ _ => none
theorem Tryz.toldT1 (N : Nat) : ToldOk Tryz.prog N Tryz.T1 := toldTrue_ok (fun args w => Tryz.call21 args w) Tryz.works Tryz.told0 N
end Go.Proofs

namespace Go.Proofs
end Go.Proofs

namespace Go.Proofs
open Go Go.RowKit Go.Sim
set_option maxRecDepth 100000
def Tryz.s80 : SC := (.seq (.ops false [⟨⟨(some 6),.assign (.const (.bool false)),4,"",⟨[]⟩,none⟩,none,false⟩]) (.seq (.ops false [⟨⟨(some 7),.move (.tmp 1),3,"",⟨[]⟩,none⟩,none,false⟩,⟨⟨(some 8),.move (.tmp 0),3,"",⟨[]⟩,none⟩,none,false⟩,⟨⟨(some 9),.binOp .leq 3 (.tmp 7) (.tmp 8) 3,4,"",⟨[]⟩,none⟩,none,false⟩,⟨⟨(some 10),.move (.tmp 9),4,"",⟨[]⟩,none⟩,none,false⟩,⟨⟨(some 11),.move (.tmp 0),3,"",⟨[]⟩,none⟩,some ((some 10),true),false⟩,⟨⟨(some 12),.move (.tmp 2),3,"",⟨[]⟩,none⟩,some ((some 10),true),false⟩,⟨⟨(some 13),.binOp .leq 3 (.tmp 11) (.tmp 12) 3,4,"",⟨[]⟩,none⟩,some ((some 10),true),false⟩,⟨⟨(some 14),.pick (.tmp 10) (.tmp 13) (.const (.bool false)),4,"",⟨[]⟩,none⟩,none,false⟩,⟨⟨(some 6),.assign (.tmp 14),4,"",⟨[]⟩,none⟩,none,false⟩]) .ret))
def Tryz.s97 : SC := (.seq (.ops false [⟨⟨(some 2),.assign (.const (.bool false)),4,"",⟨[]⟩,none⟩,none,false⟩]) (.seq (.ops false [⟨⟨(some 3),.move (.tmp 0),3,"",⟨[]⟩,none⟩,none,false⟩,⟨⟨(some 4),.call ⟨.value (.func 80),⟨[(.tmp 3),(.const (.int .i64 0)),(.const (.int .i64 50))]⟩,⟨[3,3,3]⟩⟩,4,"",⟨[]⟩,none⟩,none,false⟩,⟨⟨(some 2),.assign (.tmp 4),4,"",⟨[]⟩,none⟩,none,false⟩]) .ret))
def Tryz.s135 : SC := (.seq (.ops false [⟨⟨(some 4),.assign (.const (.int .i64 0)),3,"",⟨[]⟩,none⟩,none,false⟩]) (.seq (.seq (.ops false [⟨⟨(some 6),.move (.tmp 0),22,"",⟨[]⟩,none⟩,none,false⟩,⟨⟨(some 7),.call ⟨.builtin .len,⟨[(.tmp 6)]⟩,⟨[22]⟩⟩,3,"",⟨[]⟩,none⟩,none,false⟩,⟨⟨(some 8),.move (.const (.int .i64 0)),3,"",⟨[]⟩,none⟩,none,false⟩]) (.block 0 (.loop (.seq (.ops false [⟨⟨(some 9),.binOp .lss 3 (.tmp 8) (.tmp 7) 3,0,"",⟨[]⟩,none⟩,none,false⟩]) (.seq (.cond (.tmp 9) .skip (.exit 0)) (.seq (.block 1 (.seq (.ops false [⟨⟨(some 10),.move (.tmp 8),3,"",⟨[]⟩,none⟩,none,false⟩,⟨⟨(some 5),.assign (.tmp 10),3,"",⟨[]⟩,none⟩,none,false⟩]) (.seq (.ops false [⟨⟨(some 11),.move (.tmp 1),98,"",⟨[]⟩,none⟩,none,false⟩,⟨⟨(some 12),.move (.tmp 0),22,"",⟨[]⟩,none⟩,none,false⟩,⟨⟨(some 13),.move (.tmp 5),3,"",⟨[]⟩,none⟩,none,false⟩,⟨⟨(some 14),.indexAddr 22 (.tmp 12) (.tmp 13),0,"",⟨[]⟩,none⟩,none,false⟩,⟨⟨(some 15),.load 3 (.tmp 14),3,"",⟨[]⟩,none⟩,none,false⟩,⟨⟨(some 16),.call ⟨.value (.tmp 11),⟨[(.tmp 15)]⟩,⟨[3]⟩⟩,4,"",⟨[]⟩,none⟩,none,false⟩]) (.cond (.tmp 16) (.seq (.ops false [⟨⟨(some 17),.move (.tmp 5),3,"",⟨[]⟩,none⟩,none,false⟩,⟨⟨(some 4),.assign (.tmp 17),3,"",⟨[]⟩,none⟩,none,false⟩]) .ret) .skip)))) (.ops false [⟨⟨(some 18),.binOp .add 3 (.tmp 8) (.const (.int .i64 1)) 3,3,"",⟨[]⟩,none⟩,none,false⟩,⟨⟨(some 8),.move (.tmp 18),3,"",⟨[]⟩,none⟩,none,false⟩]))))))) (.seq (.ops false [⟨⟨(some 4),.assign (.const (.int .i64 (-1))),3,"",⟨[]⟩,none⟩,none,false⟩]) .ret)))
def Tryz.s105 : SC := (.seq (.ops false [⟨⟨(some 4),.assign (.const (.bool false)),4,"",⟨[]⟩,none⟩,none,false⟩]) (.seq (.ops false [⟨⟨(some 5),.move (.tmp 0),22,"",⟨[]⟩,none⟩,none,false⟩,⟨⟨(some 6),.move (.tmp 1),98,"",⟨[]⟩,none⟩,none,false⟩,⟨⟨(some 7),.call ⟨.value (.func 135),⟨[(.tmp 5),(.tmp 6)]⟩,⟨[22,98]⟩⟩,3,"",⟨[]⟩,none⟩,none,false⟩,⟨⟨(some 8),.binOp .geq 3 (.tmp 7) (.const (.int .i64 0)) 3,4,"",⟨[]⟩,none⟩,none,false⟩,⟨⟨(some 4),.assign (.tmp 8),4,"",⟨[]⟩,none⟩,none,false⟩]) .ret))
def Tryz.s106 : SC := (.seq (.ops false [⟨⟨(some 3),.assign (.const (.bool false)),4,"",⟨[]⟩,none⟩,none,false⟩]) (.seq (.ops false [⟨⟨(some 4),.load 98 (.tmp 1),98,"",⟨[]⟩,none⟩,none,false⟩,⟨⟨(some 5),.move (.tmp 0),3,"",⟨[]⟩,none⟩,none,false⟩,⟨⟨(some 6),.call ⟨.value (.tmp 4),⟨[(.tmp 5)]⟩,⟨[3]⟩⟩,4,"",⟨[]⟩,none⟩,none,false⟩,⟨⟨(some 7),.unOp .not 4 (.tmp 6),4,"",⟨[]⟩,none⟩,none,false⟩,⟨⟨(some 3),.assign (.tmp 7),4,"",⟨[]⟩,none⟩,none,false⟩]) .ret))
def Tryz.s62 : SC := (.seq (.ops false [⟨⟨(some 3),.box 98 (.tmp 1),0,"",⟨[]⟩,none⟩,none,false⟩,⟨⟨(some 4),.assign (.const (.bool false)),4,"",⟨[]⟩,none⟩,none,false⟩]) (.seq (.ops false [⟨⟨(some 5),.move (.tmp 0),22,"",⟨[]⟩,none⟩,none,false⟩,⟨⟨(some 6),.makeFunc (.func 106) ⟨[]⟩ ⟨[(.tmp 3)]⟩,98,"",⟨[]⟩,none⟩,none,false⟩,⟨⟨(some 7),.call ⟨.value (.func 105),⟨[(.tmp 5),(.tmp 6)]⟩,⟨[22,98]⟩⟩,4,"",⟨[]⟩,none⟩,none,false⟩,⟨⟨(some 8),.unOp .not 4 (.tmp 7),4,"",⟨[]⟩,none⟩,none,false⟩,⟨⟨(some 4),.assign (.tmp 8),4,"",⟨[]⟩,none⟩,none,false⟩]) .ret))
def Tryz.s54 : SC := (.seq (.ops false [⟨⟨(some 2),.assign (.const (.bool false)),4,"",⟨[]⟩,none⟩,none,false⟩]) (.seq (.seq (.ops false [⟨⟨(some 5),.move (.tmp 0),22,"",⟨[]⟩,none⟩,none,false⟩,⟨⟨(some 6),.call ⟨.builtin .len,⟨[(.tmp 5)]⟩,⟨[22]⟩⟩,3,"",⟨[]⟩,none⟩,none,false⟩,⟨⟨(some 7),.move (.const (.int .i64 0)),3,"",⟨[]⟩,none⟩,none,false⟩]) (.block 0 (.loop (.seq (.ops false [⟨⟨(some 8),.binOp .lss 3 (.tmp 7) (.tmp 6) 3,0,"",⟨[]⟩,none⟩,none,false⟩]) (.seq (.cond (.tmp 8) .skip (.exit 0)) (.seq (.block 1 (.seq (.ops false [⟨⟨(some 9),.move (.tmp 7),3,"",⟨[]⟩,none⟩,none,false⟩,⟨⟨(some 10),.indexAddr 22 (.tmp 5) (.tmp 7),0,"",⟨[]⟩,none⟩,none,false⟩,⟨⟨(some 11),.load 3 (.tmp 10),3,"",⟨[]⟩,none⟩,none,false⟩,⟨⟨(some 3),.assign (.tmp 9),3,"",⟨[]⟩,none⟩,none,false⟩,⟨⟨(some 4),.assign (.tmp 11),3,"",⟨[]⟩,none⟩,none,false⟩]) (.seq (.ops false [⟨⟨(some 12),.move (.tmp 4),3,"",⟨[]⟩,none⟩,none,false⟩,⟨⟨(some 13),.call ⟨.value (.func 80),⟨[(.tmp 12),(.const (.int .i64 1)),(.const (.int .i64 50000))]⟩,⟨[3,3,3]⟩⟩,4,"",⟨[]⟩,none⟩,none,false⟩,⟨⟨(some 14),.unOp .not 4 (.tmp 13),4,"",⟨[]⟩,none⟩,none,false⟩,⟨⟨(some 15),.move (.tmp 14),4,"",⟨[]⟩,none⟩,none,false⟩,⟨⟨(some 16),.move (.tmp 3),3,"",⟨[]⟩,none⟩,some ((some 15),false),false⟩,⟨⟨(some 17),.binOp .gtr 3 (.tmp 16) (.const (.int .i64 0)) 3,4,"",⟨[]⟩,none⟩,some ((some 15),false),false⟩,⟨⟨(some 18),.move (.tmp 17),4,"",⟨[]⟩,none⟩,some ((some 15),false),false⟩,⟨⟨(some 19),.move (.tmp 4),3,"",⟨[]⟩,none⟩,some ((some 18),true),false⟩,⟨⟨(some 20),.move (.tmp 0),22,"",⟨[]⟩,none⟩,some ((some 18),true),false⟩,⟨⟨(some 21),.move (.tmp 3),3,"",⟨[]⟩,none⟩,some ((some 18),true),false⟩,⟨⟨(some 22),.binOp .sub 3 (.tmp 21) (.const (.int .i64 1)) 3,3,"",⟨[]⟩,none⟩,some ((some 18),true),false⟩,⟨⟨(some 23),.indexAddr 22 (.tmp 20) (.tmp 22),0,"",⟨[]⟩,none⟩,some ((some 18),true),false⟩,⟨⟨(some 24),.load 3 (.tmp 23),3,"",⟨[]⟩,none⟩,some ((some 18),true),false⟩,⟨⟨(some 25),.binOp .geq 3 (.tmp 19) (.tmp 24) 3,4,"",⟨[]⟩,none⟩,some ((some 18),true),false⟩,⟨⟨(some 26),.pick (.tmp 18) (.tmp 25) (.const (.bool false)),4,"",⟨[]⟩,none⟩,some ((some 15),false),false⟩,⟨⟨(some 27),.pick (.tmp 15) (.const (.bool true)) (.tmp 26),4,"",⟨[]⟩,none⟩,none,false⟩]) (.cond (.tmp 27) (.seq (.ops false [⟨⟨(some 2),.assign (.const (.bool false)),4,"",⟨[]⟩,none⟩,none,false⟩]) .ret) .skip)))) (.ops false [⟨⟨(some 28),.binOp .add 3 (.tmp 7) (.const (.int .i64 1)) 3,3,"",⟨[]⟩,none⟩,none,false⟩,⟨⟨(some 7),.move (.tmp 28),3,"",⟨[]⟩,none⟩,none,false⟩]))))))) (.seq (.ops false [⟨⟨(some 29),.move (.tmp 0),22,"",⟨[]⟩,none⟩,none,false⟩,⟨⟨(some 30),.call ⟨.builtin .len,⟨[(.tmp 29)]⟩,⟨[22]⟩⟩,3,"",⟨[]⟩,none⟩,none,false⟩,⟨⟨(some 31),.call ⟨.value (.func 80),⟨[(.tmp 30),(.const (.int .i64 1)),(.const (.int .i64 8))]⟩,⟨[3,3,3]⟩⟩,4,"",⟨[]⟩,none⟩,none,false⟩,⟨⟨(some 2),.assign (.tmp 31),4,"",⟨[]⟩,none⟩,none,false⟩]) .ret)))
def Tryz.s55 : SC := (.seq (.ops false [⟨⟨(some 2),.box 24 (.tmp 0),0,"",⟨[]⟩,none⟩,none,false⟩,⟨⟨(some 4),.assign (.const (.bool false)),4,"",⟨[]⟩,none⟩,none,false⟩]) (.seq (.ops false [⟨⟨(some 5),.move (.tmp 1),22,"",⟨[]⟩,none⟩,none,false⟩,⟨⟨(some 6),.call ⟨.builtin .len,⟨[(.tmp 5)]⟩,⟨[22]⟩⟩,3,"",⟨[]⟩,none⟩,none,false⟩,⟨⟨(some 7),.fieldAddr 24 (.tmp 2) 0,0,"",⟨[]⟩,none⟩,none,false⟩,⟨⟨(some 8),.load 22 (.tmp 7),22,"",⟨[]⟩,none⟩,none,false⟩,⟨⟨(some 9),.call ⟨.builtin .len,⟨[(.tmp 8)]⟩,⟨[22]⟩⟩,3,"",⟨[]⟩,none⟩,none,false⟩,⟨⟨(some 10),.binOp .eql 3 (.tmp 6) (.tmp 9) 3,4,"",⟨[]⟩,none⟩,none,false⟩,⟨⟨(some 11),.move (.tmp 10),4,"",⟨[]⟩,none⟩,none,false⟩,⟨⟨(some 12),.move (.tmp 1),22,"",⟨[]⟩,none⟩,some ((some 11),true),false⟩,⟨⟨(some 13),.call ⟨.value (.func 62),⟨[(.tmp 12),(.func 97)]⟩,⟨[22,98]⟩⟩,4,"",⟨[]⟩,none⟩,some ((some 11),true),false⟩,⟨⟨(some 14),.pick (.tmp 11) (.tmp 13) (.const (.bool false)),4,"",⟨[]⟩,none⟩,none,false⟩,⟨⟨(some 4),.assign (.tmp 14),4,"",⟨[]⟩,none⟩,none,false⟩]) .ret))
def Tryz.s17 : SC := (.seq (.ops false [⟨⟨(some 1),.box 24 (.tmp 0),0,"",⟨[]⟩,none⟩,none,false⟩,⟨⟨(some 2),.assign (.const (.int .i64 0)),26,"",⟨[]⟩,none⟩,none,false⟩]) (.seq (.seq (.ops false [⟨⟨(some 3),.fieldAddr 24 (.tmp 1) 0,0,"",⟨[]⟩,none⟩,none,false⟩,⟨⟨(some 4),.load 22 (.tmp 3),22,"",⟨[]⟩,none⟩,none,false⟩,⟨⟨(some 5),.call ⟨.value (.func 54),⟨[(.tmp 4)]⟩,⟨[22]⟩⟩,4,"",⟨[]⟩,none⟩,none,false⟩,⟨⟨(some 6),.unOp .not 4 (.tmp 5),4,"",⟨[]⟩,none⟩,none,false⟩,⟨⟨(some 7),.move (.tmp 6),4,"",⟨[]⟩,none⟩,none,false⟩,⟨⟨(some 8),.load 24 (.tmp 1),24,"",⟨[]⟩,none⟩,some ((some 7),false),false⟩,⟨⟨(some 9),.fieldAddr 24 (.tmp 1) 1,0,"",⟨[]⟩,none⟩,some ((some 7),false),false⟩,⟨⟨(some 10),.load 22 (.tmp 9),22,"",⟨[]⟩,none⟩,some ((some 7),false),false⟩,⟨⟨(some 11),.call ⟨.value (.func 55),⟨[(.tmp 8),(.tmp 10)]⟩,⟨[24,22]⟩⟩,4,"",⟨[]⟩,none⟩,some ((some 7),false),false⟩,⟨⟨(some 12),.unOp .not 4 (.tmp 11),4,"",⟨[]⟩,none⟩,some ((some 7),false),false⟩,⟨⟨(some 13),.pick (.tmp 7) (.const (.bool true)) (.tmp 12),4,"",⟨[]⟩,none⟩,none,false⟩]) (.cond (.tmp 13) (.seq (.ops false [⟨⟨(some 2),.assign (.const (.int .i64 80)),26,"",⟨[]⟩,none⟩,none,false⟩]) .ret) .skip)) (.seq (.ops false [⟨⟨(some 2),.assign (.const (.int .i64 0)),26,"",⟨[]⟩,none⟩,none,false⟩]) .ret)))
def Tryz.s40 : SC := (.seq (.ops false [⟨⟨(some 6),.assign (.const (.bool false)),4,"",⟨[]⟩,none⟩,none,false⟩]) (.seq (.ops false [⟨⟨(some 7),.move (.tmp 0),3,"",⟨[]⟩,none⟩,none,false⟩,⟨⟨(some 8),.move (.tmp 1),3,"",⟨[]⟩,none⟩,none,false⟩,⟨⟨(some 9),.binOp .leq 3 (.tmp 7) (.tmp 8) 3,4,"",⟨[]⟩,none⟩,none,false⟩,⟨⟨(some 10),.move (.tmp 9),4,"",⟨[]⟩,none⟩,none,false⟩,⟨⟨(some 11),.move (.tmp 1),3,"",⟨[]⟩,none⟩,some ((some 10),true),false⟩,⟨⟨(some 12),.move (.tmp 2),3,"",⟨[]⟩,none⟩,some ((some 10),true),false⟩,⟨⟨(some 13),.binOp .leq 3 (.tmp 11) (.tmp 12) 3,4,"",⟨[]⟩,none⟩,some ((some 10),true),false⟩,⟨⟨(some 14),.pick (.tmp 10) (.tmp 13) (.const (.bool false)),4,"",⟨[]⟩,none⟩,none,false⟩,⟨⟨(some 6),.assign (.tmp 14),4,"",⟨[]⟩,none⟩,none,false⟩]) .ret))
def Tryz.s14 : SC := (.seq (.ops false [⟨⟨(some 2),.box 24 (.tmp 0),0,"",⟨[]⟩,none⟩,none,false⟩,⟨⟨(some 4),.assign (.const (.slice none 0 0)),22,"",⟨[]⟩,none⟩,none,false⟩,⟨⟨(some 5),.assign (.const (.int .i64 0)),26,"",⟨[]⟩,none⟩,none,false⟩]) (.seq (.seq (.ops false [⟨⟨(some 7),.load 24 (.tmp 2),24,"",⟨[]⟩,none⟩,none,false⟩,⟨⟨(some 8),.call ⟨.value (.func 17),⟨[(.tmp 7)]⟩,⟨[24]⟩⟩,26,"",⟨[]⟩,none⟩,none,false⟩,⟨⟨(some 6),.assign (.tmp 8),26,"",⟨[]⟩,none⟩,none,false⟩]) (.seq (.ops false [⟨⟨(some 9),.move (.tmp 6),26,"",⟨[]⟩,none⟩,none,false⟩,⟨⟨(some 10),.binOp .neq 26 (.tmp 9) (.const (.int .i64 0)) 26,4,"",⟨[]⟩,none⟩,none,false⟩]) (.cond (.tmp 10) (.seq (.ops false [⟨⟨(some 11),.move (.tmp 6),26,"",⟨[]⟩,none⟩,none,false⟩,⟨⟨(some 4),.assign (.const (.slice none 0 0)),22,"",⟨[]⟩,none⟩,none,false⟩,⟨⟨(some 5),.assign (.tmp 11),26,"",⟨[]⟩,none⟩,none,false⟩]) .ret) .skip))) (.seq (.ops false [⟨⟨(some 12),.load 24 (.tmp 2),24,"",⟨[]⟩,none⟩,none,false⟩,⟨⟨(some 13),.move (.tmp 1),3,"",⟨[]⟩,none⟩,none,false⟩,⟨⟨(some 14),.call ⟨.value (.func 52),⟨[(.tmp 12),(.tmp 13)]⟩,⟨[24,3]⟩⟩,27,"",⟨[]⟩,none⟩,none,false⟩,⟨⟨(some 15),.extract (.tmp 14) 0,22,"",⟨[]⟩,none⟩,none,false⟩,⟨⟨(some 16),.extract (.tmp 14) 1,26,"",⟨[]⟩,none⟩,none,false⟩,⟨⟨(some 4),.assign (.tmp 15),22,"",⟨[]⟩,none⟩,none,false⟩,⟨⟨(some 5),.assign (.tmp 16),26,"",⟨[]⟩,none⟩,none,false⟩]) .ret)))
def Tryz.s19 : SC := (.seq (.ops false [⟨⟨(some 3),.box 24 (.tmp 0),0,"",⟨[]⟩,none⟩,none,false⟩,⟨⟨(some 6),.assign (.const (.slice none 0 0)),22,"",⟨[]⟩,none⟩,none,false⟩,⟨⟨(some 7),.assign (.const (.int .i64 0)),26,"",⟨[]⟩,none⟩,none,false⟩]) (.seq (.seq (.ops false [⟨⟨(some 13),.load 24 (.tmp 3),24,"",⟨[]⟩,none⟩,none,false⟩,⟨⟨(some 14),.call ⟨.value (.func 17),⟨[(.tmp 13)]⟩,⟨[24]⟩⟩,26,"",⟨[]⟩,none⟩,none,false⟩,⟨⟨(some 8),.assign (.tmp 14),26,"",⟨[]⟩,none⟩,none,false⟩]) (.seq (.ops false [⟨⟨(some 15),.move (.tmp 8),26,"",⟨[]⟩,none⟩,none,false⟩,⟨⟨(some 16),.binOp .neq 26 (.tmp 15) (.const (.int .i64 0)) 26,4,"",⟨[]⟩,none⟩,none,false⟩]) (.cond (.tmp 16) (.seq (.ops false [⟨⟨(some 17),.move (.tmp 8),26,"",⟨[]⟩,none⟩,none,false⟩,⟨⟨(some 6),.assign (.const (.slice none 0 0)),22,"",⟨[]⟩,none⟩,none,false⟩,⟨⟨(some 7),.assign (.tmp 17),26,"",⟨[]⟩,none⟩,none,false⟩]) .ret) .skip))) (.seq (.seq (.ops false [⟨⟨(some 18),.load 24 (.tmp 3),24,"",⟨[]⟩,none⟩,none,false⟩,⟨⟨(some 19),.move (.tmp 1),22,"",⟨[]⟩,none⟩,none,false⟩,⟨⟨(some 20),.call ⟨.value (.func 55),⟨[(.tmp 18),(.tmp 19)]⟩,⟨[24,22]⟩⟩,4,"",⟨[]⟩,none⟩,none,false⟩,⟨⟨(some 21),.unOp .not 4 (.tmp 20),4,"",⟨[]⟩,none⟩,none,false⟩,⟨⟨(some 22),.move (.tmp 21),4,"",⟨[]⟩,none⟩,none,false⟩,⟨⟨(some 23),.move (.tmp 2),3,"",⟨[]⟩,none⟩,some ((some 22),false),false⟩,⟨⟨(some 24),.binOp .lss 3 (.tmp 23) (.const (.int .i64 0)) 3,4,"",⟨[]⟩,none⟩,some ((some 22),false),false⟩,⟨⟨(some 25),.pick (.tmp 22) (.const (.bool true)) (.tmp 24),4,"",⟨[]⟩,none⟩,none,false⟩]) (.cond (.tmp 25) (.seq (.ops false [⟨⟨(some 6),.assign (.const (.slice none 0 0)),22,"",⟨[]⟩,none⟩,none,false⟩,⟨⟨(some 7),.assign (.const (.int .i64 7)),26,"",⟨[]⟩,none⟩,none,false⟩]) .ret) .skip)) (.seq (.ops false [⟨⟨(some 26),.move (.tmp 2),3,"",⟨[]⟩,none⟩,none,false⟩,⟨⟨(some 27),.unOp .neg 3 (.tmp 26),3,"",⟨[]⟩,none⟩,none,false⟩,⟨⟨(some 9),.assign (.tmp 27),3,"",⟨[]⟩,none⟩,none,false⟩]) (.seq (.ops false [⟨⟨(some 28),.fieldAddr 24 (.tmp 3) 0,0,"",⟨[]⟩,none⟩,none,false⟩,⟨⟨(some 29),.load 22 (.tmp 28),22,"",⟨[]⟩,none⟩,none,false⟩,⟨⟨(some 30),.build 24 ⟨[(0,(.tmp 29))]⟩,24,"",⟨[]⟩,none⟩,none,false⟩,⟨⟨(some 10),.alloc 24,0,"",⟨[]⟩,none⟩,none,false⟩,⟨⟨none,.store 24 (.tmp 10) (.tmp 30),0,"",⟨[]⟩,none⟩,none,false⟩]) (.seq (.seq (.ops false [⟨⟨(some 31),.move (.tmp 1),22,"",⟨[]⟩,none⟩,none,false⟩,⟨⟨(some 32),.call ⟨.builtin .len,⟨[(.tmp 31)]⟩,⟨[22]⟩⟩,3,"",⟨[]⟩,none⟩,none,false⟩,⟨⟨(some 33),.move (.const (.int .i64 0)),3,"",⟨[]⟩,none⟩,none,false⟩]) (.block 0 (.loop (.seq (.ops false [⟨⟨(some 34),.binOp .lss 3 (.tmp 33) (.tmp 32) 3,0,"",⟨[]⟩,none⟩,none,false⟩]) (.seq (.cond (.tmp 34) .skip (.exit 0)) (.seq (.block 1 (.seq (.ops false [⟨⟨(some 35),.move (.tmp 33),3,"",⟨[]⟩,none⟩,none,false⟩,⟨⟨(some 36),.indexAddr 22 (.tmp 31) (.tmp 33),0,"",⟨[]⟩,none⟩,none,false⟩,⟨⟨(some 37),.load 3 (.tmp 36),3,"",⟨[]⟩,none⟩,none,false⟩,⟨⟨(some 11),.assign (.tmp 35),3,"",⟨[]⟩,none⟩,none,false⟩,⟨⟨(some 12),.assign (.tmp 37),3,"",⟨[]⟩,none⟩,none,false⟩]) (.seq (.ops false [⟨⟨(some 38),.move (.tmp 9),3,"",⟨[]⟩,none⟩,none,false⟩,⟨⟨(some 39),.move (.tmp 12),3,"",⟨[]⟩,none⟩,none,false⟩,⟨⟨(some 40),.fieldAddr 24 (.tmp 3) 0,0,"",⟨[]⟩,none⟩,none,false⟩,⟨⟨(some 41),.load 22 (.tmp 40),22,"",⟨[]⟩,none⟩,none,false⟩,⟨⟨(some 42),.move (.tmp 11),3,"",⟨[]⟩,none⟩,none,false⟩,⟨⟨(some 43),.indexAddr 22 (.tmp 41) (.tmp 42),0,"",⟨[]⟩,none⟩,none,false⟩,⟨⟨(some 44),.load 3 (.tmp 43),3,"",⟨[]⟩,none⟩,none,false⟩,⟨⟨(some 45),.binOp .mul 3 (.tmp 39) (.tmp 44) 3,3,"",⟨[]⟩,none⟩,none,false⟩,⟨⟨(some 46),.binOp .add 3 (.tmp 38) (.tmp 45) 3,3,"",⟨[]⟩,none⟩,none,false⟩,⟨⟨(some 9),.assign (.tmp 46),3,"",⟨[]⟩,none⟩,none,false⟩]) (.ops true [⟨⟨(some 47),.fieldAddr 24 (.tmp 10) 1,0,"",⟨[]⟩,none⟩,none,true⟩,⟨⟨(some 48),.load 22 (.tmp 47),22,"",⟨[]⟩,none⟩,none,true⟩,⟨⟨(some 49),.fieldAddr 24 (.tmp 3) 1,0,"",⟨[]⟩,none⟩,none,true⟩,⟨⟨(some 50),.load 22 (.tmp 49),22,"",⟨[]⟩,none⟩,none,true⟩,⟨⟨(some 51),.move (.tmp 11),3,"",⟨[]⟩,none⟩,none,true⟩,⟨⟨(some 52),.indexAddr 22 (.tmp 50) (.tmp 51),0,"",⟨[]⟩,none⟩,none,true⟩,⟨⟨(some 53),.load 3 (.tmp 52),3,"",⟨[]⟩,none⟩,none,true⟩,⟨⟨(some 54),.move (.tmp 12),3,"",⟨[]⟩,none⟩,none,true⟩,⟨⟨(some 55),.binOp .add 3 (.tmp 53) (.tmp 54) 3,3,"",⟨[]⟩,none⟩,none,true⟩,⟨⟨(some 56),.buildSlice 22 1 ⟨[(0,(.tmp 55))]⟩,22,"",⟨[]⟩,none⟩,none,true⟩,⟨⟨(some 57),.call ⟨.builtin .append,⟨[(.tmp 48),(.tmp 56)]⟩,⟨[22,22]⟩⟩,22,"",⟨[]⟩,none⟩,none,false⟩,⟨⟨(some 58),.fieldAddr 24 (.tmp 10) 1,0,"",⟨[]⟩,none⟩,none,true⟩,⟨⟨none,.store 22 (.tmp 58) (.tmp 57),0,"",⟨[]⟩,none⟩,none,false⟩])))) (.ops false [⟨⟨(some 59),.binOp .add 3 (.tmp 33) (.const (.int .i64 1)) 3,3,"",⟨[]⟩,none⟩,none,false⟩,⟨⟨(some 33),.move (.tmp 59),3,"",⟨[]⟩,none⟩,none,false⟩]))))))) (.seq (.seq (.ops false [⟨⟨(some 60),.move (.tmp 9),3,"",⟨[]⟩,none⟩,none,false⟩,⟨⟨(some 61),.binOp .lss 3 (.tmp 60) (.const (.int .i64 0)) 3,4,"",⟨[]⟩,none⟩,none,false⟩]) (.cond (.tmp 61) (.seq (.ops false [⟨⟨(some 6),.assign (.const (.slice none 0 0)),22,"",⟨[]⟩,none⟩,none,false⟩,⟨⟨(some 7),.assign (.const (.int .i64 81)),26,"",⟨[]⟩,none⟩,none,false⟩]) .ret) .skip)) (.seq (.ops false [⟨⟨(some 62),.load 24 (.tmp 10),24,"",⟨[]⟩,none⟩,none,false⟩,⟨⟨(some 63),.move (.tmp 9),3,"",⟨[]⟩,none⟩,none,false⟩,⟨⟨(some 64),.call ⟨.value (.func 52),⟨[(.tmp 62),(.tmp 63)]⟩,⟨[24,3]⟩⟩,27,"",⟨[]⟩,none⟩,none,false⟩,⟨⟨(some 65),.extract (.tmp 64) 0,22,"",⟨[]⟩,none⟩,none,false⟩,⟨⟨(some 66),.extract (.tmp 64) 1,26,"",⟨[]⟩,none⟩,none,false⟩,⟨⟨(some 6),.assign (.tmp 65),22,"",⟨[]⟩,none⟩,none,false⟩,⟨⟨(some 7),.assign (.tmp 66),26,"",⟨[]⟩,none⟩,none,false⟩]) .ret))))))))
def Tryz.s52 : SC := (.seq (.ops false [⟨⟨(some 2),.box 24 (.tmp 0),0,"",⟨[]⟩,none⟩,none,false⟩,⟨⟨(some 4),.assign (.const (.slice none 0 0)),22,"",⟨[]⟩,none⟩,none,false⟩,⟨⟨(some 5),.assign (.const (.int .i64 0)),26,"",⟨[]⟩,none⟩,none,false⟩]) (.seq (.seq (.ops false [⟨⟨(some 11),.move (.tmp 1),3,"",⟨[]⟩,none⟩,none,false⟩,⟨⟨(some 12),.call ⟨.value (.func 80),⟨[(.tmp 11),(.const (.int .i64 0)),(.const (.int .i64 2000))]⟩,⟨[3,3,3]⟩⟩,4,"",⟨[]⟩,none⟩,none,false⟩,⟨⟨(some 13),.unOp .not 4 (.tmp 12),4,"",⟨[]⟩,none⟩,none,false⟩]) (.cond (.tmp 13) (.seq (.ops false [⟨⟨(some 4),.assign (.const (.slice none 0 0)),22,"",⟨[]⟩,none⟩,none,false⟩,⟨⟨(some 5),.assign (.const (.int .i64 7)),26,"",⟨[]⟩,none⟩,none,false⟩]) .ret) .skip)) (.seq (.ops false [⟨⟨(some 14),.load 24 (.tmp 2),24,"",⟨[]⟩,none⟩,none,false⟩,⟨⟨(some 15),.call ⟨.value (.func 95),⟨[(.tmp 14)]⟩,⟨[24]⟩⟩,149,"",⟨[]⟩,none⟩,none,false⟩,⟨⟨(some 6),.assign (.tmp 15),149,"",⟨[]⟩,none⟩,none,false⟩]) (.seq (.seq (.ops false [⟨⟨(some 16),.move (.tmp 6),149,"",⟨[]⟩,none⟩,none,false⟩,⟨⟨(some 17),.move (.tmp 1),3,"",⟨[]⟩,none⟩,none,false⟩,⟨⟨(some 18),.build 154 ⟨[(1,(.tmp 17))]⟩,154,"",⟨[]⟩,none⟩,none,false⟩,⟨⟨(some 19),.call ⟨.value (.tmp 16),⟨[(.tmp 18)]⟩,⟨[154]⟩⟩,152,"",⟨[]⟩,none⟩,none,false⟩,⟨⟨(some 20),.field 152 (.tmp 19) 1,3,"",⟨[]⟩,none⟩,none,false⟩,⟨⟨(some 21),.binOp .eql 3 (.tmp 20) (.const (.int .i64 1048576)) 3,4,"",⟨[]⟩,none⟩,none,false⟩]) (.cond (.tmp 21) (.seq (.ops false [⟨⟨(some 4),.assign (.const (.slice none 0 0)),22,"",⟨[]⟩,none⟩,none,false⟩,⟨⟨(some 5),.assign (.const (.int .i64 4)),26,"",⟨[]⟩,none⟩,none,false⟩]) .ret) .skip)) (.seq (.ops false [⟨⟨(some 7),.assign (.const (.slice none 0 0)),22,"",⟨[]⟩,none⟩,none,false⟩]) (.seq (.seq (.ops false [⟨⟨(some 22),.fieldAddr 24 (.tmp 2) 0,0,"",⟨[]⟩,none⟩,none,false⟩,⟨⟨(some 23),.load 22 (.tmp 22),22,"",⟨[]⟩,none⟩,none,false⟩,⟨⟨(some 24),.call ⟨.builtin .len,⟨[(.tmp 23)]⟩,⟨[22]⟩⟩,3,"",⟨[]⟩,none⟩,none,false⟩,⟨⟨(some 25),.move (.const (.int .i64 0)),3,"",⟨[]⟩,none⟩,none,false⟩]) (.block 0 (.loop (.seq (.ops false [⟨⟨(some 26),.binOp .lss 3 (.tmp 25) (.tmp 24) 3,0,"",⟨[]⟩,none⟩,none,false⟩]) (.seq (.cond (.tmp 26) .skip (.exit 0)) (.seq (.block 1 (.seq (.ops false [⟨⟨(some 27),.move (.tmp 25),3,"",⟨[]⟩,none⟩,none,false⟩,⟨⟨(some 28),.indexAddr 22 (.tmp 23) (.tmp 25),0,"",⟨[]⟩,none⟩,none,false⟩,⟨⟨(some 29),.load 3 (.tmp 28),3,"",⟨[]⟩,none⟩,none,false⟩,⟨⟨(some 8),.assign (.tmp 27),3,"",⟨[]⟩,none⟩,none,false⟩,⟨⟨(some 9),.assign (.tmp 29),3,"",⟨[]⟩,none⟩,none,false⟩]) (.seq (.ops false [⟨⟨(some 30),.move (.tmp 6),149,"",⟨[]⟩,none⟩,none,false⟩,⟨⟨(some 31),.move (.tmp 8),3,"",⟨[]⟩,none⟩,none,false⟩,⟨⟨(some 32),.move (.tmp 1),3,"",⟨[]⟩,none⟩,none,false⟩,⟨⟨(some 33),.build 154 ⟨[(0,(.tmp 31)),(1,(.tmp 32))]⟩,154,"",⟨[]⟩,none⟩,none,false⟩,⟨⟨(some 34),.call ⟨.value (.tmp 30),⟨[(.tmp 33)]⟩,⟨[154]⟩⟩,152,"",⟨[]⟩,none⟩,none,false⟩,⟨⟨(some 35),.field 152 (.tmp 34) 0,3,"",⟨[]⟩,none⟩,none,false⟩,⟨⟨(some 10),.assign (.tmp 35),3,"",⟨[]⟩,none⟩,none,false⟩]) (.seq (.ops false [⟨⟨(some 36),.move (.tmp 7),22,"",⟨[]⟩,none⟩,none,false⟩,⟨⟨(some 37),.move (.tmp 10),3,"",⟨[]⟩,none⟩,none,false⟩,⟨⟨(some 38),.buildSlice 22 1 ⟨[(0,(.tmp 37))]⟩,22,"",⟨[]⟩,none⟩,none,false⟩,⟨⟨(some 39),.call ⟨.builtin .append,⟨[(.tmp 36),(.tmp 38)]⟩,⟨[22,22]⟩⟩,22,"",⟨[]⟩,none⟩,none,false⟩,⟨⟨(some 7),.assign (.tmp 39),22,"",⟨[]⟩,none⟩,none,false⟩]) (.ops false [⟨⟨(some 40),.move (.tmp 1),3,"",⟨[]⟩,none⟩,none,false⟩,⟨⟨(some 41),.move (.tmp 10),3,"",⟨[]⟩,none⟩,none,false⟩,⟨⟨(some 42),.move (.tmp 9),3,"",⟨[]⟩,none⟩,none,false⟩,⟨⟨(some 43),.binOp .mul 3 (.tmp 41) (.tmp 42) 3,3,"",⟨[]⟩,none⟩,none,false⟩,⟨⟨(some 44),.binOp .sub 3 (.tmp 40) (.tmp 43) 3,3,"",⟨[]⟩,none⟩,none,false⟩,⟨⟨(some 1),.assign (.tmp 44),3,"",⟨[]⟩,none⟩,none,false⟩]))))) (.ops false [⟨⟨(some 45),.binOp .add 3 (.tmp 25) (.const (.int .i64 1)) 3,3,"",⟨[]⟩,none⟩,none,false⟩,⟨⟨(some 25),.move (.tmp 45),3,"",⟨[]⟩,none⟩,none,false⟩]))))))) (.seq (.ops false [⟨⟨(some 46),.move (.tmp 7),22,"",⟨[]⟩,none⟩,none,false⟩,⟨⟨(some 4),.assign (.tmp 46),22,"",⟨[]⟩,none⟩,none,false⟩,⟨⟨(some 5),.assign (.const (.int .i64 0)),26,"",⟨[]⟩,none⟩,none,false⟩]) .ret)))))))
def Tryz.s95 : SC := (.seq (.ops false [⟨⟨(some 1),.box 24 (.tmp 0),0,"",⟨[]⟩,none⟩,none,false⟩,⟨⟨(some 2),.assign (.const .nilFunc),149,"",⟨[]⟩,none⟩,none,false⟩]) (.seq (.ops false [⟨⟨(some 5),.makeMap 180 none,180,"",⟨[]⟩,none⟩,none,false⟩,⟨⟨(some 6),.fieldAddr 24 (.tmp 1) 0,0,"",⟨[]⟩,none⟩,none,false⟩,⟨⟨(some 7),.load 22 (.tmp 6),22,"",⟨[]⟩,none⟩,none,false⟩,⟨⟨(some 8),.call ⟨.builtin .len,⟨[(.tmp 7)]⟩,⟨[22]⟩⟩,3,"",⟨[]⟩,none⟩,none,false⟩,⟨⟨(some 9),.build 154 ⟨[(0,(.tmp 8))]⟩,154,"",⟨[]⟩,none⟩,none,false⟩,⟨⟨(some 10),.build 152 ⟨[]⟩,152,"",⟨[]⟩,none⟩,none,false⟩,⟨⟨none,.insert 180 (.tmp 5) (.tmp 9) (.tmp 10),0,"",⟨[]⟩,none⟩,none,false⟩,⟨⟨(some 11),.move (.tmp 5),180,"",⟨[]⟩,none⟩,none,false⟩,⟨⟨(some 3),.alloc 180,0,"",⟨[]⟩,none⟩,none,false⟩,⟨⟨none,.store 180 (.tmp 3) (.tmp 11),0,"",⟨[]⟩,none⟩,none,false⟩]) (.seq (.ops false [⟨⟨(some 4),.alloc 149,0,"",⟨[]⟩,none⟩,none,false⟩]) (.seq (.ops false [⟨⟨(some 12),.makeFunc (.func 132) ⟨[]⟩ ⟨[(.tmp 3),(.tmp 1),(.tmp 4)]⟩,149,"",⟨[]⟩,none⟩,none,false⟩,⟨⟨none,.store 149 (.tmp 4) (.tmp 12),0,"",⟨[]⟩,none⟩,none,false⟩]) (.seq (.ops false [⟨⟨(some 13),.load 149 (.tmp 4),149,"",⟨[]⟩,none⟩,none,false⟩,⟨⟨(some 2),.assign (.tmp 13),149,"",⟨[]⟩,none⟩,none,false⟩]) .ret)))))
def Tryz.s132 : SC := (.seq (.ops false [⟨⟨(some 4),.box 154 (.tmp 0),0,"",⟨[]⟩,none⟩,none,false⟩,⟨⟨(some 5),.alloc 152,0,"",⟨[]⟩,none⟩,none,false⟩]) (.seq (.ops false [⟨⟨(some 12),.load 180 (.tmp 1),180,"",⟨[]⟩,none⟩,none,false⟩,⟨⟨(some 13),.load 154 (.tmp 4),154,"",⟨[]⟩,none⟩,none,false⟩,⟨⟨(some 14),.lookup 180 (.tmp 12) (.tmp 13) true,181,"",⟨[]⟩,none⟩,none,false⟩,⟨⟨(some 11),.move (.tmp 14),181,"",⟨[]⟩,none⟩,none,false⟩,⟨⟨(some 15),.extract (.tmp 11) 0,152,"",⟨[]⟩,none⟩,none,false⟩,⟨⟨(some 16),.extract (.tmp 11) 1,4,"",⟨[]⟩,none⟩,none,false⟩,⟨⟨(some 6),.alloc 152,0,"",⟨[]⟩,none⟩,none,false⟩,⟨⟨none,.store 152 (.tmp 6) (.tmp 15),0,"",⟨[]⟩,none⟩,none,false⟩,⟨⟨(some 7),.assign (.tmp 16),4,"",⟨[]⟩,none⟩,none,false⟩]) (.seq (.seq (.ops false [⟨⟨(some 17),.move (.tmp 7),4,"",⟨[]⟩,none⟩,none,false⟩]) (.cond (.tmp 17) (.seq (.ops false [⟨⟨(some 18),.load 152 (.tmp 6),152,"",⟨[]⟩,none⟩,none,false⟩,⟨⟨none,.store 152 (.tmp 5) (.tmp 18),0,"",⟨[]⟩,none⟩,none,false⟩]) .ret) .skip)) (.seq (.ops false [⟨⟨(some 19),.fieldAddr 152 (.tmp 6) 1,0,"",⟨[]⟩,none⟩,none,false⟩,⟨⟨none,.store 3 (.tmp 19) (.const (.int .i64 1048576)),0,"",⟨[]⟩,none⟩,none,false⟩]) (.seq (.seq (.ops false [⟨⟨(some 20),.fieldAddr 154 (.tmp 4) 0,0,"",⟨[]⟩,none⟩,none,false⟩,⟨⟨(some 21),.load 3 (.tmp 20),3,"",⟨[]⟩,none⟩,none,false⟩,⟨⟨(some 22),.fieldAddr 24 (.tmp 2) 0,0,"",⟨[]⟩,none⟩,none,false⟩,⟨⟨(some 23),.load 22 (.tmp 22),22,"",⟨[]⟩,none⟩,none,false⟩,⟨⟨(some 24),.call ⟨.builtin .len,⟨[(.tmp 23)]⟩,⟨[22]⟩⟩,3,"",⟨[]⟩,none⟩,none,false⟩,⟨⟨(some 25),.binOp .lss 3 (.tmp 21) (.tmp 24) 3,4,"",⟨[]⟩,none⟩,none,false⟩]) (.cond (.tmp 25) (.seq (.ops false [⟨⟨(some 26),.fieldAddr 24 (.tmp 2) 0,0,"",⟨[]⟩,none⟩,none,false⟩,⟨⟨(some 27),.load 22 (.tmp 26),22,"",⟨[]⟩,none⟩,none,false⟩,⟨⟨(some 28),.fieldAddr 154 (.tmp 4) 0,0,"",⟨[]⟩,none⟩,none,false⟩,⟨⟨(some 29),.load 3 (.tmp 28),3,"",⟨[]⟩,none⟩,none,false⟩,⟨⟨(some 30),.indexAddr 22 (.tmp 27) (.tmp 29),0,"",⟨[]⟩,none⟩,none,false⟩,⟨⟨(some 31),.load 3 (.tmp 30),3,"",⟨[]⟩,none⟩,none,false⟩,⟨⟨(some 8),.assign (.tmp 31),3,"",⟨[]⟩,none⟩,none,false⟩]) (.seq (.ops true [⟨⟨(some 32),.fieldAddr 24 (.tmp 2) 1,0,"",⟨[]⟩,none⟩,none,true⟩,⟨⟨(some 33),.load 22 (.tmp 32),22,"",⟨[]⟩,none⟩,none,true⟩,⟨⟨(some 34),.fieldAddr 154 (.tmp 4) 0,0,"",⟨[]⟩,none⟩,none,true⟩,⟨⟨(some 35),.load 3 (.tmp 34),3,"",⟨[]⟩,none⟩,none,true⟩,⟨⟨(some 36),.indexAddr 22 (.tmp 33) (.tmp 35),0,"",⟨[]⟩,none⟩,none,true⟩,⟨⟨(some 37),.load 3 (.tmp 36),3,"",⟨[]⟩,none⟩,none,true⟩,⟨⟨(some 38),.fieldAddr 154 (.tmp 4) 1,0,"",⟨[]⟩,none⟩,none,true⟩,⟨⟨(some 39),.load 3 (.tmp 38),3,"",⟨[]⟩,none⟩,none,true⟩,⟨⟨(some 40),.move (.tmp 8),3,"",⟨[]⟩,none⟩,none,true⟩,⟨⟨(some 41),.binOp .quo 3 (.tmp 39) (.tmp 40) 3,3,"",⟨[]⟩,none⟩,none,true⟩,⟨⟨(some 42),.call ⟨.builtin .min,⟨[(.tmp 37),(.tmp 41)]⟩,⟨[3,3]⟩⟩,3,"",⟨[]⟩,none⟩,none,true⟩,⟨⟨(some 43),.binOp .add 3 (.tmp 42) (.const (.int .i64 1)) 3,3,"",⟨[]⟩,none⟩,none,true⟩,⟨⟨(some 44),.move (.const (.int .i64 0)),3,"",⟨[]⟩,none⟩,none,true⟩]) (.block 0 (.loop (.seq (.ops false [⟨⟨(some 45),.binOp .lss 3 (.tmp 44) (.tmp 43) 3,4,"",⟨[]⟩,none⟩,none,false⟩]) (.seq (.cond (.tmp 45) .skip (.exit 0)) (.seq (.block 1 (.seq (.ops false [⟨⟨(some 46),.move (.tmp 44),3,"",⟨[]⟩,none⟩,none,false⟩,⟨⟨(some 9),.assign (.tmp 46),3,"",⟨[]⟩,none⟩,none,false⟩]) (.seq (.ops false [⟨⟨(some 47),.load 149 (.tmp 3),149,"",⟨[]⟩,none⟩,none,false⟩,⟨⟨(some 48),.fieldAddr 154 (.tmp 4) 0,0,"",⟨[]⟩,none⟩,none,false⟩,⟨⟨(some 49),.load 3 (.tmp 48),3,"",⟨[]⟩,none⟩,none,false⟩,⟨⟨(some 50),.binOp .add 3 (.tmp 49) (.const (.int .i64 1)) 3,3,"",⟨[]⟩,none⟩,none,false⟩,⟨⟨(some 51),.fieldAddr 154 (.tmp 4) 1,0,"",⟨[]⟩,none⟩,none,false⟩,⟨⟨(some 52),.load 3 (.tmp 51),3,"",⟨[]⟩,none⟩,none,false⟩,⟨⟨(some 53),.move (.tmp 9),3,"",⟨[]⟩,none⟩,none,false⟩,⟨⟨(some 54),.move (.tmp 8),3,"",⟨[]⟩,none⟩,none,false⟩,⟨⟨(some 55),.binOp .mul 3 (.tmp 53) (.tmp 54) 3,3,"",⟨[]⟩,none⟩,none,false⟩,⟨⟨(some 56),.binOp .sub 3 (.tmp 52) (.tmp 55) 3,3,"",⟨[]⟩,none⟩,none,false⟩,⟨⟨(some 57),.build 154 ⟨[(0,(.tmp 50)),(1,(.tmp 56))]⟩,154,"",⟨[]⟩,none⟩,none,false⟩,⟨⟨(some 58),.call ⟨.value (.tmp 47),⟨[(.tmp 57)]⟩,⟨[154]⟩⟩,152,"",⟨[]⟩,none⟩,none,false⟩,⟨⟨(some 10),.alloc 152,0,"",⟨[]⟩,none⟩,none,false⟩,⟨⟨none,.store 152 (.tmp 10) (.tmp 58),0,"",⟨[]⟩,none⟩,none,false⟩]) (.seq (.ops false [⟨⟨(some 59),.move (.tmp 9),3,"",⟨[]⟩,none⟩,none,false⟩,⟨⟨(some 60),.fieldAddr 152 (.tmp 10) 1,0,"",⟨[]⟩,none⟩,none,false⟩,⟨⟨(some 61),.load 3 (.tmp 60),3,"",⟨[]⟩,none⟩,none,false⟩,⟨⟨(some 62),.binOp .add 3 (.tmp 59) (.tmp 61) 3,3,"",⟨[]⟩,none⟩,none,false⟩,⟨⟨(some 63),.fieldAddr 152 (.tmp 6) 1,0,"",⟨[]⟩,none⟩,none,false⟩,⟨⟨(some 64),.load 3 (.tmp 63),3,"",⟨[]⟩,none⟩,none,false⟩,⟨⟨(some 65),.binOp .leq 3 (.tmp 62) (.tmp 64) 3,4,"",⟨[]⟩,none⟩,none,false⟩]) (.cond (.tmp 65) (.ops false [⟨⟨(some 66),.move (.tmp 9),3,"",⟨[]⟩,none⟩,none,false⟩,⟨⟨(some 67),.move (.tmp 9),3,"",⟨[]⟩,none⟩,none,false⟩,⟨⟨(some 68),.fieldAddr 152 (.tmp 10) 1,0,"",⟨[]⟩,none⟩,none,false⟩,⟨⟨(some 69),.load 3 (.tmp 68),3,"",⟨[]⟩,none⟩,none,false⟩,⟨⟨(some 70),.binOp .add 3 (.tmp 67) (.tmp 69) 3,3,"",⟨[]⟩,none⟩,none,false⟩,⟨⟨(some 71),.build 152 ⟨[(0,(.tmp 66)),(1,(.tmp 70))]⟩,152,"",⟨[]⟩,none⟩,none,false⟩,⟨⟨none,.store 152 (.tmp 6) (.tmp 71),0,"",⟨[]⟩,none⟩,none,false⟩]) .skip))))) (.ops false [⟨⟨(some 72),.binOp .add 3 (.tmp 44) (.const (.int .i64 1)) 3,3,"",⟨[]⟩,none⟩,none,false⟩,⟨⟨(some 44),.move (.tmp 72),3,"",⟨[]⟩,none⟩,none,false⟩])))))))) .skip)) (.seq (.ops false [⟨⟨(some 73),.load 180 (.tmp 1),180,"",⟨[]⟩,none⟩,none,false⟩,⟨⟨(some 74),.load 154 (.tmp 4),154,"",⟨[]⟩,none⟩,none,false⟩,⟨⟨(some 75),.load 152 (.tmp 6),152,"",⟨[]⟩,none⟩,none,false⟩,⟨⟨none,.mapUpdate 180 (.tmp 73) (.tmp 74) (.tmp 75),0,"",⟨[]⟩,none⟩,none,false⟩]) (.seq (.ops false [⟨⟨(some 76),.load 152 (.tmp 6),152,"",⟨[]⟩,none⟩,none,false⟩,⟨⟨none,.store 152 (.tmp 5) (.tmp 76),0,"",⟨[]⟩,none⟩,none,false⟩]) .ret)))))))
theorem Tryz.s80_eq : Tryz.f80.body.map sOf = some Tryz.s80 := by kernel_rfl
theorem Tryz.s97_eq : Tryz.f97.body.map sOf = some Tryz.s97 := by kernel_rfl
theorem Tryz.s135_eq : Tryz.f135.body.map sOf = some Tryz.s135 := by kernel_rfl
theorem Tryz.s105_eq : Tryz.f105.body.map sOf = some Tryz.s105 := by kernel_rfl
theorem Tryz.s106_eq : Tryz.f106.body.map sOf = some Tryz.s106 := by kernel_rfl
theorem Tryz.s62_eq : Tryz.f62.body.map sOf = some Tryz.s62 := by kernel_rfl
theorem Tryz.s54_eq : Tryz.f54.body.map sOf = some Tryz.s54 := by kernel_rfl
theorem Tryz.s55_eq : Tryz.f55.body.map sOf = some Tryz.s55 := by kernel_rfl
theorem Tryz.s17_eq : Tryz.f17.body.map sOf = some Tryz.s17 := by kernel_rfl
theorem Tryz.s40_eq : Tryz.f40.body.map sOf = some Tryz.s40 := by kernel_rfl
theorem Tryz.s14_eq : Tryz.f14.body.map sOf = some Tryz.s14 := by kernel_rfl
theorem Tryz.s19_eq : Tryz.f19.body.map sOf = some Tryz.s19 := by kernel_rfl
theorem Tryz.s52_eq : Tryz.f52.body.map sOf = some Tryz.s52 := by kernel_rfl
theorem Tryz.s95_eq : Tryz.f95.body.map sOf = some Tryz.s95 := by kernel_rfl
theorem Tryz.s132_eq : Tryz.f132.body.map sOf = some Tryz.s132 := by kernel_rfl
end Go.Proofs

namespace Go.Proofs
open Go Go.RowKit Go.Sim
set_option maxRecDepth 100000
def bestV : List (Int × Int) → Int → Int × Int
  | [], s => if s = 0 then (0, 0) else (0, 1048576)
  | (c, h) :: l, s => (List.range ((min h (s.tdiv c)).toNat + 1)).foldl (fun p (n : Nat) => if (n : Int) + (bestV l (s - (n : Int) * c)).2 ≤ p.2 then ((n : Int), (n : Int) + (bestV l (s - (n : Int) * c)).2) else p) (0, 1048576)
def restV (k s : Int) : Value := .agg #[.int .i64 k, .int .i64 s]
def payV (p : Int × Int) : Value := .agg #[.int .i64 p.1, .int .i64 p.2]
theorem Tryz.agg3 : prun Tryz.prog (isAgg 3) = some false := by kernel_rfl
theorem eq154 (a b c d : Int) : prun Tryz.prog (Go.Op.equal 154 (restV a b) (restV c d)) = some ((a == c) && (b == d)) := by
  have h := eqStruct (P := Tryz.prog) (ty := 154) (xs := #[.int .i64 a, .int .i64 b]) (ys := #[.int .i64 c, .int .i64 d]) Tryz.underlying154 (by kernel_rfl) (n := 9999) (.cons (eqF_int (k := .i64) (by decide) Tryz.underlying3 Tryz.agg3 rfl rfl) (.cons (eqF_int (k := .i64) (by decide) Tryz.underlying3 Tryz.agg3 rfl rfl) .nil))
  show prun Tryz.prog (Go.Op.equalIn 10000 154 _ _) = _
  unfold restV
  rw [h]; simp
theorem fine154 (e : Bool) (a b : Int) : keyFine Tryz.prog 154 e (restV a b) = true := by
  cases e <;> kernel_rfl
theorem flat_rest (a b : Int) : flat 6 (restV a b) = true := rfl
theorem bits_rest (a b : Int) : Instr.sameBits 10000 (restV a b) (restV a b) = true := by
  unfold restV
  simp [Instr.sameBits]
def KnowsE (D : List (Int × Int)) (es : List MapEntry) : Prop := ∀ e ∈ es, ∃ (k : Nat) (s : Int), k ≤ D.length ∧ e.key = restV k s ∧ e.val = payV (bestV (D.drop k) s)
def KnowsAt (w : AW) (r : Nat) (D : List (Int × Int)) : Prop := ∃ es clock, w.blk r = some (.map es clock) ∧ KnowsE D es.toList ∧ ∃ e ∈ es.toList, e.key = restV D.length 0
theorem restV_inj {a b c d : Int} (h : restV a b = restV c d) : a = c ∧ b = d := by
  unfold restV at h; injection h with h; have := congrArg Array.toList h; simp at this; exact this
theorem ask_rest {D : List (Int × Int)} (k : Nat) (s : Int) : ∀ {es : List MapEntry} (i : Nat), KnowsE D es →
    (findAskQ Tryz.prog 154 (restV k s) es i = some none ∧ ∀ e ∈ es, e.key ≠ restV k s) ∨ ∃ j, i ≤ j ∧ findAskQ Tryz.prog 154 (restV k s) es i = some (some (j, payV (bestV (D.drop k) s))) ∧ ∃ e, es[j - i]? = some e ∧ e.key = restV k s
  | [], i, _ => .inl ⟨rfl, fun e he => by simp at he⟩
  | e :: es, i, h => by
    obtain ⟨k', s', hk, hke, hv⟩ := h e List.mem_cons_self
    have ht := ask_rest (es := es) k s (i + 1) fun x hx => h x (List.mem_cons_of_mem _ hx)
    have hq := eq154 k s k' s'
    simp only [findAskQ, hke, flat_rest, hq]
    by_cases he : ((k : Int) == (k' : Int) && s == s') = true
    · rw [he]
      simp only [Bool.and_eq_true, beq_iff_eq] at he
      obtain ⟨h1, rfl⟩ := he
      obtain rfl : k = k' := by omega
      exact .inr ⟨i, Nat.le_refl _, by simp only [hv], e, by simp, hke⟩
    · have he : ((k : Int) == (k' : Int) && s == s') = false := by simpa using he
      rw [he]
      rcases ht with ⟨q, qn⟩ | ⟨j, hj, q, e', g1, g2⟩
      · refine .inl ⟨q, fun x hx hxe => ?_⟩
        rcases List.mem_cons.1 hx with rfl | hx
        · rw [hke] at hxe
          obtain ⟨a1, a2⟩ := restV_inj hxe
          rw [← a1, ← a2] at he
          simp at he
        · exact qn x hx hxe
      · exact .inr ⟨j, by omega, q, e', by rw [show j - i = (j - (i + 1)) + 1 from by omega]; simpa using g1, g2⟩
theorem Knows.lookup {w : AW} {r : Nat} {D : List (Int × Int)} (h : KnowsAt w r D) (k : Nat) (s : Int) (hk : k ≤ D.length) :
    lookupA Tryz.prog w 154 (.struct #[{ name := "kind", type := 3, offset := 0, embedded := false, tag := "", pkgPath := "lombard/till", byteOffset := 0 }, { name := "sum", type := 3, offset := 1, embedded := false, tag := "", pkgPath := "lombard/till", byteOffset := 8 }]) (payV (0, 0)) (.map (some r)) (restV k s) true = some (.tuple #[payV (bestV (D.drop k) s), .bool true]) ∨ lookupA Tryz.prog w 154 (.struct #[{ name := "kind", type := 3, offset := 0, embedded := false, tag := "", pkgPath := "lombard/till", byteOffset := 0 }, { name := "sum", type := 3, offset := 1, embedded := false, tag := "", pkgPath := "lombard/till", byteOffset := 8 }]) (payV (0, 0)) (.map (some r)) (restV k s) true = some (.tuple #[payV (0, 0), .bool false]) ∧ (k < D.length ∨ s ≠ 0) := by
  obtain ⟨es, clock, hb, he, e0, he0, hk0⟩ := h
  have hf := fine154 es.isEmpty k s
  rcases ask_rest k s 0 he with ⟨q, qn⟩ | ⟨j, _, q, _⟩
  · right
    refine ⟨by simp only [lookupA, aggKey, flat_rest, hb, hf, q, Bool.and_self], ?_⟩
    rcases Nat.lt_or_ge k D.length with a | a
    · exact .inl a
    · refine .inr fun hs => qn e0 he0 ?_
      rw [hk0, hs, show k = D.length from by omega]
  · left
    simp only [lookupA, aggKey, flat_rest, hb, hf, q, Bool.and_self]
theorem Knows.update {w : AW} {r : Nat} {D : List (Int × Int)} (f : Fresh w) (h : KnowsAt w r D) (hr : r < w.next) (k : Nat) (s : Int) (hk : k ≤ D.length) :
    ∃ w', updateV (prg Tryz.prog) w 180 (.map (some r)) (restV k s) (payV (bestV (D.drop k) s)) = some w' ∧ KnowsAt w' r D ∧ MutS (fun j => j = r) w w' := by
  obtain ⟨es, clock, hb, he, e0, he0, hk0⟩ := h
  have hf := fine154 false k s
  have hput : ∀ b, (w.put r b).blk r = some b := fun b => by rw [AW.blk_put _ _ _ _ (Trie.in_ _) (Trie.in_ _), if_pos rfl]
  rcases ask_rest k s 0 he with ⟨q, _⟩ | ⟨j, _, q, e, g1, g2⟩
  · refine ⟨w.put r (.map (es.push { key := restV k s, val := payV (bestV (D.drop k) s), born := clock }) (clock + 1)), ?_, ⟨_, _, hput _, ?_, e0, by rw [Array.toList_push]; exact List.mem_append_left _ he0, hk0⟩, MutS.put (S := fun j => j = r) f rfl hr _⟩
    · simp only [updateV, Tryz.ty180, Tryz.ty154, hb, simpleKey, aggKey, flat_rest, show (prg Tryz.prog).p = Tryz.prog from rfl, hf, q, Bool.and_self]
    · intro x hx
      rw [Array.toList_push] at hx
      rcases List.mem_append.1 hx with hx | hx
      · exact he x hx
      · rw [List.mem_singleton] at hx
        subst hx
        exact ⟨k, s, hk, rfl, rfl⟩
  · rw [Nat.sub_zero] at g1
    have hbt : Instr.sameBits 10000 e.key (restV k s) = true := by rw [g2]; exact bits_rest _ _
    refine ⟨w.put r (.map (es.modify j fun e => { e with key := restV k s, val := payV (bestV (D.drop k) s) }) clock), ?_, ⟨_, _, hput _, ?_, ?_⟩, MutS.put (S := fun j => j = r) f rfl hr _⟩
    · simp only [updateV, Tryz.ty180, Tryz.ty154, hb, simpleKey, aggKey, flat_rest, show (prg Tryz.prog).p = Tryz.prog from rfl, hf, q, Bool.and_self, g1, hbt]
    · intro x hx
      rw [Array.toList_modify] at hx
      obtain ⟨n, hn, rfl⟩ := List.getElem_of_mem hx
      rw [List.getElem_modify]
      split
      · exact ⟨k, s, hk, rfl, rfl⟩
      · exact he _ (List.getElem_mem _)
    · obtain ⟨n, hn, rfl⟩ := List.getElem_of_mem he0
      rw [Array.toList_modify]
      refine ⟨(es.toList.modify j fun e => { e with key := restV k s, val := payV (bestV (D.drop k) s) })[n]'(by rw [List.length_modify]; exact hn), List.getElem_mem _, ?_⟩
      rw [List.getElem_modify]
      split
      · rename_i hjn
        subst hjn
        have : es.toList[j] = e := by rw [List.getElem?_eq_getElem hn] at g1; injection g1
        rw [← hk0, this]; exact g2.symm
      · exact hk0
end Go.Proofs

namespace Go.Proofs
open Go Go.RowKit Go.Sim
set_option maxRecDepth 100000
theorem same_fn (f b : Nat) : same 12 (.func (.func f) #[] #[.pointer (some ⟨b, 0, none⟩)]) (.func (.func f) #[] #[.pointer (some ⟨b, 0, none⟩)]) = true := by simp [same, same.all]
theorem same_fn0 (f : Nat) : same 12 (.func (.func f) #[] #[]) (.func (.func f) #[] #[]) = true := by simp [same, same.all]
theorem within_ok (n a b : Int) (w : AW) : CallT Tryz.prog Tryz.T1 (.fn (.func 80) #[]) #[.int .i64 n, .int .i64 a, .int .i64 b] w (Ret (.bool (inR a n b)) fun w' => w = w') := by
  refine callT_code rfl Tryz.func80 rfl Tryz.s80_eq rfl ?_
  unfold Tryz.s80
  by_cases h : a ≤ n
  all_goals
    simp -dsimp -implicitDefEqProofs (maxSteps := 2000000) (disch := first | assumption | omega | (simp only [nx]; omega) | ((repeat refine Fresh.push ?_ _); assumption) | (simp only [smA]; done) | (simp [oneCell, AW.next_push]; done) | fail) only [go_sem, Nat.reduceEqDiff, reduceIte, Nat.reduceAdd, Int.toNat_natCast, Nat.add_zero, Owes_true, Tryz.results80, h]
    exact ⟨by simp [inR, h], rfl⟩
theorem From_ok (a n b : Int) (w : AW) : CallT Tryz.prog Tryz.T1 (.fn (.func 40) #[]) #[.int .i64 a, .int .i64 n, .int .i64 b] w (Ret (.bool (inR a n b)) fun w' => w = w') := by
  refine callT_code rfl Tryz.func40 rfl Tryz.s40_eq rfl ?_
  unfold Tryz.s40
  by_cases h : a ≤ n
  all_goals
    simp -dsimp -implicitDefEqProofs (maxSteps := 2000000) (disch := first | assumption | omega | (simp only [nx]; omega) | ((repeat refine Fresh.push ?_ _); assumption) | (simp only [smA]; done) | (simp [oneCell, AW.next_push]; done) | fail) only [go_sem, Nat.reduceEqDiff, reduceIte, Nat.reduceAdd, Int.toNat_natCast, Nat.add_zero, Owes_true, Tryz.results40, h]
    exact ⟨by simp [inR, h], rfl⟩
theorem isHave_ok (n : Int) (w : AW) : CallT Tryz.prog Tryz.T1 (.fn (.func 97) #[]) #[.int .i64 n] w (Ret (.bool (inR 0 n 50)) fun w' => w = w') := by
  refine callT_code rfl Tryz.func97 rfl Tryz.s97_eq rfl ?_
  unfold Tryz.s97
  simp -dsimp -implicitDefEqProofs (maxSteps := 2000000) (disch := first | assumption | omega | (simp only [nx]; omega) | ((repeat refine Fresh.push ?_ _); assumption) | (simp only [smA]; done) | (simp [oneCell, AW.next_push]; done) | fail) only [go_sem, Nat.reduceEqDiff, reduceIte, Nat.reduceAdd, Int.toNat_natCast, Nat.add_zero, Owes_true, Tryz.results97]
  apply callV_of (e := rfl)
  · exact within_ok _ _ _ _
  rintro _ _ ⟨rfl, rfl⟩
  simp -dsimp -implicitDefEqProofs (maxSteps := 2000000) (disch := first | assumption | omega | (simp only [nx]; omega) | ((repeat refine Fresh.push ?_ _); assumption) | (simp only [smA]; done) | (simp [oneCell, AW.next_push]; done) | fail) only [go_sem, Nat.reduceEqDiff, reduceIte, Nat.reduceAdd, Int.toNat_natCast, Nat.add_zero, Owes_true, Tryz.results97]
  exact ⟨rfl, rfl⟩
theorem all1_ok (n : Int) (b : Nat) (w : AW) (h : Own w b 98 [.func (.func 97) #[] #[]]) : CallT Tryz.prog Tryz.T1 (.fn (.func 106) #[.pointer (some ⟨b, 0, none⟩)]) #[.int .i64 n] w (Ret (.bool (!inR 0 n 50)) fun w' => w = w') := by
  have c0 := h.cell (o := 0) rfl rfl
  have hs := same_fn0 97
  refine callT_code rfl Tryz.func106 rfl Tryz.s106_eq rfl ?_
  unfold Tryz.s106
  simp -dsimp -implicitDefEqProofs (maxSteps := 2000000) (disch := first | assumption | omega | (simp only [nx]; omega) | ((repeat refine Fresh.push ?_ _); assumption) | (simp only [smA]; done) | (simp [oneCell, AW.next_push]; done) | fail) only [go_sem, Nat.reduceEqDiff, reduceIte, Nat.reduceAdd, Int.toNat_natCast, Nat.add_zero, Owes_true, Tryz.results106, c0, Nat.zero_add, hs]
  apply callV_of (e := rfl)
  · exact isHave_ok _ _
  rintro _ _ ⟨rfl, rfl⟩
  simp -dsimp -implicitDefEqProofs (maxSteps := 2000000) (disch := first | assumption | omega | (simp only [nx]; omega) | ((repeat refine Fresh.push ?_ _); assumption) | (simp only [smA]; done) | (simp [oneCell, AW.next_push]; done) | fail) only [go_sem, Nat.reduceEqDiff, reduceIte, Nat.reduceAdd, Int.toNat_natCast, Nat.add_zero, Owes_true, Tryz.results106]
  exact ⟨rfl, rfl⟩
theorem index_ok (l : List Int) (v : Value) (b : Nat) (w : AW) (hs : ArrOf w 1 icells v l) (h : Own w b 98 [.func (.func 97) #[] #[]]) :
    CallT Tryz.prog Tryz.T1 (.fn (.func 135) #[]) #[v, .func (.func 106) #[] #[.pointer (some ⟨b, 0, none⟩)]] w (fun r w' => w = w' ∧ ∃ n : Int, r = .int .i64 n ∧ decide (n ≥ 0) = !l.all (fun n => inR 0 n 50)) := by
  obtain ⟨p, cap, rfl, _, _, hat⟩ := hs.open
  have hfn := same_fn 106 b
  refine callT_code rfl Tryz.func135 rfl Tryz.s135_eq rfl ?_
  unfold Tryz.s135
  simp -dsimp -implicitDefEqProofs (maxSteps := 2000000) (disch := first | assumption | omega | (simp only [nx]; omega) | ((repeat refine Fresh.push ?_ _); assumption) | (simp only [smA]; done) | (simp [oneCell, AW.next_push]; done) | fail) only [go_sem, Nat.reduceEqDiff, reduceIte, Nat.reduceAdd, Int.toNat_natCast, Nat.add_zero, Owes_true, Tryz.results135]
  refine loopR (fun k t ds w1 => ∃ i : Nat, i ≤ l.length ∧ k = l.length - i ∧ ds = [] ∧ ev t (.tmp 0) = .slice p l.length cap ∧ ev t (.tmp 1) = .func (.func 106) #[] #[.pointer (some ⟨b, 0, none⟩)] ∧ ev t (.tmp 6) = .slice p l.length cap ∧ ev t (.tmp 7) = .int .i64 (l.length : Int) ∧ ev t (.tmp 8) = .int .i64 (i : Int) ∧ w = w1 ∧ (l.take i).all (fun n => inR 0 n 50) = true) (l.length) ?_ ?_
  · refine ⟨0, by omega, by omega, rfl, ?_, ?_, ?_, ?_, ?_, rfl, rfl⟩ <;> simp -dsimp -implicitDefEqProofs (maxSteps := 2000000) (disch := first | assumption | omega | (simp only [nx]; omega) | ((repeat refine Fresh.push ?_ _); assumption) | (simp only [smA]; done) | (simp [oneCell, AW.next_push]; done) | fail) only [go_sem, Nat.reduceEqDiff, reduceIte, Nat.reduceAdd, Int.toNat_natCast, Nat.add_zero, Owes_true] <;> rfl
  rintro k t ds w1 ⟨i, hii, rfl, rfl, e0, e1, e6, e7, e8, hw, ha⟩
  subst hw
  by_cases hlt : (i : Int) < (l.length : Int)
  case neg =>
    obtain rfl : i = l.length := by omega
    rw [List.take_of_length_le (Nat.le_refl _)] at ha
    simp -dsimp -implicitDefEqProofs (maxSteps := 2000000) (disch := first | assumption | omega | (simp only [nx]; omega) | ((repeat refine Fresh.push ?_ _); assumption) | (simp only [smA]; done) | (simp [oneCell, AW.next_push]; done) | fail) only [go_sem, Nat.reduceEqDiff, reduceIte, Nat.reduceAdd, Int.toNat_natCast, Nat.add_zero, Owes_true, Tryz.results135, e0, e1, e6, e7, e8, hlt]
    exact ⟨trivial, -1, rfl, by rw [ha]; rfl⟩
  have hlt' : i < l.length := by omega
  obtain ⟨b1, o1, rfl, hb1, hcell⟩ := hat i hlt'
  have a0 := hcell w (.refl _ _) 0 _ rfl
  rw [Nat.add_zero] at a0
  simp -dsimp -implicitDefEqProofs (maxSteps := 2000000) (disch := first | assumption | omega | (simp only [nx]; omega) | ((repeat refine Fresh.push ?_ _); assumption) | (simp only [smA]; done) | (simp [oneCell, AW.next_push]; done) | fail) only [go_sem, Nat.reduceEqDiff, reduceIte, Nat.reduceAdd, Int.toNat_natCast, Nat.add_zero, Owes_true, Tryz.results135, e0, e1, e6, e7, e8, hlt, indexV_eq, a0, hfn]
  apply callV_of (e := rfl)
  · exact all1_ok _ b w h
  rintro _ _ ⟨rfl, rfl⟩
  cases hq : inR 0 l[i] 50 with
  | true =>
    simp -dsimp -implicitDefEqProofs (maxSteps := 2000000) (disch := first | assumption | omega | (simp only [nx]; omega) | ((repeat refine Fresh.push ?_ _); assumption) | (simp only [smA]; done) | (simp [oneCell, AW.next_push]; done) | fail) only [go_sem, Nat.reduceEqDiff, reduceIte, Nat.reduceAdd, Int.toNat_natCast, Nat.add_zero, Owes_true, Tryz.results135, hq, e0, e1, e6, e7, e8]
    refine ⟨_, by omega, i + 1, by omega, rfl, rfl, by (simp -dsimp -implicitDefEqProofs (maxSteps := 2000000) (disch := first | assumption | omega | (simp only [nx]; omega) | ((repeat refine Fresh.push ?_ _); assumption) | (simp only [smA]; done) | (simp [oneCell, AW.next_push]; done) | fail) only [go_sem, Nat.reduceEqDiff, reduceIte, Nat.reduceAdd, Int.toNat_natCast, Nat.add_zero, Owes_true, e0]; try rfl), by (simp -dsimp -implicitDefEqProofs (maxSteps := 2000000) (disch := first | assumption | omega | (simp only [nx]; omega) | ((repeat refine Fresh.push ?_ _); assumption) | (simp only [smA]; done) | (simp [oneCell, AW.next_push]; done) | fail) only [go_sem, Nat.reduceEqDiff, reduceIte, Nat.reduceAdd, Int.toNat_natCast, Nat.add_zero, Owes_true, e1]; try rfl), by (simp -dsimp -implicitDefEqProofs (maxSteps := 2000000) (disch := first | assumption | omega | (simp only [nx]; omega) | ((repeat refine Fresh.push ?_ _); assumption) | (simp only [smA]; done) | (simp [oneCell, AW.next_push]; done) | fail) only [go_sem, Nat.reduceEqDiff, reduceIte, Nat.reduceAdd, Int.toNat_natCast, Nat.add_zero, Owes_true, e6]; try rfl), by (simp -dsimp -implicitDefEqProofs (maxSteps := 2000000) (disch := first | assumption | omega | (simp only [nx]; omega) | ((repeat refine Fresh.push ?_ _); assumption) | (simp only [smA]; done) | (simp [oneCell, AW.next_push]; done) | fail) only [go_sem, Nat.reduceEqDiff, reduceIte, Nat.reduceAdd, Int.toNat_natCast, Nat.add_zero, Owes_true, e7]; try rfl), by (simp -dsimp -implicitDefEqProofs (maxSteps := 2000000) (disch := first | assumption | omega | (simp only [nx]; omega) | ((repeat refine Fresh.push ?_ _); assumption) | (simp only [smA]; done) | (simp [oneCell, AW.next_push]; done) | fail) only [go_sem, Nat.reduceEqDiff, reduceIte, Nat.reduceAdd, Int.toNat_natCast, Nat.add_zero, Owes_true, e8]; try rfl), rfl, by rw [List.take_succ_eq_append_getElem hlt', List.all_append, ha]; simp [hq]⟩
  | false =>
    simp -dsimp -implicitDefEqProofs (maxSteps := 2000000) (disch := first | assumption | omega | (simp only [nx]; omega) | ((repeat refine Fresh.push ?_ _); assumption) | (simp only [smA]; done) | (simp [oneCell, AW.next_push]; done) | fail) only [go_sem, Nat.reduceEqDiff, reduceIte, Nat.reduceAdd, Int.toNat_natCast, Nat.add_zero, Owes_true, Tryz.results135, hq, e0, e1, e6, e7, e8]
    refine ⟨trivial, (i : Int), rfl, ?_⟩
    have h1 : l.all (fun n => inR 0 n 50) = false := by
      rw [List.all_eq_false]; exact ⟨l[i], List.getElem_mem hlt', by rw [hq]; simp⟩
    rw [h1]; simp
theorem contains_ok (l : List Int) (v : Value) (b : Nat) (w : AW) (hs : ArrOf w 1 icells v l) (h : Own w b 98 [.func (.func 97) #[] #[]]) :
    CallT Tryz.prog Tryz.T1 (.fn (.func 105) #[]) #[v, .func (.func 106) #[] #[.pointer (some ⟨b, 0, none⟩)]] w (Ret (.bool (!l.all (fun n => inR 0 n 50))) fun w' => w = w') := by
  obtain ⟨p, cap, rfl, _⟩ := id hs.open
  have hfn := same_fn 106 b
  refine callT_code rfl Tryz.func105 rfl Tryz.s105_eq rfl ?_
  unfold Tryz.s105
  simp -dsimp -implicitDefEqProofs (maxSteps := 2000000) (disch := first | assumption | omega | (simp only [nx]; omega) | ((repeat refine Fresh.push ?_ _); assumption) | (simp only [smA]; done) | (simp [oneCell, AW.next_push]; done) | fail) only [go_sem, Nat.reduceEqDiff, reduceIte, Nat.reduceAdd, Int.toNat_natCast, Nat.add_zero, Owes_true, Tryz.results105, hfn]
  apply callV_of (e := rfl)
  · exact index_ok l _ b w hs h
  rintro _ _ ⟨rfl, n, rfl, hn⟩
  simp -dsimp -implicitDefEqProofs (maxSteps := 2000000) (disch := first | assumption | omega | (simp only [nx]; omega) | ((repeat refine Fresh.push ?_ _); assumption) | (simp only [smA]; done) | (simp [oneCell, AW.next_push]; done) | fail) only [go_sem, Nat.reduceEqDiff, reduceIte, Nat.reduceAdd, Int.toNat_natCast, Nat.add_zero, Owes_true, Tryz.results105, hn]
  exact ⟨rfl, rfl⟩
theorem all_ok (l : List Int) (v : Value) (w : AW) (f : Fresh w) (hs : ArrOf w 1 icells v l) :
    CallT Tryz.prog Tryz.T1 (.fn (.func 62) #[]) #[v, .func (.func 97) #[] #[]] w (Ret (.bool (l.all (fun n => inR 0 n 50))) (Grown w)) := by
  obtain ⟨p, cap, rfl, _⟩ := id hs.open
  have hfn := same_fn 106 w.next
  have hs0 := same_fn0 97
  have g := (Grown.refl f).push (.cells [.func (.func 97) #[] #[]] 98 w.next 0 0)
  have hO := Own.new f 98 [.func (.func 97) #[] #[]]
  refine callT_code rfl Tryz.func62 rfl Tryz.s62_eq rfl ?_
  unfold Tryz.s62
  simp -dsimp -implicitDefEqProofs (maxSteps := 2000000) (disch := first | assumption | omega | (simp only [nx]; omega) | ((repeat refine Fresh.push ?_ _); assumption) | (simp only [smA]; done) | (simp [oneCell, AW.next_push]; done) | fail) only [go_sem, Nat.reduceEqDiff, reduceIte, Nat.reduceAdd, Int.toNat_natCast, Nat.add_zero, Owes_true, Tryz.results62, hfn, hs0]
  apply callV_of (e := rfl)
  · exact contains_ok l _ w.next _ (hs.grown g) hO
  rintro _ _ ⟨rfl, rfl⟩
  simp -dsimp -implicitDefEqProofs (maxSteps := 2000000) (disch := first | assumption | omega | (simp only [nx]; omega) | ((repeat refine Fresh.push ?_ _); assumption) | (simp only [smA]; done) | (simp [oneCell, AW.next_push]; done) | fail) only [go_sem, Nat.reduceEqDiff, reduceIte, Nat.reduceAdd, Int.toNat_natCast, Nat.add_zero, Owes_true, Tryz.results62]
  exact ⟨by rw [Bool.not_not], g⟩
def coinsTo (C : List Int) (n : Nat) : Bool := (List.range n).all fun i => match C[i]? with
  | some c => inR 1 c 50000 && (i == 0 || match C[i - 1]? with
    | some d => decide (c < d)
    | none => false)
  | none => false
theorem coinsTo_succ {C : List Int} {i : Nat} (h : i < C.length) : coinsTo C (i + 1) = (coinsTo C i && (inR 1 C[i] 50000 && (i == 0 || match C[i - 1]? with
    | some d => decide (C[i] < d)
    | none => false))) := by
  unfold coinsTo
  rw [List.range_succ, List.all_append]
  simp only [List.all_cons, List.all_nil, Bool.and_true]
  rw [List.getElem?_eq_getElem h]
theorem coinsTo_bad {C : List Int} {i n : Nat} (h : i < n) (hn : coinsTo C (i + 1) = false) : coinsTo C n = false := by
  unfold coinsTo at hn ⊢
  rw [List.all_eq_false] at hn ⊢
  obtain ⟨x, hx, hb⟩ := hn
  exact ⟨x, List.mem_range.2 (by have := List.mem_range.1 hx; omega), hb⟩
def coinsB (C : List Int) : Bool := coinsTo C C.length && inR 1 (C.length : Int) 8
set_option maxHeartbeats 2000000 in
theorem areCoins_ok (C : List Int) (v : Value) (w : AW) (hs : ArrOf w 1 icells v C) : CallT Tryz.prog Tryz.T1 (.fn (.func 54) #[]) #[v] w (Ret (.bool (coinsB C)) fun w' => w = w') := by
  obtain ⟨p, cap, rfl, _, _, hat⟩ := hs.open
  refine callT_code rfl Tryz.func54 rfl Tryz.s54_eq rfl ?_
  unfold Tryz.s54
  simp -dsimp -implicitDefEqProofs (maxSteps := 2000000) (disch := first | assumption | omega | (simp only [nx]; omega) | ((repeat refine Fresh.push ?_ _); assumption) | (simp only [smA]; done) | (simp [oneCell, AW.next_push]; done) | fail) only [go_sem, Nat.reduceEqDiff, reduceIte, Nat.reduceAdd, Int.toNat_natCast, Nat.add_zero, Owes_true, Tryz.results54]
  refine loopR (fun k t ds w1 => ∃ i : Nat, i ≤ C.length ∧ k = C.length - i ∧ ds = [] ∧ ev t (.tmp 0) = .slice p C.length cap ∧ ev t (.tmp 5) = .slice p C.length cap ∧ ev t (.tmp 6) = .int .i64 (C.length : Int) ∧ ev t (.tmp 7) = .int .i64 (i : Int) ∧ w = w1 ∧ coinsTo C i = true) (C.length) ?_ ?_
  · refine ⟨0, by omega, by omega, rfl, ?_, ?_, ?_, ?_, rfl, rfl⟩ <;> simp -dsimp -implicitDefEqProofs (maxSteps := 2000000) (disch := first | assumption | omega | (simp only [nx]; omega) | ((repeat refine Fresh.push ?_ _); assumption) | (simp only [smA]; done) | (simp [oneCell, AW.next_push]; done) | fail) only [go_sem, Nat.reduceEqDiff, reduceIte, Nat.reduceAdd, Int.toNat_natCast, Nat.add_zero, Owes_true] <;> rfl
  rintro k t ds w1 ⟨i, hii, rfl, rfl, e0, e5, e6, e7, hw, ha⟩
  subst hw
  by_cases hlt : (i : Int) < (C.length : Int)
  case neg =>
    obtain rfl : i = C.length := by omega
    simp -dsimp -implicitDefEqProofs (maxSteps := 2000000) (disch := first | assumption | omega | (simp only [nx]; omega) | ((repeat refine Fresh.push ?_ _); assumption) | (simp only [smA]; done) | (simp [oneCell, AW.next_push]; done) | fail) only [go_sem, Nat.reduceEqDiff, reduceIte, Nat.reduceAdd, Int.toNat_natCast, Nat.add_zero, Owes_true, Tryz.results54, e0, e5, e6, e7, hlt]
    apply callV_of (e := rfl)
    · exact within_ok _ _ _ _
    rintro _ _ ⟨rfl, rfl⟩
    simp -dsimp -implicitDefEqProofs (maxSteps := 2000000) (disch := first | assumption | omega | (simp only [nx]; omega) | ((repeat refine Fresh.push ?_ _); assumption) | (simp only [smA]; done) | (simp [oneCell, AW.next_push]; done) | fail) only [go_sem, Nat.reduceEqDiff, reduceIte, Nat.reduceAdd, Int.toNat_natCast, Nat.add_zero, Owes_true, Tryz.results54]
    exact ⟨by rw [coinsB, ha, Bool.true_and], rfl⟩
  have hlt' : i < C.length := by omega
  obtain ⟨b1, o1, rfl, hb1, hcell⟩ := hat i hlt'
  have a0 := hcell w (.refl _ _) 0 _ rfl
  rw [Nat.add_zero] at a0
  have hsc := coinsTo_succ hlt'
  rw [ha, Bool.true_and] at hsc
  have bad : coinsTo C (i + 1) = false → coinsB C = false := fun h => by rw [coinsB, coinsTo_bad hlt' h, Bool.false_and]
  simp -dsimp -implicitDefEqProofs (maxSteps := 2000000) (disch := first | assumption | omega | (simp only [nx]; omega) | ((repeat refine Fresh.push ?_ _); assumption) | (simp only [smA]; done) | (simp [oneCell, AW.next_push]; done) | fail) only [go_sem, Nat.reduceEqDiff, reduceIte, Nat.reduceAdd, Int.toNat_natCast, Nat.add_zero, Owes_true, Tryz.results54, e0, e5, e6, e7, hlt, indexV_eq, a0]
  apply callV_of (e := rfl)
  · exact within_ok _ _ _ _
  rintro _ _ ⟨rfl, rfl⟩
  cases hq : inR 1 C[i] 50000 with
  | false =>
    rw [hq, Bool.false_and] at hsc
    simp -dsimp -implicitDefEqProofs (maxSteps := 2000000) (disch := first | assumption | omega | (simp only [nx]; omega) | ((repeat refine Fresh.push ?_ _); assumption) | (simp only [smA]; done) | (simp [oneCell, AW.next_push]; done) | fail) only [go_sem, Nat.reduceEqDiff, reduceIte, Nat.reduceAdd, Int.toNat_natCast, Nat.add_zero, Owes_true, Tryz.results54, hq, e0, e5, e6, e7]
    exact ⟨by rw [bad hsc], rfl⟩
  | true =>
    rw [hq, Bool.true_and] at hsc
    by_cases h0 : i = 0
    · have hz : decide ((0 : Int) < (i : Int)) = false := decide_eq_false (by omega)
      simp -dsimp -implicitDefEqProofs (maxSteps := 2000000) (disch := first | assumption | omega | (simp only [nx]; omega) | ((repeat refine Fresh.push ?_ _); assumption) | (simp only [smA]; done) | (simp [oneCell, AW.next_push]; done) | fail) only [go_sem, Nat.reduceEqDiff, reduceIte, Nat.reduceAdd, Int.toNat_natCast, Nat.add_zero, Owes_true, Tryz.results54, hq, e0, e5, e6, e7, hz]
      refine ⟨_, by omega, i + 1, by omega, rfl, rfl, by (simp -dsimp -implicitDefEqProofs (maxSteps := 2000000) (disch := first | assumption | omega | (simp only [nx]; omega) | ((repeat refine Fresh.push ?_ _); assumption) | (simp only [smA]; done) | (simp [oneCell, AW.next_push]; done) | fail) only [go_sem, Nat.reduceEqDiff, reduceIte, Nat.reduceAdd, Int.toNat_natCast, Nat.add_zero, Owes_true, e0]; try rfl), by (simp -dsimp -implicitDefEqProofs (maxSteps := 2000000) (disch := first | assumption | omega | (simp only [nx]; omega) | ((repeat refine Fresh.push ?_ _); assumption) | (simp only [smA]; done) | (simp [oneCell, AW.next_push]; done) | fail) only [go_sem, Nat.reduceEqDiff, reduceIte, Nat.reduceAdd, Int.toNat_natCast, Nat.add_zero, Owes_true, e5]; try rfl), by (simp -dsimp -implicitDefEqProofs (maxSteps := 2000000) (disch := first | assumption | omega | (simp only [nx]; omega) | ((repeat refine Fresh.push ?_ _); assumption) | (simp only [smA]; done) | (simp [oneCell, AW.next_push]; done) | fail) only [go_sem, Nat.reduceEqDiff, reduceIte, Nat.reduceAdd, Int.toNat_natCast, Nat.add_zero, Owes_true, e6]; try rfl), by (simp -dsimp -implicitDefEqProofs (maxSteps := 2000000) (disch := first | assumption | omega | (simp only [nx]; omega) | ((repeat refine Fresh.push ?_ _); assumption) | (simp only [smA]; done) | (simp [oneCell, AW.next_push]; done) | fail) only [go_sem, Nat.reduceEqDiff, reduceIte, Nat.reduceAdd, Int.toNat_natCast, Nat.add_zero, Owes_true, e7]; try rfl), rfl, by rw [hsc, show (i == 0) = true from by simpa using h0, Bool.true_or]⟩
    · have hpos : (0 : Int) < (i : Int) := by omega
      have hi1 : i - 1 < C.length := by omega
      rw [List.getElem?_eq_getElem hi1, show (i == 0) = false from by simpa using h0, Bool.false_or] at hsc
      obtain ⟨b2, o2, e2, hb2, hcell2⟩ := hat (i - 1) hi1
      injection e2 with e2
      injection e2 with e2a e2b
      subst e2a e2b
      have a1 := hcell2 w (.refl _ _) 0 _ rfl
      rw [Nat.add_zero] at a1
      have hcast : (i : Int) - 1 = ((i - 1 : Nat) : Int) := by omega
      have hlt1 : ((i - 1 : Nat) : Int) < (C.length : Int) := by omega
      simp -dsimp -implicitDefEqProofs (maxSteps := 2000000) (disch := first | assumption | omega | (simp only [nx]; omega) | ((repeat refine Fresh.push ?_ _); assumption) | (simp only [smA]; done) | (simp [oneCell, AW.next_push]; done) | fail) only [go_sem, Nat.reduceEqDiff, reduceIte, Nat.reduceAdd, Int.toNat_natCast, Nat.add_zero, Owes_true, Tryz.results54, hq, e0, e5, e6, e7, hpos, hcast, hlt1, indexV_eq, a1]
      by_cases hd : C[i - 1] ≤ C[i]
      · have hd1 : decide (C[i - 1] ≤ C[i]) = true := decide_eq_true hd
        have hsn : coinsTo C (i + 1) = false := by rw [hsc]; exact decide_eq_false (by omega)
        simp -dsimp -implicitDefEqProofs (maxSteps := 2000000) (disch := first | assumption | omega | (simp only [nx]; omega) | ((repeat refine Fresh.push ?_ _); assumption) | (simp only [smA]; done) | (simp [oneCell, AW.next_push]; done) | fail) only [go_sem, Nat.reduceEqDiff, reduceIte, Nat.reduceAdd, Int.toNat_natCast, Nat.add_zero, Owes_true, Tryz.results54, hd1]
        exact ⟨by rw [bad hsn], rfl⟩
      · have hd1 : decide (C[i - 1] ≤ C[i]) = false := decide_eq_false hd
        simp -dsimp -implicitDefEqProofs (maxSteps := 2000000) (disch := first | assumption | omega | (simp only [nx]; omega) | ((repeat refine Fresh.push ?_ _); assumption) | (simp only [smA]; done) | (simp [oneCell, AW.next_push]; done) | fail) only [go_sem, Nat.reduceEqDiff, reduceIte, Nat.reduceAdd, Int.toNat_natCast, Nat.add_zero, Owes_true, Tryz.results54, hd1, e0, e5, e6, e7]
        refine ⟨_, by omega, i + 1, by omega, rfl, rfl, by (simp -dsimp -implicitDefEqProofs (maxSteps := 2000000) (disch := first | assumption | omega | (simp only [nx]; omega) | ((repeat refine Fresh.push ?_ _); assumption) | (simp only [smA]; done) | (simp [oneCell, AW.next_push]; done) | fail) only [go_sem, Nat.reduceEqDiff, reduceIte, Nat.reduceAdd, Int.toNat_natCast, Nat.add_zero, Owes_true, e0]; try rfl), by (simp -dsimp -implicitDefEqProofs (maxSteps := 2000000) (disch := first | assumption | omega | (simp only [nx]; omega) | ((repeat refine Fresh.push ?_ _); assumption) | (simp only [smA]; done) | (simp [oneCell, AW.next_push]; done) | fail) only [go_sem, Nat.reduceEqDiff, reduceIte, Nat.reduceAdd, Int.toNat_natCast, Nat.add_zero, Owes_true, e5]; try rfl), by (simp -dsimp -implicitDefEqProofs (maxSteps := 2000000) (disch := first | assumption | omega | (simp only [nx]; omega) | ((repeat refine Fresh.push ?_ _); assumption) | (simp only [smA]; done) | (simp [oneCell, AW.next_push]; done) | fail) only [go_sem, Nat.reduceEqDiff, reduceIte, Nat.reduceAdd, Int.toNat_natCast, Nat.add_zero, Owes_true, e6]; try rfl), by (simp -dsimp -implicitDefEqProofs (maxSteps := 2000000) (disch := first | assumption | omega | (simp only [nx]; omega) | ((repeat refine Fresh.push ?_ _); assumption) | (simp only [smA]; done) | (simp [oneCell, AW.next_push]; done) | fail) only [go_sem, Nat.reduceEqDiff, reduceIte, Nat.reduceAdd, Int.toNat_natCast, Nat.add_zero, Owes_true, e7]; try rfl), rfl, by rw [hsc]; exact decide_eq_true (by omega)⟩
def haveB (C H : List Int) : Bool := decide (H.length = C.length) && H.all (fun n => inR 0 n 50)
theorem arePieces_ok (C H : List Int) (u h v : Value) (w : AW) (f : Fresh w) (hu : ArrOf w 1 icells u C) (hh : ArrOf w 1 icells v H) (e : ∃ p n c, h = .slice p n c) :
    CallT Tryz.prog Tryz.T1 (.fn (.func 55) #[]) #[.agg #[u, h], v] w (Ret (.bool (haveB C H)) (Grown w)) := by
  obtain ⟨p, cap, rfl, _⟩ := id hu.open
  obtain ⟨q, cq, rfl, _⟩ := id hh.open
  obtain ⟨r, n, cr, rfl⟩ := e
  have g := (Grown.refl f).push (.cells [.slice p C.length cap, .slice r n cr] 24 w.next 0 0)
  have hO := Own.new f 24 [.slice p C.length cap, .slice r n cr]
  have c0 := hO.cell (o := 0) rfl rfl
  have hs0 := same_fn0 97
  refine callT_code rfl Tryz.func55 rfl Tryz.s55_eq rfl ?_
  unfold Tryz.s55
  by_cases hl : (H.length : Int) = (C.length : Int)
  · have hd : decide ((H.length : Int) = (C.length : Int)) = true := decide_eq_true hl
    simp -dsimp -implicitDefEqProofs (maxSteps := 2000000) (disch := first | assumption | omega | (simp only [nx]; omega) | ((repeat refine Fresh.push ?_ _); assumption) | (simp only [smA]; done) | (simp [oneCell, AW.next_push]; done) | fail) only [go_sem, Nat.reduceEqDiff, reduceIte, Nat.reduceAdd, Int.toNat_natCast, Nat.add_zero, Owes_true, Tryz.results55, Nat.zero_add, c0, hd, hs0]
    apply callV_of (e := rfl)
    · exact all_ok H _ _ g.2 (hh.grown g)
    rintro _ w1 ⟨rfl, g1⟩
    simp -dsimp -implicitDefEqProofs (maxSteps := 2000000) (disch := first | assumption | omega | (simp only [nx]; omega) | ((repeat refine Fresh.push ?_ _); assumption) | (simp only [smA]; done) | (simp [oneCell, AW.next_push]; done) | fail) only [go_sem, Nat.reduceEqDiff, reduceIte, Nat.reduceAdd, Int.toNat_natCast, Nat.add_zero, Owes_true, Tryz.results55]
    exact ⟨by rw [haveB, decide_eq_true (by omega : H.length = C.length), Bool.true_and], g.trans g1⟩
  · have hd : decide ((H.length : Int) = (C.length : Int)) = false := decide_eq_false hl
    simp -dsimp -implicitDefEqProofs (maxSteps := 2000000) (disch := first | assumption | omega | (simp only [nx]; omega) | ((repeat refine Fresh.push ?_ _); assumption) | (simp only [smA]; done) | (simp [oneCell, AW.next_push]; done) | fail) only [go_sem, Nat.reduceEqDiff, reduceIte, Nat.reduceAdd, Int.toNat_natCast, Nat.add_zero, Owes_true, Tryz.results55, Nat.zero_add, c0, hd, hs0]
    exact ⟨by rw [haveB, decide_eq_false (by omega : ¬ H.length = C.length), Bool.false_and], g⟩
def drawE (C H : List Int) : Int := if coinsB C && haveB C H then 0 else 80
theorem Check_ok (C H : List Int) (u v : Value) (w : AW) (f : Fresh w) (hu : ArrOf w 1 icells u C) (hh : ArrOf w 1 icells v H) :
    CallT Tryz.prog Tryz.T1 (.fn (.func 17) #[]) #[.agg #[u, v]] w (Ret (.int .i64 (drawE C H)) (Grown w)) := by
  obtain ⟨p, cap, rfl, _⟩ := id hu.open
  obtain ⟨q, cq, rfl, _⟩ := id hh.open
  have g := (Grown.refl f).push (.cells [.slice p C.length cap, .slice q H.length cq] 24 w.next 0 0)
  have hO := Own.new f 24 [.slice p C.length cap, .slice q H.length cq]
  have c0 := hO.cell (o := 0) rfl rfl
  have c1 := hO.cell (o := 1) rfl rfl
  refine callT_code rfl Tryz.func17 rfl Tryz.s17_eq rfl ?_
  unfold Tryz.s17
  simp -dsimp -implicitDefEqProofs (maxSteps := 2000000) (disch := first | assumption | omega | (simp only [nx]; omega) | ((repeat refine Fresh.push ?_ _); assumption) | (simp only [smA]; done) | (simp [oneCell, AW.next_push]; done) | fail) only [go_sem, Nat.reduceEqDiff, reduceIte, Nat.reduceAdd, Int.toNat_natCast, Nat.add_zero, Owes_true, Tryz.results17, Nat.zero_add, c0, c1]
  apply callV_of (e := rfl)
  · exact areCoins_ok C _ _ (hu.grown g)
  rintro _ _ ⟨rfl, rfl⟩
  cases hq : coinsB C with
  | false =>
    simp -dsimp -implicitDefEqProofs (maxSteps := 2000000) (disch := first | assumption | omega | (simp only [nx]; omega) | ((repeat refine Fresh.push ?_ _); assumption) | (simp only [smA]; done) | (simp [oneCell, AW.next_push]; done) | fail) only [go_sem, Nat.reduceEqDiff, reduceIte, Nat.reduceAdd, Int.toNat_natCast, Nat.add_zero, Owes_true, Tryz.results17, hq]
    exact ⟨by rw [drawE, hq]; rfl, g⟩
  | true =>
    simp -dsimp -implicitDefEqProofs (maxSteps := 2000000) (disch := first | assumption | omega | (simp only [nx]; omega) | ((repeat refine Fresh.push ?_ _); assumption) | (simp only [smA]; done) | (simp [oneCell, AW.next_push]; done) | fail) only [go_sem, Nat.reduceEqDiff, reduceIte, Nat.reduceAdd, Int.toNat_natCast, Nat.add_zero, Owes_true, Tryz.results17, hq, Nat.zero_add, c0, c1]
    apply callV_of (e := rfl)
    · exact arePieces_ok C H _ _ _ _ g.2 (hu.grown g) (hh.grown g) ⟨_, _, _, rfl⟩
    rintro _ w1 ⟨rfl, g1⟩
    cases hp : haveB C H with
    | false =>
      simp -dsimp -implicitDefEqProofs (maxSteps := 2000000) (disch := first | assumption | omega | (simp only [nx]; omega) | ((repeat refine Fresh.push ?_ _); assumption) | (simp only [smA]; done) | (simp [oneCell, AW.next_push]; done) | fail) only [go_sem, Nat.reduceEqDiff, reduceIte, Nat.reduceAdd, Int.toNat_natCast, Nat.add_zero, Owes_true, Tryz.results17, hp]
      exact ⟨by rw [drawE, hq, hp]; rfl, g.trans g1⟩
    | true =>
      simp -dsimp -implicitDefEqProofs (maxSteps := 2000000) (disch := first | assumption | omega | (simp only [nx]; omega) | ((repeat refine Fresh.push ?_ _); assumption) | (simp only [smA]; done) | (simp [oneCell, AW.next_push]; done) | fail) only [go_sem, Nat.reduceEqDiff, reduceIte, Nat.reduceAdd, Int.toNat_natCast, Nat.add_zero, Owes_true, Tryz.results17, hp]
      exact ⟨by rw [drawE, hq, hp]; rfl, g.trans g1⟩
end Go.Proofs

namespace Go.Proofs
open Go Go.RowKit Go.Sim
set_option maxRecDepth 100000
theorem Tryz.lk180 (t : Tmps) (w : AW) (x k : Operand) : fast (prg Tryz.prog) t w (.lookup 180 x k true) = lookupA Tryz.prog w 154 (.struct #[{ name := "kind", type := 3, offset := 0, embedded := false, tag := "", pkgPath := "lombard/till", byteOffset := 0 }, { name := "sum", type := 3, offset := 1, embedded := false, tag := "", pkgPath := "lombard/till", byteOffset := 8 }]) (.agg #[.int .i64 0, .int .i64 0]) (ev t x) (ev t k) true := by
  simp only [fast, Tryz.ty180, Tryz.ty154, Tryz.ty152, simpleKey]; rfl
attribute [go_sem] Tryz.lk180
def foldTo (l : List (Int × Int)) (c s : Int) (m : Nat) : Int × Int := (List.range m).foldl (fun p (n : Nat) => if (n : Int) + (bestV l (s - (n : Int) * c)).2 ≤ p.2 then ((n : Int), (n : Int) + (bestV l (s - (n : Int) * c)).2) else p) (0, 1048576)
theorem foldTo_succ (l : List (Int × Int)) (c s : Int) (m : Nat) : foldTo l c s (m + 1) = if (m : Int) + (bestV l (s - (m : Int) * c)).2 ≤ (foldTo l c s m).2 then ((m : Int), (m : Int) + (bestV l (s - (m : Int) * c)).2) else foldTo l c s m := by
  unfold foldTo; rw [List.range_succ, List.foldl_append]; rfl
theorem bestV_cons (c h : Int) (l : List (Int × Int)) (s : Int) : bestV ((c, h) :: l) s = foldTo l c s ((min h (s.tdiv c)).toNat + 1) := rfl
theorem foldTo_in {l : List (Int × Int)} {c s : Int} (hb : ∀ s, 0 ≤ (bestV l s).2 ∧ (bestV l s).2 ≤ 1048576) : ∀ m, 0 ≤ (foldTo l c s m).2 ∧ (foldTo l c s m).2 ≤ 1048576 ∧ 0 ≤ (foldTo l c s m).1 ∧ ((foldTo l c s m).1 = 0 ∨ (foldTo l c s m).1 < (m : Int))
  | 0 => by show (0 : Int) ≤ (1048576 : Int) ∧ (1048576 : Int) ≤ 1048576 ∧ (0 : Int) ≤ 0 ∧ ((0 : Int) = 0 ∨ (0 : Int) < ((0 : Nat) : Int)); omega
  | m + 1 => by
    have ih := foldTo_in (l := l) (c := c) (s := s) hb m
    have := hb (s - (m : Int) * c)
    rw [foldTo_succ]
    split <;> (try simp only) <;> omega
theorem bestV_in : ∀ (l : List (Int × Int)) (s : Int), 0 ≤ (bestV l s).2 ∧ (bestV l s).2 ≤ 1048576
  | [], s => by simp only [bestV]; split <;> simp
  | (c, h) :: l, s => by
    rw [bestV_cons]
    have := foldTo_in (l := l) (c := c) (s := s) (fun s => bestV_in l s) ((min h (s.tdiv c)).toNat + 1)
    exact ⟨this.1, this.2.1⟩
structure BestAt (w0 w : AW) (D : List (Int × Int)) (u h : Value) (r bk bd bb : Nat) : Prop where
  map : KnowsAt w r D
  rl : w0.next ≤ r ∧ r < w.next
  kn : Own w bk 180 [.map (some r)]
  dr : Own w bd 24 [u, h]
  be : Own w bb 149 [.func (.func 132) #[] #[.pointer (some ⟨bk, 0, none⟩), .pointer (some ⟨bd, 0, none⟩), .pointer (some ⟨bb, 0, none⟩)]]
  ne : bk ≠ r ∧ bd ≠ r ∧ bb ≠ r
  k0 : Keep w0.next w0 w
  f : Fresh w
theorem BestAt.step {w0 w w' : AW} {D : List (Int × Int)} {u h : Value} {r bk bd bb : Nat} (b : BestAt w0 w D u h r bk bd bb) (k : MutS (fun j => j = r) w w') (hm : KnowsAt w' r D) : BestAt w0 w' D u h r bk bd bb :=
  ⟨hm, ⟨b.rl.1, by have := k.next; have := b.rl.2; omega⟩, k.own b.kn b.ne.1, k.own b.dr b.ne.2.1, k.own b.be b.ne.2.2, b.ne, b.k0.trans (k.keep (fun j q => by have := b.rl.1; omega) b.k0.next), k.fresh⟩
theorem KnowsAt.other {w w' : AW} {r : Nat} {D : List (Int × Int)} (h : KnowsAt w r D) (hb : w'.blk r = w.blk r) : KnowsAt w' r D := by
  obtain ⟨es, c, h1, h2⟩ := h; exact ⟨es, c, by rw [hb]; exact h1, h2⟩
theorem BestAt.grown {w0 w w' : AW} {D : List (Int × Int)} {u h : Value} {r bk bd bb : Nat} (b : BestAt w0 w D u h r bk bd bb) (g : Grown w w') : BestAt w0 w' D u h r bk bd bb :=
  b.step (.of g) (b.map.other (g.1.blk r b.rl.2))
theorem BestAt.put {w0 w : AW} {D : List (Int × Int)} {u h : Value} {r bk bd bb b : Nat} {e : TypeId} {c c' : List Value} (B : BestAt w0 w D u h r bk bd bb) (hO : Own w b e c) (hb : w0.next ≤ b) (hn : b ≠ r ∧ b ≠ bk ∧ b ≠ bd ∧ b ≠ bb) : BestAt w0 (w.put b (.cells c' e b 0 0)) D u h r bk bd bb := by
  have m := MutS.put (S := fun j => j = b) B.f rfl hO.lt (.cells c' e b 0 0)
  exact ⟨B.map.other (m.blk r B.rl.2 (fun q => hn.1 q.symm)), ⟨B.rl.1, by have := m.next; have := B.rl.2; omega⟩, m.own B.kn (fun q => hn.2.1 q.symm), m.own B.dr (fun q => hn.2.2.1 q.symm), m.own B.be (fun q => hn.2.2.2 q.symm), B.ne, B.k0.trans (m.keep (fun j q => by omega) B.k0.next), m.fresh⟩
theorem drop_zip {C H : List Int} {k : Nat} (hk : k < C.length) (hl : H.length = C.length) : (C.zip H).drop k = (C[k], H[k]'(by omega)) :: (C.zip H).drop (k + 1) := by
  rw [List.drop_eq_getElem_cons (by rw [List.length_zip]; omega)]
  simp [List.getElem_zip]
theorem same_fn3 (f a b c : Nat) : same 12 (.func (.func f) #[] #[.pointer (some ⟨a, 0, none⟩), .pointer (some ⟨b, 0, none⟩), .pointer (some ⟨c, 0, none⟩)]) (.func (.func f) #[] #[.pointer (some ⟨a, 0, none⟩), .pointer (some ⟨b, 0, none⟩), .pointer (some ⟨c, 0, none⟩)]) = true := by simp [same, same.all]
def BestP (w0 : AW) (C H : List Int) (u h : Value) (r bk bd bb : Nat) (k : Nat) : Prop := ∀ (s : Int), 0 ≤ s → s ≤ 2000 → ∀ w, BestAt w0 w (C.zip H) u h r bk bd bb →
    CallT Tryz.prog Tryz.T1 (.fn (.func 132) #[.pointer (some ⟨bk, 0, none⟩), .pointer (some ⟨bd, 0, none⟩), .pointer (some ⟨bb, 0, none⟩)]) #[.agg #[.int .i64 (k : Int), .int .i64 s]] w (fun rv w' => rv = payV (bestV ((C.zip H).drop k) s) ∧ BestAt w0 w' (C.zip H) u h r bk bd bb ∧ MutS (fun j => j = r) w w')
set_option maxHeartbeats 16000000 in
theorem best_step (C H : List Int) (u h : Value) (w0 : AW) (hC : ArrOf w0 1 icells u C) (hH : ArrOf w0 1 icells h H) (hl : H.length = C.length) (hc : ∀ c ∈ C, 1 ≤ c ∧ c ≤ 50000) (hh : ∀ x ∈ H, 0 ≤ x ∧ x ≤ 100) (r bk bd bb : Nat) (kd : Nat) (hk : kd ≤ C.length) (ih : kd < C.length → BestP w0 C H u h r bk bd bb (kd + 1)) : BestP w0 C H u h r bk bd bb kd := by
    intro s hs0 hs1 w B
    obtain ⟨pC, cC, rfl, _, _, hatC⟩ := id hC.open
    obtain ⟨pH, cH, rfl, _, _, hatH⟩ := id hH.open
    have hwl : C.length = (C.zip H).length := by rw [List.length_zip]; omega
    have gA := (Grown.refl B.f).push (.cells [.int .i64 (kd : Int), .int .i64 s] 154 w.next 0 0)
    have gB := gA.push (.cells [.int .i64 0, .int .i64 0] 152 (w.next + 1) 0 0)
    have O4 := (Own.new B.f 154 [.int .i64 (kd : Int), .int .i64 s]).push (.cells [.int .i64 0, .int .i64 0] 152 (w.next + 1) 0 0)
    have O5 := Own.new gA.2 152 [.int .i64 0, .int .i64 0]
    rw [AW.next_push] at O5
    have B2 := B.grown gB
    have c4 := O4.cell (o := 0) rfl rfl
    have c4' := O4.cell (o := 1) rfl rfl
    have kn := B2.kn.cell (o := 0) rfl rfl
    have hlk := Knows.lookup B2.map kd s (by omega)
    simp only [restV, payV] at hlk
    refine callT_code rfl Tryz.func132 rfl Tryz.s132_eq rfl ?_
    unfold Tryz.s132
    have gC := gB.push (.cells [.int .i64 0, .int .i64 0] 152 (w.next + 1 + 1) 0 0)
    have O6 := Own.new gB.2 152 [.int .i64 0, .int .i64 0]
    simp only [AW.next_push] at O6
    have O4' := O4.push (.cells [.int .i64 0, .int .i64 0] 152 (w.next + 1 + 1) 0 0)
    have O5' := O5.push (.cells [.int .i64 0, .int .i64 0] 152 (w.next + 1 + 1) 0 0)
    have B3 := B.grown gC
    have hw0 := B.k0.next
    have hkl := B.kn.lt
    have hdl := B.dr.lt
    have hbl := B.be.lt
    have hrl := B.rl.2
    rcases hlk with hlk | ⟨hlk, hks⟩
    · generalize hp : bestV ((C.zip H).drop kd) s = p at *
      have hst := storeV_own (o := 0) (l := [.int .i64 p.1, .int .i64 p.2]) (size := 2) O6 rfl (by omega) (by simp) (by rfl)
      simp only [setsL, setL] at hst
      have O6b := O6.put [.int .i64 p.1, .int .i64 p.2]
      have m6 := MutS.put (S := fun j => j = w.next + 1 + 1) gC.2 rfl O6.lt (.cells [.int .i64 p.1, .int .i64 p.2] 152 (w.next + 1 + 1) 0 0)
      have B4 := B3.put (c' := [.int .i64 p.1, .int .i64 p.2]) O6 (by omega) (by omega)
      have O5b := m6.own O5' (by omega)
      have hst2 := storeV_own (o := 0) (l := [.int .i64 p.1, .int .i64 p.2]) (size := 2) O5b rfl (by omega) (by simp) (by rfl)
      simp only [setsL, setL] at hst2
      have m5 := MutS.put (S := fun j => j = w.next + 1) m6.fresh rfl O5b.lt (.cells [.int .i64 p.1, .int .i64 p.2] 152 (w.next + 1) 0 0)
      have B5 := B4.put (c' := [.int .i64 p.1, .int .i64 p.2]) O5b (by omega) (by omega)
      have O5c := O5b.put [.int .i64 p.1, .int .i64 p.2]
      have d0 := O6b.cell (o := 0) rfl rfl
      have d1 := O6b.cell (o := 1) rfl rfl
      have q0 := O5c.cell (o := 0) rfl rfl
      have q1 := O5c.cell (o := 1) rfl rfl
      simp -dsimp -implicitDefEqProofs (maxSteps := 2000000) (disch := first | assumption | omega | (simp only [nx]; omega) | ((repeat refine Fresh.push ?_ _); assumption) | (simp only [smA]; done) | (simp [oneCell, AW.next_push]; done) | fail) only [go_sem, Nat.reduceEqDiff, reduceIte, Nat.reduceAdd, Int.toNat_natCast, Nat.add_zero, Owes_true, Tryz.results132, Nat.zero_add, c4, c4', kn, hlk, hst, d0, d1, hst2, q0, q1]
      exact ⟨rfl, B5, ((MutS.of gC).trans m6 fun j q => .inr (by omega)).trans m5 fun j q => .inr (by omega)⟩
    have hst := storeV_own (o := 0) (l := [.int .i64 0, .int .i64 0]) (size := 2) O6 rfl (by omega) (by simp) (by rfl)
    simp only [setsL, setL] at hst
    have O6b := O6.put [.int .i64 0, .int .i64 0]
    have m6 := MutS.put (S := fun j => j = w.next + 1 + 1) gC.2 rfl O6.lt (.cells [.int .i64 0, .int .i64 0] 152 (w.next + 1 + 1) 0 0)
    have B4 := B3.put (c' := [.int .i64 0, .int .i64 0]) O6 (by omega) (by omega)
    have O5b := m6.own O5' (by omega)
    have O4b := m6.own O4' (by omega)
    have hst2 := storeV_own1 (o := 1) (v := .int .i64 1048576) O6b (by simp) rfl
    simp only [setL] at hst2
    have O6c := O6b.put [.int .i64 0, .int .i64 1048576]
    have m7 := MutS.put (S := fun j => j = w.next + 1 + 1) m6.fresh rfl O6b.lt (.cells [.int .i64 0, .int .i64 1048576] 152 (w.next + 1 + 1) 0 0)
    have B5 := B4.put (c' := [.int .i64 0, .int .i64 1048576]) O6b (by omega) (by omega)
    have O5c := m7.own O5b (by omega)
    have O4c := m7.own O4b (by omega)
    have d4 := O4c.cell (o := 0) rfl rfl
    have d5 := O4c.cell (o := 1) rfl rfl
    have hdr := B5.dr.cell (o := 0) rfl rfl
    have hM : MutS (fun j => j = r) w _ := ((MutS.of gC).trans m6 fun j q => .inr (by omega)).trans m7 fun j q => .inr (by omega)
    by_cases hlt : (kd : Int) < (C.length : Int)
    case neg =>
      have hkk : kd = C.length := by omega
      have hs2 : s ≠ 0 := by rcases hks with q | q; omega; exact q
      have hbv : bestV ((C.zip H).drop kd) s = (0, 1048576) := by
        rw [List.drop_of_length_le (by omega)]; simp only [bestV, if_neg hs2]
      obtain ⟨wu, hup, hKu, hmu⟩ := Knows.update B5.f B5.map B5.rl.2 kd s (by omega)
      rw [hbv] at hup
      simp only [restV, payV] at hup
      have Bu := B5.step hmu hKu
      have hrr := B5.rl
      have O6u := hmu.own O6c (by omega)
      have O5u := hmu.own O5c (by omega)
      have v0 := O6u.cell (o := 0) rfl rfl
      have v1 := O6u.cell (o := 1) rfl rfl
      have x0 := O6c.cell (o := 0) rfl rfl
      have x1 := O6c.cell (o := 1) rfl rfl
      have y0 := O4c.cell (o := 0) rfl rfl
      have y1 := O4c.cell (o := 1) rfl rfl
      have kx := B5.kn.cell (o := 0) rfl rfl
      have hs5 := storeV_own (o := 0) (l := [.int .i64 0, .int .i64 1048576]) (size := 2) O5u rfl (by omega) (by simp) (by rfl)
      simp only [setsL, setL] at hs5
      have m5u := MutS.put (S := fun j => j = w.next + 1) hmu.fresh rfl O5u.lt (.cells [.int .i64 0, .int .i64 1048576] 152 (w.next + 1) 0 0)
      have B9 := Bu.put (c' := [.int .i64 0, .int .i64 1048576]) O5u (by omega) (by omega)
      have O59 := O5u.put [.int .i64 0, .int .i64 1048576]
      have z0 := O59.cell (o := 0) rfl rfl
      have z1 := O59.cell (o := 1) rfl rfl
      simp -dsimp -implicitDefEqProofs (maxSteps := 2000000) (disch := first | assumption | omega | (simp only [nx]; omega) | ((repeat refine Fresh.push ?_ _); assumption) | (simp only [smA]; done) | (simp [oneCell, AW.next_push]; done) | fail) only [go_sem, Nat.reduceEqDiff, reduceIte, Nat.reduceAdd, Int.toNat_natCast, Nat.add_zero, Owes_true, Tryz.results132, Nat.zero_add, c4, c4', kn, hlk, hst, hst2, d4, hdr, hlt, x0, x1, y0, y1, kx, hup, v0, v1, hs5, z0, z1]
      exact ⟨by rw [hbv]; rfl, B9, (hM.trans hmu (Within.refl _ _)).trans m5u fun j q => .inr (by omega)⟩
    have hlt' : kd < C.length := by omega
    have hkH : (kd : Int) < (H.length : Int) := by omega
    obtain ⟨bC, oC, rfl, hbC, hcC⟩ := hatC kd hlt'
    obtain ⟨bH, oH, rfl, hbH, hcH⟩ := hatH kd (by omega)
    have aC := hcC _ B5.k0 0 _ rfl
    have aH := hcH _ B5.k0 0 _ rfl
    simp only [Nat.add_zero] at aC aH
    have hcc := hc _ (List.getElem_mem hlt')
    have hhk := hh _ (List.getElem_mem (show kd < H.length by omega))
    have hdr1 := B5.dr.cell (o := 1) rfl rfl
    have hdz := drop_zip (C := C) (H := H) hlt' hl
    have ih := ih hlt'
    generalize C[kd] = c at *
    generalize H[kd]'(by omega) = x at *
    have hc0 : ¬ c = 0 := by omega
    have htd : s.tdiv c = s / c := Int.tdiv_eq_ediv_of_nonneg hs0
    have hq0 : 0 ≤ s / c := Int.ediv_nonneg hs0 (by omega)
    have hq1 : s / c * c ≤ s := Int.ediv_mul_le s (by omega)
    have hq2 : s / c ≤ s := Int.ediv_le_self _ hs0
    obtain ⟨M, hMM⟩ : ∃ M : Nat, min x (s / c) = (M : Int) := ⟨(min x (s / c)).toNat, by omega⟩
    have hbv : bestV ((C.zip H).drop kd) s = foldTo ((C.zip H).drop (kd + 1)) c s (M + 1) := by
      rw [hdz, bestV_cons, htd, hMM]; rfl
    generalize hqq : s / c = q at *
    simp -dsimp -implicitDefEqProofs (maxSteps := 2000000) (disch := first | assumption | omega | (simp only [nx]; omega) | ((repeat refine Fresh.push ?_ _); assumption) | (simp only [smA]; done) | (simp [oneCell, AW.next_push]; done) | fail) only [go_sem, Nat.reduceEqDiff, reduceIte, Nat.reduceAdd, Int.toNat_natCast, Nat.add_zero, Owes_true, Tryz.results132, Nat.zero_add, c4, c4', kn, hlk, hst, hst2, d4, d5, hdr, hdr1, hlt, hkH, indexV_eq, aC, aH, hc0, htd, hMM]
    have hq3 : (M : Int) ≤ 100 := by omega
    refine loopR (fun k t ds w5 => ∃ m : Nat, m ≤ M + 1 ∧ k = M + 1 - m ∧ ds = [] ∧ ev t (.tmp 1) = .pointer (some ⟨bk, 0, none⟩) ∧ ev t (.tmp 3) = .pointer (some ⟨bb, 0, none⟩) ∧ ev t (.tmp 4) = .pointer (some ⟨w.next, 0, none⟩) ∧ ev t (.tmp 5) = .pointer (some ⟨w.next + 1, 0, none⟩) ∧ ev t (.tmp 6) = .pointer (some ⟨w.next + 1 + 1, 0, none⟩) ∧ ev t (.tmp 8) = .int .i64 c ∧ ev t (.tmp 43) = .int .i64 ((M : Int) + 1) ∧ ev t (.tmp 44) = .int .i64 (m : Int) ∧ BestAt w0 w5 (C.zip H) (.slice (some ⟨bC, oC, none⟩) C.length cC) (.slice (some ⟨bH, oH, none⟩) H.length cH) r bk bd bb ∧ Own w5 (w.next + 1 + 1) 152 [.int .i64 (foldTo ((C.zip H).drop (kd + 1)) c s m).1, .int .i64 (foldTo ((C.zip H).drop (kd + 1)) c s m).2] ∧ Own w5 (w.next + 1) 152 [.int .i64 0, .int .i64 0] ∧ Own w5 w.next 154 [.int .i64 (kd : Int), .int .i64 s] ∧ MutS (fun j => j = r) w w5) (M + 1) ?_ ?_
    · refine ⟨0, by omega, by omega, rfl, ?_, ?_, ?_, ?_, ?_, ?_, ?_, ?_, B5, O6c, O5c, O4c, hM⟩ <;> simp -dsimp -implicitDefEqProofs (maxSteps := 2000000) (disch := first | assumption | omega | (simp only [nx]; omega) | ((repeat refine Fresh.push ?_ _); assumption) | (simp only [smA]; done) | (simp [oneCell, AW.next_push]; done) | fail) only [go_sem, Nat.reduceEqDiff, reduceIte, Nat.reduceAdd, Int.toNat_natCast, Nat.add_zero, Owes_true] <;> rfl
    rintro k t ds w5 ⟨m, him, rfl, rfl, e1, e3, e4, e5, e6, e8, e43, e44, hB, hO6, hO5, hO4, hM5⟩
    have hfin := foldTo_in (l := (C.zip H).drop (kd + 1)) (c := c) (s := s) (fun s => bestV_in _ s) m
    by_cases hml : (m : Int) < (M : Int) + 1
    case neg =>
      obtain rfl : m = M + 1 := by omega
      generalize hP : foldTo ((C.zip H).drop (kd + 1)) c s (M + 1) = P at *
      have hr5 := hM5.next
      obtain ⟨wu, hup, hKu, hmu⟩ := Knows.update hB.f hB.map hB.rl.2 kd s (by omega)
      rw [hbv] at hup
      simp only [restV, payV] at hup
      have Bu := hB.step hmu hKu
      have hrr := hB.rl
      have O6u := hmu.own hO6 (by omega)
      have O5u := hmu.own hO5 (by omega)
      have v0 := O6u.cell (o := 0) rfl rfl
      have v1 := O6u.cell (o := 1) rfl rfl
      have x0 := hO6.cell (o := 0) rfl rfl
      have x1 := hO6.cell (o := 1) rfl rfl
      have y0 := hO4.cell (o := 0) rfl rfl
      have y1 := hO4.cell (o := 1) rfl rfl
      have kx := hB.kn.cell (o := 0) rfl rfl
      have hs5 := storeV_own (o := 0) (l := [.int .i64 P.1, .int .i64 P.2]) (size := 2) O5u rfl (by omega) (by simp) (by rfl)
      simp only [setsL, setL] at hs5
      have m5u := MutS.put (S := fun j => j = w.next + 1) hmu.fresh rfl O5u.lt (.cells [.int .i64 P.1, .int .i64 P.2] 152 (w.next + 1) 0 0)
      have B9 := Bu.put (c' := [.int .i64 P.1, .int .i64 P.2]) O5u (by omega) (by omega)
      have O59 := O5u.put [.int .i64 P.1, .int .i64 P.2]
      have z0 := O59.cell (o := 0) rfl rfl
      have z1 := O59.cell (o := 1) rfl rfl
      simp -dsimp -implicitDefEqProofs (maxSteps := 2000000) (disch := first | assumption | omega | (simp only [nx]; omega) | ((repeat refine Fresh.push ?_ _); assumption) | (simp only [smA]; done) | (simp [oneCell, AW.next_push]; done) | fail) only [go_sem, Nat.reduceEqDiff, reduceIte, Nat.reduceAdd, Int.toNat_natCast, Nat.add_zero, Owes_true, Tryz.results132, Nat.zero_add, e1, e3, e4, e5, e6, e8, e43, e44, hml, x0, x1, y0, y1, kx, hup, v0, v1, hs5, z0, z1]
      exact ⟨by rw [hbv]; rfl, B9, (hM5.trans hmu (Within.refl _ _)).trans m5u fun j q => .inr (by omega)⟩
    have hmc : (m : Int) * c ≤ q * c := Int.mul_le_mul_of_nonneg_right (by omega) (by omega)
    have hmc0 : 0 ≤ (m : Int) * c := Int.mul_nonneg (by omega) (by omega)
    have hsuc := foldTo_succ ((C.zip H).drop (kd + 1)) c s m
    have b4 := hO4.cell (o := 0) rfl rfl
    have b5 := hO4.cell (o := 1) rfl rfl
    have bbc := hB.be.cell (o := 0) rfl rfl
    have hs3 := same_fn3 132 bk bd bb
    have hbi := bestV_in ((C.zip H).drop (kd + 1)) (s - (m : Int) * c)
    have hih := ih (s - (m : Int) * c) (by omega) (by omega) w5 hB
    rw [show ((kd + 1 : Nat) : Int) = (kd : Int) + 1 from by omega] at hih
    generalize hmcv : (m : Int) * c = mc at *
    simp -dsimp -implicitDefEqProofs (maxSteps := 2000000) (disch := first | assumption | omega | (simp only [nx]; omega) | ((repeat refine Fresh.push ?_ _); assumption) | (simp only [smA]; done) | (simp [oneCell, AW.next_push]; done) | fail) only [go_sem, Nat.reduceEqDiff, reduceIte, Nat.reduceAdd, Int.toNat_natCast, Nat.add_zero, Owes_true, Nat.zero_add, e1, e3, e4, e5, e6, e8, e43, e44, hml, b4, b5, bbc, hs3, hmcv]
    apply callV_of (e := rfl)
    · exact hih
    rintro _ w6 ⟨rfl, hB6, hM6⟩
    have hr5 := hM5.next
    have hr6 := hM6.next
    have hrl5 := hB.rl
    have O6w := hM6.own hO6 (by omega)
    have O5w := hM6.own hO5 (by omega)
    have O4w := hM6.own hO4 (by omega)
    generalize hxx : bestV ((C.zip H).drop (kd + 1)) (s - mc) = X at *
    have gN := (Grown.refl hB6.f).push (.cells [.int .i64 0, .int .i64 0] 152 w6.next 0 0)
    have ON := Own.new hB6.f 152 [.int .i64 0, .int .i64 0]
    have hst3 := storeV_own (o := 0) (l := [.int .i64 X.1, .int .i64 X.2]) (size := 2) ON rfl (by omega) (by simp) (by rfl)
    simp only [setsL, setL] at hst3
    have mN := MutS.put (S := fun j => j = w6.next) gN.2 rfl ON.lt (.cells [.int .i64 X.1, .int .i64 X.2] 152 w6.next 0 0)
    have ON2 := ON.put [.int .i64 X.1, .int .i64 X.2]
    have B7 := (hB6.grown gN).put (c' := [.int .i64 X.1, .int .i64 X.2]) ON (by have := hB6.k0.next; omega) (by have := hB6.rl.2; have := hB6.kn.lt; have := hB6.dr.lt; have := hB6.be.lt; omega)
    have O67 := mN.own (O6w.keep gN.1) (by have := O6w.lt; omega)
    have O57 := mN.own (O5w.keep gN.1) (by have := O5w.lt; omega)
    have O47 := mN.own (O4w.keep gN.1) (by have := O4w.lt; omega)
    have hM7 : MutS (fun j => j = r) w _ := ((hM5.trans hM6 (Within.refl _ _)).trans (MutS.of (S := fun j => j = r) gN) (Within.refl _ _)).trans mN fun j q => .inr (by omega)
    have n1 := ON2.cell (o := 1) rfl rfl
    have p0 := O67.cell (o := 0) rfl rfl
    have p1 := O67.cell (o := 1) rfl rfl
    have hfin0 := hfin
    by_cases hle : (m : Int) + X.2 ≤ (foldTo ((C.zip H).drop (kd + 1)) c s m).2
    · rw [if_pos hle] at hsuc
      have hst4 := storeV_own (o := 0) (l := [.int .i64 (m : Int), .int .i64 ((m : Int) + X.2)]) (size := 2) O67 rfl (by omega) (by simp) (by rfl)
      simp only [setsL, setL] at hst4
      have m67 := MutS.put (S := fun j => j = w.next + 1 + 1) mN.fresh rfl O67.lt (.cells [.int .i64 (m : Int), .int .i64 ((m : Int) + X.2)] 152 (w.next + 1 + 1) 0 0)
      have B8 := B7.put (c' := [.int .i64 (m : Int), .int .i64 ((m : Int) + X.2)]) O67 (by omega) (by have := B.rl.2; omega)
      have O68 := O67.put [.int .i64 (m : Int), .int .i64 ((m : Int) + X.2)]
      have O58 := m67.own O57 (by omega)
      have O48 := m67.own O47 (by omega)
      generalize foldTo ((C.zip H).drop (kd + 1)) c s m = Fm at *
      simp -dsimp -implicitDefEqProofs (maxSteps := 2000000) (disch := first | assumption | omega | (simp only [nx]; omega) | ((repeat refine Fresh.push ?_ _); assumption) | (simp only [smA]; done) | (simp [oneCell, AW.next_push]; done) | fail) only [go_sem, Nat.reduceEqDiff, reduceIte, Nat.reduceAdd, Int.toNat_natCast, Nat.add_zero, Owes_true, Nat.zero_add, e1, e3, e4, e5, e6, e8, e43, e44, payV, hst3, n1, p0, p1, hle, hst4]
      refine ⟨_, by omega, m + 1, by omega, rfl, rfl, by (simp -dsimp -implicitDefEqProofs (maxSteps := 2000000) (disch := first | assumption | omega | (simp only [nx]; omega) | ((repeat refine Fresh.push ?_ _); assumption) | (simp only [smA]; done) | (simp [oneCell, AW.next_push]; done) | fail) only [go_sem, Nat.reduceEqDiff, reduceIte, Nat.reduceAdd, Int.toNat_natCast, Nat.add_zero, Owes_true, e1]; try rfl), by (simp -dsimp -implicitDefEqProofs (maxSteps := 2000000) (disch := first | assumption | omega | (simp only [nx]; omega) | ((repeat refine Fresh.push ?_ _); assumption) | (simp only [smA]; done) | (simp [oneCell, AW.next_push]; done) | fail) only [go_sem, Nat.reduceEqDiff, reduceIte, Nat.reduceAdd, Int.toNat_natCast, Nat.add_zero, Owes_true, e3]; try rfl), by (simp -dsimp -implicitDefEqProofs (maxSteps := 2000000) (disch := first | assumption | omega | (simp only [nx]; omega) | ((repeat refine Fresh.push ?_ _); assumption) | (simp only [smA]; done) | (simp [oneCell, AW.next_push]; done) | fail) only [go_sem, Nat.reduceEqDiff, reduceIte, Nat.reduceAdd, Int.toNat_natCast, Nat.add_zero, Owes_true, e4]; try rfl), by (simp -dsimp -implicitDefEqProofs (maxSteps := 2000000) (disch := first | assumption | omega | (simp only [nx]; omega) | ((repeat refine Fresh.push ?_ _); assumption) | (simp only [smA]; done) | (simp [oneCell, AW.next_push]; done) | fail) only [go_sem, Nat.reduceEqDiff, reduceIte, Nat.reduceAdd, Int.toNat_natCast, Nat.add_zero, Owes_true, e5]; try rfl), by (simp -dsimp -implicitDefEqProofs (maxSteps := 2000000) (disch := first | assumption | omega | (simp only [nx]; omega) | ((repeat refine Fresh.push ?_ _); assumption) | (simp only [smA]; done) | (simp [oneCell, AW.next_push]; done) | fail) only [go_sem, Nat.reduceEqDiff, reduceIte, Nat.reduceAdd, Int.toNat_natCast, Nat.add_zero, Owes_true, e6]; try rfl), by (simp -dsimp -implicitDefEqProofs (maxSteps := 2000000) (disch := first | assumption | omega | (simp only [nx]; omega) | ((repeat refine Fresh.push ?_ _); assumption) | (simp only [smA]; done) | (simp [oneCell, AW.next_push]; done) | fail) only [go_sem, Nat.reduceEqDiff, reduceIte, Nat.reduceAdd, Int.toNat_natCast, Nat.add_zero, Owes_true, e8]; try rfl), by (simp -dsimp -implicitDefEqProofs (maxSteps := 2000000) (disch := first | assumption | omega | (simp only [nx]; omega) | ((repeat refine Fresh.push ?_ _); assumption) | (simp only [smA]; done) | (simp [oneCell, AW.next_push]; done) | fail) only [go_sem, Nat.reduceEqDiff, reduceIte, Nat.reduceAdd, Int.toNat_natCast, Nat.add_zero, Owes_true, e43]; try rfl), by (simp -dsimp -implicitDefEqProofs (maxSteps := 2000000) (disch := first | assumption | omega | (simp only [nx]; omega) | ((repeat refine Fresh.push ?_ _); assumption) | (simp only [smA]; done) | (simp [oneCell, AW.next_push]; done) | fail) only [go_sem, Nat.reduceEqDiff, reduceIte, Nat.reduceAdd, Int.toNat_natCast, Nat.add_zero, Owes_true, e44]; try rfl), B8, (by rw [hsuc]; exact O68), O58, O48, hM7.trans m67 fun j q => .inr (by omega)⟩
    · rw [if_neg hle] at hsuc
      generalize foldTo ((C.zip H).drop (kd + 1)) c s m = Fm at *
      simp -dsimp -implicitDefEqProofs (maxSteps := 2000000) (disch := first | assumption | omega | (simp only [nx]; omega) | ((repeat refine Fresh.push ?_ _); assumption) | (simp only [smA]; done) | (simp [oneCell, AW.next_push]; done) | fail) only [go_sem, Nat.reduceEqDiff, reduceIte, Nat.reduceAdd, Int.toNat_natCast, Nat.add_zero, Owes_true, Nat.zero_add, e1, e3, e4, e5, e6, e8, e43, e44, payV, hst3, n1, p0, p1, hle]
      refine ⟨_, by omega, m + 1, by omega, rfl, rfl, by (simp -dsimp -implicitDefEqProofs (maxSteps := 2000000) (disch := first | assumption | omega | (simp only [nx]; omega) | ((repeat refine Fresh.push ?_ _); assumption) | (simp only [smA]; done) | (simp [oneCell, AW.next_push]; done) | fail) only [go_sem, Nat.reduceEqDiff, reduceIte, Nat.reduceAdd, Int.toNat_natCast, Nat.add_zero, Owes_true, e1]; try rfl), by (simp -dsimp -implicitDefEqProofs (maxSteps := 2000000) (disch := first | assumption | omega | (simp only [nx]; omega) | ((repeat refine Fresh.push ?_ _); assumption) | (simp only [smA]; done) | (simp [oneCell, AW.next_push]; done) | fail) only [go_sem, Nat.reduceEqDiff, reduceIte, Nat.reduceAdd, Int.toNat_natCast, Nat.add_zero, Owes_true, e3]; try rfl), by (simp -dsimp -implicitDefEqProofs (maxSteps := 2000000) (disch := first | assumption | omega | (simp only [nx]; omega) | ((repeat refine Fresh.push ?_ _); assumption) | (simp only [smA]; done) | (simp [oneCell, AW.next_push]; done) | fail) only [go_sem, Nat.reduceEqDiff, reduceIte, Nat.reduceAdd, Int.toNat_natCast, Nat.add_zero, Owes_true, e4]; try rfl), by (simp -dsimp -implicitDefEqProofs (maxSteps := 2000000) (disch := first | assumption | omega | (simp only [nx]; omega) | ((repeat refine Fresh.push ?_ _); assumption) | (simp only [smA]; done) | (simp [oneCell, AW.next_push]; done) | fail) only [go_sem, Nat.reduceEqDiff, reduceIte, Nat.reduceAdd, Int.toNat_natCast, Nat.add_zero, Owes_true, e5]; try rfl), by (simp -dsimp -implicitDefEqProofs (maxSteps := 2000000) (disch := first | assumption | omega | (simp only [nx]; omega) | ((repeat refine Fresh.push ?_ _); assumption) | (simp only [smA]; done) | (simp [oneCell, AW.next_push]; done) | fail) only [go_sem, Nat.reduceEqDiff, reduceIte, Nat.reduceAdd, Int.toNat_natCast, Nat.add_zero, Owes_true, e6]; try rfl), by (simp -dsimp -implicitDefEqProofs (maxSteps := 2000000) (disch := first | assumption | omega | (simp only [nx]; omega) | ((repeat refine Fresh.push ?_ _); assumption) | (simp only [smA]; done) | (simp [oneCell, AW.next_push]; done) | fail) only [go_sem, Nat.reduceEqDiff, reduceIte, Nat.reduceAdd, Int.toNat_natCast, Nat.add_zero, Owes_true, e8]; try rfl), by (simp -dsimp -implicitDefEqProofs (maxSteps := 2000000) (disch := first | assumption | omega | (simp only [nx]; omega) | ((repeat refine Fresh.push ?_ _); assumption) | (simp only [smA]; done) | (simp [oneCell, AW.next_push]; done) | fail) only [go_sem, Nat.reduceEqDiff, reduceIte, Nat.reduceAdd, Int.toNat_natCast, Nat.add_zero, Owes_true, e43]; try rfl), by (simp -dsimp -implicitDefEqProofs (maxSteps := 2000000) (disch := first | assumption | omega | (simp only [nx]; omega) | ((repeat refine Fresh.push ?_ _); assumption) | (simp only [smA]; done) | (simp [oneCell, AW.next_push]; done) | fail) only [go_sem, Nat.reduceEqDiff, reduceIte, Nat.reduceAdd, Int.toNat_natCast, Nat.add_zero, Owes_true, e44]; try rfl), B7, (by rw [hsuc]; exact O67), O57, O47, hM7⟩
theorem best_ok (C H : List Int) (u h : Value) (w0 : AW) (hC : ArrOf w0 1 icells u C) (hH : ArrOf w0 1 icells h H) (hl : H.length = C.length) (hc : ∀ c ∈ C, 1 ≤ c ∧ c ≤ 50000) (hh : ∀ x ∈ H, 0 ≤ x ∧ x ≤ 100) (r bk bd bb : Nat) :
    ∀ (n k : Nat), C.length - k = n → k ≤ C.length → BestP w0 C H u h r bk bd bb k := by
  intro n
  induction n with
  | zero => exact fun k hn hk => best_step C H u h w0 hC hH hl hc hh r bk bd bb k hk fun q => absurd q (by omega)
  | succ n ih => exact fun k hn hk => best_step C H u h w0 hC hH hl hc hh r bk bd bb k hk fun q => ih (k + 1) (by omega) (by omega)
end Go.Proofs

namespace Go.Proofs
open Go Go.RowKit Go.Sim
set_option maxRecDepth 100000
theorem bld154a (n : Int) : bldQ [(0, 1), (1, 1)] [.int .i64 0, .int .i64 0] [(0, .int .i64 n)] = some (.agg #[.int .i64 n, .int .i64 0]) := by kernel_rfl
theorem bld154b (n : Int) : bldQ [(0, 1), (1, 1)] [.int .i64 0, .int .i64 0] [(1, .int .i64 n)] = some (.agg #[.int .i64 0, .int .i64 n]) := by kernel_rfl
attribute [go_sem] bld154a bld154b
theorem update_first (w : AW) (r : Nat) (n : Int) (h : w.blk r = some (.map #[] 0)) : updateV (prg Tryz.prog) w 180 (.map (some r)) (restV n 0) (payV (0, 0)) = some (w.put r (.map #[{ key := restV n 0, val := payV (0, 0), born := 0 }] 1)) := by
  have hf := fine154 false n 0
  simp only [updateV, Tryz.ty180, Tryz.ty154, h, simpleKey, aggKey, flat_rest, show (prg Tryz.prog).p = Tryz.prog from rfl, hf, Bool.and_self, findAskQ]
  rfl
set_option maxHeartbeats 4000000 in
theorem payments_ok (C H : List Int) (u h : Value) (w : AW) (f : Fresh w) (hC : ArrOf w 1 icells u C) (hH : ArrOf w 1 icells h H) (hl : H.length = C.length) :
    CallT Tryz.prog Tryz.T1 (.fn (.func 95) #[]) #[.agg #[u, h]] w (fun rv w' => ∃ r bk bd bb, rv = .func (.func 132) #[] #[.pointer (some ⟨bk, 0, none⟩), .pointer (some ⟨bd, 0, none⟩), .pointer (some ⟨bb, 0, none⟩)] ∧ BestAt w w' (C.zip H) u h r bk bd bb ∧ Grown w w') := by
  obtain ⟨p, cC, rfl, _⟩ := id hC.open
  obtain ⟨q, cH, rfl, _⟩ := id hH.open
  have g1 := (Grown.refl f).push (.cells [.slice p C.length cC, .slice q H.length cH] 24 w.next 0 0)
  have O1 := Own.new f 24 [.slice p C.length cC, .slice q H.length cH]
  have c0 := O1.cell (o := 0) rfl rfl
  have g2 := g1.push (.map #[] 0)
  have hb2 := blk_push_top (w.push (.cells [.slice p C.length cC, .slice q H.length cH] 24 w.next 0 0)) (.map #[] 0)
  rw [AW.next_push] at hb2
  have hup := update_first _ (w.next + 1) (C.length : Int) hb2
  simp only [restV, payV] at hup
  have O1b := O1.push (.map #[] 0)
  have m3 := MutS.put (S := fun j => j = w.next + 1) g2.2 rfl (by rw [AW.next_push, AW.next_push]; omega) (.map #[{ key := restV C.length 0, val := payV (0, 0), born := 0 }] 1)
  simp only [restV, payV] at m3
  have O1c := m3.own O1b (by omega)
  have hr3 : (((w.push (.cells [.slice p C.length cC, .slice q H.length cH] 24 w.next 0 0)).push (.map #[] 0)).put (w.next + 1) (.map #[{ key := .agg #[.int .i64 (C.length : Int), .int .i64 0], val := .agg #[.int .i64 0, .int .i64 0], born := 0 }] 1)).blk (w.next + 1) = some (.map #[{ key := .agg #[.int .i64 (C.length : Int), .int .i64 0], val := .agg #[.int .i64 0, .int .i64 0], born := 0 }] 1) := by
    rw [AW.blk_put _ _ _ _ (Trie.in_ _) (Trie.in_ _), if_pos rfl]
  have g3 : Grown w _ := ⟨g2.1.put (b := w.next + 1) (by omega) _, m3.fresh⟩
  have hn3 : (((w.push (.cells [.slice p C.length cC, .slice q H.length cH] 24 w.next 0 0)).push (.map #[] 0)).put (w.next + 1) (.map #[{ key := .agg #[.int .i64 (C.length : Int), .int .i64 0], val := .agg #[.int .i64 0, .int .i64 0], born := 0 }] 1)).next = w.next + 1 + 1 := by rw [AW.next_put, AW.next_push, AW.next_push]
  generalize hw3 : ((w.push (.cells [.slice p C.length cC, .slice q H.length cH] 24 w.next 0 0)).push (.map #[] 0)).put (w.next + 1) (.map #[{ key := .agg #[.int .i64 (C.length : Int), .int .i64 0], val := .agg #[.int .i64 0, .int .i64 0], born := 0 }] 1) = w3 at *
  have O3 := Own.new g3.2 180 [.map none]
  rw [hn3] at O3
  have s3 := storeV_own1 (o := 0) (v := .map (some (w.next + 1))) O3 (by simp) rfl
  simp only [setL] at s3
  have gp := g3.push (.cells [.map none] 180 (w.next + 1 + 1) 0 0)
  have m4 := MutS.put (S := fun j => j = w.next + 1 + 1) gp.2 rfl O3.lt (.cells [.map (some (w.next + 1))] 180 (w.next + 1 + 1) 0 0)
  have g4 : Grown w _ := ⟨gp.1.put (b := w.next + 1 + 1) (by omega) (.cells [.map (some (w.next + 1))] 180 (w.next + 1 + 1) 0 0), m4.fresh⟩
  have O1d := m4.own (O1c.push (.cells [.map none] 180 (w.next + 1 + 1) 0 0)) (by omega)
  have O3b := O3.put [.map (some (w.next + 1))]
  have hr4 : ((w3.push (.cells [.map none] 180 (w.next + 1 + 1) 0 0)).put (w.next + 1 + 1) (.cells [.map (some (w.next + 1))] 180 (w.next + 1 + 1) 0 0)).blk (w.next + 1) = some (.map #[{ key := .agg #[.int .i64 (C.length : Int), .int .i64 0], val := .agg #[.int .i64 0, .int .i64 0], born := 0 }] 1) := by
    rw [m4.blk _ (by rw [AW.next_push]; omega) (by omega), AW.blk_push _ _ _ (Trie.in_ _) (Trie.in_ _), if_neg (by omega), hr3]
  have hn4 : ((w3.push (.cells [.map none] 180 (w.next + 1 + 1) 0 0)).put (w.next + 1 + 1) (.cells [.map (some (w.next + 1))] 180 (w.next + 1 + 1) 0 0)).next = w.next + 1 + 1 + 1 := by rw [AW.next_put, AW.next_push, hn3]
  generalize hw4 : (w3.push (.cells [.map none] 180 (w.next + 1 + 1) 0 0)).put (w.next + 1 + 1) (.cells [.map (some (w.next + 1))] 180 (w.next + 1 + 1) 0 0) = w4 at *
  have O4 := Own.new g4.2 149 [.nilFunc]
  rw [hn4] at O4
  have s4 := storeV_own1 (o := 0) (v := .func (.func 132) #[] #[.pointer (some ⟨w.next + 1 + 1, 0, none⟩), .pointer (some ⟨w.next, 0, none⟩), .pointer (some ⟨w.next + 1 + 1 + 1, 0, none⟩)]) O4 (by simp) rfl
  simp only [setL] at s4
  have gq := g4.push (.cells [.nilFunc] 149 (w.next + 1 + 1 + 1) 0 0)
  have m5 := MutS.put (S := fun j => j = w.next + 1 + 1 + 1) gq.2 rfl O4.lt (.cells [.func (.func 132) #[] #[.pointer (some ⟨w.next + 1 + 1, 0, none⟩), .pointer (some ⟨w.next, 0, none⟩), .pointer (some ⟨w.next + 1 + 1 + 1, 0, none⟩)]] 149 (w.next + 1 + 1 + 1) 0 0)
  have g5 : Grown w _ := ⟨gq.1.put (b := w.next + 1 + 1 + 1) (by omega) (.cells [.func (.func 132) #[] #[.pointer (some ⟨w.next + 1 + 1, 0, none⟩), .pointer (some ⟨w.next, 0, none⟩), .pointer (some ⟨w.next + 1 + 1 + 1, 0, none⟩)]] 149 (w.next + 1 + 1 + 1) 0 0), m5.fresh⟩
  have O1e := m5.own (O1d.push (.cells [.nilFunc] 149 (w.next + 1 + 1 + 1) 0 0)) (by omega)
  have O3e := m5.own (O3b.push (.cells [.nilFunc] 149 (w.next + 1 + 1 + 1) 0 0)) (by omega)
  have O4e := O4.put [.func (.func 132) #[] #[.pointer (some ⟨w.next + 1 + 1, 0, none⟩), .pointer (some ⟨w.next, 0, none⟩), .pointer (some ⟨w.next + 1 + 1 + 1, 0, none⟩)]]
  have c4 := O4e.cell (o := 0) rfl rfl
  have hs3 := same_fn3 132 (w.next + 1 + 1) w.next (w.next + 1 + 1 + 1)
  have hr5 := m5.blk (w.next + 1) (by rw [AW.next_push]; omega) (by omega)
  rw [AW.blk_push _ _ _ (Trie.in_ _) (Trie.in_ _), if_neg (by omega), hr4] at hr5
  have hlt5 := m5.next
  rw [AW.next_push] at hlt5
  refine callT_code rfl Tryz.func95 rfl Tryz.s95_eq rfl ?_
  unfold Tryz.s95
  simp -dsimp -implicitDefEqProofs (maxSteps := 2000000) (disch := first | assumption | omega | (simp only [nx]; omega) | ((repeat refine Fresh.push ?_ _); assumption) | (simp only [smA]; done) | (simp [oneCell, AW.next_push]; done) | fail) only [go_sem, Nat.reduceEqDiff, reduceIte, Nat.reduceAdd, Int.toNat_natCast, Nat.add_zero, Owes_true, Tryz.results95, Nat.zero_add, c0, hup, hn3, s3, hw4, hn4, s4, c4, hs3]
  refine ⟨w.next + 1, w.next + 1 + 1, w.next, w.next + 1 + 1 + 1, rfl, ⟨⟨_, _, hr5, ?_, ?_⟩, ⟨by omega, by omega⟩, O3e, O1e, O4e, ⟨by omega, by omega, by omega⟩, g5.1, g5.2⟩, g5⟩
  · intro e he
    simp only [List.mem_singleton] at he
    subst he
    refine ⟨(C.zip H).length, 0, Nat.le_refl _, ?_, ?_⟩
    · rw [List.length_zip, hl, Nat.min_self]; rfl
    · rw [List.drop_of_length_le (Nat.le_refl _)]; rfl
  · exact ⟨_, List.mem_singleton.2 rfl, by rw [List.length_zip, hl, Nat.min_self]; rfl⟩
end Go.Proofs

namespace Go.Proofs
open Go Go.RowKit Go.Sim
set_option maxRecDepth 100000
theorem icells_len (x : Int) : (icells x).length = 1 := rfl
theorem icells_one (x : Int) : ∀ v ∈ icells x, oneCell v = true := by intro v hv; simp [icells] at hv; subst hv; rfl
theorem AOwn.mut {B r : Nat} {w w' : AW} {e : TypeId} {size n : Nat} {v : Value} {cells : List Value} (h : AOwn B w e size v n cells) (k : MutS (fun j => j = r) w w') (hr : r < B) : AOwn B w' e size v n cells :=
  AOwnS.other (S := fun j => B ≤ j) h k fun j q e => by omega
theorem Tryz.bs22 (t : Tmps) (l : List (Nat × Operand)) : makes (prg Tryz.prog) t (.buildSlice 22 1 ⟨l⟩) = bsQ 3 1 1 [.int .i64 0] (l.map fun p => (p.1, ev t p.2)) := makes_bs Tryz.ty22 Tryz.ty3 rfl (by kernel_rfl)
attribute [go_sem] Tryz.bs22
def fieldQ (x : Value) (i : Nat) : Option Value := match x with
  | .agg cs => getL cs.toList i
  | _ => none
theorem Tryz.fd152x0 (t : Tmps) (w : AW) (x : Operand) : fast (prg Tryz.prog) t w (.field 152 x 0) = fieldQ (ev t x) 0 := by
  simp only [fast, Tryz.ty152]
  cases ev t x <;> first | rfl | (simp only [fieldQ, getL, Tryz.ty3, partV])
theorem Tryz.fd152x1 (t : Tmps) (w : AW) (x : Operand) : fast (prg Tryz.prog) t w (.field 152 x 1) = fieldQ (ev t x) 1 := by
  simp only [fast, Tryz.ty152]
  cases ev t x <;> first | rfl | (simp only [fieldQ, getL, Tryz.ty3, partV])
theorem fieldQ_two0 (a b : Value) : fieldQ (.agg #[a, b]) 0 = some a := rfl
theorem fieldQ_two1 (a b : Value) : fieldQ (.agg #[a, b]) 1 = some b := rfl
attribute [go_sem] Tryz.fd152x0 Tryz.fd152x1 fieldQ_two0 fieldQ_two1
def restAt (D : List (Int × Int)) (s : Int) : Nat → Int
  | 0 => s
  | i + 1 => restAt D s i - (bestV (D.drop i) (restAt D s i)).1 * (D.getD i (0, 0)).1
def payN (D : List (Int × Int)) (s : Int) (i : Nat) : Int := (bestV (D.drop i) (restAt D s i)).1
def payL (D : List (Int × Int)) (s : Int) (n : Nat) : List Int := (List.range n).map (payN D s)
theorem payL_succ (D : List (Int × Int)) (s : Int) (n : Nat) : payL D s (n + 1) = payL D s n ++ [payN D s n] := by
  unfold payL; rw [List.range_succ, List.map_append]; rfl
theorem payL_len (D : List (Int × Int)) (s : Int) (n : Nat) : (payL D s n).length = n := by unfold payL; simp
theorem first_in {c h s : Int} (l : List (Int × Int)) (hs : 0 ≤ s) (hc : 1 ≤ c) (hh : 0 ≤ h) : 0 ≤ (bestV ((c, h) :: l) s).1 ∧ (bestV ((c, h) :: l) s).1 ≤ h ∧ (bestV ((c, h) :: l) s).1 * c ≤ s := by
  rw [bestV_cons]
  have htd : s.tdiv c = s / c := Int.tdiv_eq_ediv_of_nonneg hs
  have hq0 : 0 ≤ s / c := Int.ediv_nonneg hs (by omega)
  have hq1 : s / c * c ≤ s := Int.ediv_mul_le s (by omega)
  have hf := foldTo_in (l := l) (c := c) (s := s) (fun s => bestV_in l s) ((min h (s.tdiv c)).toNat + 1)
  rw [htd] at hf ⊢
  generalize hF : (foldTo l c s ((min h (s / c)).toNat + 1)).1 = F at *
  have h1 : F ≤ h := by omega
  have h2 : F ≤ s / c := by omega
  exact ⟨hf.2.2.1, h1, Int.le_trans (Int.mul_le_mul_of_nonneg_right h2 (by omega)) hq1⟩
theorem BestAt.keepB {w0 w w' : AW} {D : List (Int × Int)} {u h : Value} {r bk bd bb B : Nat} (b : BestAt w0 w D u h r bk bd bb) (k : Keep B w w') (f : Fresh w') (hB : r < B ∧ bk < B ∧ bd < B ∧ bb < B) (h0 : w0.next ≤ B) : BestAt w0 w' D u h r bk bd bb := by
  have hn := k.next
  have own : ∀ {c : Nat} {e : TypeId} {l : List Value}, Own w c e l → c < B → Own w' c e l := fun h q => ⟨by rw [k.blk _ q]; exact h.blk, by rw [k.fam _ q]; exact h.fam, by have := h.lt; omega⟩
  exact ⟨b.map.other (k.blk r hB.1), ⟨b.rl.1, by have := b.rl.2; omega⟩, own b.kn hB.2.1, own b.dr hB.2.2.1, own b.be hB.2.2.2, b.ne, b.k0.trans (k.mono h0), f⟩
structure DIn (C H : List Int) : Prop where
  len : H.length = C.length
  c : ∀ c ∈ C, 1 ≤ c ∧ c ≤ 50000
  h : ∀ x ∈ H, 0 ≤ x ∧ x ≤ 100
theorem DIn.at {C H : List Int} (d : DIn C H) {i : Nat} (hi : i < C.length) : (C.zip H).drop i = (C[i], H[i]'(by rw [d.len]; exact hi)) :: (C.zip H).drop (i + 1) ∧ (C.zip H).getD i (0, 0) = (C[i], H[i]'(by rw [d.len]; exact hi)) ∧ 1 ≤ C[i] ∧ C[i] ≤ 50000 ∧ 0 ≤ H[i]'(by rw [d.len]; exact hi) ∧ H[i]'(by rw [d.len]; exact hi) ≤ 100 := by
  have h1 := d.c _ (List.getElem_mem hi)
  have h2 := d.h _ (List.getElem_mem (show i < H.length by rw [d.len]; exact hi))
  refine ⟨drop_zip hi d.len, ?_, h1.1, h1.2, h2.1, h2.2⟩
  rw [List.getD_eq_getElem?_getD, List.getElem?_eq_getElem (by rw [List.length_zip, d.len, Nat.min_self]; exact hi)]
  simp [List.getElem_zip]
theorem rest_in {C H : List Int} (d : DIn C H) {s : Int} (h0 : 0 ≤ s) : ∀ i, i ≤ C.length → 0 ≤ restAt (C.zip H) s i ∧ restAt (C.zip H) s i ≤ s
  | 0, _ => ⟨h0, Int.le_refl _⟩
  | i + 1, hi => by
    have ih := rest_in d h0 i (by omega)
    obtain ⟨e1, e2, a1, a2, b1, b2⟩ := d.at (show i < C.length by omega)
    have hf := first_in (c := C[i]) (h := H[i]'(by rw [d.len]; omega)) (s := restAt (C.zip H) s i) ((C.zip H).drop (i + 1)) ih.1 a1 b1
    simp only [restAt, e2]
    rw [e1]
    have : 0 ≤ (bestV ((C[i], H[i]'(by rw [d.len]; omega)) :: (C.zip H).drop (i + 1)) (restAt (C.zip H) s i)).1 * C[i] := Int.mul_nonneg hf.1 (by omega)
    omega
def payE (C H : List Int) (s : Int) : Int := if inR 0 s 2000 = false then 7 else if (bestV (C.zip H) s).2 = 1048576 then 4 else 0
set_option maxHeartbeats 8000000 in
theorem pay_ok (C H : List Int) (u h : Value) (s : Int) (w : AW) (f : Fresh w) (hC : ArrOf w 1 icells u C) (hH : ArrOf w 1 icells h H) (d : DIn C H) (h8 : C.length ≤ 1000) :
    CallT Tryz.prog Tryz.T1 (.fn (.func 52) #[]) #[.agg #[u, h], .int .i64 s] w (fun rv w' => ∃ v, rv = .tuple #[v, .int .i64 (payE C H s)] ∧ (payE C H s = 0 → ArrOf w' 1 icells v (payL (C.zip H) s C.length)) ∧ (payE C H s ≠ 0 → v = .slice none 0 0) ∧ Grown w w') := by
  obtain ⟨p, cC, rfl, _⟩ := id hC.open
  obtain ⟨q, cH, rfl, _⟩ := id hH.open
  have g1 := (Grown.refl f).push (.cells [.slice p C.length cC, .slice q H.length cH] 24 w.next 0 0)
  have O1 := Own.new f 24 [.slice p C.length cC, .slice q H.length cH]
  have c0 := O1.cell (o := 0) rfl rfl
  have c1 := O1.cell (o := 1) rfl rfl
  refine callT_code rfl Tryz.func52 rfl Tryz.s52_eq rfl ?_
  unfold Tryz.s52
  simp -dsimp -implicitDefEqProofs (maxSteps := 2000000) (disch := first | assumption | omega | (simp only [nx]; omega) | ((repeat refine Fresh.push ?_ _); assumption) | (simp only [smA]; done) | (simp [oneCell, AW.next_push]; done) | fail) only [go_sem, Nat.reduceEqDiff, reduceIte, Nat.reduceAdd, Int.toNat_natCast, Nat.add_zero, Owes_true, Tryz.results52]
  apply callV_of (e := rfl)
  · exact within_ok _ _ _ _
  rintro _ _ ⟨rfl, rfl⟩
  cases hr : inR 0 s 2000 with
  | false =>
    have hE : payE C H s = 7 := by unfold payE; rw [if_pos hr]
    simp -dsimp -implicitDefEqProofs (maxSteps := 2000000) (disch := first | assumption | omega | (simp only [nx]; omega) | ((repeat refine Fresh.push ?_ _); assumption) | (simp only [smA]; done) | (simp [oneCell, AW.next_push]; done) | fail) only [go_sem, Nat.reduceEqDiff, reduceIte, Nat.reduceAdd, Int.toNat_natCast, Nat.add_zero, Owes_true, Tryz.results52]
    exact ⟨_, by rw [hE], fun q => by rw [hE] at q; exact absurd q (by decide), fun _ => rfl, g1⟩
  | true =>
  have hs := (inR_iff _ _ _).1 hr
  simp -dsimp -implicitDefEqProofs (maxSteps := 2000000) (disch := first | assumption | omega | (simp only [nx]; omega) | ((repeat refine Fresh.push ?_ _); assumption) | (simp only [smA]; done) | (simp [oneCell, AW.next_push]; done) | fail) only [go_sem, Nat.reduceEqDiff, reduceIte, Nat.reduceAdd, Int.toNat_natCast, Nat.add_zero, Owes_true, Tryz.results52, Nat.zero_add, c0, c1]
  apply callV_of (e := rfl)
  · exact payments_ok C H _ _ _ g1.2 (hC.grown g1) (hH.grown g1) d.len
  rintro _ w1 ⟨r, bk, bd, bb, rfl, hB, hg1⟩
  have hs3 := same_fn3 132 bk bd bb
  have best := fun k hk => best_ok C H _ _ _ (hC.grown g1) (hH.grown g1) d.len d.c d.h r bk bd bb _ k rfl hk
  have hb0 := best 0 (Nat.zero_le _) s hs.1 hs.2 w1 hB
  rw [show ((0 : Nat) : Int) = 0 from rfl] at hb0
  simp -dsimp -implicitDefEqProofs (maxSteps := 2000000) (disch := first | assumption | omega | (simp only [nx]; omega) | ((repeat refine Fresh.push ?_ _); assumption) | (simp only [smA]; done) | (simp [oneCell, AW.next_push]; done) | fail) only [go_sem, Nat.reduceEqDiff, reduceIte, Nat.reduceAdd, Int.toNat_natCast, Nat.add_zero, Owes_true, Tryz.results52, hs3]
  apply callV_of (e := rfl)
  · exact hb0
  rintro _ w2 ⟨rfl, hB2, hM2⟩
  rw [List.drop_zero]
  have gg1 := g1.trans hg1
  have hrl := hB.rl
  have hn1 := AW.next_push w (.cells [.slice p C.length cC, .slice q H.length cH] 24 w.next 0 0)
  have hk2 : Keep w.next w w2 := gg1.1.trans (hM2.keep (fun j q => by omega) gg1.1.next)
  by_cases he : (bestV (C.zip H) s).2 = 1048576
  · have hE : payE C H s = 4 := by unfold payE; rw [if_neg (by rw [hr]; simp), if_pos he]
    have hed : decide ((bestV (C.zip H) s).2 = 1048576) = true := decide_eq_true he
    simp -dsimp -implicitDefEqProofs (maxSteps := 2000000) (disch := first | assumption | omega | (simp only [nx]; omega) | ((repeat refine Fresh.push ?_ _); assumption) | (simp only [smA]; done) | (simp [oneCell, AW.next_push]; done) | fail) only [go_sem, Nat.reduceEqDiff, reduceIte, Nat.reduceAdd, Int.toNat_natCast, Nat.add_zero, Owes_true, Tryz.results52, payV, hed]
    exact ⟨_, by rw [hE], fun q => by rw [hE] at q; exact absurd q (by decide), fun _ => rfl, ⟨hk2, hM2.fresh⟩⟩
  have hE : payE C H s = 0 := by unfold payE; rw [if_neg (by rw [hr]; simp), if_neg he]
  have hed : decide ((bestV (C.zip H) s).2 = 1048576) = false := decide_eq_false he
  have O12 := hM2.own (O1.keep hg1.1) (by omega)
  have c02 := O12.cell (o := 0) rfl rfl
  have hMn := hM2.next
  simp -dsimp -implicitDefEqProofs (maxSteps := 2000000) (disch := first | assumption | omega | (simp only [nx]; omega) | ((repeat refine Fresh.push ?_ _); assumption) | (simp only [smA]; done) | (simp [oneCell, AW.next_push]; done) | fail) only [go_sem, Nat.reduceEqDiff, reduceIte, Nat.reduceAdd, Int.toNat_natCast, Nat.add_zero, Owes_true, Tryz.results52, payV, hed, Nat.zero_add, c02]
  have gw2 : Grown w w2 := ⟨hk2, hM2.fresh⟩
  refine loopR (fun k t ds w3 => ∃ i : Nat, i ≤ C.length ∧ k = C.length - i ∧ ds = [] ∧ ev t (.tmp 6) = .func (.func 132) #[] #[.pointer (some ⟨bk, 0, none⟩), .pointer (some ⟨bd, 0, none⟩), .pointer (some ⟨bb, 0, none⟩)] ∧ ev t (.tmp 1) = .int .i64 (restAt (C.zip H) s i) ∧ ev t (.tmp 23) = .slice p C.length cC ∧ ev t (.tmp 24) = .int .i64 (C.length : Int) ∧ ev t (.tmp 25) = .int .i64 (i : Int) ∧ (∃ u, ev t (.tmp 7) = u ∧ AOwn w2.next w3 3 1 u (payL (C.zip H) s i).length ((payL (C.zip H) s i).flatMap icells)) ∧ BestAt (w.push (.cells [.slice p C.length cC, .slice q H.length cH] 24 w.next 0 0)) w3 (C.zip H) (.slice p C.length cC) (.slice q H.length cH) r bk bd bb ∧ Grown w w3 ∧ w2.next ≤ w3.next) (C.length) ?_ ?_
  · refine ⟨0, by omega, by omega, rfl, ?_, ?_, ?_, ?_, ?_, ⟨_, (by simp -dsimp -implicitDefEqProofs (maxSteps := 2000000) (disch := first | assumption | omega | (simp only [nx]; omega) | ((repeat refine Fresh.push ?_ _); assumption) | (simp only [smA]; done) | (simp [oneCell, AW.next_push]; done) | fail) only [go_sem, Nat.reduceEqDiff, reduceIte, Nat.reduceAdd, Int.toNat_natCast, Nat.add_zero, Owes_true]; try rfl), .inl ⟨rfl, rfl, rfl⟩⟩, hB2, gw2, Nat.le_refl _⟩ <;> simp -dsimp -implicitDefEqProofs (maxSteps := 2000000) (disch := first | assumption | omega | (simp only [nx]; omega) | ((repeat refine Fresh.push ?_ _); assumption) | (simp only [smA]; done) | (simp [oneCell, AW.next_push]; done) | fail) only [go_sem, Nat.reduceEqDiff, reduceIte, Nat.reduceAdd, Int.toNat_natCast, Nat.add_zero, Owes_true] <;> rfl
  rintro k t ds w3 ⟨i, hii, rfl, rfl, e6, e1, e23, e24, e25, hP, hB3, g3⟩
  obtain ⟨g3, hn3⟩ := g3
  obtain ⟨u3, e7, hA⟩ := hP
  by_cases hlt : (i : Int) < (C.length : Int)
  case neg =>
    obtain rfl : i = C.length := by omega
    obtain ⟨pu, nu, ku, rfl⟩ : ∃ p n c, u3 = .slice p n c := by
      rcases hA with ⟨rfl, _⟩ | ⟨b, r, rfl, _⟩
      · exact ⟨_, _, _, rfl⟩
      · exact ⟨_, _, _, rfl⟩
    have hAr := hA.arr icells_len (by rw [payL_len]; omega)
    simp -dsimp -implicitDefEqProofs (maxSteps := 2000000) (disch := first | assumption | omega | (simp only [nx]; omega) | ((repeat refine Fresh.push ?_ _); assumption) | (simp only [smA]; done) | (simp [oneCell, AW.next_push]; done) | fail) only [go_sem, Nat.reduceEqDiff, reduceIte, Nat.reduceAdd, Int.toNat_natCast, Nat.add_zero, Owes_true, Tryz.results52, e1, e6, e7, e23, e24, e25, hlt]
    exact ⟨_, by rw [hE], fun _ => hAr, fun q => absurd hE q, g3⟩
  have hlt' : i < C.length := by omega
  obtain ⟨pp, cc, eC, _, _, hatC⟩ := hC.open
  injection eC with eC1 eC2 eC3
  subst eC1
  obtain ⟨bC, oC, rfl, hbC, hcC⟩ := hatC i hlt'
  have aC := hcC _ g3.1 0 _ rfl
  simp only [Nat.add_zero] at aC
  have hri := rest_in d hs.1 i (by omega)
  obtain ⟨z1, z2, z3, z4, z5, z6⟩ := d.at hlt'
  have hf := first_in ((C.zip H).drop (i + 1)) hri.1 z3 z5
  rw [← z1] at hf
  have hbi := best i (by omega) (restAt (C.zip H) s i) hri.1 (by omega) w3 hB3
  have hpn : (bestV ((C.zip H).drop i) (restAt (C.zip H) s i)).1 = payN (C.zip H) s i := rfl
  have hrs : restAt (C.zip H) s (i + 1) = restAt (C.zip H) s i - payN (C.zip H) s i * C[i] := by simp only [restAt, z2]; rfl
  rw [hpn] at hf
  simp -dsimp -implicitDefEqProofs (maxSteps := 2000000) (disch := first | assumption | omega | (simp only [nx]; omega) | ((repeat refine Fresh.push ?_ _); assumption) | (simp only [smA]; done) | (simp [oneCell, AW.next_push]; done) | fail) only [go_sem, Nat.reduceEqDiff, reduceIte, Nat.reduceAdd, Int.toNat_natCast, Nat.add_zero, Owes_true, e1, e6, e7, e23, e24, e25, hlt, indexV_eq, aC, hs3]
  apply callV_of (e := rfl)
  · exact hbi
  rintro _ w4 ⟨rfl, hB4, hM4⟩
  have hrl3 := hB3.rl
  have hA4 := AOwn.mut hA hM4 (by have := hB.rl.2; omega)
  have hk4 : Keep w.next w w4 := g3.1.trans (hM4.keep (fun j q => by omega) g3.1.next)
  have hn4 := hM4.next
  obtain ⟨u5, w5, happ, hA5, hk5, hf5, hn5, _⟩ := append_one (e' := 3) Tryz.ty22 Tryz.ty3 rfl (by omega) (by omega) hA4 hM4.fresh (by omega) (icells_len (payN (C.zip H) s i)) (icells_one _) (by rw [payL_len]; omega)
  simp only [icells] at happ
  have hnc0 : 0 ≤ payN (C.zip H) s i * C[i] := Int.mul_nonneg hf.1 (by omega)
  have hnc1 := hf.2.2
  generalize hX : (bestV ((C.zip H).drop i) (restAt (C.zip H) s i)).2 = X at *
  generalize hPN : payN (C.zip H) s i = N at *
  generalize hmul : N * C[i] = NC at *
  have hps := payL_succ (C.zip H) s i
  rw [hPN] at hps
  have hNi : N ≤ 100 := by omega
  simp -dsimp -implicitDefEqProofs (maxSteps := 2000000) (disch := first | assumption | omega | (simp only [nx]; omega) | ((repeat refine Fresh.push ?_ _); assumption) | (simp only [smA]; done) | (simp [oneCell, AW.next_push]; done) | fail) only [go_sem, Nat.reduceEqDiff, reduceIte, Nat.reduceAdd, Int.toNat_natCast, Nat.add_zero, Owes_true, payV, hpn, hX, hPN, e1, e6, e7, e23, e24, e25, happ, hmul]
  have B5 := hB4.keepB hk5 hf5 (by have := hB.rl.2; have := hB.kn.lt; have := hB.dr.lt; have := hB.be.lt; omega) (by have := hg1.1.next; omega)
  refine ⟨_, by omega, i + 1, by omega, rfl, rfl, by (simp -dsimp -implicitDefEqProofs (maxSteps := 2000000) (disch := first | assumption | omega | (simp only [nx]; omega) | ((repeat refine Fresh.push ?_ _); assumption) | (simp only [smA]; done) | (simp [oneCell, AW.next_push]; done) | fail) only [go_sem, Nat.reduceEqDiff, reduceIte, Nat.reduceAdd, Int.toNat_natCast, Nat.add_zero, Owes_true, e6, hrs, hmul]; try rfl), by (simp -dsimp -implicitDefEqProofs (maxSteps := 2000000) (disch := first | assumption | omega | (simp only [nx]; omega) | ((repeat refine Fresh.push ?_ _); assumption) | (simp only [smA]; done) | (simp [oneCell, AW.next_push]; done) | fail) only [go_sem, Nat.reduceEqDiff, reduceIte, Nat.reduceAdd, Int.toNat_natCast, Nat.add_zero, Owes_true, e1, hrs, hmul]; try rfl), by (simp -dsimp -implicitDefEqProofs (maxSteps := 2000000) (disch := first | assumption | omega | (simp only [nx]; omega) | ((repeat refine Fresh.push ?_ _); assumption) | (simp only [smA]; done) | (simp [oneCell, AW.next_push]; done) | fail) only [go_sem, Nat.reduceEqDiff, reduceIte, Nat.reduceAdd, Int.toNat_natCast, Nat.add_zero, Owes_true, e23, hrs, hmul]; try rfl), by (simp -dsimp -implicitDefEqProofs (maxSteps := 2000000) (disch := first | assumption | omega | (simp only [nx]; omega) | ((repeat refine Fresh.push ?_ _); assumption) | (simp only [smA]; done) | (simp [oneCell, AW.next_push]; done) | fail) only [go_sem, Nat.reduceEqDiff, reduceIte, Nat.reduceAdd, Int.toNat_natCast, Nat.add_zero, Owes_true, e24, hrs, hmul]; try rfl), by (simp -dsimp -implicitDefEqProofs (maxSteps := 2000000) (disch := first | assumption | omega | (simp only [nx]; omega) | ((repeat refine Fresh.push ?_ _); assumption) | (simp only [smA]; done) | (simp [oneCell, AW.next_push]; done) | fail) only [go_sem, Nat.reduceEqDiff, reduceIte, Nat.reduceAdd, Int.toNat_natCast, Nat.add_zero, Owes_true, e25, hrs, hmul]; try rfl), ⟨u5, (by simp -dsimp -implicitDefEqProofs (maxSteps := 2000000) (disch := first | assumption | omega | (simp only [nx]; omega) | ((repeat refine Fresh.push ?_ _); assumption) | (simp only [smA]; done) | (simp [oneCell, AW.next_push]; done) | fail) only [go_sem, Nat.reduceEqDiff, reduceIte, Nat.reduceAdd, Int.toNat_natCast, Nat.add_zero, Owes_true]; try rfl), (by rw [hps, List.length_append, List.flatMap_append]; exact hA5)⟩, B5, ⟨hk4.trans (hk5.mono (by have := gg1.1.next; omega)), hf5⟩, by omega⟩
theorem drawE_in {C H : List Int} (h : drawE C H = 0) : DIn C H ∧ C.length ≤ 8 := by
  unfold drawE at h
  cases hq : (coinsB C && haveB C H) with
  | false => rw [hq] at h; cases h
  | true =>
    rw [Bool.and_eq_true] at hq
    have h1 := hq.1
    have h2 := hq.2
    simp only [coinsB, Bool.and_eq_true, inR_iff] at h1
    simp only [haveB, Bool.and_eq_true, decide_eq_true_eq, List.all_eq_true] at h2
    refine ⟨⟨h2.1, fun c hc => ?_, fun x hx => by have := (inR_iff _ _ _).1 (h2.2 x hx); omega⟩, by omega⟩
    obtain ⟨i, hi, rfl⟩ := List.getElem_of_mem hc
    have h3 := h1.1
    unfold coinsTo at h3
    rw [List.all_eq_true] at h3
    have := h3 i (List.mem_range.2 hi)
    rw [List.getElem?_eq_getElem hi] at this
    simp only [Bool.and_eq_true, inR_iff] at this
    exact this.1
def PayE (C H : List Int) (s : Int) : Int := if drawE C H ≠ 0 then drawE C H else payE C H s
theorem Pay_ok (C H : List Int) (u h : Value) (s : Int) (w : AW) (f : Fresh w) (hC : ArrOf w 1 icells u C) (hH : ArrOf w 1 icells h H) :
    CallT Tryz.prog Tryz.T1 (.fn (.func 14) #[]) #[.agg #[u, h], .int .i64 s] w (fun rv w' => ∃ v, rv = .tuple #[v, .int .i64 (PayE C H s)] ∧ (PayE C H s = 0 → ArrOf w' 1 icells v (payL (C.zip H) s C.length)) ∧ (PayE C H s ≠ 0 → v = .slice none 0 0) ∧ Grown w w') := by
  obtain ⟨p, cC, rfl, _⟩ := id hC.open
  obtain ⟨q, cH, rfl, _⟩ := id hH.open
  have g1 := (Grown.refl f).push (.cells [.slice p C.length cC, .slice q H.length cH] 24 w.next 0 0)
  have O1 := Own.new f 24 [.slice p C.length cC, .slice q H.length cH]
  have c0 := O1.cell (o := 0) rfl rfl
  have c1 := O1.cell (o := 1) rfl rfl
  refine callT_code rfl Tryz.func14 rfl Tryz.s14_eq rfl ?_
  unfold Tryz.s14
  simp -dsimp -implicitDefEqProofs (maxSteps := 2000000) (disch := first | assumption | omega | (simp only [nx]; omega) | ((repeat refine Fresh.push ?_ _); assumption) | (simp only [smA]; done) | (simp [oneCell, AW.next_push]; done) | fail) only [go_sem, Nat.reduceEqDiff, reduceIte, Nat.reduceAdd, Int.toNat_natCast, Nat.add_zero, Owes_true, Tryz.results14, Nat.zero_add, c0, c1]
  apply callV_of (e := rfl)
  · exact Check_ok C H _ _ _ g1.2 (hC.grown g1) (hH.grown g1)
  rintro _ w1 ⟨rfl, hg1⟩
  have gg := g1.trans hg1
  by_cases he : drawE C H = 0
  · have hed : decide (drawE C H = 0) = true := decide_eq_true he
    obtain ⟨d, h8⟩ := drawE_in he
    have hPE : PayE C H s = payE C H s := by unfold PayE; rw [if_neg (by rw [he]; simp)]
    have O2 := O1.keep hg1.1
    have d0 := O2.cell (o := 0) rfl rfl
    have d1 := O2.cell (o := 1) rfl rfl
    simp -dsimp -implicitDefEqProofs (maxSteps := 2000000) (disch := first | assumption | omega | (simp only [nx]; omega) | ((repeat refine Fresh.push ?_ _); assumption) | (simp only [smA]; done) | (simp [oneCell, AW.next_push]; done) | fail) only [go_sem, Nat.reduceEqDiff, reduceIte, Nat.reduceAdd, Int.toNat_natCast, Nat.add_zero, Owes_true, Tryz.results14, hed, Nat.zero_add, d0, d1]
    apply callV_of (e := rfl)
    · exact pay_ok C H _ _ s w1 gg.2 (hC.grown gg) (hH.grown gg) d (by omega)
    rintro _ w2 ⟨v, rfl, h1, h2, hg2⟩
    simp -dsimp -implicitDefEqProofs (maxSteps := 2000000) (disch := first | assumption | omega | (simp only [nx]; omega) | ((repeat refine Fresh.push ?_ _); assumption) | (simp only [smA]; done) | (simp [oneCell, AW.next_push]; done) | fail) only [go_sem, Nat.reduceEqDiff, reduceIte, Nat.reduceAdd, Int.toNat_natCast, Nat.add_zero, Owes_true, Tryz.results14]
    exact ⟨_, by rw [hPE], fun q => h1 (hPE ▸ q), fun q => h2 (hPE ▸ q), gg.trans hg2⟩
  · have hed : decide (drawE C H = 0) = false := decide_eq_false he
    have hPE : PayE C H s = drawE C H := by unfold PayE; rw [if_pos he]
    simp -dsimp -implicitDefEqProofs (maxSteps := 2000000) (disch := first | assumption | omega | (simp only [nx]; omega) | ((repeat refine Fresh.push ?_ _); assumption) | (simp only [smA]; done) | (simp [oneCell, AW.next_push]; done) | fail) only [go_sem, Nat.reduceEqDiff, reduceIte, Nat.reduceAdd, Int.toNat_natCast, Nat.add_zero, Owes_true, Tryz.results14, hed]
    exact ⟨_, by rw [hPE], fun q => absurd (hPE ▸ q) he, fun _ => rfl, gg⟩
end Go.Proofs
