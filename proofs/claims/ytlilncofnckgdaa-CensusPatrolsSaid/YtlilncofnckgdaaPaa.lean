/- This program: its code, contracts, numbers, part 1. -/
import Derived.Test.YtlilncofnckgdaaNc
import Derived.Test.YtlilncofnckgdaaChecked
import Derived.Test.YtlilncofnckgdaaMc
import Derived.Test.YtlilncofnckgdaaProg
import Derived.Test.YtlilncofnckgdaaNa
import Derived.Test.YtlilncofnckgdaaSh
import Derived.Test.YtlilncofnckgdaaSf
set_option linter.unusedVariables false
set_option linter.unusedSimpArgs false
namespace Go.Proofs
open Go Go.RowKit Go.Sim
set_option maxRecDepth 100000
theorem Try.ty3 : (prg Try.prog).ty 3 = some ⟨false, (.int .i64), 1, 8, .int .i64 0⟩ := by kernel_rfl
attribute [go_sem] Try.ty3
theorem Try.ty22 : (prg Try.prog).ty 22 = some ⟨false, (.slice 3), 1, 24, .slice none 0 0⟩ := by kernel_rfl
attribute [go_sem] Try.ty22
theorem Try.ty79 : (prg Try.prog).ty 79 = some ⟨false, (.func #[3] #[4] false), 1, 8, .nilFunc⟩ := by kernel_rfl
attribute [go_sem] Try.ty79
theorem Try.ty121 : (prg Try.prog).ty 121 = some ⟨false, (.int .u64), 1, 8, .int .u64 0⟩ := by kernel_rfl
attribute [go_sem] Try.ty121
theorem Try.ia22 (t : Tmps) (w : AW) (x y : Operand) : fast (prg Try.prog) t w (.indexAddr 22 x y) = indexV 1 (ev t x) (ev t y) := fast_indexAddr Try.ty22 Try.ty3
attribute [go_sem] Try.ia22
theorem Try.ln22 (t : Tmps) (w : AW) (x : Operand) : fast (prg Try.prog) t w (.call ⟨.builtin .len, ⟨[x]⟩, ⟨[22]⟩⟩) = lenV (ev t x) := fast_len Try.ty22
attribute [go_sem] Try.ln22
end Go.Proofs

namespace Go.Proofs
open Go Go.Shelf Go.RowKit Go.Sim
set_option maxRecDepth 1000000
theorem Try.fits : Fit Try.prog := fit_of (by decide +kernel)
theorem Try.mixed : Try.prog.follows .mixedOrders = true := by decide +kernel
theorem Try.told0 (N : Nat) : ToldOk Try.prog N (fun _ _ _ => none) := fun f args w w1 v h => by cases h
end Go.Proofs

namespace Go.Proofs
open Go Go.RowKit Go.Sim
set_option maxRecDepth 1000000
theorem Try.works (W : World) : Calls Try.prog 25 #[] W fun e W' => e = .returned (.bool true) ∧ Below W.heap.size W W' :=
  calls_true (F := 1000000) Try.fits Try.mixed Try.told0 (n := 99) (by decide +kernel) (by decide +kernel) W
def Try.T0 : ToldF := toldTrue 25 fun _ _ _ => none
theorem Try.toldT0 (N : Nat) : ToldOk Try.prog N Try.T0 := toldTrue_ok (fun args w => Try.call25 args w) Try.works Try.told0 N
end Go.Proofs

namespace Go.Proofs
open Go Go.RowKit Go.Sim
set_option maxRecDepth 100000
def Try.T1 : ToldF := Try.T0
theorem Try.toldT1 (N : Nat) : ToldOk Try.prog N Try.T1 := Try.toldT0 N
theorem Try.bs22 (t : Tmps) (l : List (Nat × Operand)) : makes (prg Try.prog) t (.buildSlice 22 1 ⟨l⟩) = bsQ 3 1 1 [.int .i64 0] (l.map fun p => (p.1, ev t p.2)) := makes_bs Try.ty22 Try.ty3 rfl (by kernel_rfl)
attribute [go_sem] Try.bs22
theorem Try.und3 : Try.prog.underlying 3 = some (.int .i64) := by kernel_rfl
theorem Try.und121 : Try.prog.underlying 121 = some (.int .u64) := by kernel_rfl
theorem Try.cv121 (v : Value) : convQ (prg Try.prog) 3 121 v = convI .u64 v := convQ_of Try.und3 Try.und121 v
theorem Try.cv3 (v : Value) : convQ (prg Try.prog) 121 3 v = convI .i64 v := convQ_of Try.und121 Try.und3 v
theorem Try.fc121 (t : Tmps) (w : AW) (x : Operand) : fast (prg Try.prog) t w (.convert 3 121 x) = none := by simp only [fast, Try.ty3]
theorem Try.fc3 (t : Tmps) (w : AW) (x : Operand) : fast (prg Try.prog) t w (.convert 121 3 x) = none := by simp only [fast, Try.ty121]
attribute [go_sem] Try.cv121 Try.cv3 Try.fc121 Try.fc3
def RowA (B : Nat) (w : AW) (v : Value) (L : List Int) : Prop := AOwn B w 3 1 v L.length (L.flatMap icells)
theorem RowA.arr {B : Nat} {w : AW} {v : Value} {L : List Int} (h : RowA B w v L) (hl : L.length ≤ 1048576) : ArrOf w 1 icells v L := AOwn.arr h icells_len hl
theorem RowA.one {B : Nat} {w : AW} {v : Value} {L : List Int} (h : RowA B w v L) : oneCell v = true := AOwn.one h
theorem RowA.app {B : Nat} {w : AW} {v : Value} {L : List Int} (h : RowA B w v L) (f : Fresh w) (hB : B ≤ w.next) (hl : L.length + 1 ≤ 1048576) (x : Int) :
    ∃ v' w', append (prg Try.prog) (w.push (.cells [.int .i64 x] 3 w.next 0 0)) 22 22 v (.slice (some ⟨w.next, 0, none⟩) 1 1) = some (v', w') ∧ RowA B w' v' (L ++ [x]) ∧ Keep B w w' ∧ Fresh w' ∧ w.next < w'.next := by
  obtain ⟨u5, w5, happ, hA5, hk5, hf5, hn5, _⟩ := append_one (e' := 3) Try.ty22 Try.ty3 rfl (by omega) (by omega) h f hB (icells_len x) (icells_one _) (by omega)
  exact ⟨u5, w5, happ, by unfold RowA; rw [List.length_append, List.flatMap_append]; simpa using hA5, hk5, hf5, hn5⟩
theorem RowA.nil (B : Nat) (w : AW) : RowA B w (.slice none 0 0) [] := .inl ⟨rfl, rfl, rfl⟩
end Go.Proofs

namespace Go.Proofs
open Go Go.RowKit Go.Sim
set_option maxRecDepth 100000
def Try.s46 : SC := (.seq (.ops false [⟨⟨(some 6),.assign (.const (.bool false)),4,"",⟨[]⟩,none⟩,none,false⟩]) (.seq (.ops false [⟨⟨(some 7),.move (.tmp 0),3,"",⟨[]⟩,none⟩,none,false⟩,⟨⟨(some 8),.move (.tmp 1),3,"",⟨[]⟩,none⟩,none,false⟩,⟨⟨(some 9),.binOp .leq 3 (.tmp 7) (.tmp 8) 3,4,"",⟨[]⟩,none⟩,none,false⟩,⟨⟨(some 10),.move (.tmp 9),4,"",⟨[]⟩,none⟩,none,false⟩,⟨⟨(some 11),.move (.tmp 1),3,"",⟨[]⟩,none⟩,some ((some 10),true),false⟩,⟨⟨(some 12),.move (.tmp 2),3,"",⟨[]⟩,none⟩,some ((some 10),true),false⟩,⟨⟨(some 13),.binOp .leq 3 (.tmp 11) (.tmp 12) 3,4,"",⟨[]⟩,none⟩,some ((some 10),true),false⟩,⟨⟨(some 14),.pick (.tmp 10) (.tmp 13) (.const (.bool false)),4,"",⟨[]⟩,none⟩,none,false⟩,⟨⟨(some 6),.assign (.tmp 14),4,"",⟨[]⟩,none⟩,none,false⟩]) .ret))
def Try.s48 : SC := (.seq (.ops false [⟨⟨(some 2),.assign (.const (.int .i64 0)),3,"",⟨[]⟩,none⟩,none,false⟩]) (.seq (.ops false [⟨⟨(some 3),.assign (.const (.int .i64 0)),3,"",⟨[]⟩,none⟩,none,false⟩]) (.seq (.seq (.ops false [⟨⟨(some 4),.assign (.const (.int .i64 0)),3,"",⟨[]⟩,none⟩,none,false⟩]) (.block 0 (.loop (.seq (.seq (.ops false [⟨⟨(some 5),.move (.tmp 4),3,"",⟨[]⟩,none⟩,none,false⟩,⟨⟨(some 6),.move (.tmp 0),22,"",⟨[]⟩,none⟩,none,false⟩,⟨⟨(some 7),.call ⟨.builtin .len,⟨[(.tmp 6)]⟩,⟨[22]⟩⟩,3,"",⟨[]⟩,none⟩,none,false⟩,⟨⟨(some 8),.binOp .lss 3 (.tmp 5) (.tmp 7) 3,4,"",⟨[]⟩,none⟩,none,false⟩]) (.cond (.tmp 8) .skip (.exit 0))) (.seq (.block 1 (.ops false [⟨⟨(some 11),.move (.tmp 3),3,"",⟨[]⟩,none⟩,none,false⟩,⟨⟨(some 12),.move (.tmp 0),22,"",⟨[]⟩,none⟩,none,false⟩,⟨⟨(some 13),.move (.tmp 4),3,"",⟨[]⟩,none⟩,none,false⟩,⟨⟨(some 14),.indexAddr 22 (.tmp 12) (.tmp 13),0,"",⟨[]⟩,none⟩,none,false⟩,⟨⟨(some 15),.load 3 (.tmp 14),3,"",⟨[]⟩,none⟩,none,false⟩,⟨⟨(some 16),.binOp .add 3 (.tmp 11) (.tmp 15) 3,3,"",⟨[]⟩,none⟩,none,false⟩,⟨⟨(some 3),.assign (.tmp 16),3,"",⟨[]⟩,none⟩,none,false⟩])) (.ops false [⟨⟨(some 9),.move (.tmp 4),3,"",⟨[]⟩,none⟩,none,false⟩,⟨⟨(some 10),.binOp .add 3 (.tmp 9) (.const (.int .i64 1)) 3,3,"",⟨[]⟩,none⟩,none,false⟩,⟨⟨(some 4),.assign (.tmp 10),3,"",⟨[]⟩,none⟩,none,false⟩])))))) (.seq (.ops false [⟨⟨(some 17),.move (.tmp 3),3,"",⟨[]⟩,none⟩,none,false⟩,⟨⟨(some 2),.assign (.tmp 17),3,"",⟨[]⟩,none⟩,none,false⟩]) .ret))))
def Try.s64 : SC := (.seq (.ops false [⟨⟨(some 6),.assign (.const (.bool false)),4,"",⟨[]⟩,none⟩,none,false⟩]) (.seq (.ops false [⟨⟨(some 7),.move (.tmp 1),3,"",⟨[]⟩,none⟩,none,false⟩,⟨⟨(some 8),.move (.tmp 0),3,"",⟨[]⟩,none⟩,none,false⟩,⟨⟨(some 9),.binOp .leq 3 (.tmp 7) (.tmp 8) 3,4,"",⟨[]⟩,none⟩,none,false⟩,⟨⟨(some 10),.move (.tmp 9),4,"",⟨[]⟩,none⟩,none,false⟩,⟨⟨(some 11),.move (.tmp 0),3,"",⟨[]⟩,none⟩,some ((some 10),true),false⟩,⟨⟨(some 12),.move (.tmp 2),3,"",⟨[]⟩,none⟩,some ((some 10),true),false⟩,⟨⟨(some 13),.binOp .leq 3 (.tmp 11) (.tmp 12) 3,4,"",⟨[]⟩,none⟩,some ((some 10),true),false⟩,⟨⟨(some 14),.pick (.tmp 10) (.tmp 13) (.const (.bool false)),4,"",⟨[]⟩,none⟩,none,false⟩,⟨⟨(some 6),.assign (.tmp 14),4,"",⟨[]⟩,none⟩,none,false⟩]) .ret))
def Try.s65 : SC := (.seq (.ops false [⟨⟨(some 3),.box 79 (.tmp 1),0,"",⟨[]⟩,none⟩,none,false⟩,⟨⟨(some 4),.assign (.const (.bool false)),4,"",⟨[]⟩,none⟩,none,false⟩]) (.seq (.ops false [⟨⟨(some 5),.move (.tmp 0),22,"",⟨[]⟩,none⟩,none,false⟩,⟨⟨(some 6),.makeFunc (.func 109) ⟨[]⟩ ⟨[(.tmp 3)]⟩,79,"",⟨[]⟩,none⟩,none,false⟩,⟨⟨(some 7),.call ⟨.value (.func 108),⟨[(.tmp 5),(.tmp 6)]⟩,⟨[22,79]⟩⟩,4,"",⟨[]⟩,none⟩,none,false⟩,⟨⟨(some 8),.unOp .not 4 (.tmp 7),4,"",⟨[]⟩,none⟩,none,false⟩,⟨⟨(some 4),.assign (.tmp 8),4,"",⟨[]⟩,none⟩,none,false⟩]) .ret))
def Try.s108 : SC := (.seq (.ops false [⟨⟨(some 4),.assign (.const (.bool false)),4,"",⟨[]⟩,none⟩,none,false⟩]) (.seq (.ops false [⟨⟨(some 5),.move (.tmp 0),22,"",⟨[]⟩,none⟩,none,false⟩,⟨⟨(some 6),.move (.tmp 1),79,"",⟨[]⟩,none⟩,none,false⟩,⟨⟨(some 7),.call ⟨.value (.func 123),⟨[(.tmp 5),(.tmp 6)]⟩,⟨[22,79]⟩⟩,3,"",⟨[]⟩,none⟩,none,false⟩,⟨⟨(some 8),.binOp .geq 3 (.tmp 7) (.const (.int .i64 0)) 3,4,"",⟨[]⟩,none⟩,none,false⟩,⟨⟨(some 4),.assign (.tmp 8),4,"",⟨[]⟩,none⟩,none,false⟩]) .ret))
def Try.s123 : SC := (.seq (.ops false [⟨⟨(some 4),.assign (.const (.int .i64 0)),3,"",⟨[]⟩,none⟩,none,false⟩]) (.seq (.seq (.ops false [⟨⟨(some 6),.move (.tmp 0),22,"",⟨[]⟩,none⟩,none,false⟩,⟨⟨(some 7),.call ⟨.builtin .len,⟨[(.tmp 6)]⟩,⟨[22]⟩⟩,3,"",⟨[]⟩,none⟩,none,false⟩,⟨⟨(some 8),.move (.const (.int .i64 0)),3,"",⟨[]⟩,none⟩,none,false⟩]) (.block 0 (.loop (.seq (.ops false [⟨⟨(some 9),.binOp .lss 3 (.tmp 8) (.tmp 7) 3,0,"",⟨[]⟩,none⟩,none,false⟩]) (.seq (.cond (.tmp 9) .skip (.exit 0)) (.seq (.block 1 (.seq (.ops false [⟨⟨(some 10),.move (.tmp 8),3,"",⟨[]⟩,none⟩,none,false⟩,⟨⟨(some 5),.assign (.tmp 10),3,"",⟨[]⟩,none⟩,none,false⟩]) (.seq (.ops false [⟨⟨(some 11),.move (.tmp 1),79,"",⟨[]⟩,none⟩,none,false⟩,⟨⟨(some 12),.move (.tmp 0),22,"",⟨[]⟩,none⟩,none,false⟩,⟨⟨(some 13),.move (.tmp 5),3,"",⟨[]⟩,none⟩,none,false⟩,⟨⟨(some 14),.indexAddr 22 (.tmp 12) (.tmp 13),0,"",⟨[]⟩,none⟩,none,false⟩,⟨⟨(some 15),.load 3 (.tmp 14),3,"",⟨[]⟩,none⟩,none,false⟩,⟨⟨(some 16),.call ⟨.value (.tmp 11),⟨[(.tmp 15)]⟩,⟨[3]⟩⟩,4,"",⟨[]⟩,none⟩,none,false⟩]) (.cond (.tmp 16) (.seq (.ops false [⟨⟨(some 17),.move (.tmp 5),3,"",⟨[]⟩,none⟩,none,false⟩,⟨⟨(some 4),.assign (.tmp 17),3,"",⟨[]⟩,none⟩,none,false⟩]) .ret) .skip)))) (.ops false [⟨⟨(some 18),.binOp .add 3 (.tmp 8) (.const (.int .i64 1)) 3,3,"",⟨[]⟩,none⟩,none,false⟩,⟨⟨(some 8),.move (.tmp 18),3,"",⟨[]⟩,none⟩,none,false⟩]))))))) (.seq (.ops false [⟨⟨(some 4),.assign (.const (.int .i64 (-1))),3,"",⟨[]⟩,none⟩,none,false⟩]) .ret)))
def Try.s109 : SC := (.seq (.ops false [⟨⟨(some 3),.assign (.const (.bool false)),4,"",⟨[]⟩,none⟩,none,false⟩]) (.seq (.ops false [⟨⟨(some 4),.load 79 (.tmp 1),79,"",⟨[]⟩,none⟩,none,false⟩,⟨⟨(some 5),.move (.tmp 0),3,"",⟨[]⟩,none⟩,none,false⟩,⟨⟨(some 6),.call ⟨.value (.tmp 4),⟨[(.tmp 5)]⟩,⟨[3]⟩⟩,4,"",⟨[]⟩,none⟩,none,false⟩,⟨⟨(some 7),.unOp .not 4 (.tmp 6),4,"",⟨[]⟩,none⟩,none,false⟩,⟨⟨(some 3),.assign (.tmp 7),4,"",⟨[]⟩,none⟩,none,false⟩]) .ret))
def Try.s68 : SC := (.seq (.ops false [⟨⟨(some 2),.assign (.const (.int .i64 0)),3,"",⟨[]⟩,none⟩,none,false⟩]) (.seq (.ops false [⟨⟨(some 3),.assign (.const (.int .i64 0)),3,"",⟨[]⟩,none⟩,none,false⟩]) (.seq (.seq (.ops false [⟨⟨(some 6),.move (.tmp 0),22,"",⟨[]⟩,none⟩,none,false⟩,⟨⟨(some 7),.call ⟨.builtin .len,⟨[(.tmp 6)]⟩,⟨[22]⟩⟩,3,"",⟨[]⟩,none⟩,none,false⟩,⟨⟨(some 8),.move (.const (.int .i64 0)),3,"",⟨[]⟩,none⟩,none,false⟩]) (.block 0 (.loop (.seq (.ops false [⟨⟨(some 9),.binOp .lss 3 (.tmp 8) (.tmp 7) 3,0,"",⟨[]⟩,none⟩,none,false⟩]) (.seq (.cond (.tmp 9) .skip (.exit 0)) (.seq (.block 1 (.seq (.ops false [⟨⟨(some 10),.indexAddr 22 (.tmp 6) (.tmp 8),0,"",⟨[]⟩,none⟩,none,false⟩,⟨⟨(some 11),.load 3 (.tmp 10),3,"",⟨[]⟩,none⟩,none,false⟩,⟨⟨(some 5),.assign (.tmp 11),3,"",⟨[]⟩,none⟩,none,false⟩]) (.ops false [⟨⟨(some 12),.move (.tmp 3),3,"",⟨[]⟩,none⟩,none,false⟩,⟨⟨(some 13),.move (.tmp 5),3,"",⟨[]⟩,none⟩,none,false⟩,⟨⟨(some 14),.binOp .add 3 (.tmp 12) (.tmp 13) 3,3,"",⟨[]⟩,none⟩,none,false⟩,⟨⟨(some 3),.assign (.tmp 14),3,"",⟨[]⟩,none⟩,none,false⟩]))) (.ops false [⟨⟨(some 15),.binOp .add 3 (.tmp 8) (.const (.int .i64 1)) 3,3,"",⟨[]⟩,none⟩,none,false⟩,⟨⟨(some 8),.move (.tmp 15),3,"",⟨[]⟩,none⟩,none,false⟩]))))))) (.seq (.ops false [⟨⟨(some 16),.move (.tmp 3),3,"",⟨[]⟩,none⟩,none,false⟩,⟨⟨(some 2),.assign (.tmp 16),3,"",⟨[]⟩,none⟩,none,false⟩]) .ret))))
def Try.s113 : SC := (.seq (.ops false [⟨⟨(some 2),.assign (.const (.bool false)),4,"",⟨[]⟩,none⟩,none,false⟩]) (.seq (.ops false [⟨⟨(some 3),.move (.tmp 0),3,"",⟨[]⟩,none⟩,none,false⟩,⟨⟨(some 4),.call ⟨.value (.func 64),⟨[(.tmp 3),(.const (.int .i64 1)),(.const (.int .i64 10000))]⟩,⟨[3,3,3]⟩⟩,4,"",⟨[]⟩,none⟩,none,false⟩,⟨⟨(some 2),.assign (.tmp 4),4,"",⟨[]⟩,none⟩,none,false⟩]) .ret))
def Try.s114 : SC := (.seq (.ops false [⟨⟨(some 2),.assign (.const (.bool false)),4,"",⟨[]⟩,none⟩,none,false⟩]) (.seq (.ops false [⟨⟨(some 3),.move (.tmp 0),3,"",⟨[]⟩,none⟩,none,false⟩,⟨⟨(some 4),.call ⟨.value (.func 64),⟨[(.tmp 3),(.const (.int .i64 0)),(.const (.int .i64 64))]⟩,⟨[3,3,3]⟩⟩,4,"",⟨[]⟩,none⟩,none,false⟩,⟨⟨(some 2),.assign (.tmp 4),4,"",⟨[]⟩,none⟩,none,false⟩]) .ret))
def Try.s79 : SC := (.seq (.ops false [⟨⟨(some 2),.assign (.const (.bool false)),4,"",⟨[]⟩,none⟩,none,false⟩]) (.seq (.ops false [⟨⟨(some 3),.move (.tmp 0),22,"",⟨[]⟩,none⟩,none,false⟩,⟨⟨(some 4),.call ⟨.builtin .len,⟨[(.tmp 3)]⟩,⟨[22]⟩⟩,3,"",⟨[]⟩,none⟩,none,false⟩,⟨⟨(some 5),.call ⟨.value (.func 64),⟨[(.tmp 4),(.const (.int .i64 1)),(.const (.int .i64 6))]⟩,⟨[3,3,3]⟩⟩,4,"",⟨[]⟩,none⟩,none,false⟩,⟨⟨(some 6),.move (.tmp 5),4,"",⟨[]⟩,none⟩,none,false⟩,⟨⟨(some 7),.move (.tmp 0),22,"",⟨[]⟩,none⟩,some ((some 6),true),false⟩,⟨⟨(some 8),.call ⟨.value (.func 65),⟨[(.tmp 7),(.func 113)]⟩,⟨[22,79]⟩⟩,4,"",⟨[]⟩,none⟩,some ((some 6),true),false⟩,⟨⟨(some 9),.pick (.tmp 6) (.tmp 8) (.const (.bool false)),4,"",⟨[]⟩,none⟩,none,false⟩,⟨⟨(some 2),.assign (.tmp 9),4,"",⟨[]⟩,none⟩,none,false⟩]) .ret))
def Try.s80 : SC := (.seq (.ops false [⟨⟨(some 4),.assign (.const (.bool false)),4,"",⟨[]⟩,none⟩,none,false⟩]) (.seq (.ops false [⟨⟨(some 5),.move (.tmp 0),22,"",⟨[]⟩,none⟩,none,false⟩,⟨⟨(some 6),.call ⟨.builtin .len,⟨[(.tmp 5)]⟩,⟨[22]⟩⟩,3,"",⟨[]⟩,none⟩,none,false⟩,⟨⟨(some 7),.move (.tmp 1),3,"",⟨[]⟩,none⟩,none,false⟩,⟨⟨(some 8),.binOp .eql 3 (.tmp 6) (.tmp 7) 3,4,"",⟨[]⟩,none⟩,none,false⟩,⟨⟨(some 9),.move (.tmp 8),4,"",⟨[]⟩,none⟩,none,false⟩,⟨⟨(some 10),.move (.tmp 0),22,"",⟨[]⟩,none⟩,some ((some 9),true),false⟩,⟨⟨(some 11),.call ⟨.value (.func 65),⟨[(.tmp 10),(.func 114)]⟩,⟨[22,79]⟩⟩,4,"",⟨[]⟩,none⟩,some ((some 9),true),false⟩,⟨⟨(some 12),.pick (.tmp 9) (.tmp 11) (.const (.bool false)),4,"",⟨[]⟩,none⟩,none,false⟩,⟨⟨(some 13),.move (.tmp 12),4,"",⟨[]⟩,none⟩,none,false⟩,⟨⟨(some 14),.move (.tmp 0),22,"",⟨[]⟩,none⟩,some ((some 13),true),false⟩,⟨⟨(some 15),.call ⟨.value (.func 68),⟨[(.tmp 14)]⟩,⟨[22]⟩⟩,3,"",⟨[]⟩,none⟩,some ((some 13),true),false⟩,⟨⟨(some 16),.binOp .eql 3 (.tmp 15) (.const (.int .i64 64)) 3,4,"",⟨[]⟩,none⟩,some ((some 13),true),false⟩,⟨⟨(some 17),.pick (.tmp 13) (.tmp 16) (.const (.bool false)),4,"",⟨[]⟩,none⟩,none,false⟩,⟨⟨(some 4),.assign (.tmp 17),4,"",⟨[]⟩,none⟩,none,false⟩]) .ret))
def Try.s28 : SC := (.seq (.ops false [⟨⟨(some 4),.assign (.const (.int .i64 0)),3,"",⟨[]⟩,none⟩,none,false⟩,⟨⟨(some 5),.assign (.const (.int .i64 0)),25,"",⟨[]⟩,none⟩,none,false⟩]) (.seq (.seq (.ops false [⟨⟨(some 9),.move (.tmp 0),22,"",⟨[]⟩,none⟩,none,false⟩,⟨⟨(some 10),.call ⟨.value (.func 79),⟨[(.tmp 9)]⟩,⟨[22]⟩⟩,4,"",⟨[]⟩,none⟩,none,false⟩,⟨⟨(some 11),.unOp .not 4 (.tmp 10),4,"",⟨[]⟩,none⟩,none,false⟩,⟨⟨(some 12),.move (.tmp 11),4,"",⟨[]⟩,none⟩,none,false⟩,⟨⟨(some 13),.move (.tmp 1),22,"",⟨[]⟩,none⟩,some ((some 12),false),false⟩,⟨⟨(some 14),.move (.tmp 0),22,"",⟨[]⟩,none⟩,some ((some 12),false),false⟩,⟨⟨(some 15),.call ⟨.builtin .len,⟨[(.tmp 14)]⟩,⟨[22]⟩⟩,3,"",⟨[]⟩,none⟩,some ((some 12),false),false⟩,⟨⟨(some 16),.call ⟨.value (.func 80),⟨[(.tmp 13),(.tmp 15)]⟩,⟨[22,3]⟩⟩,4,"",⟨[]⟩,none⟩,some ((some 12),false),false⟩,⟨⟨(some 17),.unOp .not 4 (.tmp 16),4,"",⟨[]⟩,none⟩,some ((some 12),false),false⟩,⟨⟨(some 18),.pick (.tmp 12) (.const (.bool true)) (.tmp 17),4,"",⟨[]⟩,none⟩,none,false⟩]) (.cond (.tmp 18) (.seq (.ops false [⟨⟨(some 4),.assign (.const (.int .i64 0)),3,"",⟨[]⟩,none⟩,none,false⟩,⟨⟨(some 5),.assign (.const (.int .i64 103)),25,"",⟨[]⟩,none⟩,none,false⟩]) .ret) .skip)) (.seq (.ops false [⟨⟨(some 6),.assign (.const (.int .i64 0)),3,"",⟨[]⟩,none⟩,none,false⟩]) (.seq (.seq (.ops false [⟨⟨(some 19),.move (.tmp 0),22,"",⟨[]⟩,none⟩,none,false⟩,⟨⟨(some 20),.call ⟨.builtin .len,⟨[(.tmp 19)]⟩,⟨[22]⟩⟩,3,"",⟨[]⟩,none⟩,none,false⟩,⟨⟨(some 21),.move (.const (.int .i64 0)),3,"",⟨[]⟩,none⟩,none,false⟩]) (.block 0 (.loop (.seq (.ops false [⟨⟨(some 22),.binOp .lss 3 (.tmp 21) (.tmp 20) 3,0,"",⟨[]⟩,none⟩,none,false⟩]) (.seq (.cond (.tmp 22) .skip (.exit 0)) (.seq (.block 1 (.seq (.ops false [⟨⟨(some 23),.move (.tmp 21),3,"",⟨[]⟩,none⟩,none,false⟩,⟨⟨(some 24),.indexAddr 22 (.tmp 19) (.tmp 21),0,"",⟨[]⟩,none⟩,none,false⟩,⟨⟨(some 25),.load 3 (.tmp 24),3,"",⟨[]⟩,none⟩,none,false⟩,⟨⟨(some 7),.assign (.tmp 23),3,"",⟨[]⟩,none⟩,none,false⟩,⟨⟨(some 8),.assign (.tmp 25),3,"",⟨[]⟩,none⟩,none,false⟩]) (.ops false [⟨⟨(some 26),.move (.tmp 6),3,"",⟨[]⟩,none⟩,none,false⟩,⟨⟨(some 27),.move (.tmp 8),3,"",⟨[]⟩,none⟩,none,false⟩,⟨⟨(some 28),.move (.tmp 1),22,"",⟨[]⟩,none⟩,none,false⟩,⟨⟨(some 29),.move (.tmp 7),3,"",⟨[]⟩,none⟩,none,false⟩,⟨⟨(some 30),.indexAddr 22 (.tmp 28) (.tmp 29),0,"",⟨[]⟩,none⟩,none,false⟩,⟨⟨(some 31),.load 3 (.tmp 30),3,"",⟨[]⟩,none⟩,none,false⟩,⟨⟨(some 32),.binOp .sub 3 (.const (.int .i64 64)) (.tmp 31) 3,3,"",⟨[]⟩,none⟩,none,false⟩,⟨⟨(some 33),.binOp .mul 3 (.tmp 27) (.tmp 32) 3,3,"",⟨[]⟩,none⟩,none,false⟩,⟨⟨(some 34),.call ⟨.builtin .max,⟨[(.tmp 26),(.tmp 33)]⟩,⟨[3,3]⟩⟩,3,"",⟨[]⟩,none⟩,none,false⟩,⟨⟨(some 6),.assign (.tmp 34),3,"",⟨[]⟩,none⟩,none,false⟩]))) (.ops false [⟨⟨(some 35),.binOp .add 3 (.tmp 21) (.const (.int .i64 1)) 3,3,"",⟨[]⟩,none⟩,none,false⟩,⟨⟨(some 21),.move (.tmp 35),3,"",⟨[]⟩,none⟩,none,false⟩]))))))) (.seq (.ops false [⟨⟨(some 36),.move (.tmp 6),3,"",⟨[]⟩,none⟩,none,false⟩,⟨⟨(some 4),.assign (.tmp 36),3,"",⟨[]⟩,none⟩,none,false⟩,⟨⟨(some 5),.assign (.const (.int .i64 0)),25,"",⟨[]⟩,none⟩,none,false⟩]) .ret)))))
def Try.s115 : SC := (.seq (.ops false [⟨⟨(some 4),.assign (.const (.int .i64 0)),3,"",⟨[]⟩,none⟩,none,false⟩]) (.seq (.seq (.ops false [⟨⟨(some 7),.move (.tmp 1),22,"",⟨[]⟩,none⟩,none,false⟩,⟨⟨(some 8),.call ⟨.builtin .len,⟨[(.tmp 7)]⟩,⟨[22]⟩⟩,3,"",⟨[]⟩,none⟩,none,false⟩,⟨⟨(some 9),.move (.const (.int .i64 0)),3,"",⟨[]⟩,none⟩,none,false⟩]) (.block 0 (.loop (.seq (.ops false [⟨⟨(some 10),.binOp .lss 3 (.tmp 9) (.tmp 8) 3,0,"",⟨[]⟩,none⟩,none,false⟩]) (.seq (.cond (.tmp 10) .skip (.exit 0)) (.seq (.block 1 (.seq (.ops false [⟨⟨(some 11),.indexAddr 22 (.tmp 7) (.tmp 9),0,"",⟨[]⟩,none⟩,none,false⟩,⟨⟨(some 12),.load 3 (.tmp 11),3,"",⟨[]⟩,none⟩,none,false⟩,⟨⟨(some 6),.assign (.tmp 12),3,"",⟨[]⟩,none⟩,none,false⟩]) (.seq (.ops false [⟨⟨(some 13),.move (.tmp 6),3,"",⟨[]⟩,none⟩,none,false⟩,⟨⟨(some 14),.move (.tmp 0),3,"",⟨[]⟩,none⟩,none,false⟩,⟨⟨(some 15),.binOp .lss 3 (.tmp 13) (.tmp 14) 3,4,"",⟨[]⟩,none⟩,none,false⟩]) (.cond (.tmp 15) (.ops false [⟨⟨(some 16),.move (.tmp 6),3,"",⟨[]⟩,none⟩,none,false⟩,⟨⟨(some 0),.assign (.tmp 16),3,"",⟨[]⟩,none⟩,none,false⟩]) .skip)))) (.ops false [⟨⟨(some 17),.binOp .add 3 (.tmp 9) (.const (.int .i64 1)) 3,3,"",⟨[]⟩,none⟩,none,false⟩,⟨⟨(some 9),.move (.tmp 17),3,"",⟨[]⟩,none⟩,none,false⟩]))))))) (.seq (.ops false [⟨⟨(some 18),.move (.tmp 0),3,"",⟨[]⟩,none⟩,none,false⟩,⟨⟨(some 4),.assign (.tmp 18),3,"",⟨[]⟩,none⟩,none,false⟩]) .ret)))
def Try.s82 : SC := (.seq (.ops false [⟨⟨(some 4),.assign (.const (.slice none 0 0)),22,"",⟨[]⟩,none⟩,none,false⟩]) (.seq (.ops false [⟨⟨(some 5),.assign (.const (.slice none 0 0)),22,"",⟨[]⟩,none⟩,none,false⟩]) (.seq (.seq (.ops false [⟨⟨(some 9),.move (.tmp 0),22,"",⟨[]⟩,none⟩,none,false⟩,⟨⟨(some 10),.call ⟨.builtin .len,⟨[(.tmp 9)]⟩,⟨[22]⟩⟩,3,"",⟨[]⟩,none⟩,none,false⟩,⟨⟨(some 11),.move (.const (.int .i64 0)),3,"",⟨[]⟩,none⟩,none,false⟩]) (.block 0 (.loop (.seq (.ops false [⟨⟨(some 12),.binOp .lss 3 (.tmp 11) (.tmp 10) 3,0,"",⟨[]⟩,none⟩,none,false⟩]) (.seq (.cond (.tmp 12) .skip (.exit 0)) (.seq (.block 1 (.seq (.ops false [⟨⟨(some 13),.indexAddr 22 (.tmp 9) (.tmp 11),0,"",⟨[]⟩,none⟩,none,false⟩,⟨⟨(some 14),.load 3 (.tmp 13),3,"",⟨[]⟩,none⟩,none,false⟩,⟨⟨(some 7),.assign (.tmp 14),3,"",⟨[]⟩,none⟩,none,false⟩]) (.seq (.ops false [⟨⟨(some 15),.move (.tmp 1),3,"",⟨[]⟩,none⟩,none,false⟩,⟨⟨(some 16),.move (.tmp 7),3,"",⟨[]⟩,none⟩,none,false⟩,⟨⟨(some 17),.binOp .quo 3 (.tmp 15) (.tmp 16) 3,3,"",⟨[]⟩,none⟩,none,false⟩,⟨⟨(some 18),.buildSlice 22 1 ⟨[(0,(.tmp 17))]⟩,22,"",⟨[]⟩,none⟩,none,false⟩,⟨⟨(some 19),.call ⟨.value (.func 115),⟨[(.const (.int .i64 64)),(.tmp 18)]⟩,⟨[3,22]⟩⟩,3,"",⟨[]⟩,none⟩,none,false⟩,⟨⟨(some 8),.assign (.tmp 19),3,"",⟨[]⟩,none⟩,none,false⟩]) (.ops false [⟨⟨(some 20),.move (.tmp 5),22,"",⟨[]⟩,none⟩,none,false⟩,⟨⟨(some 21),.move (.tmp 8),3,"",⟨[]⟩,none⟩,none,false⟩,⟨⟨(some 22),.binOp .sub 3 (.const (.int .i64 64)) (.tmp 21) 3,3,"",⟨[]⟩,none⟩,none,false⟩,⟨⟨(some 23),.buildSlice 22 1 ⟨[(0,(.tmp 22))]⟩,22,"",⟨[]⟩,none⟩,none,false⟩,⟨⟨(some 24),.call ⟨.builtin .append,⟨[(.tmp 20),(.tmp 23)]⟩,⟨[22,22]⟩⟩,22,"",⟨[]⟩,none⟩,none,false⟩,⟨⟨(some 5),.assign (.tmp 24),22,"",⟨[]⟩,none⟩,none,false⟩])))) (.ops false [⟨⟨(some 25),.binOp .add 3 (.tmp 11) (.const (.int .i64 1)) 3,3,"",⟨[]⟩,none⟩,none,false⟩,⟨⟨(some 11),.move (.tmp 25),3,"",⟨[]⟩,none⟩,none,false⟩]))))))) (.seq (.ops false [⟨⟨(some 26),.move (.tmp 5),22,"",⟨[]⟩,none⟩,none,false⟩,⟨⟨(some 4),.assign (.tmp 26),22,"",⟨[]⟩,none⟩,none,false⟩]) .ret))))
def Try.s30 : SC := (.seq (.ops false [⟨⟨(some 4),.assign (.const (.int .i64 0)),3,"",⟨[]⟩,none⟩,none,false⟩,⟨⟨(some 5),.assign (.const (.int .i64 0)),25,"",⟨[]⟩,none⟩,none,false⟩]) (.seq (.seq (.ops false [⟨⟨(some 6),.move (.tmp 0),22,"",⟨[]⟩,none⟩,none,false⟩,⟨⟨(some 7),.call ⟨.value (.func 79),⟨[(.tmp 6)]⟩,⟨[22]⟩⟩,4,"",⟨[]⟩,none⟩,none,false⟩,⟨⟨(some 8),.unOp .not 4 (.tmp 7),4,"",⟨[]⟩,none⟩,none,false⟩]) (.cond (.tmp 8) (.seq (.ops false [⟨⟨(some 4),.assign (.const (.int .i64 0)),3,"",⟨[]⟩,none⟩,none,false⟩,⟨⟨(some 5),.assign (.const (.int .i64 103)),25,"",⟨[]⟩,none⟩,none,false⟩]) .ret) .skip)) (.seq (.seq (.ops false [⟨⟨(some 9),.move (.tmp 1),3,"",⟨[]⟩,none⟩,none,false⟩,⟨⟨(some 10),.binOp .lss 3 (.tmp 9) (.const (.int .i64 0)) 3,4,"",⟨[]⟩,none⟩,none,false⟩]) (.cond (.tmp 10) (.seq (.ops false [⟨⟨(some 4),.assign (.const (.int .i64 0)),3,"",⟨[]⟩,none⟩,none,false⟩,⟨⟨(some 5),.assign (.const (.int .i64 7)),25,"",⟨[]⟩,none⟩,none,false⟩]) .ret) .skip)) (.seq (.ops false [⟨⟨(some 11),.move (.tmp 0),22,"",⟨[]⟩,none⟩,none,false⟩,⟨⟨(some 12),.move (.tmp 1),3,"",⟨[]⟩,none⟩,none,false⟩,⟨⟨(some 13),.call ⟨.value (.func 82),⟨[(.tmp 11),(.tmp 12)]⟩,⟨[22,3]⟩⟩,22,"",⟨[]⟩,none⟩,none,false⟩,⟨⟨(some 14),.call ⟨.value (.func 68),⟨[(.tmp 13)]⟩,⟨[22]⟩⟩,3,"",⟨[]⟩,none⟩,none,false⟩,⟨⟨(some 4),.assign (.tmp 14),3,"",⟨[]⟩,none⟩,none,false⟩,⟨⟨(some 5),.assign (.const (.int .i64 0)),25,"",⟨[]⟩,none⟩,none,false⟩]) .ret))))
def Try.s84 : SC := (.seq (.ops false [⟨⟨(some 3),.assign (.const (.bool false)),4,"",⟨[]⟩,none⟩,none,false⟩]) (.seq (.ops false [⟨⟨(some 4),.load 22 (.tmp 1),22,"",⟨[]⟩,none⟩,none,false⟩,⟨⟨(some 5),.move (.tmp 0),3,"",⟨[]⟩,none⟩,none,false⟩,⟨⟨(some 6),.call ⟨.value (.func 82),⟨[(.tmp 4),(.tmp 5)]⟩,⟨[22,3]⟩⟩,22,"",⟨[]⟩,none⟩,none,false⟩,⟨⟨(some 7),.call ⟨.value (.func 68),⟨[(.tmp 6)]⟩,⟨[22]⟩⟩,3,"",⟨[]⟩,none⟩,none,false⟩,⟨⟨(some 8),.binOp .leq 3 (.tmp 7) (.const (.int .i64 64)) 3,4,"",⟨[]⟩,none⟩,none,false⟩,⟨⟨(some 3),.assign (.tmp 8),4,"",⟨[]⟩,none⟩,none,false⟩]) .ret))
def Try.s85 : SC := (.seq (.ops false [⟨⟨(some 4),.assign (.const (.int .i64 0)),3,"",⟨[]⟩,none⟩,none,false⟩]) (.seq (.ops false [⟨⟨(some 8),.move (.tmp 0),3,"",⟨[]⟩,none⟩,none,false⟩,⟨⟨(some 5),.assign (.const (.int .i64 0)),3,"",⟨[]⟩,none⟩,none,false⟩,⟨⟨(some 6),.assign (.tmp 8),3,"",⟨[]⟩,none⟩,none,false⟩]) (.seq (.block 0 (.loop (.seq (.seq (.ops false [⟨⟨(some 9),.move (.tmp 5),3,"",⟨[]⟩,none⟩,none,false⟩,⟨⟨(some 10),.move (.tmp 6),3,"",⟨[]⟩,none⟩,none,false⟩,⟨⟨(some 11),.binOp .lss 3 (.tmp 9) (.tmp 10) 3,4,"",⟨[]⟩,none⟩,none,false⟩]) (.cond (.tmp 11) .skip (.exit 0))) (.block 1 (.seq (.ops false [⟨⟨(some 12),.move (.tmp 5),3,"",⟨[]⟩,none⟩,none,false⟩,⟨⟨(some 13),.move (.tmp 6),3,"",⟨[]⟩,none⟩,none,false⟩,⟨⟨(some 14),.binOp .add 3 (.tmp 12) (.tmp 13) 3,3,"",⟨[]⟩,none⟩,none,false⟩,⟨⟨(some 15),.convert 3 121 (.tmp 14),121,"",⟨[]⟩,none⟩,none,false⟩,⟨⟨(some 16),.binOp .shr 121 (.tmp 15) (.const (.int .u64 1)) 121,121,"",⟨[]⟩,none⟩,none,false⟩,⟨⟨(some 17),.convert 121 3 (.tmp 16),3,"",⟨[]⟩,none⟩,none,false⟩,⟨⟨(some 7),.assign (.tmp 17),3,"",⟨[]⟩,none⟩,none,false⟩]) (.seq (.ops false [⟨⟨(some 18),.move (.tmp 1),79,"",⟨[]⟩,none⟩,none,false⟩,⟨⟨(some 19),.move (.tmp 7),3,"",⟨[]⟩,none⟩,none,false⟩,⟨⟨(some 20),.call ⟨.value (.tmp 18),⟨[(.tmp 19)]⟩,⟨[3]⟩⟩,4,"",⟨[]⟩,none⟩,none,false⟩,⟨⟨(some 21),.unOp .not 4 (.tmp 20),4,"",⟨[]⟩,none⟩,none,false⟩]) (.cond (.tmp 21) (.ops false [⟨⟨(some 22),.move (.tmp 7),3,"",⟨[]⟩,none⟩,none,false⟩,⟨⟨(some 23),.binOp .add 3 (.tmp 22) (.const (.int .i64 1)) 3,3,"",⟨[]⟩,none⟩,none,false⟩,⟨⟨(some 5),.assign (.tmp 23),3,"",⟨[]⟩,none⟩,none,false⟩]) (.ops false [⟨⟨(some 24),.move (.tmp 7),3,"",⟨[]⟩,none⟩,none,false⟩,⟨⟨(some 6),.assign (.tmp 24),3,"",⟨[]⟩,none⟩,none,false⟩])))))))) (.seq (.ops false [⟨⟨(some 25),.move (.tmp 5),3,"",⟨[]⟩,none⟩,none,false⟩,⟨⟨(some 4),.assign (.tmp 25),3,"",⟨[]⟩,none⟩,none,false⟩]) .ret))))
def Try.s32 : SC := (.seq (.ops false [⟨⟨(some 1),.box 22 (.tmp 0),0,"",⟨[]⟩,none⟩,none,false⟩,⟨⟨(some 2),.assign (.const (.slice none 0 0)),22,"",⟨[]⟩,none⟩,none,false⟩,⟨⟨(some 3),.assign (.const (.int .i64 0)),3,"",⟨[]⟩,none⟩,none,false⟩,⟨⟨(some 4),.assign (.const (.int .i64 0)),25,"",⟨[]⟩,none⟩,none,false⟩]) (.seq (.seq (.ops false [⟨⟨(some 6),.load 22 (.tmp 1),22,"",⟨[]⟩,none⟩,none,false⟩,⟨⟨(some 7),.call ⟨.value (.func 79),⟨[(.tmp 6)]⟩,⟨[22]⟩⟩,4,"",⟨[]⟩,none⟩,none,false⟩,⟨⟨(some 8),.unOp .not 4 (.tmp 7),4,"",⟨[]⟩,none⟩,none,false⟩]) (.cond (.tmp 8) (.seq (.ops false [⟨⟨(some 2),.assign (.const (.slice none 0 0)),22,"",⟨[]⟩,none⟩,none,false⟩,⟨⟨(some 3),.assign (.const (.int .i64 0)),3,"",⟨[]⟩,none⟩,none,false⟩,⟨⟨(some 4),.assign (.const (.int .i64 103)),25,"",⟨[]⟩,none⟩,none,false⟩]) .ret) .skip)) (.seq (.ops false [⟨⟨(some 9),.makeFunc (.func 84) ⟨[]⟩ ⟨[(.tmp 1)]⟩,79,"",⟨[]⟩,none⟩,none,false⟩,⟨⟨(some 5),.assign (.tmp 9),79,"",⟨[]⟩,none⟩,none,false⟩]) (.seq (.ops false [⟨⟨(some 10),.move (.tmp 5),79,"",⟨[]⟩,none⟩,none,false⟩,⟨⟨(some 11),.call ⟨.value (.func 85),⟨[(.const (.int .i64 640000)),(.tmp 10)]⟩,⟨[3,79]⟩⟩,3,"",⟨[]⟩,none⟩,none,false⟩,⟨⟨(some 3),.assign (.tmp 11),3,"",⟨[]⟩,none⟩,none,false⟩]) (.seq (.ops false [⟨⟨(some 12),.load 22 (.tmp 1),22,"",⟨[]⟩,none⟩,none,false⟩,⟨⟨(some 13),.move (.tmp 3),3,"",⟨[]⟩,none⟩,none,false⟩,⟨⟨(some 14),.call ⟨.value (.func 82),⟨[(.tmp 12),(.tmp 13)]⟩,⟨[22,3]⟩⟩,22,"",⟨[]⟩,none⟩,none,false⟩,⟨⟨(some 2),.assign (.tmp 14),22,"",⟨[]⟩,none⟩,none,false⟩]) (.seq (.ops true [⟨⟨(some 15),.move (.tmp 2),22,"",⟨[]⟩,none⟩,none,true⟩,⟨⟨(some 16),.indexAddr 22 (.tmp 15) (.const (.int .i64 0)),0,"",⟨[]⟩,none⟩,none,true⟩,⟨⟨(some 17),.load 3 (.tmp 16),3,"",⟨[]⟩,none⟩,none,true⟩,⟨⟨(some 18),.move (.tmp 2),22,"",⟨[]⟩,none⟩,none,true⟩,⟨⟨(some 19),.call ⟨.value (.func 68),⟨[(.tmp 18)]⟩,⟨[22]⟩⟩,3,"",⟨[]⟩,none⟩,none,true⟩,⟨⟨(some 20),.binOp .sub 3 (.const (.int .i64 64)) (.tmp 19) 3,3,"",⟨[]⟩,none⟩,none,true⟩,⟨⟨(some 21),.binOp .add 3 (.tmp 17) (.tmp 20) 3,3,"",⟨[]⟩,none⟩,none,true⟩,⟨⟨(some 22),.indexAddr 22 (.tmp 15) (.const (.int .i64 0)),0,"",⟨[]⟩,none⟩,none,true⟩,⟨⟨none,.store 3 (.tmp 22) (.tmp 21),0,"",⟨[]⟩,none⟩,none,false⟩]) (.seq (.ops false [⟨⟨(some 23),.move (.tmp 2),22,"",⟨[]⟩,none⟩,none,false⟩,⟨⟨(some 24),.move (.tmp 3),3,"",⟨[]⟩,none⟩,none,false⟩,⟨⟨(some 2),.assign (.tmp 23),22,"",⟨[]⟩,none⟩,none,false⟩,⟨⟨(some 3),.assign (.tmp 24),3,"",⟨[]⟩,none⟩,none,false⟩,⟨⟨(some 4),.assign (.const (.int .i64 0)),25,"",⟨[]⟩,none⟩,none,false⟩]) .ret)))))))
def Try.s81 : SC := (.seq (.ops false [⟨⟨(some 2),.assign (.const (.bool false)),4,"",⟨[]⟩,none⟩,none,false⟩]) (.seq (.ops false [⟨⟨(some 5),.move (.tmp 0),22,"",⟨[]⟩,none⟩,none,false⟩,⟨⟨(some 6),.call ⟨.builtin .len,⟨[(.tmp 5)]⟩,⟨[22]⟩⟩,3,"",⟨[]⟩,none⟩,none,false⟩,⟨⟨(some 7),.call ⟨.value (.func 46),⟨[(.const (.int .i64 1)),(.tmp 6),(.const (.int .i64 6))]⟩,⟨[3,3,3]⟩⟩,4,"",⟨[]⟩,none⟩,none,false⟩,⟨⟨(some 3),.assign (.tmp 7),4,"",⟨[]⟩,none⟩,none,false⟩]) (.seq (.seq (.ops false [⟨⟨(some 4),.assign (.const (.int .i64 0)),3,"",⟨[]⟩,none⟩,none,false⟩]) (.block 0 (.loop (.seq (.seq (.ops false [⟨⟨(some 8),.move (.tmp 4),3,"",⟨[]⟩,none⟩,none,false⟩,⟨⟨(some 9),.move (.tmp 0),22,"",⟨[]⟩,none⟩,none,false⟩,⟨⟨(some 10),.call ⟨.builtin .len,⟨[(.tmp 9)]⟩,⟨[22]⟩⟩,3,"",⟨[]⟩,none⟩,none,false⟩,⟨⟨(some 11),.binOp .lss 3 (.tmp 8) (.tmp 10) 3,4,"",⟨[]⟩,none⟩,none,false⟩]) (.cond (.tmp 11) .skip (.exit 0))) (.seq (.block 1 (.ops false [⟨⟨(some 14),.move (.tmp 3),4,"",⟨[]⟩,none⟩,none,false⟩,⟨⟨(some 15),.move (.tmp 14),4,"",⟨[]⟩,none⟩,none,false⟩,⟨⟨(some 16),.move (.tmp 0),22,"",⟨[]⟩,none⟩,some ((some 15),true),false⟩,⟨⟨(some 17),.move (.tmp 4),3,"",⟨[]⟩,none⟩,some ((some 15),true),false⟩,⟨⟨(some 18),.indexAddr 22 (.tmp 16) (.tmp 17),0,"",⟨[]⟩,none⟩,some ((some 15),true),false⟩,⟨⟨(some 19),.load 3 (.tmp 18),3,"",⟨[]⟩,none⟩,some ((some 15),true),false⟩,⟨⟨(some 20),.call ⟨.value (.func 46),⟨[(.const (.int .i64 1)),(.tmp 19),(.const (.int .i64 10000))]⟩,⟨[3,3,3]⟩⟩,4,"",⟨[]⟩,none⟩,some ((some 15),true),false⟩,⟨⟨(some 21),.pick (.tmp 15) (.tmp 20) (.const (.bool false)),4,"",⟨[]⟩,none⟩,none,false⟩,⟨⟨(some 3),.assign (.tmp 21),4,"",⟨[]⟩,none⟩,none,false⟩])) (.ops false [⟨⟨(some 12),.move (.tmp 4),3,"",⟨[]⟩,none⟩,none,false⟩,⟨⟨(some 13),.binOp .add 3 (.tmp 12) (.const (.int .i64 1)) 3,3,"",⟨[]⟩,none⟩,none,false⟩,⟨⟨(some 4),.assign (.tmp 13),3,"",⟨[]⟩,none⟩,none,false⟩])))))) (.seq (.ops false [⟨⟨(some 22),.move (.tmp 3),4,"",⟨[]⟩,none⟩,none,false⟩,⟨⟨(some 2),.assign (.tmp 22),4,"",⟨[]⟩,none⟩,none,false⟩]) .ret))))
def Try.s29_c7 : SC := (.seq (.seq (.ops false [⟨⟨(some 7),.assign (.const (.int .i64 0)),3,"",⟨[]⟩,none⟩,none,false⟩]) (.block 0 (.loop (.seq (.seq (.ops false [⟨⟨(some 24),.move (.tmp 7),3,"",⟨[]⟩,none⟩,none,false⟩,⟨⟨(some 25),.move (.tmp 1),22,"",⟨[]⟩,none⟩,none,false⟩,⟨⟨(some 26),.call ⟨.builtin .len,⟨[(.tmp 25)]⟩,⟨[22]⟩⟩,3,"",⟨[]⟩,none⟩,none,false⟩,⟨⟨(some 27),.binOp .lss 3 (.tmp 24) (.tmp 26) 3,4,"",⟨[]⟩,none⟩,none,false⟩]) (.cond (.tmp 27) .skip (.exit 0))) (.seq (.block 1 (.ops false [⟨⟨(some 30),.move (.tmp 6),4,"",⟨[]⟩,none⟩,none,false⟩,⟨⟨(some 31),.move (.tmp 30),4,"",⟨[]⟩,none⟩,none,false⟩,⟨⟨(some 32),.move (.tmp 1),22,"",⟨[]⟩,none⟩,some ((some 31),true),false⟩,⟨⟨(some 33),.move (.tmp 7),3,"",⟨[]⟩,none⟩,some ((some 31),true),false⟩,⟨⟨(some 34),.indexAddr 22 (.tmp 32) (.tmp 33),0,"",⟨[]⟩,none⟩,some ((some 31),true),false⟩,⟨⟨(some 35),.load 3 (.tmp 34),3,"",⟨[]⟩,none⟩,some ((some 31),true),false⟩,⟨⟨(some 36),.call ⟨.value (.func 46),⟨[(.const (.int .i64 0)),(.tmp 35),(.const (.int .i64 64))]⟩,⟨[3,3,3]⟩⟩,4,"",⟨[]⟩,none⟩,some ((some 31),true),false⟩,⟨⟨(some 37),.pick (.tmp 31) (.tmp 36) (.const (.bool false)),4,"",⟨[]⟩,none⟩,none,false⟩,⟨⟨(some 6),.assign (.tmp 37),4,"",⟨[]⟩,none⟩,none,false⟩])) (.ops false [⟨⟨(some 28),.move (.tmp 7),3,"",⟨[]⟩,none⟩,none,false⟩,⟨⟨(some 29),.binOp .add 3 (.tmp 28) (.const (.int .i64 1)) 3,3,"",⟨[]⟩,none⟩,none,false⟩,⟨⟨(some 7),.assign (.tmp 29),3,"",⟨[]⟩,none⟩,none,false⟩])))))) (.seq (.seq (.ops false [⟨⟨(some 38),.move (.tmp 6),4,"",⟨[]⟩,none⟩,none,false⟩,⟨⟨(some 39),.unOp .not 4 (.tmp 38),4,"",⟨[]⟩,none⟩,none,false⟩]) (.cond (.tmp 39) (.seq (.ops false [⟨⟨(some 4),.assign (.const (.int .i64 0)),3,"",⟨[]⟩,none⟩,none,false⟩,⟨⟨(some 5),.assign (.const (.int .i64 103)),25,"",⟨[]⟩,none⟩,none,false⟩]) .ret) .skip)) (.seq (.ops false [⟨⟨(some 8),.assign (.const (.int .i64 0)),3,"",⟨[]⟩,none⟩,none,false⟩]) (.seq (.seq (.ops false [⟨⟨(some 9),.assign (.const (.int .i64 0)),3,"",⟨[]⟩,none⟩,none,false⟩]) (.block 2 (.loop (.seq (.seq (.ops false [⟨⟨(some 40),.move (.tmp 9),3,"",⟨[]⟩,none⟩,none,false⟩,⟨⟨(some 41),.move (.tmp 0),22,"",⟨[]⟩,none⟩,none,false⟩,⟨⟨(some 42),.call ⟨.builtin .len,⟨[(.tmp 41)]⟩,⟨[22]⟩⟩,3,"",⟨[]⟩,none⟩,none,false⟩,⟨⟨(some 43),.binOp .lss 3 (.tmp 40) (.tmp 42) 3,4,"",⟨[]⟩,none⟩,none,false⟩]) (.cond (.tmp 43) .skip (.exit 2))) (.seq (.block 3 (.ops true [⟨⟨(some 46),.move (.tmp 8),3,"",⟨[]⟩,none⟩,none,true⟩,⟨⟨(some 47),.move (.tmp 0),22,"",⟨[]⟩,none⟩,none,true⟩,⟨⟨(some 48),.move (.tmp 9),3,"",⟨[]⟩,none⟩,none,true⟩,⟨⟨(some 49),.indexAddr 22 (.tmp 47) (.tmp 48),0,"",⟨[]⟩,none⟩,none,true⟩,⟨⟨(some 50),.load 3 (.tmp 49),3,"",⟨[]⟩,none⟩,none,true⟩,⟨⟨(some 51),.move (.tmp 1),22,"",⟨[]⟩,none⟩,none,true⟩,⟨⟨(some 52),.move (.tmp 9),3,"",⟨[]⟩,none⟩,none,true⟩,⟨⟨(some 53),.indexAddr 22 (.tmp 51) (.tmp 52),0,"",⟨[]⟩,none⟩,none,true⟩,⟨⟨(some 54),.load 3 (.tmp 53),3,"",⟨[]⟩,none⟩,none,true⟩,⟨⟨(some 55),.binOp .sub 3 (.const (.int .i64 64)) (.tmp 54) 3,3,"",⟨[]⟩,none⟩,none,true⟩,⟨⟨(some 56),.binOp .mul 3 (.tmp 50) (.tmp 55) 3,3,"",⟨[]⟩,none⟩,none,true⟩,⟨⟨(some 57),.call ⟨.builtin .max,⟨[(.tmp 46),(.tmp 56)]⟩,⟨[3,3]⟩⟩,3,"",⟨[]⟩,none⟩,none,true⟩,⟨⟨(some 8),.assign (.tmp 57),3,"",⟨[]⟩,none⟩,none,true⟩])) (.ops false [⟨⟨(some 44),.move (.tmp 9),3,"",⟨[]⟩,none⟩,none,false⟩,⟨⟨(some 45),.binOp .add 3 (.tmp 44) (.const (.int .i64 1)) 3,3,"",⟨[]⟩,none⟩,none,false⟩,⟨⟨(some 9),.assign (.tmp 45),3,"",⟨[]⟩,none⟩,none,false⟩])))))) (.seq (.ops false [⟨⟨(some 58),.move (.tmp 8),3,"",⟨[]⟩,none⟩,none,false⟩,⟨⟨(some 4),.assign (.tmp 58),3,"",⟨[]⟩,none⟩,none,false⟩,⟨⟨(some 5),.assign (.const (.int .i64 0)),25,"",⟨[]⟩,none⟩,none,false⟩]) .ret)))))
def Try.s29 : SC := (.seq (.ops false [⟨⟨(some 4),.assign (.const (.int .i64 0)),3,"",⟨[]⟩,none⟩,none,false⟩,⟨⟨(some 5),.assign (.const (.int .i64 0)),25,"",⟨[]⟩,none⟩,none,false⟩]) (.seq (.ops false [⟨⟨(some 10),.move (.tmp 0),22,"",⟨[]⟩,none⟩,none,false⟩,⟨⟨(some 11),.call ⟨.value (.func 81),⟨[(.tmp 10)]⟩,⟨[22]⟩⟩,4,"",⟨[]⟩,none⟩,none,false⟩,⟨⟨(some 12),.move (.tmp 11),4,"",⟨[]⟩,none⟩,none,false⟩,⟨⟨(some 13),.move (.tmp 1),22,"",⟨[]⟩,none⟩,some ((some 12),true),false⟩,⟨⟨(some 14),.call ⟨.builtin .len,⟨[(.tmp 13)]⟩,⟨[22]⟩⟩,3,"",⟨[]⟩,none⟩,some ((some 12),true),false⟩,⟨⟨(some 15),.move (.tmp 0),22,"",⟨[]⟩,none⟩,some ((some 12),true),false⟩,⟨⟨(some 16),.call ⟨.builtin .len,⟨[(.tmp 15)]⟩,⟨[22]⟩⟩,3,"",⟨[]⟩,none⟩,some ((some 12),true),false⟩,⟨⟨(some 17),.binOp .eql 3 (.tmp 14) (.tmp 16) 3,4,"",⟨[]⟩,none⟩,some ((some 12),true),false⟩,⟨⟨(some 18),.pick (.tmp 12) (.tmp 17) (.const (.bool false)),4,"",⟨[]⟩,none⟩,none,false⟩,⟨⟨(some 19),.move (.tmp 18),4,"",⟨[]⟩,none⟩,none,false⟩,⟨⟨(some 20),.move (.tmp 1),22,"",⟨[]⟩,none⟩,some ((some 19),true),false⟩,⟨⟨(some 21),.call ⟨.value (.func 48),⟨[(.tmp 20)]⟩,⟨[22]⟩⟩,3,"",⟨[]⟩,none⟩,some ((some 19),true),false⟩,⟨⟨(some 22),.binOp .eql 3 (.tmp 21) (.const (.int .i64 64)) 3,4,"",⟨[]⟩,none⟩,some ((some 19),true),false⟩,⟨⟨(some 23),.pick (.tmp 19) (.tmp 22) (.const (.bool false)),4,"",⟨[]⟩,none⟩,none,false⟩,⟨⟨(some 6),.assign (.tmp 23),4,"",⟨[]⟩,none⟩,none,false⟩]) Try.s29_c7))
def Try.s116 : SC := (.seq (.ops false [⟨⟨(some 4),.assign (.const (.int .i64 0)),3,"",⟨[]⟩,none⟩,none,false⟩]) (.seq (.ops false [⟨⟨(some 5),.assign (.const (.int .i64 0)),3,"",⟨[]⟩,none⟩,none,false⟩]) (.seq (.block 0 (.loop (.seq (.seq (.ops false [⟨⟨(some 6),.move (.tmp 0),3,"",⟨[]⟩,none⟩,none,false⟩,⟨⟨(some 7),.move (.tmp 5),3,"",⟨[]⟩,none⟩,none,false⟩,⟨⟨(some 8),.binOp .sub 3 (.const (.int .i64 64)) (.tmp 7) 3,3,"",⟨[]⟩,none⟩,none,false⟩,⟨⟨(some 9),.binOp .mul 3 (.tmp 6) (.tmp 8) 3,3,"",⟨[]⟩,none⟩,none,false⟩,⟨⟨(some 10),.move (.tmp 1),3,"",⟨[]⟩,none⟩,none,false⟩,⟨⟨(some 11),.binOp .gtr 3 (.tmp 9) (.tmp 10) 3,4,"",⟨[]⟩,none⟩,none,false⟩]) (.cond (.tmp 11) .skip (.exit 0))) (.block 1 (.ops false [⟨⟨(some 12),.move (.tmp 5),3,"",⟨[]⟩,none⟩,none,false⟩,⟨⟨(some 13),.binOp .add 3 (.tmp 12) (.const (.int .i64 1)) 3,3,"",⟨[]⟩,none⟩,none,false⟩,⟨⟨(some 5),.assign (.tmp 13),3,"",⟨[]⟩,none⟩,none,false⟩]))))) (.seq (.ops false [⟨⟨(some 14),.move (.tmp 5),3,"",⟨[]⟩,none⟩,none,false⟩,⟨⟨(some 4),.assign (.tmp 14),3,"",⟨[]⟩,none⟩,none,false⟩]) .ret))))
def Try.s83 : SC := (.seq (.ops false [⟨⟨(some 4),.assign (.const (.int .i64 0)),3,"",⟨[]⟩,none⟩,none,false⟩]) (.seq (.ops false [⟨⟨(some 5),.assign (.const (.int .i64 0)),3,"",⟨[]⟩,none⟩,none,false⟩]) (.seq (.seq (.ops false [⟨⟨(some 6),.assign (.const (.int .i64 0)),3,"",⟨[]⟩,none⟩,none,false⟩]) (.block 0 (.loop (.seq (.seq (.ops false [⟨⟨(some 7),.move (.tmp 6),3,"",⟨[]⟩,none⟩,none,false⟩,⟨⟨(some 8),.move (.tmp 0),22,"",⟨[]⟩,none⟩,none,false⟩,⟨⟨(some 9),.call ⟨.builtin .len,⟨[(.tmp 8)]⟩,⟨[22]⟩⟩,3,"",⟨[]⟩,none⟩,none,false⟩,⟨⟨(some 10),.binOp .lss 3 (.tmp 7) (.tmp 9) 3,4,"",⟨[]⟩,none⟩,none,false⟩]) (.cond (.tmp 10) .skip (.exit 0))) (.seq (.block 1 (.ops false [⟨⟨(some 13),.move (.tmp 5),3,"",⟨[]⟩,none⟩,none,false⟩,⟨⟨(some 14),.move (.tmp 0),22,"",⟨[]⟩,none⟩,none,false⟩,⟨⟨(some 15),.move (.tmp 6),3,"",⟨[]⟩,none⟩,none,false⟩,⟨⟨(some 16),.indexAddr 22 (.tmp 14) (.tmp 15),0,"",⟨[]⟩,none⟩,none,false⟩,⟨⟨(some 17),.load 3 (.tmp 16),3,"",⟨[]⟩,none⟩,none,false⟩,⟨⟨(some 18),.move (.tmp 1),3,"",⟨[]⟩,none⟩,none,false⟩,⟨⟨(some 19),.call ⟨.value (.func 116),⟨[(.tmp 17),(.tmp 18)]⟩,⟨[3,3]⟩⟩,3,"",⟨[]⟩,none⟩,none,false⟩,⟨⟨(some 20),.binOp .add 3 (.tmp 13) (.tmp 19) 3,3,"",⟨[]⟩,none⟩,none,false⟩,⟨⟨(some 5),.assign (.tmp 20),3,"",⟨[]⟩,none⟩,none,false⟩])) (.ops false [⟨⟨(some 11),.move (.tmp 6),3,"",⟨[]⟩,none⟩,none,false⟩,⟨⟨(some 12),.binOp .add 3 (.tmp 11) (.const (.int .i64 1)) 3,3,"",⟨[]⟩,none⟩,none,false⟩,⟨⟨(some 6),.assign (.tmp 12),3,"",⟨[]⟩,none⟩,none,false⟩])))))) (.seq (.ops false [⟨⟨(some 21),.move (.tmp 5),3,"",⟨[]⟩,none⟩,none,false⟩,⟨⟨(some 4),.assign (.tmp 21),3,"",⟨[]⟩,none⟩,none,false⟩]) .ret))))
def Try.s31 : SC := (.seq (.ops false [⟨⟨(some 4),.assign (.const (.int .i64 0)),3,"",⟨[]⟩,none⟩,none,false⟩,⟨⟨(some 5),.assign (.const (.int .i64 0)),25,"",⟨[]⟩,none⟩,none,false⟩]) (.seq (.seq (.ops false [⟨⟨(some 6),.move (.tmp 0),22,"",⟨[]⟩,none⟩,none,false⟩,⟨⟨(some 7),.call ⟨.value (.func 81),⟨[(.tmp 6)]⟩,⟨[22]⟩⟩,4,"",⟨[]⟩,none⟩,none,false⟩,⟨⟨(some 8),.unOp .not 4 (.tmp 7),4,"",⟨[]⟩,none⟩,none,false⟩]) (.cond (.tmp 8) (.seq (.ops false [⟨⟨(some 4),.assign (.const (.int .i64 0)),3,"",⟨[]⟩,none⟩,none,false⟩,⟨⟨(some 5),.assign (.const (.int .i64 103)),25,"",⟨[]⟩,none⟩,none,false⟩]) .ret) .skip)) (.seq (.seq (.ops false [⟨⟨(some 9),.move (.tmp 1),3,"",⟨[]⟩,none⟩,none,false⟩,⟨⟨(some 10),.binOp .lss 3 (.tmp 9) (.const (.int .i64 0)) 3,4,"",⟨[]⟩,none⟩,none,false⟩]) (.cond (.tmp 10) (.seq (.ops false [⟨⟨(some 4),.assign (.const (.int .i64 0)),3,"",⟨[]⟩,none⟩,none,false⟩,⟨⟨(some 5),.assign (.const (.int .i64 7)),25,"",⟨[]⟩,none⟩,none,false⟩]) .ret) .skip)) (.seq (.ops false [⟨⟨(some 11),.move (.tmp 0),22,"",⟨[]⟩,none⟩,none,false⟩,⟨⟨(some 12),.move (.tmp 1),3,"",⟨[]⟩,none⟩,none,false⟩,⟨⟨(some 13),.call ⟨.value (.func 83),⟨[(.tmp 11),(.tmp 12)]⟩,⟨[22,3]⟩⟩,3,"",⟨[]⟩,none⟩,none,false⟩,⟨⟨(some 4),.assign (.tmp 13),3,"",⟨[]⟩,none⟩,none,false⟩,⟨⟨(some 5),.assign (.const (.int .i64 0)),25,"",⟨[]⟩,none⟩,none,false⟩]) .ret))))
def Try.s33 : SC := (.seq (.ops false [⟨⟨(some 2),.assign (.const (.int .i64 0)),3,"",⟨[]⟩,none⟩,none,false⟩]) (.seq (.ops false [⟨⟨(some 3),.assign (.const (.int .i64 (-1))),3,"",⟨[]⟩,none⟩,none,false⟩,⟨⟨(some 4),.assign (.const (.int .i64 640000)),3,"",⟨[]⟩,none⟩,none,false⟩]) (.seq (.block 0 (.loop (.seq (.seq (.ops false [⟨⟨(some 6),.move (.tmp 4),3,"",⟨[]⟩,none⟩,none,false⟩,⟨⟨(some 7),.move (.tmp 3),3,"",⟨[]⟩,none⟩,none,false⟩,⟨⟨(some 8),.binOp .sub 3 (.tmp 6) (.tmp 7) 3,3,"",⟨[]⟩,none⟩,none,false⟩,⟨⟨(some 9),.binOp .gtr 3 (.tmp 8) (.const (.int .i64 1)) 3,4,"",⟨[]⟩,none⟩,none,false⟩]) (.cond (.tmp 9) .skip (.exit 0))) (.block 1 (.seq (.ops false [⟨⟨(some 10),.move (.tmp 3),3,"",⟨[]⟩,none⟩,none,false⟩,⟨⟨(some 11),.move (.tmp 4),3,"",⟨[]⟩,none⟩,none,false⟩,⟨⟨(some 12),.binOp .add 3 (.tmp 10) (.tmp 11) 3,3,"",⟨[]⟩,none⟩,none,false⟩,⟨⟨(some 13),.binOp .quo 3 (.tmp 12) (.const (.int .i64 2)) 3,3,"",⟨[]⟩,none⟩,none,false⟩,⟨⟨(some 5),.assign (.tmp 13),3,"",⟨[]⟩,none⟩,none,false⟩]) (.seq (.ops false [⟨⟨(some 14),.move (.tmp 0),22,"",⟨[]⟩,none⟩,none,false⟩,⟨⟨(some 15),.move (.tmp 5),3,"",⟨[]⟩,none⟩,none,false⟩,⟨⟨(some 16),.call ⟨.value (.func 83),⟨[(.tmp 14),(.tmp 15)]⟩,⟨[22,3]⟩⟩,3,"",⟨[]⟩,none⟩,none,false⟩,⟨⟨(some 17),.binOp .leq 3 (.tmp 16) (.const (.int .i64 64)) 3,4,"",⟨[]⟩,none⟩,none,false⟩]) (.cond (.tmp 17) (.ops false [⟨⟨(some 18),.move (.tmp 5),3,"",⟨[]⟩,none⟩,none,false⟩,⟨⟨(some 4),.assign (.tmp 18),3,"",⟨[]⟩,none⟩,none,false⟩]) (.ops false [⟨⟨(some 19),.move (.tmp 5),3,"",⟨[]⟩,none⟩,none,false⟩,⟨⟨(some 3),.assign (.tmp 19),3,"",⟨[]⟩,none⟩,none,false⟩])))))))) (.seq (.ops false [⟨⟨(some 20),.move (.tmp 4),3,"",⟨[]⟩,none⟩,none,false⟩,⟨⟨(some 2),.assign (.tmp 20),3,"",⟨[]⟩,none⟩,none,false⟩]) .ret))))
def Try.s5 : SC := (.seq (.ops false [⟨⟨(some 6),.assign (.const (.bool false)),4,"",⟨[]⟩,none⟩,none,false⟩]) (.seq (.ops false [⟨⟨(some 16),.move (.tmp 0),22,"",⟨[]⟩,none⟩,none,false⟩,⟨⟨(some 17),.move (.tmp 1),22,"",⟨[]⟩,none⟩,none,false⟩,⟨⟨(some 18),.call ⟨.value (.func 28),⟨[(.tmp 16),(.tmp 17)]⟩,⟨[22,22]⟩⟩,39,"",⟨[]⟩,none⟩,none,false⟩,⟨⟨(some 15),.move (.tmp 18),39,"",⟨[]⟩,none⟩,none,false⟩,⟨⟨(some 19),.extract (.tmp 15) 0,3,"",⟨[]⟩,none⟩,none,false⟩,⟨⟨(some 20),.extract (.tmp 15) 1,25,"",⟨[]⟩,none⟩,none,false⟩,⟨⟨(some 7),.assign (.tmp 19),3,"",⟨[]⟩,none⟩,none,false⟩,⟨⟨(some 8),.assign (.tmp 20),25,"",⟨[]⟩,none⟩,none,false⟩]) (.seq (.ops false [⟨⟨(some 22),.move (.tmp 0),22,"",⟨[]⟩,none⟩,none,false⟩,⟨⟨(some 23),.move (.tmp 1),22,"",⟨[]⟩,none⟩,none,false⟩,⟨⟨(some 24),.call ⟨.value (.func 29),⟨[(.tmp 22),(.tmp 23)]⟩,⟨[22,22]⟩⟩,39,"",⟨[]⟩,none⟩,none,false⟩,⟨⟨(some 21),.move (.tmp 24),39,"",⟨[]⟩,none⟩,none,false⟩,⟨⟨(some 25),.extract (.tmp 21) 0,3,"",⟨[]⟩,none⟩,none,false⟩,⟨⟨(some 26),.extract (.tmp 21) 1,25,"",⟨[]⟩,none⟩,none,false⟩,⟨⟨(some 9),.assign (.tmp 25),3,"",⟨[]⟩,none⟩,none,false⟩,⟨⟨(some 10),.assign (.tmp 26),25,"",⟨[]⟩,none⟩,none,false⟩]) (.seq (.seq (.ops false [⟨⟨(some 27),.move (.tmp 7),3,"",⟨[]⟩,none⟩,none,false⟩,⟨⟨(some 28),.move (.tmp 9),3,"",⟨[]⟩,none⟩,none,false⟩,⟨⟨(some 29),.binOp .neq 3 (.tmp 27) (.tmp 28) 3,4,"",⟨[]⟩,none⟩,none,false⟩,⟨⟨(some 30),.move (.tmp 29),4,"",⟨[]⟩,none⟩,none,false⟩,⟨⟨(some 31),.move (.tmp 8),25,"",⟨[]⟩,none⟩,some ((some 30),false),false⟩,⟨⟨(some 32),.move (.tmp 10),25,"",⟨[]⟩,none⟩,some ((some 30),false),false⟩,⟨⟨(some 33),.binOp .neq 25 (.tmp 31) (.tmp 32) 25,4,"",⟨[]⟩,none⟩,some ((some 30),false),false⟩,⟨⟨(some 34),.pick (.tmp 30) (.const (.bool true)) (.tmp 33),4,"",⟨[]⟩,none⟩,none,false⟩]) (.cond (.tmp 34) (.seq (.ops false [⟨⟨(some 6),.assign (.const (.bool false)),4,"",⟨[]⟩,none⟩,none,false⟩]) .ret) .skip)) (.seq (.ops false [⟨⟨(some 36),.move (.tmp 0),22,"",⟨[]⟩,none⟩,none,false⟩,⟨⟨(some 37),.move (.tmp 2),3,"",⟨[]⟩,none⟩,none,false⟩,⟨⟨(some 38),.call ⟨.value (.func 30),⟨[(.tmp 36),(.tmp 37)]⟩,⟨[22,3]⟩⟩,39,"",⟨[]⟩,none⟩,none,false⟩,⟨⟨(some 35),.move (.tmp 38),39,"",⟨[]⟩,none⟩,none,false⟩,⟨⟨(some 39),.extract (.tmp 35) 0,3,"",⟨[]⟩,none⟩,none,false⟩,⟨⟨(some 40),.extract (.tmp 35) 1,25,"",⟨[]⟩,none⟩,none,false⟩,⟨⟨(some 7),.assign (.tmp 39),3,"",⟨[]⟩,none⟩,none,false⟩,⟨⟨(some 8),.assign (.tmp 40),25,"",⟨[]⟩,none⟩,none,false⟩]) (.seq (.ops false [⟨⟨(some 42),.move (.tmp 0),22,"",⟨[]⟩,none⟩,none,false⟩,⟨⟨(some 43),.move (.tmp 2),3,"",⟨[]⟩,none⟩,none,false⟩,⟨⟨(some 44),.call ⟨.value (.func 31),⟨[(.tmp 42),(.tmp 43)]⟩,⟨[22,3]⟩⟩,39,"",⟨[]⟩,none⟩,none,false⟩,⟨⟨(some 41),.move (.tmp 44),39,"",⟨[]⟩,none⟩,none,false⟩,⟨⟨(some 45),.extract (.tmp 41) 0,3,"",⟨[]⟩,none⟩,none,false⟩,⟨⟨(some 46),.extract (.tmp 41) 1,25,"",⟨[]⟩,none⟩,none,false⟩,⟨⟨(some 9),.assign (.tmp 45),3,"",⟨[]⟩,none⟩,none,false⟩,⟨⟨(some 10),.assign (.tmp 46),25,"",⟨[]⟩,none⟩,none,false⟩]) (.seq (.seq (.ops false [⟨⟨(some 47),.move (.tmp 7),3,"",⟨[]⟩,none⟩,none,false⟩,⟨⟨(some 48),.move (.tmp 9),3,"",⟨[]⟩,none⟩,none,false⟩,⟨⟨(some 49),.binOp .neq 3 (.tmp 47) (.tmp 48) 3,4,"",⟨[]⟩,none⟩,none,false⟩,⟨⟨(some 50),.move (.tmp 49),4,"",⟨[]⟩,none⟩,none,false⟩,⟨⟨(some 51),.move (.tmp 8),25,"",⟨[]⟩,none⟩,some ((some 50),false),false⟩,⟨⟨(some 52),.move (.tmp 10),25,"",⟨[]⟩,none⟩,some ((some 50),false),false⟩,⟨⟨(some 53),.binOp .neq 25 (.tmp 51) (.tmp 52) 25,4,"",⟨[]⟩,none⟩,some ((some 50),false),false⟩,⟨⟨(some 54),.pick (.tmp 50) (.const (.bool true)) (.tmp 53),4,"",⟨[]⟩,none⟩,none,false⟩]) (.cond (.tmp 54) (.seq (.ops false [⟨⟨(some 6),.assign (.const (.bool false)),4,"",⟨[]⟩,none⟩,none,false⟩]) .ret) .skip)) (.seq (.ops false [⟨⟨(some 56),.move (.tmp 0),22,"",⟨[]⟩,none⟩,none,false⟩,⟨⟨(some 57),.call ⟨.value (.func 32),⟨[(.tmp 56)]⟩,⟨[22]⟩⟩,36,"",⟨[]⟩,none⟩,none,false⟩,⟨⟨(some 55),.move (.tmp 57),36,"",⟨[]⟩,none⟩,none,false⟩,⟨⟨(some 58),.extract (.tmp 55) 0,22,"",⟨[]⟩,none⟩,none,false⟩,⟨⟨(some 59),.extract (.tmp 55) 1,3,"",⟨[]⟩,none⟩,none,false⟩,⟨⟨(some 60),.extract (.tmp 55) 2,25,"",⟨[]⟩,none⟩,none,false⟩,⟨⟨(some 11),.assign (.tmp 58),22,"",⟨[]⟩,none⟩,none,false⟩,⟨⟨(some 7),.assign (.tmp 59),3,"",⟨[]⟩,none⟩,none,false⟩,⟨⟨(some 8),.assign (.tmp 60),25,"",⟨[]⟩,none⟩,none,false⟩]) (.seq (.ops false [⟨⟨(some 62),.move (.tmp 0),22,"",⟨[]⟩,none⟩,none,false⟩,⟨⟨(some 63),.move (.tmp 11),22,"",⟨[]⟩,none⟩,none,false⟩,⟨⟨(some 64),.call ⟨.value (.func 29),⟨[(.tmp 62),(.tmp 63)]⟩,⟨[22,22]⟩⟩,39,"",⟨[]⟩,none⟩,none,false⟩,⟨⟨(some 61),.move (.tmp 64),39,"",⟨[]⟩,none⟩,none,false⟩,⟨⟨(some 65),.extract (.tmp 61) 0,3,"",⟨[]⟩,none⟩,none,false⟩,⟨⟨(some 66),.extract (.tmp 61) 1,25,"",⟨[]⟩,none⟩,none,false⟩,⟨⟨(some 12),.assign (.tmp 65),3,"",⟨[]⟩,none⟩,none,false⟩,⟨⟨(some 10),.assign (.tmp 66),25,"",⟨[]⟩,none⟩,none,false⟩]) (.seq (.seq (.ops false [⟨⟨(some 67),.move (.tmp 8),25,"",⟨[]⟩,none⟩,none,false⟩,⟨⟨(some 68),.binOp .neq 25 (.tmp 67) (.const (.int .i64 0)) 25,4,"",⟨[]⟩,none⟩,none,false⟩]) (.cond (.tmp 68) (.seq (.ops false [⟨⟨(some 70),.move (.tmp 0),22,"",⟨[]⟩,none⟩,none,false⟩,⟨⟨(some 71),.call ⟨.value (.func 31),⟨[(.tmp 70),(.const (.int .i64 0))]⟩,⟨[22,3]⟩⟩,39,"",⟨[]⟩,none⟩,none,false⟩,⟨⟨(some 69),.move (.tmp 71),39,"",⟨[]⟩,none⟩,none,false⟩,⟨⟨(some 72),.extract (.tmp 69) 0,3,"",⟨[]⟩,none⟩,none,false⟩,⟨⟨(some 73),.extract (.tmp 69) 1,25,"",⟨[]⟩,none⟩,none,false⟩,⟨⟨(some 13),.assign (.tmp 72),3,"",⟨[]⟩,none⟩,none,false⟩,⟨⟨(some 14),.assign (.tmp 73),25,"",⟨[]⟩,none⟩,none,false⟩]) (.seq (.ops false [⟨⟨(some 74),.move (.tmp 8),25,"",⟨[]⟩,none⟩,none,false⟩,⟨⟨(some 75),.binOp .eql 25 (.tmp 74) (.const (.int .i64 103)) 25,4,"",⟨[]⟩,none⟩,none,false⟩,⟨⟨(some 76),.move (.tmp 75),4,"",⟨[]⟩,none⟩,none,false⟩,⟨⟨(some 77),.move (.tmp 14),25,"",⟨[]⟩,none⟩,some ((some 76),true),false⟩,⟨⟨(some 78),.move (.tmp 8),25,"",⟨[]⟩,none⟩,some ((some 76),true),false⟩,⟨⟨(some 79),.binOp .eql 25 (.tmp 77) (.tmp 78) 25,4,"",⟨[]⟩,none⟩,some ((some 76),true),false⟩,⟨⟨(some 80),.pick (.tmp 76) (.tmp 79) (.const (.bool false)),4,"",⟨[]⟩,none⟩,none,false⟩,⟨⟨(some 81),.move (.tmp 80),4,"",⟨[]⟩,none⟩,none,false⟩,⟨⟨(some 82),.move (.tmp 11),22,"",⟨[]⟩,none⟩,some ((some 81),true),false⟩,⟨⟨(some 83),.call ⟨.builtin .len,⟨[(.tmp 82)]⟩,⟨[22]⟩⟩,3,"",⟨[]⟩,none⟩,some ((some 81),true),false⟩,⟨⟨(some 84),.binOp .eql 3 (.tmp 83) (.const (.int .i64 0)) 3,4,"",⟨[]⟩,none⟩,some ((some 81),true),false⟩,⟨⟨(some 85),.pick (.tmp 81) (.tmp 84) (.const (.bool false)),4,"",⟨[]⟩,none⟩,none,false⟩,⟨⟨(some 86),.move (.tmp 85),4,"",⟨[]⟩,none⟩,none,false⟩,⟨⟨(some 87),.move (.tmp 7),3,"",⟨[]⟩,none⟩,some ((some 86),true),false⟩,⟨⟨(some 88),.binOp .eql 3 (.tmp 87) (.const (.int .i64 0)) 3,4,"",⟨[]⟩,none⟩,some ((some 86),true),false⟩,⟨⟨(some 89),.pick (.tmp 86) (.tmp 88) (.const (.bool false)),4,"",⟨[]⟩,none⟩,none,false⟩,⟨⟨(some 90),.move (.tmp 89),4,"",⟨[]⟩,none⟩,none,false⟩,⟨⟨(some 91),.call ⟨.value (.func 25),⟨[]⟩,⟨[]⟩⟩,4,"",⟨[]⟩,none⟩,some ((some 90),true),false⟩,⟨⟨(some 92),.pick (.tmp 90) (.tmp 91) (.const (.bool false)),4,"",⟨[]⟩,none⟩,none,false⟩,⟨⟨(some 6),.assign (.tmp 92),4,"",⟨[]⟩,none⟩,none,false⟩]) .ret)) .skip)) (.seq (.ops false [⟨⟨(some 93),.move (.tmp 10),25,"",⟨[]⟩,none⟩,none,false⟩,⟨⟨(some 94),.binOp .eql 25 (.tmp 93) (.const (.int .i64 0)) 25,4,"",⟨[]⟩,none⟩,none,false⟩,⟨⟨(some 95),.move (.tmp 94),4,"",⟨[]⟩,none⟩,none,false⟩,⟨⟨(some 96),.move (.tmp 12),3,"",⟨[]⟩,none⟩,some ((some 95),true),false⟩,⟨⟨(some 97),.move (.tmp 7),3,"",⟨[]⟩,none⟩,some ((some 95),true),false⟩,⟨⟨(some 98),.binOp .eql 3 (.tmp 96) (.tmp 97) 3,4,"",⟨[]⟩,none⟩,some ((some 95),true),false⟩,⟨⟨(some 99),.pick (.tmp 95) (.tmp 98) (.const (.bool false)),4,"",⟨[]⟩,none⟩,none,false⟩,⟨⟨(some 100),.move (.tmp 99),4,"",⟨[]⟩,none⟩,none,false⟩,⟨⟨(some 101),.move (.tmp 7),3,"",⟨[]⟩,none⟩,some ((some 100),true),false⟩,⟨⟨(some 102),.move (.tmp 0),22,"",⟨[]⟩,none⟩,some ((some 100),true),false⟩,⟨⟨(some 103),.call ⟨.value (.func 33),⟨[(.tmp 102)]⟩,⟨[22]⟩⟩,3,"",⟨[]⟩,none⟩,some ((some 100),true),false⟩,⟨⟨(some 104),.binOp .eql 3 (.tmp 101) (.tmp 103) 3,4,"",⟨[]⟩,none⟩,some ((some 100),true),false⟩,⟨⟨(some 105),.pick (.tmp 100) (.tmp 104) (.const (.bool false)),4,"",⟨[]⟩,none⟩,none,false⟩,⟨⟨(some 106),.move (.tmp 105),4,"",⟨[]⟩,none⟩,none,false⟩,⟨⟨(some 107),.call ⟨.value (.func 25),⟨[]⟩,⟨[]⟩⟩,4,"",⟨[]⟩,none⟩,some ((some 106),true),false⟩,⟨⟨(some 108),.pick (.tmp 106) (.tmp 107) (.const (.bool false)),4,"",⟨[]⟩,none⟩,none,false⟩,⟨⟨(some 6),.assign (.tmp 108),4,"",⟨[]⟩,none⟩,none,false⟩]) .ret)))))))))))
theorem Try.s46_eq : Try.f46.body.map sOf = some Try.s46 := by kernel_rfl
theorem Try.s48_eq : Try.f48.body.map sOf = some Try.s48 := by kernel_rfl
theorem Try.s64_eq : Try.f64.body.map sOf = some Try.s64 := by kernel_rfl
theorem Try.s65_eq : Try.f65.body.map sOf = some Try.s65 := by kernel_rfl
theorem Try.s108_eq : Try.f108.body.map sOf = some Try.s108 := by kernel_rfl
theorem Try.s123_eq : Try.f123.body.map sOf = some Try.s123 := by kernel_rfl
theorem Try.s109_eq : Try.f109.body.map sOf = some Try.s109 := by kernel_rfl
theorem Try.s68_eq : Try.f68.body.map sOf = some Try.s68 := by kernel_rfl
theorem Try.s113_eq : Try.f113.body.map sOf = some Try.s113 := by kernel_rfl
theorem Try.s114_eq : Try.f114.body.map sOf = some Try.s114 := by kernel_rfl
theorem Try.s79_eq : Try.f79.body.map sOf = some Try.s79 := by kernel_rfl
theorem Try.s80_eq : Try.f80.body.map sOf = some Try.s80 := by kernel_rfl
theorem Try.s28_eq : Try.f28.body.map sOf = some Try.s28 := by kernel_rfl
theorem Try.s115_eq : Try.f115.body.map sOf = some Try.s115 := by kernel_rfl
theorem Try.s82_eq : Try.f82.body.map sOf = some Try.s82 := by kernel_rfl
theorem Try.s30_eq : Try.f30.body.map sOf = some Try.s30 := by kernel_rfl
theorem Try.s84_eq : Try.f84.body.map sOf = some Try.s84 := by kernel_rfl
theorem Try.s85_eq : Try.f85.body.map sOf = some Try.s85 := by kernel_rfl
theorem Try.s32_eq : Try.f32.body.map sOf = some Try.s32 := by kernel_rfl
theorem Try.s81_eq : Try.f81.body.map sOf = some Try.s81 := by kernel_rfl
theorem Try.s29_eq : Try.f29.body.map sOf = some Try.s29 := by kernel_rfl
theorem Try.s116_eq : Try.f116.body.map sOf = some Try.s116 := by kernel_rfl
theorem Try.s83_eq : Try.f83.body.map sOf = some Try.s83 := by kernel_rfl
theorem Try.s31_eq : Try.f31.body.map sOf = some Try.s31 := by kernel_rfl
theorem Try.s33_eq : Try.f33.body.map sOf = some Try.s33 := by kernel_rfl
theorem Try.s5_eq : Try.f5.body.map sOf = some Try.s5 := by kernel_rfl
end Go.Proofs

namespace Go.Proofs
open Go Go.Sim
def wgt (r l : Int) : Int := 64 - min 64 (r / l)
def needL (L : List Int) (r : Int) : Int := (L.map (wgt r)).sum
theorem wgt_in {r l : Int} (hr : 0 ≤ r) (hl : 1 ≤ l) : 0 ≤ wgt r l ∧ wgt r l ≤ 64 := by
  have : 0 ≤ r / l := Int.ediv_nonneg hr (by omega)
  unfold wgt; omega
theorem wgt_good {r l : Int} (hr : 0 ≤ r) (hl : 1 ≤ l) : l * (64 - wgt r l) ≤ r := by
  have h0 : 0 ≤ r / l := Int.ediv_nonneg hr (by omega)
  have h1 : l * (r / l) ≤ r := Int.mul_ediv_self_le (by omega)
  have h2 : l * (64 - wgt r l) ≤ l * (r / l) := Int.mul_le_mul_of_nonneg_left (by unfold wgt; omega) (by omega)
  omega
theorem wgt_least {r l v : Int} (hl : 1 ≤ l) (hv : 0 ≤ v) (h : l * (64 - v) ≤ r) : wgt r l ≤ v := by
  have : 64 - v ≤ r / l := by
    rw [Int.le_ediv_iff_mul_le (by omega), Int.mul_comm]; exact h
  unfold wgt; omega
theorem wgt_mono {r s l : Int} (hl : 1 ≤ l) (h : r ≤ s) : wgt s l ≤ wgt r l := by
  have : r / l ≤ s / l := Int.ediv_le_ediv (by omega) h
  unfold wgt; omega
theorem needL_nil (r : Int) : needL [] r = 0 := rfl
theorem needL_cons (l : Int) (L : List Int) (r : Int) : needL (l :: L) r = wgt r l + needL L r := by simp [needL]
def pos (L : List Int) : Prop := ∀ l ∈ L, 1 ≤ l ∧ l ≤ 10000
theorem pos.tail {l : Int} {L : List Int} (h : pos (l :: L)) : pos L := fun x hx => h x (List.mem_cons_of_mem _ hx)
theorem needL_mono {L : List Int} {r s : Int} (hL : pos L) (h : r ≤ s) : needL L s ≤ needL L r := by
  induction L with
  | nil => simp [needL_nil]
  | cons l L ih =>
    rw [needL_cons, needL_cons]
    have := wgt_mono (hL l List.mem_cons_self).1 h
    have := ih hL.tail
    omega
theorem needL_in {L : List Int} {r : Int} (hL : pos L) (hr : 0 ≤ r) : 0 ≤ needL L r ∧ needL L r ≤ 64 * L.length := by
  induction L with
  | nil => simp [needL_nil]
  | cons l L ih =>
    rw [needL_cons]
    have := wgt_in hr (hL l List.mem_cons_self).1
    have := ih hL.tail
    rw [List.length_cons]; push_cast
    omega
theorem needL_top {L : List Int} (hL : pos L) : needL L 640000 = 0 := by
  induction L with
  | nil => rfl
  | cons l L ih =>
    rw [needL_cons, ih hL.tail]
    have h := hL l List.mem_cons_self
    have : 64 ≤ (640000 : Int) / l := by
      rw [Int.le_ediv_iff_mul_le (by omega)]; omega
    unfold wgt; omega
def LeastRisk (L : List Int) (r : Int) : Prop := 0 ≤ r ∧ r ≤ 640000 ∧ needL L r ≤ 64 ∧ (r = 0 ∨ 64 < needL L (r - 1))
theorem LeastRisk.one {L : List Int} {r s : Int} (hL : pos L) (h : LeastRisk L r) (k : LeastRisk L s) : r = s := by
  obtain ⟨h1, h2, h3, h4⟩ := h
  obtain ⟨k1, k2, k3, k4⟩ := k
  rcases Int.lt_trichotomy r s with q | q | q
  · rcases k4 with e | e
    · omega
    · have := needL_mono (r := r) (s := s - 1) hL (by omega); omega
  · exact q
  · rcases h4 with e | e
    · omega
    · have := needL_mono (r := s) (s := r - 1) hL (by omega); omega
def patrolL (L : List Int) (r : Int) : List Int := match L.map (wgt r) with
  | [] => []
  | w :: ws => (w + (64 - needL L r)) :: ws
def riskTo : List Int → List Int → Int
  | l :: L, w :: W => max (l * (64 - w)) (riskTo L W)
  | _, _ => 0
theorem riskTo_nonneg : ∀ (L W : List Int), 0 ≤ riskTo L W
  | [], _ => by simp [riskTo]
  | _ :: _, [] => by simp [riskTo]
  | l :: L, w :: W => by have := riskTo_nonneg L W; simp only [riskTo]; omega
theorem riskTo_le {L W : List Int} (hl : L.length = W.length) {r : Int} : riskTo L W ≤ r ↔ 0 ≤ r ∧ ∀ i (h : i < L.length) (h' : i < W.length), L[i] * (64 - W[i]) ≤ r := by
  induction L generalizing W with
  | nil => simp [riskTo]
  | cons l L ih =>
    cases W with
    | nil => simp at hl
    | cons w W =>
      simp only [riskTo]
      have := @ih W (by simpa using hl)
      rw [Int.max_le, this]
      constructor
      · rintro ⟨a, b, c⟩
        refine ⟨b, fun i h h' => ?_⟩
        cases i with
        | zero => exact a
        | succ i => exact c i (by simpa using h) (by simpa using h')
      · rintro ⟨b, c⟩
        exact ⟨c 0 (by simp) (by simp), b, fun i h h' => c (i + 1) (by simpa using h) (by simpa using h')⟩
theorem need_le {L W : List Int} (hL : pos L) (hl : L.length = W.length) (hW : ∀ x ∈ W, 0 ≤ x) {r : Int} (h : riskTo L W ≤ r) : needL L r ≤ W.sum := by
  induction L generalizing W with
  | nil =>
    cases W with
    | nil => simp [needL_nil]
    | cons => simp at hl
  | cons l L ih =>
    cases W with
    | nil => simp at hl
    | cons w W =>
      simp only [riskTo] at h
      rw [Int.max_le] at h
      have h1 := wgt_least (hL l List.mem_cons_self).1 (hW w List.mem_cons_self) h.1
      have h2 := ih hL.tail (by simpa using hl) (fun x hx => hW x (List.mem_cons_of_mem _ hx)) h.2
      rw [needL_cons, List.sum_cons]
      omega
theorem map_sum (L : List Int) (r : Int) : (L.map (wgt r)).sum = needL L r := rfl
theorem patrolL_len {L : List Int} {r : Int} : (patrolL L r).length = L.length := by
  cases L <;> simp [patrolL]
theorem patrolL_sum {L : List Int} {r : Int} (h : L ≠ []) : (patrolL L r).sum = 64 := by
  cases L with
  | nil => exact absurd rfl h
  | cons l L =>
    simp only [patrolL, List.map_cons, List.sum_cons, needL]
    omega
theorem patrolL_ge {L : List Int} {r : Int} (hn : needL L r ≤ 64) : ∀ i (h : i < L.length) (h' : i < (patrolL L r).length), wgt r L[i] ≤ (patrolL L r)[i] := by
  intro i h h'
  cases L with
  | nil => simp at h
  | cons l L =>
    cases i with
    | zero => simp only [patrolL, List.map_cons, List.getElem_cons_zero]; omega
    | succ i => simp [patrolL]
theorem patrolL_nonneg {L : List Int} {r : Int} (hL : pos L) (hr : 0 ≤ r) (hn : needL L r ≤ 64) : ∀ x ∈ patrolL L r, 0 ≤ x := by
  intro x hx
  obtain ⟨i, hi, rfl⟩ := List.getElem_of_mem hx
  have hi' : i < L.length := by rw [patrolL_len] at hi; exact hi
  have := patrolL_ge hn i hi' hi
  have := wgt_in hr (hL _ (List.getElem_mem hi')).1
  omega
theorem sum_ge_mem : ∀ {W : List Int} (_ : ∀ x ∈ W, 0 ≤ x), ∀ x ∈ W, x ≤ W.sum
  | [], _, x, hx => by simp at hx
  | w :: W, h, x, hx => by
    have h2 : ∀ x ∈ W, 0 ≤ x := fun x hx => h x (List.mem_cons_of_mem _ hx)
    have h3 : 0 ≤ W.sum := by
      clear hx h
      induction W with
      | nil => simp
      | cons a W ih =>
        have := h2 a List.mem_cons_self
        have := ih fun x hx => h2 x (List.mem_cons_of_mem _ hx)
        rw [List.sum_cons]; omega
    rw [List.sum_cons]
    rcases List.mem_cons.1 hx with rfl | hx
    · omega
    · have := sum_ge_mem h2 x hx
      have := h w List.mem_cons_self
      omega
theorem patrolL_in {L : List Int} {r : Int} (hL : pos L) (hr : 0 ≤ r) (hn : needL L r ≤ 64) (h : L ≠ []) : ∀ x ∈ patrolL L r, 0 ≤ x ∧ x ≤ 64 := by
  intro x hx
  refine ⟨patrolL_nonneg hL hr hn x hx, ?_⟩
  have := sum_ge_mem (patrolL_nonneg hL hr hn) x hx
  rw [patrolL_sum h] at this
  exact this
theorem patrolL_risk {L : List Int} {r : Int} (hL : pos L) (h : LeastRisk L r) (hn : L ≠ []) : riskTo L (patrolL L r) = r := by
  obtain ⟨h1, h2, h3, h4⟩ := h
  have hle : riskTo L (patrolL L r) ≤ r := by
    rw [riskTo_le patrolL_len.symm]
    refine ⟨h1, fun i hi hi' => ?_⟩
    have a := patrolL_ge h3 i hi hi'
    have b := (hL _ (List.getElem_mem hi)).1
    have c := wgt_good h1 b
    have d := Int.mul_le_mul_of_nonneg_left (a := 64 - (patrolL L r)[i]) (b := 64 - wgt r L[i]) (c := L[i]) (by omega) (by omega)
    omega
  have h0 := riskTo_nonneg L (patrolL L r)
  rcases h4 with e | e
  · omega
  · rcases Int.lt_or_le (riskTo L (patrolL L r)) r with q | q
    · have := need_le hL patrolL_len.symm (patrolL_nonneg hL h1 h3) (r := r - 1) (by omega)
      rw [patrolL_sum hn] at this
      omega
    · omega
end Go.Proofs

namespace Go.Proofs
open Go Go.RowKit Go.Sim
set_option maxRecDepth 100000
theorem same_fn0 (f : Nat) : same 12 (.func (.func f) #[] #[]) (.func (.func f) #[] #[]) = true := by simp [same, same.all]
theorem same_fn (f b : Nat) : same 12 (.func (.func f) #[] #[.pointer (some ⟨b, 0, none⟩)]) (.func (.func f) #[] #[.pointer (some ⟨b, 0, none⟩)]) = true := by simp [same, same.all]
theorem within_ok (n a b : Int) (w : AW) : CallT Try.prog Try.T1 (.fn (.func 64) #[]) #[.int .i64 n, .int .i64 a, .int .i64 b] w (Ret (.bool (inR a n b)) fun w' => w = w') := by
  refine callT_code rfl Try.func64 rfl Try.s64_eq rfl ?_
  unfold Try.s64
  by_cases h : a ≤ n
  all_goals
    simp -dsimp -implicitDefEqProofs (maxSteps := 2000000) (disch := first | assumption | omega | (simp only [nx]; omega) | ((repeat refine Fresh.push ?_ _); assumption) | (simp only [smA]; done) | (simp [oneCell, AW.next_push]; done) | fail) only [go_sem, Nat.reduceEqDiff, reduceIte, Nat.reduceAdd, Int.toNat_natCast, Nat.add_zero, Owes_true, Try.results64, h]
    exact ⟨by simp [inR, h], rfl⟩
theorem From_ok (n a b : Int) (w : AW) : CallT Try.prog Try.T1 (.fn (.func 46) #[]) #[.int .i64 a, .int .i64 n, .int .i64 b] w (Ret (.bool (inR a n b)) fun w' => w = w') := by
  refine callT_code rfl Try.func46 rfl Try.s46_eq rfl ?_
  unfold Try.s46
  by_cases h : a ≤ n
  all_goals
    simp -dsimp -implicitDefEqProofs (maxSteps := 2000000) (disch := first | assumption | omega | (simp only [nx]; omega) | ((repeat refine Fresh.push ?_ _); assumption) | (simp only [smA]; done) | (simp [oneCell, AW.next_push]; done) | fail) only [go_sem, Nat.reduceEqDiff, reduceIte, Nat.reduceAdd, Int.toNat_natCast, Nat.add_zero, Owes_true, Try.results46, h]
    exact ⟨by simp [inR, h], rfl⟩
theorem isLoss_ok (n : Int) (w : AW) : CallT Try.prog Try.T1 (.fn (.func 113) #[]) #[.int .i64 n] w (Ret (.bool (inR 1 n 10000)) fun w' => w = w') := by
  refine callT_code rfl Try.func113 rfl Try.s113_eq rfl ?_
  unfold Try.s113
  simp -dsimp -implicitDefEqProofs (maxSteps := 2000000) (disch := first | assumption | omega | (simp only [nx]; omega) | ((repeat refine Fresh.push ?_ _); assumption) | (simp only [smA]; done) | (simp [oneCell, AW.next_push]; done) | fail) only [go_sem, Nat.reduceEqDiff, reduceIte, Nat.reduceAdd, Int.toNat_natCast, Nat.add_zero, Owes_true, Try.results113]
  apply callV_of (e := rfl)
  · exact within_ok _ _ _ _
  rintro _ _ ⟨rfl, rfl⟩
  simp -dsimp -implicitDefEqProofs (maxSteps := 2000000) (disch := first | assumption | omega | (simp only [nx]; omega) | ((repeat refine Fresh.push ?_ _); assumption) | (simp only [smA]; done) | (simp [oneCell, AW.next_push]; done) | fail) only [go_sem, Nat.reduceEqDiff, reduceIte, Nat.reduceAdd, Int.toNat_natCast, Nat.add_zero, Owes_true, Try.results113]
  exact ⟨rfl, rfl⟩
theorem isWeight_ok (n : Int) (w : AW) : CallT Try.prog Try.T1 (.fn (.func 114) #[]) #[.int .i64 n] w (Ret (.bool (inR 0 n 64)) fun w' => w = w') := by
  refine callT_code rfl Try.func114 rfl Try.s114_eq rfl ?_
  unfold Try.s114
  simp -dsimp -implicitDefEqProofs (maxSteps := 2000000) (disch := first | assumption | omega | (simp only [nx]; omega) | ((repeat refine Fresh.push ?_ _); assumption) | (simp only [smA]; done) | (simp [oneCell, AW.next_push]; done) | fail) only [go_sem, Nat.reduceEqDiff, reduceIte, Nat.reduceAdd, Int.toNat_natCast, Nat.add_zero, Owes_true, Try.results114]
  apply callV_of (e := rfl)
  · exact within_ok _ _ _ _
  rintro _ _ ⟨rfl, rfl⟩
  simp -dsimp -implicitDefEqProofs (maxSteps := 2000000) (disch := first | assumption | omega | (simp only [nx]; omega) | ((repeat refine Fresh.push ?_ _); assumption) | (simp only [smA]; done) | (simp [oneCell, AW.next_push]; done) | fail) only [go_sem, Nat.reduceEqDiff, reduceIte, Nat.reduceAdd, Int.toNat_natCast, Nat.add_zero, Owes_true, Try.results114]
  exact ⟨rfl, rfl⟩
def Fits (g : FuncId) (cap : Array Value) (p : Int → Bool) (w : AW) : Prop := same 12 (.func (.func g) #[] cap) (.func (.func g) #[] cap) = true ∧ ∀ (n : Int) (w' : AW), Grown w w' → CallT Try.prog Try.T1 (.fn (.func g) cap) #[.int .i64 n] w' (Ret (.bool (p n)) fun w'' => w' = w'')
theorem all1_ok (g : FuncId) (cap : Array Value) (p : Int → Bool) (n : Int) (b : Nat) (w0 w : AW) (hp : Fits g cap p w0) (hg : Grown w0 w) (h : Own w b 79 [.func (.func g) #[] cap]) : CallT Try.prog Try.T1 (.fn (.func 109) #[.pointer (some ⟨b, 0, none⟩)]) #[.int .i64 n] w (Ret (.bool (!p n)) fun w' => w = w') := by
  have c0 := h.cell (o := 0) rfl rfl
  have hs := hp.1
  refine callT_code rfl Try.func109 rfl Try.s109_eq rfl ?_
  unfold Try.s109
  simp -dsimp -implicitDefEqProofs (maxSteps := 2000000) (disch := first | assumption | omega | (simp only [nx]; omega) | ((repeat refine Fresh.push ?_ _); assumption) | (simp only [smA]; done) | (simp [oneCell, AW.next_push]; done) | fail) only [go_sem, Nat.reduceEqDiff, reduceIte, Nat.reduceAdd, Int.toNat_natCast, Nat.add_zero, Owes_true, Try.results109, c0, Nat.zero_add, hs]
  apply callV_of (e := rfl)
  · exact hp.2 n w hg
  rintro _ _ ⟨rfl, rfl⟩
  simp -dsimp -implicitDefEqProofs (maxSteps := 2000000) (disch := first | assumption | omega | (simp only [nx]; omega) | ((repeat refine Fresh.push ?_ _); assumption) | (simp only [smA]; done) | (simp [oneCell, AW.next_push]; done) | fail) only [go_sem, Nat.reduceEqDiff, reduceIte, Nat.reduceAdd, Int.toNat_natCast, Nat.add_zero, Owes_true, Try.results109]
  exact ⟨rfl, rfl⟩
theorem index_ok (g : FuncId) (cap : Array Value) (p : Int → Bool) (l : List Int) (v : Value) (b : Nat) (w0 w : AW) (hp : Fits g cap p w0) (hg : Grown w0 w) (hs : ArrOf w 1 icells v l) (h : Own w b 79 [.func (.func g) #[] cap]) :
    CallT Try.prog Try.T1 (.fn (.func 123) #[]) #[v, .func (.func 109) #[] #[.pointer (some ⟨b, 0, none⟩)]] w (fun r w' => w = w' ∧ ∃ n : Int, r = .int .i64 n ∧ decide (n ≥ 0) = !l.all p) := by
  obtain ⟨pp, cp, rfl, _, _, hat⟩ := hs.open
  have hfn := same_fn 109 b
  refine callT_code rfl Try.func123 rfl Try.s123_eq rfl ?_
  unfold Try.s123
  simp -dsimp -implicitDefEqProofs (maxSteps := 2000000) (disch := first | assumption | omega | (simp only [nx]; omega) | ((repeat refine Fresh.push ?_ _); assumption) | (simp only [smA]; done) | (simp [oneCell, AW.next_push]; done) | fail) only [go_sem, Nat.reduceEqDiff, reduceIte, Nat.reduceAdd, Int.toNat_natCast, Nat.add_zero, Owes_true, Try.results123]
  refine loopR (fun k t ds w1 => ∃ i : Nat, i ≤ l.length ∧ k = l.length - i ∧ ds = [] ∧ ev t (.tmp 0) = .slice pp l.length cp ∧ ev t (.tmp 1) = .func (.func 109) #[] #[.pointer (some ⟨b, 0, none⟩)] ∧ ev t (.tmp 6) = .slice pp l.length cp ∧ ev t (.tmp 7) = .int .i64 (l.length : Int) ∧ ev t (.tmp 8) = .int .i64 (i : Int) ∧ w = w1 ∧ (l.take i).all p = true) (l.length) ?_ ?_
  · refine ⟨0, by omega, by omega, rfl, ?_, ?_, ?_, ?_, ?_, rfl, rfl⟩ <;> simp -dsimp -implicitDefEqProofs (maxSteps := 2000000) (disch := first | assumption | omega | (simp only [nx]; omega) | ((repeat refine Fresh.push ?_ _); assumption) | (simp only [smA]; done) | (simp [oneCell, AW.next_push]; done) | fail) only [go_sem, Nat.reduceEqDiff, reduceIte, Nat.reduceAdd, Int.toNat_natCast, Nat.add_zero, Owes_true] <;> rfl
  rintro k t ds w1 ⟨i, hii, rfl, rfl, e0, e1, e6, e7, e8, hw, ha⟩
  subst hw
  by_cases hlt : (i : Int) < (l.length : Int)
  case neg =>
    obtain rfl : i = l.length := by omega
    rw [List.take_of_length_le (Nat.le_refl _)] at ha
    simp -dsimp -implicitDefEqProofs (maxSteps := 2000000) (disch := first | assumption | omega | (simp only [nx]; omega) | ((repeat refine Fresh.push ?_ _); assumption) | (simp only [smA]; done) | (simp [oneCell, AW.next_push]; done) | fail) only [go_sem, Nat.reduceEqDiff, reduceIte, Nat.reduceAdd, Int.toNat_natCast, Nat.add_zero, Owes_true, Try.results123, e0, e1, e6, e7, e8, hlt]
    exact ⟨trivial, -1, rfl, by rw [ha]; rfl⟩
  have hlt' : i < l.length := by omega
  obtain ⟨b1, o1, rfl, hb1, hcell⟩ := hat i hlt'
  have a0 := hcell w (.refl _ _) 0 _ rfl
  rw [Nat.add_zero] at a0
  simp -dsimp -implicitDefEqProofs (maxSteps := 2000000) (disch := first | assumption | omega | (simp only [nx]; omega) | ((repeat refine Fresh.push ?_ _); assumption) | (simp only [smA]; done) | (simp [oneCell, AW.next_push]; done) | fail) only [go_sem, Nat.reduceEqDiff, reduceIte, Nat.reduceAdd, Int.toNat_natCast, Nat.add_zero, Owes_true, Try.results123, e0, e1, e6, e7, e8, hlt, indexV_eq, a0, hfn]
  apply callV_of (e := rfl)
  · exact all1_ok g cap p _ b w0 w hp hg h
  rintro _ _ ⟨rfl, rfl⟩
  cases hq : p l[i] with
  | true =>
    simp -dsimp -implicitDefEqProofs (maxSteps := 2000000) (disch := first | assumption | omega | (simp only [nx]; omega) | ((repeat refine Fresh.push ?_ _); assumption) | (simp only [smA]; done) | (simp [oneCell, AW.next_push]; done) | fail) only [go_sem, Nat.reduceEqDiff, reduceIte, Nat.reduceAdd, Int.toNat_natCast, Nat.add_zero, Owes_true, Try.results123, hq, e0, e1, e6, e7, e8]
    refine ⟨_, by omega, i + 1, by omega, rfl, rfl, by (simp -dsimp -implicitDefEqProofs (maxSteps := 2000000) (disch := first | assumption | omega | (simp only [nx]; omega) | ((repeat refine Fresh.push ?_ _); assumption) | (simp only [smA]; done) | (simp [oneCell, AW.next_push]; done) | fail) only [go_sem, Nat.reduceEqDiff, reduceIte, Nat.reduceAdd, Int.toNat_natCast, Nat.add_zero, Owes_true, e0]; try rfl), by (simp -dsimp -implicitDefEqProofs (maxSteps := 2000000) (disch := first | assumption | omega | (simp only [nx]; omega) | ((repeat refine Fresh.push ?_ _); assumption) | (simp only [smA]; done) | (simp [oneCell, AW.next_push]; done) | fail) only [go_sem, Nat.reduceEqDiff, reduceIte, Nat.reduceAdd, Int.toNat_natCast, Nat.add_zero, Owes_true, e1]; try rfl), by (simp -dsimp -implicitDefEqProofs (maxSteps := 2000000) (disch := first | assumption | omega | (simp only [nx]; omega) | ((repeat refine Fresh.push ?_ _); assumption) | (simp only [smA]; done) | (simp [oneCell, AW.next_push]; done) | fail) only [go_sem, Nat.reduceEqDiff, reduceIte, Nat.reduceAdd, Int.toNat_natCast, Nat.add_zero, Owes_true, e6]; try rfl), by (simp -dsimp -implicitDefEqProofs (maxSteps := 2000000) (disch := first | assumption | omega | (simp only [nx]; omega) | ((repeat refine Fresh.push ?_ _); assumption) | (simp only [smA]; done) | (simp [oneCell, AW.next_push]; done) | fail) only [go_sem, Nat.reduceEqDiff, reduceIte, Nat.reduceAdd, Int.toNat_natCast, Nat.add_zero, Owes_true, e7]; try rfl), by (simp -dsimp -implicitDefEqProofs (maxSteps := 2000000) (disch := first | assumption | omega | (simp only [nx]; omega) | ((repeat refine Fresh.push ?_ _); assumption) | (simp only [smA]; done) | (simp [oneCell, AW.next_push]; done) | fail) only [go_sem, Nat.reduceEqDiff, reduceIte, Nat.reduceAdd, Int.toNat_natCast, Nat.add_zero, Owes_true, e8]; try rfl), rfl, by rw [List.take_succ_eq_append_getElem hlt', List.all_append, ha]; simp [hq]⟩
  | false =>
    simp -dsimp -implicitDefEqProofs (maxSteps := 2000000) (disch := first | assumption | omega | (simp only [nx]; omega) | ((repeat refine Fresh.push ?_ _); assumption) | (simp only [smA]; done) | (simp [oneCell, AW.next_push]; done) | fail) only [go_sem, Nat.reduceEqDiff, reduceIte, Nat.reduceAdd, Int.toNat_natCast, Nat.add_zero, Owes_true, Try.results123, hq, e0, e1, e6, e7, e8]
    refine ⟨trivial, (i : Int), rfl, ?_⟩
    have h1 : l.all p = false := by
      rw [List.all_eq_false]; exact ⟨l[i], List.getElem_mem hlt', by rw [hq]; simp⟩
    rw [h1]; simp
theorem contains_ok (g : FuncId) (cap : Array Value) (p : Int → Bool) (l : List Int) (v : Value) (b : Nat) (w0 w : AW) (hp : Fits g cap p w0) (hg : Grown w0 w) (hs : ArrOf w 1 icells v l) (h : Own w b 79 [.func (.func g) #[] cap]) :
    CallT Try.prog Try.T1 (.fn (.func 108) #[]) #[v, .func (.func 109) #[] #[.pointer (some ⟨b, 0, none⟩)]] w (Ret (.bool (!l.all p)) fun w' => w = w') := by
  obtain ⟨pp, cp, rfl, _⟩ := id hs.open
  have hfn := same_fn 109 b
  refine callT_code rfl Try.func108 rfl Try.s108_eq rfl ?_
  unfold Try.s108
  simp -dsimp -implicitDefEqProofs (maxSteps := 2000000) (disch := first | assumption | omega | (simp only [nx]; omega) | ((repeat refine Fresh.push ?_ _); assumption) | (simp only [smA]; done) | (simp [oneCell, AW.next_push]; done) | fail) only [go_sem, Nat.reduceEqDiff, reduceIte, Nat.reduceAdd, Int.toNat_natCast, Nat.add_zero, Owes_true, Try.results108, hfn]
  apply callV_of (e := rfl)
  · exact index_ok g cap p l _ b w0 w hp hg hs h
  rintro _ _ ⟨rfl, n, rfl, hn⟩
  simp -dsimp -implicitDefEqProofs (maxSteps := 2000000) (disch := first | assumption | omega | (simp only [nx]; omega) | ((repeat refine Fresh.push ?_ _); assumption) | (simp only [smA]; done) | (simp [oneCell, AW.next_push]; done) | fail) only [go_sem, Nat.reduceEqDiff, reduceIte, Nat.reduceAdd, Int.toNat_natCast, Nat.add_zero, Owes_true, Try.results108, hn]
  exact ⟨rfl, rfl⟩
theorem all_ok (g : FuncId) (cap : Array Value) (p : Int → Bool) (l : List Int) (v : Value) (w : AW) (f : Fresh w) (hp : Fits g cap p w) (hs : ArrOf w 1 icells v l) :
    CallT Try.prog Try.T1 (.fn (.func 65) #[]) #[v, .func (.func g) #[] cap] w (Ret (.bool (l.all p)) (Grown w)) := by
  obtain ⟨pp, cp, rfl, _⟩ := id hs.open
  have hfn := same_fn 109 w.next
  have hs0 := hp.1
  have gg := (Grown.refl f).push (.cells [.func (.func g) #[] cap] 79 w.next 0 0)
  have hO := Own.new f 79 [.func (.func g) #[] cap]
  refine callT_code rfl Try.func65 rfl Try.s65_eq rfl ?_
  unfold Try.s65
  simp -dsimp -implicitDefEqProofs (maxSteps := 2000000) (disch := first | assumption | omega | (simp only [nx]; omega) | ((repeat refine Fresh.push ?_ _); assumption) | (simp only [smA]; done) | (simp [oneCell, AW.next_push]; done) | fail) only [go_sem, Nat.reduceEqDiff, reduceIte, Nat.reduceAdd, Int.toNat_natCast, Nat.add_zero, Owes_true, Try.results65, hfn, hs0]
  apply callV_of (e := rfl)
  · exact contains_ok g cap p l _ w.next w _ hp gg (hs.grown gg) hO
  rintro _ _ ⟨rfl, rfl⟩
  simp -dsimp -implicitDefEqProofs (maxSteps := 2000000) (disch := first | assumption | omega | (simp only [nx]; omega) | ((repeat refine Fresh.push ?_ _); assumption) | (simp only [smA]; done) | (simp [oneCell, AW.next_push]; done) | fail) only [go_sem, Nat.reduceEqDiff, reduceIte, Nat.reduceAdd, Int.toNat_natCast, Nat.add_zero, Owes_true, Try.results65]
  exact ⟨by rw [Bool.not_not], gg⟩
def lossB (L : List Int) : Bool := inR 1 L.length 6 && L.all fun n => inR 1 n 10000
theorem lossB_pos {L : List Int} (h : lossB L = true) : pos L ∧ L ≠ [] ∧ L.length ≤ 6 := by
  unfold lossB at h
  rw [Bool.and_eq_true, List.all_eq_true, inR_iff] at h
  refine ⟨fun l hl => (inR_iff _ _ _).1 (h.2 l hl), fun e => ?_, by omega⟩
  subst e; simp at h
theorem areLosses_ok (L : List Int) (v : Value) (w : AW) (f : Fresh w) (hs : ArrOf w 1 icells v L) :
    CallT Try.prog Try.T1 (.fn (.func 79) #[]) #[v] w (Ret (.bool (lossB L)) (Grown w)) := by
  obtain ⟨pp, cp, rfl, _⟩ := id hs.open
  have hs0 := same_fn0 113
  refine callT_code rfl Try.func79 rfl Try.s79_eq rfl ?_
  unfold Try.s79
  simp -dsimp -implicitDefEqProofs (maxSteps := 2000000) (disch := first | assumption | omega | (simp only [nx]; omega) | ((repeat refine Fresh.push ?_ _); assumption) | (simp only [smA]; done) | (simp [oneCell, AW.next_push]; done) | fail) only [go_sem, Nat.reduceEqDiff, reduceIte, Nat.reduceAdd, Int.toNat_natCast, Nat.add_zero, Owes_true, Try.results79, hs0]
  apply callV_of (e := rfl)
  · exact within_ok _ _ _ _
  rintro _ _ ⟨rfl, rfl⟩
  cases hr : inR 1 (L.length : Int) 6 with
  | false =>
    simp -dsimp -implicitDefEqProofs (maxSteps := 2000000) (disch := first | assumption | omega | (simp only [nx]; omega) | ((repeat refine Fresh.push ?_ _); assumption) | (simp only [smA]; done) | (simp [oneCell, AW.next_push]; done) | fail) only [go_sem, Nat.reduceEqDiff, reduceIte, Nat.reduceAdd, Int.toNat_natCast, Nat.add_zero, Owes_true, Try.results79, hr]
    exact ⟨by simp [lossB, hr], Grown.refl f⟩
  | true =>
    simp -dsimp -implicitDefEqProofs (maxSteps := 2000000) (disch := first | assumption | omega | (simp only [nx]; omega) | ((repeat refine Fresh.push ?_ _); assumption) | (simp only [smA]; done) | (simp [oneCell, AW.next_push]; done) | fail) only [go_sem, Nat.reduceEqDiff, reduceIte, Nat.reduceAdd, Int.toNat_natCast, Nat.add_zero, Owes_true, Try.results79, hr, hs0]
    apply callV_of (e := rfl)
    · exact all_ok 113 #[] _ L _ w f ⟨hs0, fun n w' _ => isLoss_ok n w'⟩ hs
    rintro _ w2 ⟨rfl, g⟩
    simp -dsimp -implicitDefEqProofs (maxSteps := 2000000) (disch := first | assumption | omega | (simp only [nx]; omega) | ((repeat refine Fresh.push ?_ _); assumption) | (simp only [smA]; done) | (simp [oneCell, AW.next_push]; done) | fail) only [go_sem, Nat.reduceEqDiff, reduceIte, Nat.reduceAdd, Int.toNat_natCast, Nat.add_zero, Owes_true, Try.results79]
    exact ⟨by simp [lossB, hr], g⟩
def smallL (L : List Int) : Prop := (∀ x ∈ L, 0 ≤ x ∧ x ≤ 65536) ∧ L.length ≤ 65536
theorem sum_next {L : List Int} {i : Nat} {s : Int} (hlt : i < L.length) (h : smallL L → s = (L.take i).sum ∧ 0 ≤ s ∧ s ≤ (i : Int) * 65536) : smallL L → IntKind.i64.wrap (s + L[i]) = (L.take (i + 1)).sum ∧ 0 ≤ IntKind.i64.wrap (s + L[i]) ∧ IntKind.i64.wrap (s + L[i]) ≤ ((i + 1 : Nat) : Int) * 65536 := by
  intro hs
  obtain ⟨a, b, c⟩ := h hs
  have := hs.1 _ (List.getElem_mem hlt)
  have := hs.2
  rw [wrap64 (by omega) (by omega), List.take_succ_eq_append_getElem hlt, List.sum_append, ← a]
  simp only [List.sum_cons, List.sum_nil]
  omega
theorem sum_ok (L : List Int) (v : Value) (w : AW) (hs : ArrOf w 1 icells v L) :
    CallT Try.prog Try.T1 (.fn (.func 68) #[]) #[v] w (fun r w' => w = w' ∧ ∃ n : Int, r = .int .i64 n ∧ (smallL L → n = L.sum)) := by
  obtain ⟨pp, cp, rfl, _, _, hat⟩ := hs.open
  refine callT_code rfl Try.func68 rfl Try.s68_eq rfl ?_
  unfold Try.s68
  simp -dsimp -implicitDefEqProofs (maxSteps := 2000000) (disch := first | assumption | omega | (simp only [nx]; omega) | ((repeat refine Fresh.push ?_ _); assumption) | (simp only [smA]; done) | (simp [oneCell, AW.next_push]; done) | fail) only [go_sem, Nat.reduceEqDiff, reduceIte, Nat.reduceAdd, Int.toNat_natCast, Nat.add_zero, Owes_true, Try.results68]
  refine loopR (fun k t ds w1 => ∃ i : Nat, i ≤ L.length ∧ k = L.length - i ∧ ds = [] ∧ ev t (.tmp 6) = .slice pp L.length cp ∧ ev t (.tmp 7) = .int .i64 (L.length : Int) ∧ ev t (.tmp 8) = .int .i64 (i : Int) ∧ w = w1 ∧ ∃ s : Int, ev t (.tmp 3) = .int .i64 s ∧ (smallL L → s = (L.take i).sum ∧ 0 ≤ s ∧ s ≤ (i : Int) * 65536)) (L.length) ?_ ?_
  · refine ⟨0, by omega, by omega, rfl, ?_, ?_, ?_, rfl, 0, by simp -dsimp -implicitDefEqProofs (maxSteps := 2000000) (disch := first | assumption | omega | (simp only [nx]; omega) | ((repeat refine Fresh.push ?_ _); assumption) | (simp only [smA]; done) | (simp [oneCell, AW.next_push]; done) | fail) only [go_sem, Nat.reduceEqDiff, reduceIte, Nat.reduceAdd, Int.toNat_natCast, Nat.add_zero, Owes_true], fun _ => by simp⟩ <;> simp -dsimp -implicitDefEqProofs (maxSteps := 2000000) (disch := first | assumption | omega | (simp only [nx]; omega) | ((repeat refine Fresh.push ?_ _); assumption) | (simp only [smA]; done) | (simp [oneCell, AW.next_push]; done) | fail) only [go_sem, Nat.reduceEqDiff, reduceIte, Nat.reduceAdd, Int.toNat_natCast, Nat.add_zero, Owes_true] <;> rfl
  rintro k t ds w1 ⟨i, hii, rfl, rfl, e6, e7, e8, hw, s, e3, hsm⟩
  subst hw
  by_cases hlt : (i : Int) < (L.length : Int)
  case neg =>
    obtain rfl : i = L.length := by omega
    simp -dsimp -implicitDefEqProofs (maxSteps := 2000000) (disch := first | assumption | omega | (simp only [nx]; omega) | ((repeat refine Fresh.push ?_ _); assumption) | (simp only [smA]; done) | (simp [oneCell, AW.next_push]; done) | fail) only [go_sem, Nat.reduceEqDiff, reduceIte, Nat.reduceAdd, Int.toNat_natCast, Nat.add_zero, Owes_true, Try.results68, e3, e6, e7, e8, hlt]
    exact ⟨trivial, s, rfl, fun h1 => by rw [(hsm h1).1, List.take_of_length_le (Nat.le_refl _)]⟩
  have hlt' : i < L.length := by omega
  obtain ⟨b1, o1, rfl, hb1, hcell⟩ := hat i hlt'
  have a0 := hcell w (.refl _ _) 0 _ rfl
  rw [Nat.add_zero] at a0
  simp -dsimp -implicitDefEqProofs (maxSteps := 2000000) (disch := first | assumption | omega | (simp only [nx]; omega) | ((repeat refine Fresh.push ?_ _); assumption) | (simp only [smA]; done) | (simp [oneCell, AW.next_push]; done) | fail) only [go_sem, Nat.reduceEqDiff, reduceIte, Nat.reduceAdd, Int.toNat_natCast, Nat.add_zero, Owes_true, Try.results68, e3, e6, e7, e8, hlt, indexV_eq, a0]
  refine ⟨_, by omega, i + 1, by omega, rfl, rfl, by (simp -dsimp -implicitDefEqProofs (maxSteps := 2000000) (disch := first | assumption | omega | (simp only [nx]; omega) | ((repeat refine Fresh.push ?_ _); assumption) | (simp only [smA]; done) | (simp [oneCell, AW.next_push]; done) | fail) only [go_sem, Nat.reduceEqDiff, reduceIte, Nat.reduceAdd, Int.toNat_natCast, Nat.add_zero, Owes_true, e6]; try rfl), by (simp -dsimp -implicitDefEqProofs (maxSteps := 2000000) (disch := first | assumption | omega | (simp only [nx]; omega) | ((repeat refine Fresh.push ?_ _); assumption) | (simp only [smA]; done) | (simp [oneCell, AW.next_push]; done) | fail) only [go_sem, Nat.reduceEqDiff, reduceIte, Nat.reduceAdd, Int.toNat_natCast, Nat.add_zero, Owes_true, e7]; try rfl), by (simp -dsimp -implicitDefEqProofs (maxSteps := 2000000) (disch := first | assumption | omega | (simp only [nx]; omega) | ((repeat refine Fresh.push ?_ _); assumption) | (simp only [smA]; done) | (simp [oneCell, AW.next_push]; done) | fail) only [go_sem, Nat.reduceEqDiff, reduceIte, Nat.reduceAdd, Int.toNat_natCast, Nat.add_zero, Owes_true, e8]; try rfl), rfl, _, (by simp -dsimp -implicitDefEqProofs (maxSteps := 2000000) (disch := first | assumption | omega | (simp only [nx]; omega) | ((repeat refine Fresh.push ?_ _); assumption) | (simp only [smA]; done) | (simp [oneCell, AW.next_push]; done) | fail) only [go_sem, Nat.reduceEqDiff, reduceIte, Nat.reduceAdd, Int.toNat_natCast, Nat.add_zero, Owes_true, e3]), sum_next hlt' hsm⟩
end Go.Proofs

namespace Go.Proofs
open Go Go.RowKit Go.Sim
set_option maxRecDepth 100000
def weightB (W : List Int) (n : Int) : Bool := decide ((W.length : Int) = n) && W.all (fun x => inR 0 x 64) && decide (W.sum = 64)
theorem all_small {W : List Int} (h : W.all (fun x => inR 0 x 64) = true) (hl : W.length ≤ 65536) : smallL W := by
  rw [List.all_eq_true] at h
  exact ⟨fun x hx => by have := (inR_iff _ _ _).1 (h x hx); omega, hl⟩
theorem areWeights_ok (W : List Int) (n : Int) (hn : n ≤ 65536) (v : Value) (w : AW) (f : Fresh w) (hs : ArrOf w 1 icells v W) :
    CallT Try.prog Try.T1 (.fn (.func 80) #[]) #[v, .int .i64 n] w (Ret (.bool (weightB W n)) (Grown w)) := by
  obtain ⟨pp, cp, rfl, _⟩ := id hs.open
  have hs0 := same_fn0 114
  refine callT_code rfl Try.func80 rfl Try.s80_eq rfl ?_
  unfold Try.s80
  by_cases hl : (W.length : Int) = n
  case neg =>
    have hl' : decide ((W.length : Int) = n) = false := decide_eq_false hl
    simp -dsimp -implicitDefEqProofs (maxSteps := 2000000) (disch := first | assumption | omega | (simp only [nx]; omega) | ((repeat refine Fresh.push ?_ _); assumption) | (simp only [smA]; done) | (simp [oneCell, AW.next_push]; done) | fail) only [go_sem, Nat.reduceEqDiff, reduceIte, Nat.reduceAdd, Int.toNat_natCast, Nat.add_zero, Owes_true, Try.results80, hs0, hl']
    exact ⟨by simp [weightB, hl], Grown.refl f⟩
  have hl' : decide ((W.length : Int) = n) = true := decide_eq_true hl
  simp -dsimp -implicitDefEqProofs (maxSteps := 2000000) (disch := first | assumption | omega | (simp only [nx]; omega) | ((repeat refine Fresh.push ?_ _); assumption) | (simp only [smA]; done) | (simp [oneCell, AW.next_push]; done) | fail) only [go_sem, Nat.reduceEqDiff, reduceIte, Nat.reduceAdd, Int.toNat_natCast, Nat.add_zero, Owes_true, Try.results80, hs0, hl']
  apply callV_of (e := rfl)
  · exact all_ok 114 #[] _ W _ w f ⟨hs0, fun n w' _ => isWeight_ok n w'⟩ hs
  rintro _ w2 ⟨rfl, g⟩
  cases ha : W.all (fun x => inR 0 x 64) with
  | false =>
    simp -dsimp -implicitDefEqProofs (maxSteps := 2000000) (disch := first | assumption | omega | (simp only [nx]; omega) | ((repeat refine Fresh.push ?_ _); assumption) | (simp only [smA]; done) | (simp [oneCell, AW.next_push]; done) | fail) only [go_sem, Nat.reduceEqDiff, reduceIte, Nat.reduceAdd, Int.toNat_natCast, Nat.add_zero, Owes_true, Try.results80, ha]
    exact ⟨by unfold weightB; rw [ha, hl']; rfl, g⟩
  | true =>
    simp -dsimp -implicitDefEqProofs (maxSteps := 2000000) (disch := first | assumption | omega | (simp only [nx]; omega) | ((repeat refine Fresh.push ?_ _); assumption) | (simp only [smA]; done) | (simp [oneCell, AW.next_push]; done) | fail) only [go_sem, Nat.reduceEqDiff, reduceIte, Nat.reduceAdd, Int.toNat_natCast, Nat.add_zero, Owes_true, Try.results80, ha]
    apply callV_of (e := rfl)
    · exact sum_ok W _ w2 (hs.grown g)
    rintro _ _ ⟨rfl, s, rfl, hsum⟩
    obtain rfl := hsum (all_small ha (by omega))
    simp -dsimp -implicitDefEqProofs (maxSteps := 2000000) (disch := first | assumption | omega | (simp only [nx]; omega) | ((repeat refine Fresh.push ?_ _); assumption) | (simp only [smA]; done) | (simp [oneCell, AW.next_push]; done) | fail) only [go_sem, Nat.reduceEqDiff, reduceIte, Nat.reduceAdd, Int.toNat_natCast, Nat.add_zero, Owes_true, Try.results80]
    exact ⟨by unfold weightB; rw [ha, hl']; simp, g⟩
def riskN (L W : List Int) (i : Nat) : Int := riskTo (L.take i) (W.take i)
theorem riskN_succ {L W : List Int} {i : Nat} (h : i < L.length) (h' : i < W.length) : riskN L W (i + 1) = max (riskN L W i) (L[i] * (64 - W[i])) := by
  unfold riskN
  induction L generalizing W i with
  | nil => simp at h
  | cons l L ih =>
    cases W with
    | nil => simp at h'
    | cons v W =>
      cases i with
      | zero => simp [riskTo, Int.max_comm]
      | succ i =>
        rw [List.take_succ_cons, List.take_succ_cons, List.take_succ_cons (i := i), List.take_succ_cons (i := i)]
        simp only [riskTo, List.getElem_cons_succ]
        rw [ih (by simpa using h) (by simpa using h')]
        omega
def riskE (L W : List Int) : Int := if lossB L && weightB W L.length then 0 else 103
def riskV (L W : List Int) : Int := if lossB L && weightB W L.length then riskTo L W else 0
theorem weightB_iff {W : List Int} {n : Int} : weightB W n = true ↔ (W.length : Int) = n ∧ (∀ x ∈ W, 0 ≤ x ∧ x ≤ 64) ∧ W.sum = 64 := by
  unfold weightB
  simp only [Bool.and_eq_true, decide_eq_true_eq, List.all_eq_true, inR_iff]
  constructor
  · rintro ⟨⟨a, b⟩, c⟩; exact ⟨a, b, c⟩
  · rintro ⟨a, b, c⟩; exact ⟨⟨a, b⟩, c⟩
theorem prod_in {l w : Int} (h1 : 1 ≤ l ∧ l ≤ 10000) (h2 : 0 ≤ w ∧ w ≤ 64) : 0 ≤ l * (64 - w) ∧ l * (64 - w) ≤ 640000 := by
  have a := Int.mul_le_mul_of_nonneg_left (a := 64 - w) (b := 64) (c := l) (by omega) (by omega)
  have b := Int.mul_nonneg (a := l) (b := 64 - w) (by omega) (by omega)
  omega
theorem riskN_all {L W : List Int} (hl : L.length = W.length) : riskN L W L.length = riskTo L W := by
  unfold riskN
  rw [List.take_of_length_le (Nat.le_refl _), List.take_of_length_le (by omega)]
set_option maxHeartbeats 4000000 in
theorem Risk_ok (L W : List Int) (v u : Value) (w : AW) (f : Fresh w) (hv : ArrOf w 1 icells v L) (hu : ArrOf w 1 icells u W) :
    CallT Try.prog Try.T1 (.fn (.func 28) #[]) #[v, u] w (Ret (.tuple #[.int .i64 (riskV L W), .int .i64 (riskE L W)]) (Grown w)) := by
  obtain ⟨pv, cv, rfl, _, _, hat⟩ := id hv.open
  obtain ⟨pu, cu, rfl, _, _, hau⟩ := id hu.open
  refine callT_code rfl Try.func28 rfl Try.s28_eq rfl ?_
  unfold Try.s28
  simp -dsimp -implicitDefEqProofs (maxSteps := 2000000) (disch := first | assumption | omega | (simp only [nx]; omega) | ((repeat refine Fresh.push ?_ _); assumption) | (simp only [smA]; done) | (simp [oneCell, AW.next_push]; done) | fail) only [go_sem, Nat.reduceEqDiff, reduceIte, Nat.reduceAdd, Int.toNat_natCast, Nat.add_zero, Owes_true, Try.results28]
  apply callV_of (e := rfl)
  · exact areLosses_ok L _ w f hv
  rintro _ w2 ⟨rfl, g2⟩
  cases hL : lossB L with
  | false =>
    simp -dsimp -implicitDefEqProofs (maxSteps := 2000000) (disch := first | assumption | omega | (simp only [nx]; omega) | ((repeat refine Fresh.push ?_ _); assumption) | (simp only [smA]; done) | (simp [oneCell, AW.next_push]; done) | fail) only [go_sem, Nat.reduceEqDiff, reduceIte, Nat.reduceAdd, Int.toNat_natCast, Nat.add_zero, Owes_true, Try.results28, hL]
    exact ⟨by simp [riskV, riskE, hL], g2⟩
  | true =>
  obtain ⟨hp, hne, hl6⟩ := lossB_pos hL
  simp -dsimp -implicitDefEqProofs (maxSteps := 2000000) (disch := first | assumption | omega | (simp only [nx]; omega) | ((repeat refine Fresh.push ?_ _); assumption) | (simp only [smA]; done) | (simp [oneCell, AW.next_push]; done) | fail) only [go_sem, Nat.reduceEqDiff, reduceIte, Nat.reduceAdd, Int.toNat_natCast, Nat.add_zero, Owes_true, Try.results28, hL]
  apply callV_of (e := rfl)
  · exact areWeights_ok W L.length (by omega) _ w2 g2.2 (hu.grown g2)
  rintro _ w3 ⟨rfl, g3⟩
  have g := g2.trans g3
  cases hW : weightB W L.length with
  | false =>
    simp -dsimp -implicitDefEqProofs (maxSteps := 2000000) (disch := first | assumption | omega | (simp only [nx]; omega) | ((repeat refine Fresh.push ?_ _); assumption) | (simp only [smA]; done) | (simp [oneCell, AW.next_push]; done) | fail) only [go_sem, Nat.reduceEqDiff, reduceIte, Nat.reduceAdd, Int.toNat_natCast, Nat.add_zero, Owes_true, Try.results28, hW]
    exact ⟨by simp [riskV, riskE, hL, hW], g⟩
  | true =>
  obtain ⟨h1, h2, h3⟩ := weightB_iff.1 hW
  have hlen : L.length = W.length := by omega
  simp -dsimp -implicitDefEqProofs (maxSteps := 2000000) (disch := first | assumption | omega | (simp only [nx]; omega) | ((repeat refine Fresh.push ?_ _); assumption) | (simp only [smA]; done) | (simp [oneCell, AW.next_push]; done) | fail) only [go_sem, Nat.reduceEqDiff, reduceIte, Nat.reduceAdd, Int.toNat_natCast, Nat.add_zero, Owes_true, Try.results28, hW]
  refine loopR (fun k t ds w1 => ∃ i : Nat, i ≤ L.length ∧ k = L.length - i ∧ ds = [] ∧ ev t (.tmp 1) = .slice pu W.length cu ∧ ev t (.tmp 6) = .int .i64 (riskN L W i) ∧ ev t (.tmp 19) = .slice pv L.length cv ∧ ev t (.tmp 20) = .int .i64 (L.length : Int) ∧ ev t (.tmp 21) = .int .i64 (i : Int) ∧ w3 = w1) (L.length) ?_ ?_
  · refine ⟨0, by omega, by omega, rfl, ?_, ?_, ?_, ?_, ?_, rfl⟩ <;> simp -dsimp -implicitDefEqProofs (maxSteps := 2000000) (disch := first | assumption | omega | (simp only [nx]; omega) | ((repeat refine Fresh.push ?_ _); assumption) | (simp only [smA]; done) | (simp [oneCell, AW.next_push]; done) | fail) only [go_sem, Nat.reduceEqDiff, reduceIte, Nat.reduceAdd, Int.toNat_natCast, Nat.add_zero, Owes_true] <;> rfl
  rintro k t ds w1 ⟨i, hii, rfl, rfl, e1, e6, e19, e20, e21, hw⟩
  subst hw
  by_cases hlt : (i : Int) < (L.length : Int)
  case neg =>
    obtain rfl : i = L.length := by omega
    rw [riskN_all hlen] at e6
    simp -dsimp -implicitDefEqProofs (maxSteps := 2000000) (disch := first | assumption | omega | (simp only [nx]; omega) | ((repeat refine Fresh.push ?_ _); assumption) | (simp only [smA]; done) | (simp [oneCell, AW.next_push]; done) | fail) only [go_sem, Nat.reduceEqDiff, reduceIte, Nat.reduceAdd, Int.toNat_natCast, Nat.add_zero, Owes_true, Try.results28, e6, e19, e20, e21, hlt]
    exact ⟨by simp [riskV, riskE, hL, hW], g⟩
  have hlt' : i < L.length := by omega
  have hltw : i < W.length := by omega
  have hltw' : (i : Int) < (W.length : Int) := by omega
  obtain ⟨b1, o1, rfl, hb1, hc1⟩ := hat i hlt'
  obtain ⟨b2, o2, rfl, hb2, hc2⟩ := hau i hltw
  have a0 := hc1 w3 g.1 0 _ rfl
  have a1 := hc2 w3 g.1 0 _ rfl
  rw [Nat.add_zero] at a0 a1
  have q1 := prod_in (hp _ (List.getElem_mem hlt')) (h2 _ (List.getElem_mem hltw))
  have q2 := h2 _ (List.getElem_mem hltw)
  have q3 := riskN_succ hlt' hltw
  simp -dsimp -implicitDefEqProofs (maxSteps := 2000000) (disch := first | assumption | omega | (simp only [nx]; omega) | ((repeat refine Fresh.push ?_ _); assumption) | (simp only [smA]; done) | (simp [oneCell, AW.next_push]; done) | fail) only [go_sem, Nat.reduceEqDiff, reduceIte, Nat.reduceAdd, Int.toNat_natCast, Nat.add_zero, Owes_true, Try.results28, e1, e6, e19, e20, e21, hlt, hltw', indexV_eq, a0, a1]
  refine ⟨_, by omega, i + 1, by omega, rfl, rfl, by (simp -dsimp -implicitDefEqProofs (maxSteps := 2000000) (disch := first | assumption | omega | (simp only [nx]; omega) | ((repeat refine Fresh.push ?_ _); assumption) | (simp only [smA]; done) | (simp [oneCell, AW.next_push]; done) | fail) only [go_sem, Nat.reduceEqDiff, reduceIte, Nat.reduceAdd, Int.toNat_natCast, Nat.add_zero, Owes_true, e1, q3]; try rfl), by (simp -dsimp -implicitDefEqProofs (maxSteps := 2000000) (disch := first | assumption | omega | (simp only [nx]; omega) | ((repeat refine Fresh.push ?_ _); assumption) | (simp only [smA]; done) | (simp [oneCell, AW.next_push]; done) | fail) only [go_sem, Nat.reduceEqDiff, reduceIte, Nat.reduceAdd, Int.toNat_natCast, Nat.add_zero, Owes_true, e6, q3]; try rfl), by (simp -dsimp -implicitDefEqProofs (maxSteps := 2000000) (disch := first | assumption | omega | (simp only [nx]; omega) | ((repeat refine Fresh.push ?_ _); assumption) | (simp only [smA]; done) | (simp [oneCell, AW.next_push]; done) | fail) only [go_sem, Nat.reduceEqDiff, reduceIte, Nat.reduceAdd, Int.toNat_natCast, Nat.add_zero, Owes_true, e19, q3]; try rfl), by (simp -dsimp -implicitDefEqProofs (maxSteps := 2000000) (disch := first | assumption | omega | (simp only [nx]; omega) | ((repeat refine Fresh.push ?_ _); assumption) | (simp only [smA]; done) | (simp [oneCell, AW.next_push]; done) | fail) only [go_sem, Nat.reduceEqDiff, reduceIte, Nat.reduceAdd, Int.toNat_natCast, Nat.add_zero, Owes_true, e20, q3]; try rfl), by (simp -dsimp -implicitDefEqProofs (maxSteps := 2000000) (disch := first | assumption | omega | (simp only [nx]; omega) | ((repeat refine Fresh.push ?_ _); assumption) | (simp only [smA]; done) | (simp [oneCell, AW.next_push]; done) | fail) only [go_sem, Nat.reduceEqDiff, reduceIte, Nat.reduceAdd, Int.toNat_natCast, Nat.add_zero, Owes_true, e21, q3]; try rfl), rfl⟩
end Go.Proofs

namespace Go.Proofs
open Go Go.RowKit Go.Sim
set_option maxRecDepth 100000
theorem foldmin_succ {L : List Int} {a : Int} {i : Nat} (h : i < L.length) : (L.take (i + 1)).foldl min a = min ((L.take i).foldl min a) L[i] := by
  rw [List.take_succ_eq_append_getElem h, List.foldl_append]; rfl
theorem least_ok (a : Int) (L : List Int) (v : Value) (w : AW) (hs : ArrOf w 1 icells v L) :
    CallT Try.prog Try.T1 (.fn (.func 115) #[]) #[.int .i64 a, v] w (Ret (.int .i64 (L.foldl min a)) fun w' => w = w') := by
  obtain ⟨pp, cp, rfl, _, _, hat⟩ := id hs.open
  refine callT_code rfl Try.func115 rfl Try.s115_eq rfl ?_
  unfold Try.s115
  simp -dsimp -implicitDefEqProofs (maxSteps := 2000000) (disch := first | assumption | omega | (simp only [nx]; omega) | ((repeat refine Fresh.push ?_ _); assumption) | (simp only [smA]; done) | (simp [oneCell, AW.next_push]; done) | fail) only [go_sem, Nat.reduceEqDiff, reduceIte, Nat.reduceAdd, Int.toNat_natCast, Nat.add_zero, Owes_true, Try.results115]
  refine loopR (fun k t ds w1 => ∃ i : Nat, i ≤ L.length ∧ k = L.length - i ∧ ds = [] ∧ ev t (.tmp 0) = .int .i64 ((L.take i).foldl min a) ∧ ev t (.tmp 7) = .slice pp L.length cp ∧ ev t (.tmp 8) = .int .i64 (L.length : Int) ∧ ev t (.tmp 9) = .int .i64 (i : Int) ∧ w = w1) (L.length) ?_ ?_
  · refine ⟨0, by omega, by omega, rfl, ?_, ?_, ?_, ?_, rfl⟩ <;> simp -dsimp -implicitDefEqProofs (maxSteps := 2000000) (disch := first | assumption | omega | (simp only [nx]; omega) | ((repeat refine Fresh.push ?_ _); assumption) | (simp only [smA]; done) | (simp [oneCell, AW.next_push]; done) | fail) only [go_sem, Nat.reduceEqDiff, reduceIte, Nat.reduceAdd, Int.toNat_natCast, Nat.add_zero, Owes_true] <;> rfl
  rintro k t ds w1 ⟨i, hii, rfl, rfl, e0, e7, e8, e9, hw⟩
  subst hw
  by_cases hlt : (i : Int) < (L.length : Int)
  case neg =>
    obtain rfl : i = L.length := by omega
    rw [List.take_of_length_le (Nat.le_refl _)] at e0
    simp -dsimp -implicitDefEqProofs (maxSteps := 2000000) (disch := first | assumption | omega | (simp only [nx]; omega) | ((repeat refine Fresh.push ?_ _); assumption) | (simp only [smA]; done) | (simp [oneCell, AW.next_push]; done) | fail) only [go_sem, Nat.reduceEqDiff, reduceIte, Nat.reduceAdd, Int.toNat_natCast, Nat.add_zero, Owes_true, Try.results115, e0, e7, e8, e9, hlt]
    exact ⟨rfl, rfl⟩
  have hlt' : i < L.length := by omega
  obtain ⟨b1, o1, rfl, hb1, hc1⟩ := hat i hlt'
  have a0 := hc1 w (.refl _ _) 0 _ rfl
  rw [Nat.add_zero] at a0
  have hm := foldmin_succ (a := a) hlt'
  generalize (L.take i).foldl min a = m at *
  by_cases hx : L[i] < m
  · have hmm : min m L[i] = L[i] := by omega
    rw [hmm] at hm
    simp -dsimp -implicitDefEqProofs (maxSteps := 2000000) (disch := first | assumption | omega | (simp only [nx]; omega) | ((repeat refine Fresh.push ?_ _); assumption) | (simp only [smA]; done) | (simp [oneCell, AW.next_push]; done) | fail) only [go_sem, Nat.reduceEqDiff, reduceIte, Nat.reduceAdd, Int.toNat_natCast, Nat.add_zero, Owes_true, Try.results115, e0, e7, e8, e9, hlt, indexV_eq, a0, hx]
    refine ⟨_, by omega, i + 1, by omega, rfl, rfl, by (simp -dsimp -implicitDefEqProofs (maxSteps := 2000000) (disch := first | assumption | omega | (simp only [nx]; omega) | ((repeat refine Fresh.push ?_ _); assumption) | (simp only [smA]; done) | (simp [oneCell, AW.next_push]; done) | fail) only [go_sem, Nat.reduceEqDiff, reduceIte, Nat.reduceAdd, Int.toNat_natCast, Nat.add_zero, Owes_true, e0, hm]; try rfl), by (simp -dsimp -implicitDefEqProofs (maxSteps := 2000000) (disch := first | assumption | omega | (simp only [nx]; omega) | ((repeat refine Fresh.push ?_ _); assumption) | (simp only [smA]; done) | (simp [oneCell, AW.next_push]; done) | fail) only [go_sem, Nat.reduceEqDiff, reduceIte, Nat.reduceAdd, Int.toNat_natCast, Nat.add_zero, Owes_true, e7, hm]; try rfl), by (simp -dsimp -implicitDefEqProofs (maxSteps := 2000000) (disch := first | assumption | omega | (simp only [nx]; omega) | ((repeat refine Fresh.push ?_ _); assumption) | (simp only [smA]; done) | (simp [oneCell, AW.next_push]; done) | fail) only [go_sem, Nat.reduceEqDiff, reduceIte, Nat.reduceAdd, Int.toNat_natCast, Nat.add_zero, Owes_true, e8, hm]; try rfl), by (simp -dsimp -implicitDefEqProofs (maxSteps := 2000000) (disch := first | assumption | omega | (simp only [nx]; omega) | ((repeat refine Fresh.push ?_ _); assumption) | (simp only [smA]; done) | (simp [oneCell, AW.next_push]; done) | fail) only [go_sem, Nat.reduceEqDiff, reduceIte, Nat.reduceAdd, Int.toNat_natCast, Nat.add_zero, Owes_true, e9, hm]; try rfl), rfl⟩
  · have hmm : min m L[i] = m := by omega
    rw [hmm] at hm
    simp -dsimp -implicitDefEqProofs (maxSteps := 2000000) (disch := first | assumption | omega | (simp only [nx]; omega) | ((repeat refine Fresh.push ?_ _); assumption) | (simp only [smA]; done) | (simp [oneCell, AW.next_push]; done) | fail) only [go_sem, Nat.reduceEqDiff, reduceIte, Nat.reduceAdd, Int.toNat_natCast, Nat.add_zero, Owes_true, Try.results115, e0, e7, e8, e9, hlt, indexV_eq, a0, hx]
    refine ⟨_, by omega, i + 1, by omega, rfl, rfl, by (simp -dsimp -implicitDefEqProofs (maxSteps := 2000000) (disch := first | assumption | omega | (simp only [nx]; omega) | ((repeat refine Fresh.push ?_ _); assumption) | (simp only [smA]; done) | (simp [oneCell, AW.next_push]; done) | fail) only [go_sem, Nat.reduceEqDiff, reduceIte, Nat.reduceAdd, Int.toNat_natCast, Nat.add_zero, Owes_true, e0, hm]; try rfl), by (simp -dsimp -implicitDefEqProofs (maxSteps := 2000000) (disch := first | assumption | omega | (simp only [nx]; omega) | ((repeat refine Fresh.push ?_ _); assumption) | (simp only [smA]; done) | (simp [oneCell, AW.next_push]; done) | fail) only [go_sem, Nat.reduceEqDiff, reduceIte, Nat.reduceAdd, Int.toNat_natCast, Nat.add_zero, Owes_true, e7, hm]; try rfl), by (simp -dsimp -implicitDefEqProofs (maxSteps := 2000000) (disch := first | assumption | omega | (simp only [nx]; omega) | ((repeat refine Fresh.push ?_ _); assumption) | (simp only [smA]; done) | (simp [oneCell, AW.next_push]; done) | fail) only [go_sem, Nat.reduceEqDiff, reduceIte, Nat.reduceAdd, Int.toNat_natCast, Nat.add_zero, Owes_true, e8, hm]; try rfl), by (simp -dsimp -implicitDefEqProofs (maxSteps := 2000000) (disch := first | assumption | omega | (simp only [nx]; omega) | ((repeat refine Fresh.push ?_ _); assumption) | (simp only [smA]; done) | (simp [oneCell, AW.next_push]; done) | fail) only [go_sem, Nat.reduceEqDiff, reduceIte, Nat.reduceAdd, Int.toNat_natCast, Nat.add_zero, Owes_true, e9, hm]; try rfl), rfl⟩
theorem arr1 {w : AW} {b : Nat} {e : TypeId} {x : Int} (h : Own w b e [.int .i64 x]) : ArrOf w 1 icells (.slice (some ⟨b, 0, none⟩) 1 1) [x] := by
  refine ⟨_, _, _, rfl, by simp, Nat.le_refl _, by omega, fun _ => ⟨b, 0, rfl, h.lt, fun i j r y hi hx => ?_⟩⟩
  match i, hi with
  | 0, hi =>
    simp only [List.map_cons, List.map_nil, List.getElem?_cons_zero, Option.some.injEq] at hi
    subst hi
    match j, hx with
    | 0, hx =>
      simp only [icells, List.getElem?_cons_zero, Option.some.injEq] at hx
      subst hx
      exact h.cell (o := 0) rfl rfl
theorem quo_in {r l : Int} (hr : 0 ≤ r) (hl : 1 ≤ l) : r.tdiv l = r / l := Int.tdiv_eq_ediv_of_nonneg hr
set_option maxHeartbeats 4000000 in
theorem weightsFor_ok (L : List Int) (hL : pos L) (hl : L.length ≤ 6) (r : Int) (hr : 0 ≤ r) (hr1 : r ≤ 9223372036854775807) (v : Value) (w : AW) (f : Fresh w) (hv : ArrOf w 1 icells v L) :
    CallT Try.prog Try.T1 (.fn (.func 82) #[]) #[v, .int .i64 r] w (fun u w' => RowA w.next w' u (L.map (wgt r)) ∧ Grown w w') := by
  obtain ⟨pp, cp, rfl, _, _, hat⟩ := id hv.open
  refine callT_code rfl Try.func82 rfl Try.s82_eq rfl ?_
  unfold Try.s82
  simp -dsimp -implicitDefEqProofs (maxSteps := 2000000) (disch := first | assumption | omega | (simp only [nx]; omega) | ((repeat refine Fresh.push ?_ _); assumption) | (simp only [smA]; done) | (simp [oneCell, AW.next_push]; done) | fail) only [go_sem, Nat.reduceEqDiff, reduceIte, Nat.reduceAdd, Int.toNat_natCast, Nat.add_zero, Owes_true, Try.results82]
  refine loopR (fun k t ds w1 => ∃ i : Nat, i ≤ L.length ∧ k = L.length - i ∧ ds = [] ∧ ev t (.tmp 1) = .int .i64 r ∧ ev t (.tmp 9) = .slice pp L.length cp ∧ ev t (.tmp 10) = .int .i64 (L.length : Int) ∧ ev t (.tmp 11) = .int .i64 (i : Int) ∧ ∃ u : Value, ev t (.tmp 5) = u ∧ RowA w.next w1 u ((L.take i).map (wgt r)) ∧ Grown w w1) (L.length) ?_ ?_
  · refine ⟨0, by omega, by omega, rfl, ?_, ?_, ?_, ?_, _, (by simp -dsimp -implicitDefEqProofs (maxSteps := 2000000) (disch := first | assumption | omega | (simp only [nx]; omega) | ((repeat refine Fresh.push ?_ _); assumption) | (simp only [smA]; done) | (simp [oneCell, AW.next_push]; done) | fail) only [go_sem, Nat.reduceEqDiff, reduceIte, Nat.reduceAdd, Int.toNat_natCast, Nat.add_zero, Owes_true]), RowA.nil _ _, Grown.refl f⟩ <;> simp -dsimp -implicitDefEqProofs (maxSteps := 2000000) (disch := first | assumption | omega | (simp only [nx]; omega) | ((repeat refine Fresh.push ?_ _); assumption) | (simp only [smA]; done) | (simp [oneCell, AW.next_push]; done) | fail) only [go_sem, Nat.reduceEqDiff, reduceIte, Nat.reduceAdd, Int.toNat_natCast, Nat.add_zero, Owes_true] <;> rfl
  rintro k t ds w1 ⟨i, hii, rfl, rfl, e1, e9, e10, e11, u, e5, hA, g⟩
  by_cases hlt : (i : Int) < (L.length : Int)
  case neg =>
    obtain rfl : i = L.length := by omega
    rw [List.take_of_length_le (Nat.le_refl _)] at hA
    simp -dsimp -implicitDefEqProofs (maxSteps := 2000000) (disch := first | assumption | omega | (simp only [nx]; omega) | ((repeat refine Fresh.push ?_ _); assumption) | (simp only [smA]; done) | (simp [oneCell, AW.next_push]; done) | fail) only [go_sem, Nat.reduceEqDiff, reduceIte, Nat.reduceAdd, Int.toNat_natCast, Nat.add_zero, Owes_true, Try.results82, e5, e9, e10, e11, hlt]
    exact ⟨hA, g⟩
  have hlt' : i < L.length := by omega
  obtain ⟨b1, o1, rfl, hb1, hcell⟩ := hat i hlt'
  have a0 := hcell w1 g.1 0 _ rfl
  rw [Nat.add_zero] at a0
  have q1 := hL _ (List.getElem_mem hlt')
  have q2 := quo_in (r := r) (l := L[i]) hr (by omega)
  have q3 : ¬ L[i] = 0 := by omega
  have q4 : 0 ≤ r / L[i] := Int.ediv_nonneg hr (by omega)
  have q5 : r / L[i] ≤ r := Int.ediv_le_self _ hr
  have q6 : [r / L[i]].foldl min (64 : Int) = min 64 (r / L[i]) := rfl
  have g1 := g.push (.cells [.int .i64 (r / L[i])] 3 w1.next 0 0)
  have O1 := Own.new g.2 3 [.int .i64 (r / L[i])]
  have hA1 : RowA w.next _ u _ := AOwn.keep hA ((Keep.refl w1.next w1).push (Nat.le_refl _) (.cells [.int .i64 (r / L[i])] 3 w1.next 0 0)) (Nat.le_refl _)
  simp -dsimp -implicitDefEqProofs (maxSteps := 2000000) (disch := first | assumption | omega | (simp only [nx]; omega) | ((repeat refine Fresh.push ?_ _); assumption) | (simp only [smA]; done) | (simp [oneCell, AW.next_push]; done) | fail) only [go_sem, Nat.reduceEqDiff, reduceIte, Nat.reduceAdd, Int.toNat_natCast, Nat.add_zero, Owes_true, Try.results82, e1, e5, e9, e10, e11, hlt, indexV_eq, a0, q2, q3]
  apply callV_of (e := rfl)
  · exact least_ok 64 [r / L[i]] _ _ (arr1 O1)
  rintro _ _ ⟨rfl, rfl⟩
  rw [q6]
  have hw : 64 - min 64 (r / L[i]) = wgt r L[i] := rfl
  have hwi := wgt_in hr q1.1
  generalize hw1 : w1.push (.cells [.int .i64 (r / L[i])] 3 w1.next 0 0) = w2 at *
  have hn2 : w.next ≤ w2.next := g1.1.next
  obtain ⟨u3, w3, happ, hA3, hk3, hf3, hn3⟩ := hA1.app g1.2 hn2 (by simp; omega) (wgt r L[i])
  have hT : (L.take (i + 1)).map (wgt r) = (L.take i).map (wgt r) ++ [wgt r L[i]] := by rw [List.take_succ_eq_append_getElem hlt', List.map_append]; rfl
  rw [← hT] at hA3
  generalize hmm : min 64 (r / L[i]) = m at *
  simp -dsimp -implicitDefEqProofs (maxSteps := 2000000) (disch := first | assumption | omega | (simp only [nx]; omega) | ((repeat refine Fresh.push ?_ _); assumption) | (simp only [smA]; done) | (simp [oneCell, AW.next_push]; done) | fail) only [go_sem, Nat.reduceEqDiff, reduceIte, Nat.reduceAdd, Int.toNat_natCast, Nat.add_zero, Owes_true, Try.results82, e1, e5, e9, e10, e11, hw, happ]
  refine ⟨_, by omega, i + 1, by omega, rfl, rfl, by (simp -dsimp -implicitDefEqProofs (maxSteps := 2000000) (disch := first | assumption | omega | (simp only [nx]; omega) | ((repeat refine Fresh.push ?_ _); assumption) | (simp only [smA]; done) | (simp [oneCell, AW.next_push]; done) | fail) only [go_sem, Nat.reduceEqDiff, reduceIte, Nat.reduceAdd, Int.toNat_natCast, Nat.add_zero, Owes_true, e1]; try rfl), by (simp -dsimp -implicitDefEqProofs (maxSteps := 2000000) (disch := first | assumption | omega | (simp only [nx]; omega) | ((repeat refine Fresh.push ?_ _); assumption) | (simp only [smA]; done) | (simp [oneCell, AW.next_push]; done) | fail) only [go_sem, Nat.reduceEqDiff, reduceIte, Nat.reduceAdd, Int.toNat_natCast, Nat.add_zero, Owes_true, e9]; try rfl), by (simp -dsimp -implicitDefEqProofs (maxSteps := 2000000) (disch := first | assumption | omega | (simp only [nx]; omega) | ((repeat refine Fresh.push ?_ _); assumption) | (simp only [smA]; done) | (simp [oneCell, AW.next_push]; done) | fail) only [go_sem, Nat.reduceEqDiff, reduceIte, Nat.reduceAdd, Int.toNat_natCast, Nat.add_zero, Owes_true, e10]; try rfl), by (simp -dsimp -implicitDefEqProofs (maxSteps := 2000000) (disch := first | assumption | omega | (simp only [nx]; omega) | ((repeat refine Fresh.push ?_ _); assumption) | (simp only [smA]; done) | (simp [oneCell, AW.next_push]; done) | fail) only [go_sem, Nat.reduceEqDiff, reduceIte, Nat.reduceAdd, Int.toNat_natCast, Nat.add_zero, Owes_true, e11]; try rfl), u3, (by simp -dsimp -implicitDefEqProofs (maxSteps := 2000000) (disch := first | assumption | omega | (simp only [nx]; omega) | ((repeat refine Fresh.push ?_ _); assumption) | (simp only [smA]; done) | (simp [oneCell, AW.next_push]; done) | fail) only [go_sem, Nat.reduceEqDiff, reduceIte, Nat.reduceAdd, Int.toNat_natCast, Nat.add_zero, Owes_true]), hA3, ⟨g1.1.trans (hk3.mono (Nat.le_refl _)), hf3⟩⟩
def enoughB (L : List Int) (r : Int) : Bool := decide (needL L r ≤ 64)
theorem map_small {L : List Int} (hL : pos L) {r : Int} (hr : 0 ≤ r) (hl : L.length ≤ 6) : smallL (L.map (wgt r)) := by
  refine ⟨fun x hx => ?_, by rw [List.length_map]; omega⟩
  obtain ⟨l, hm, rfl⟩ := List.mem_map.1 hx
  have := wgt_in hr (hL l hm).1
  omega
def needE (L : List Int) (r : Int) : Int := if lossB L then (if r < 0 then 7 else 0) else 103
def needV (L : List Int) (r : Int) : Int := if lossB L then (if r < 0 then 0 else needL L r) else 0
theorem Need_ok (L : List Int) (r : Int) (hr1 : r ≤ 9223372036854775807) (v : Value) (w : AW) (f : Fresh w) (hv : ArrOf w 1 icells v L) :
    CallT Try.prog Try.T1 (.fn (.func 30) #[]) #[v, .int .i64 r] w (Ret (.tuple #[.int .i64 (needV L r), .int .i64 (needE L r)]) (Grown w)) := by
  obtain ⟨pv, cv, rfl, _⟩ := id hv.open
  refine callT_code rfl Try.func30 rfl Try.s30_eq rfl ?_
  unfold Try.s30
  simp -dsimp -implicitDefEqProofs (maxSteps := 2000000) (disch := first | assumption | omega | (simp only [nx]; omega) | ((repeat refine Fresh.push ?_ _); assumption) | (simp only [smA]; done) | (simp [oneCell, AW.next_push]; done) | fail) only [go_sem, Nat.reduceEqDiff, reduceIte, Nat.reduceAdd, Int.toNat_natCast, Nat.add_zero, Owes_true, Try.results30]
  apply callV_of (e := rfl)
  · exact areLosses_ok L _ w f hv
  rintro _ w2 ⟨rfl, g2⟩
  cases hL : lossB L with
  | false =>
    simp -dsimp -implicitDefEqProofs (maxSteps := 2000000) (disch := first | assumption | omega | (simp only [nx]; omega) | ((repeat refine Fresh.push ?_ _); assumption) | (simp only [smA]; done) | (simp [oneCell, AW.next_push]; done) | fail) only [go_sem, Nat.reduceEqDiff, reduceIte, Nat.reduceAdd, Int.toNat_natCast, Nat.add_zero, Owes_true, Try.results30, hL]
    exact ⟨by simp [needV, needE, hL], g2⟩
  | true =>
  obtain ⟨hp, hne, hl6⟩ := lossB_pos hL
  by_cases hr : r < 0
  · simp -dsimp -implicitDefEqProofs (maxSteps := 2000000) (disch := first | assumption | omega | (simp only [nx]; omega) | ((repeat refine Fresh.push ?_ _); assumption) | (simp only [smA]; done) | (simp [oneCell, AW.next_push]; done) | fail) only [go_sem, Nat.reduceEqDiff, reduceIte, Nat.reduceAdd, Int.toNat_natCast, Nat.add_zero, Owes_true, Try.results30, hL, hr]
    exact ⟨by simp [needV, needE, hL, hr], g2⟩
  · simp -dsimp -implicitDefEqProofs (maxSteps := 2000000) (disch := first | assumption | omega | (simp only [nx]; omega) | ((repeat refine Fresh.push ?_ _); assumption) | (simp only [smA]; done) | (simp [oneCell, AW.next_push]; done) | fail) only [go_sem, Nat.reduceEqDiff, reduceIte, Nat.reduceAdd, Int.toNat_natCast, Nat.add_zero, Owes_true, Try.results30, hL, hr]
    apply callV_of (e := rfl)
    · exact weightsFor_ok L hp hl6 r (by omega) hr1 _ w2 g2.2 (hv.grown g2)
    rintro u w3 ⟨hA, g3⟩
    simp -dsimp -implicitDefEqProofs (maxSteps := 2000000) (disch := first | assumption | omega | (simp only [nx]; omega) | ((repeat refine Fresh.push ?_ _); assumption) | (simp only [smA]; done) | (simp [oneCell, AW.next_push]; done) | fail) only [go_sem, Nat.reduceEqDiff, reduceIte, Nat.reduceAdd, Int.toNat_natCast, Nat.add_zero, Owes_true, Try.results30]
    apply callV_of (e := rfl)
    · exact sum_ok (L.map (wgt r)) u w3 (hA.arr (by simp; omega))
    rintro _ _ ⟨rfl, n, rfl, hn⟩
    have hn' := hn (map_small hp (by omega) hl6)
    rw [map_sum] at hn'
    subst hn'
    simp -dsimp -implicitDefEqProofs (maxSteps := 2000000) (disch := first | assumption | omega | (simp only [nx]; omega) | ((repeat refine Fresh.push ?_ _); assumption) | (simp only [smA]; done) | (simp [oneCell, AW.next_push]; done) | fail) only [go_sem, Nat.reduceEqDiff, reduceIte, Nat.reduceAdd, Int.toNat_natCast, Nat.add_zero, Owes_true, Try.results30]
    exact ⟨by simp [needV, needE, hL, hr], g2.trans g3⟩
theorem enough_ok (L : List Int) (hp : pos L) (hl6 : L.length ≤ 6) (r : Int) (hr : 0 ≤ r) (hr1 : r ≤ 9223372036854775807) (v : Value) (b : Nat) (w : AW) (f : Fresh w) (hO : Own w b 22 [v]) (hv : ArrOf w 1 icells v L) :
    CallT Try.prog Try.T1 (.fn (.func 84) #[.pointer (some ⟨b, 0, none⟩)]) #[.int .i64 r] w (Ret (.bool (enoughB L r)) (Grown w)) := by
  obtain ⟨pv, cv, rfl, _⟩ := id hv.open
  have c0 := hO.cell (o := 0) rfl rfl
  refine callT_code rfl Try.func84 rfl Try.s84_eq rfl ?_
  unfold Try.s84
  simp -dsimp -implicitDefEqProofs (maxSteps := 2000000) (disch := first | assumption | omega | (simp only [nx]; omega) | ((repeat refine Fresh.push ?_ _); assumption) | (simp only [smA]; done) | (simp [oneCell, AW.next_push]; done) | fail) only [go_sem, Nat.reduceEqDiff, reduceIte, Nat.reduceAdd, Int.toNat_natCast, Nat.add_zero, Owes_true, Try.results84, c0, Nat.zero_add]
  apply callV_of (e := rfl)
  · exact weightsFor_ok L hp hl6 r hr hr1 _ w f hv
  rintro u w3 ⟨hA, g3⟩
  simp -dsimp -implicitDefEqProofs (maxSteps := 2000000) (disch := first | assumption | omega | (simp only [nx]; omega) | ((repeat refine Fresh.push ?_ _); assumption) | (simp only [smA]; done) | (simp [oneCell, AW.next_push]; done) | fail) only [go_sem, Nat.reduceEqDiff, reduceIte, Nat.reduceAdd, Int.toNat_natCast, Nat.add_zero, Owes_true, Try.results84]
  apply callV_of (e := rfl)
  · exact sum_ok (L.map (wgt r)) u w3 (hA.arr (by simp; omega))
  rintro _ _ ⟨rfl, n, rfl, hn⟩
  have hn' := hn (map_small hp (by omega) hl6)
  rw [map_sum] at hn'
  subst hn'
  simp -dsimp -implicitDefEqProofs (maxSteps := 2000000) (disch := first | assumption | omega | (simp only [nx]; omega) | ((repeat refine Fresh.push ?_ _); assumption) | (simp only [smA]; done) | (simp [oneCell, AW.next_push]; done) | fail) only [go_sem, Nat.reduceEqDiff, reduceIte, Nat.reduceAdd, Int.toNat_natCast, Nat.add_zero, Owes_true, Try.results84]
  exact ⟨rfl, g3⟩
end Go.Proofs

namespace Go.Proofs
open Go Go.RowKit Go.Sim
set_option maxRecDepth 100000
def Srch (L : List Int) (lo hi : Int) : Prop := 0 ≤ lo ∧ lo ≤ hi ∧ hi ≤ 640000 ∧ (lo = 0 ∨ 64 < needL L (lo - 1)) ∧ needL L hi ≤ 64
theorem Srch.done {L : List Int} {lo hi : Int} (h : Srch L lo hi) (he : ¬ lo < hi) : LeastRisk L lo := by
  obtain ⟨a, b, c, d, e⟩ := h
  obtain rfl : lo = hi := by omega
  exact ⟨a, c, e, d⟩
set_option maxHeartbeats 4000000 in
theorem Search_ok (L : List Int) (hp : pos L) (hl6 : L.length ≤ 6) (v : Value) (b : Nat) (w : AW) (f : Fresh w) (hO : Own w b 22 [v]) (hv : ArrOf w 1 icells v L) :
    CallT Try.prog Try.T1 (.fn (.func 85) #[]) #[.int .i64 640000, .func (.func 84) #[] #[.pointer (some ⟨b, 0, none⟩)]] w (fun r w' => ∃ n : Int, r = .int .i64 n ∧ LeastRisk L n ∧ Grown w w') := by
  have hfn := same_fn 84 b
  refine callT_code rfl Try.func85 rfl Try.s85_eq rfl ?_
  unfold Try.s85
  simp -dsimp -implicitDefEqProofs (maxSteps := 2000000) (disch := first | assumption | omega | (simp only [nx]; omega) | ((repeat refine Fresh.push ?_ _); assumption) | (simp only [smA]; done) | (simp [oneCell, AW.next_push]; done) | fail) only [go_sem, Nat.reduceEqDiff, reduceIte, Nat.reduceAdd, Int.toNat_natCast, Nat.add_zero, Owes_true, Try.results85]
  refine loopR (fun k t ds w1 => ∃ lo hi : Int, k = (hi - lo).toNat ∧ ds = [] ∧ ev t (.tmp 1) = .func (.func 84) #[] #[.pointer (some ⟨b, 0, none⟩)] ∧ ev t (.tmp 5) = .int .i64 lo ∧ ev t (.tmp 6) = .int .i64 hi ∧ Srch L lo hi ∧ Grown w w1) 640000 ?_ ?_
  · refine ⟨0, 640000, rfl, rfl, ?_, ?_, ?_, ⟨by omega, by omega, by omega, .inl rfl, by rw [needL_top hp]; omega⟩, Grown.refl f⟩ <;> simp -dsimp -implicitDefEqProofs (maxSteps := 2000000) (disch := first | assumption | omega | (simp only [nx]; omega) | ((repeat refine Fresh.push ?_ _); assumption) | (simp only [smA]; done) | (simp [oneCell, AW.next_push]; done) | fail) only [go_sem, Nat.reduceEqDiff, reduceIte, Nat.reduceAdd, Int.toNat_natCast, Nat.add_zero, Owes_true] <;> rfl
  rintro k t ds w1 ⟨lo, hi, rfl, rfl, e1, e5, e6, hS, g⟩
  by_cases hlt : lo < hi
  case neg =>
    simp -dsimp -implicitDefEqProofs (maxSteps := 2000000) (disch := first | assumption | omega | (simp only [nx]; omega) | ((repeat refine Fresh.push ?_ _); assumption) | (simp only [smA]; done) | (simp [oneCell, AW.next_push]; done) | fail) only [go_sem, Nat.reduceEqDiff, reduceIte, Nat.reduceAdd, Int.toNat_natCast, Nat.add_zero, Owes_true, Try.results85, e1, e5, e6, hlt]
    exact ⟨lo, rfl, hS.done hlt, g⟩
  obtain ⟨s1, s2, s3, s4, s5⟩ := hS
  have hfd : (lo + hi).fdiv (2 ^ (min (Int.toNat 1) 64)) = (lo + hi) / 2 := by
    show (lo + hi).fdiv 2 = _
    rw [Int.fdiv_eq_ediv_of_nonneg _ (by omega)]
  have h10 : ¬ (1 : Int) < 0 := by omega
  obtain ⟨m, hm⟩ : ∃ m, m = (lo + hi) / 2 := ⟨_, rfl⟩
  rw [← hm] at hfd
  simp -dsimp -implicitDefEqProofs (maxSteps := 2000000) (disch := first | assumption | omega | (simp only [nx]; omega) | ((repeat refine Fresh.push ?_ _); assumption) | (simp only [smA]; done) | (simp [oneCell, AW.next_push]; done) | fail) only [go_sem, Nat.reduceEqDiff, reduceIte, Nat.reduceAdd, Int.toNat_natCast, Nat.add_zero, Owes_true, Try.results85, e1, e5, e6, hlt, hfn, hfd, h10]
  apply callV_of (e := rfl)
  · exact enough_ok L hp hl6 m (by omega) (by omega) v b w1 g.2 (hO.keep g.1) (hv.grown g)
  rintro _ w2 ⟨rfl, g2⟩
  have gg := g.trans g2
  by_cases hen : needL L m ≤ 64
  · have he : enoughB L m = true := decide_eq_true hen
    simp -dsimp -implicitDefEqProofs (maxSteps := 2000000) (disch := first | assumption | omega | (simp only [nx]; omega) | ((repeat refine Fresh.push ?_ _); assumption) | (simp only [smA]; done) | (simp [oneCell, AW.next_push]; done) | fail) only [go_sem, Nat.reduceEqDiff, reduceIte, Nat.reduceAdd, Int.toNat_natCast, Nat.add_zero, Owes_true, Try.results85, e1, e5, e6, he]
    exact ⟨(m - lo).toNat, by omega, lo, m, rfl, rfl, by simp -dsimp -implicitDefEqProofs (maxSteps := 2000000) (disch := first | assumption | omega | (simp only [nx]; omega) | ((repeat refine Fresh.push ?_ _); assumption) | (simp only [smA]; done) | (simp [oneCell, AW.next_push]; done) | fail) only [go_sem, Nat.reduceEqDiff, reduceIte, Nat.reduceAdd, Int.toNat_natCast, Nat.add_zero, Owes_true, e1], by simp -dsimp -implicitDefEqProofs (maxSteps := 2000000) (disch := first | assumption | omega | (simp only [nx]; omega) | ((repeat refine Fresh.push ?_ _); assumption) | (simp only [smA]; done) | (simp [oneCell, AW.next_push]; done) | fail) only [go_sem, Nat.reduceEqDiff, reduceIte, Nat.reduceAdd, Int.toNat_natCast, Nat.add_zero, Owes_true, e5], by simp -dsimp -implicitDefEqProofs (maxSteps := 2000000) (disch := first | assumption | omega | (simp only [nx]; omega) | ((repeat refine Fresh.push ?_ _); assumption) | (simp only [smA]; done) | (simp [oneCell, AW.next_push]; done) | fail) only [go_sem, Nat.reduceEqDiff, reduceIte, Nat.reduceAdd, Int.toNat_natCast, Nat.add_zero, Owes_true], ⟨s1, by omega, by omega, s4, hen⟩, gg⟩
  · have he : enoughB L m = false := decide_eq_false hen
    simp -dsimp -implicitDefEqProofs (maxSteps := 2000000) (disch := first | assumption | omega | (simp only [nx]; omega) | ((repeat refine Fresh.push ?_ _); assumption) | (simp only [smA]; done) | (simp [oneCell, AW.next_push]; done) | fail) only [go_sem, Nat.reduceEqDiff, reduceIte, Nat.reduceAdd, Int.toNat_natCast, Nat.add_zero, Owes_true, Try.results85, e1, e5, e6, he]
    exact ⟨(hi - (m + 1)).toNat, by omega, m + 1, hi, rfl, rfl, by simp -dsimp -implicitDefEqProofs (maxSteps := 2000000) (disch := first | assumption | omega | (simp only [nx]; omega) | ((repeat refine Fresh.push ?_ _); assumption) | (simp only [smA]; done) | (simp [oneCell, AW.next_push]; done) | fail) only [go_sem, Nat.reduceEqDiff, reduceIte, Nat.reduceAdd, Int.toNat_natCast, Nat.add_zero, Owes_true, e1], by simp -dsimp -implicitDefEqProofs (maxSteps := 2000000) (disch := first | assumption | omega | (simp only [nx]; omega) | ((repeat refine Fresh.push ?_ _); assumption) | (simp only [smA]; done) | (simp [oneCell, AW.next_push]; done) | fail) only [go_sem, Nat.reduceEqDiff, reduceIte, Nat.reduceAdd, Int.toNat_natCast, Nat.add_zero, Owes_true], by simp -dsimp -implicitDefEqProofs (maxSteps := 2000000) (disch := first | assumption | omega | (simp only [nx]; omega) | ((repeat refine Fresh.push ?_ _); assumption) | (simp only [smA]; done) | (simp [oneCell, AW.next_push]; done) | fail) only [go_sem, Nat.reduceEqDiff, reduceIte, Nat.reduceAdd, Int.toNat_natCast, Nat.add_zero, Owes_true, e6], ⟨by omega, by omega, s3, .inr (by rw [Int.add_sub_cancel]; omega), s5⟩, gg⟩
def patE (L : List Int) : Int := if lossB L then 0 else 103
theorem patrolL_cons {L : List Int} {r : Int} (h : L ≠ []) : ∃ x xs, L.map (wgt r) = x :: xs ∧ patrolL L r = (x + (64 - needL L r)) :: xs := by
  cases L with
  | nil => exact absurd rfl h
  | cons l L => exact ⟨wgt r l, L.map (wgt r), rfl, rfl⟩
set_option maxHeartbeats 4000000 in
theorem Patrol_ok (L : List Int) (v : Value) (w : AW) (f : Fresh w) (hv : ArrOf w 1 icells v L) :
    CallT Try.prog Try.T1 (.fn (.func 32) #[]) #[v] w (fun r w' => Grown w w' ∧ ∃ (u : Value) (n : Int), r = .tuple #[u, .int .i64 n, .int .i64 (patE L)] ∧ (lossB L = false → u = .slice none 0 0 ∧ n = 0) ∧ (lossB L = true → LeastRisk L n ∧ ArrOf w' 1 icells u (patrolL L n))) := by
  obtain ⟨pv, cv, rfl, _⟩ := id hv.open
  have g1 := (Grown.refl f).push (.cells [.slice pv L.length cv] 22 w.next 0 0)
  have O1 := Own.new f 22 [.slice pv L.length cv]
  have c0 := O1.cell (o := 0) rfl rfl
  refine callT_code rfl Try.func32 rfl Try.s32_eq rfl ?_
  unfold Try.s32
  simp -dsimp -implicitDefEqProofs (maxSteps := 2000000) (disch := first | assumption | omega | (simp only [nx]; omega) | ((repeat refine Fresh.push ?_ _); assumption) | (simp only [smA]; done) | (simp [oneCell, AW.next_push]; done) | fail) only [go_sem, Nat.reduceEqDiff, reduceIte, Nat.reduceAdd, Int.toNat_natCast, Nat.add_zero, Owes_true, Try.results32, c0, Nat.zero_add]
  apply callV_of (e := rfl)
  · exact areLosses_ok L _ _ g1.2 (hv.grown g1)
  rintro _ w2 ⟨rfl, g2⟩
  have gg := g1.trans g2
  cases hL : lossB L with
  | false =>
    simp -dsimp -implicitDefEqProofs (maxSteps := 2000000) (disch := first | assumption | omega | (simp only [nx]; omega) | ((repeat refine Fresh.push ?_ _); assumption) | (simp only [smA]; done) | (simp [oneCell, AW.next_push]; done) | fail) only [go_sem, Nat.reduceEqDiff, reduceIte, Nat.reduceAdd, Int.toNat_natCast, Nat.add_zero, Owes_true, Try.results32, hL]
    exact ⟨gg, _, _, by rw [show patE L = 103 from by simp [patE, hL]], fun _ => ⟨rfl, rfl⟩, fun h => by cases h⟩
  | true =>
  obtain ⟨hp, hne, hl6⟩ := lossB_pos hL
  have O2 := O1.keep g2.1
  simp -dsimp -implicitDefEqProofs (maxSteps := 2000000) (disch := first | assumption | omega | (simp only [nx]; omega) | ((repeat refine Fresh.push ?_ _); assumption) | (simp only [smA]; done) | (simp [oneCell, AW.next_push]; done) | fail) only [go_sem, Nat.reduceEqDiff, reduceIte, Nat.reduceAdd, Int.toNat_natCast, Nat.add_zero, Owes_true, Try.results32, hL]
  apply callV_of (e := rfl)
  · exact Search_ok L hp hl6 _ w.next w2 gg.2 O2 (hv.grown gg)
  rintro _ w3 ⟨n, rfl, hn, g3⟩
  have gg3 := gg.trans g3
  have O3 := O2.keep g3.1
  have d0 := O3.cell (o := 0) rfl rfl
  simp -dsimp -implicitDefEqProofs (maxSteps := 2000000) (disch := first | assumption | omega | (simp only [nx]; omega) | ((repeat refine Fresh.push ?_ _); assumption) | (simp only [smA]; done) | (simp [oneCell, AW.next_push]; done) | fail) only [go_sem, Nat.reduceEqDiff, reduceIte, Nat.reduceAdd, Int.toNat_natCast, Nat.add_zero, Owes_true, Try.results32, d0, Nat.zero_add]
  apply callV_of (e := rfl)
  · exact weightsFor_ok L hp hl6 n hn.1 (by have := hn.2.1; omega) _ w3 g3.2 (hv.grown gg3)
  rintro u w4 ⟨hA, g4⟩
  obtain ⟨x, xs, he, hpat⟩ := patrolL_cons (r := n) hne
  have hlen : (L.map (wgt n)).length = L.length := List.length_map ..
  have hsm := map_small hp hn.1 hl6
  have hx := hsm.1 x (by rw [he]; exact List.mem_cons_self)
  have hni := needL_in hp hn.1
  have hxa : x + (64 - needL L n) ≤ 1000000 ∧ -1000000 ≤ x + (64 - needL L n) := by omega
  have hA' := hA
  unfold RowA at hA'
  obtain ⟨b, rfl, hcell, w5, hst, hA5, st5⟩ := aown_store hA' g4.2 (o := 0) (x := .int .i64 (x + (64 - needL L n))) (by rw [he]; simp [icells]) rfl
  have gg4 := gg3.trans g4
  have k0 := hcell 0 (.int .i64 x) (by rw [he]; rfl)
  have hl0 : (0 : Int) < ((L.map (wgt n)).length : Int) := by rw [he]; simp
  have t0 : Int.toNat 0 * 1 = 0 := rfl
  simp -dsimp -implicitDefEqProofs (maxSteps := 2000000) (disch := first | assumption | omega | (simp only [nx]; omega) | ((repeat refine Fresh.push ?_ _); assumption) | (simp only [smA]; done) | (simp [oneCell, AW.next_push]; done) | fail) only [go_sem, Nat.reduceEqDiff, reduceIte, Nat.reduceAdd, Int.toNat_natCast, Nat.add_zero, Owes_true, Try.results32, indexV_eq, hl0, k0, Nat.zero_add, t0]
  apply callV_of (e := rfl)
  · exact sum_ok (L.map (wgt n)) _ w4 (hA.arr (by rw [hlen]; omega))
  rintro _ _ ⟨rfl, m, rfl, hm⟩
  have hm' := hm hsm
  rw [map_sum] at hm'
  subst hm'
  have hle : WLe w4 w4 := (Grown.refl g4.2).1.wle g4.2
  simp -dsimp -implicitDefEqProofs (maxSteps := 2000000) (disch := first | assumption | omega | (simp only [nx]; omega) | ((repeat refine Fresh.push ?_ _); assumption) | (simp only [smA]; done) | (simp [oneCell, AW.next_push]; done) | fail) only [go_sem, Nat.reduceEqDiff, reduceIte, Nat.reduceAdd, Int.toNat_natCast, Nat.add_zero, Owes_true, Try.results32, indexV_eq, hl0, k0, Nat.zero_add, t0, hst, hle]
  refine ⟨⟨gg4.1.trans (st5.keep.mono gg3.1.next), st5.fresh⟩, _, _, by rw [show patE L = 0 from by simp [patE, hL]], fun h => by simp at h, fun _ => ⟨hn, ?_⟩⟩
  have hfin : RowA w3.next w5 (.slice (some ⟨b, 0, none⟩) (L.map (wgt n)).length (L.map (wgt n)).length) (patrolL L n) := by
    unfold RowA
    rw [patrolL_len, ← hlen]
    rw [he] at hA5 ⊢
    rw [hpat]
    exact hA5
  exact hfin.arr (by rw [patrolL_len]; omega)
end Go.Proofs
