/- This program's types, and what the machine is told of it in open calls. -/
import Derived.Test.YtdbeiefgokocnaaNb
import Derived.Test.YtdbeiefgokocnaaChecked
import Derived.Test.YtdbeiefgokocnaaWa
import Derived.Test.YtdbeiefgokocnaaSb
import Derived.Test.YtdbeiefgokocnaaSa
set_option linter.unusedVariables false
set_option linter.unusedSimpArgs false
/- Facts on this program's types. -/
namespace Go.Proofs
open Go Go.RowKit Go.Sim
set_option maxRecDepth 100000
theorem Try.ty3 : (prg Try.prog).ty 3 = some ⟨false, (.int .i64), 1, 8, .int .i64 0⟩ := by kernel_rfl
attribute [go_sem] Try.ty3
theorem Try.ty4 : (prg Try.prog).ty 4 = some ⟨false, .bool, 1, 1, .bool false⟩ := by kernel_rfl
attribute [go_sem] Try.ty4
theorem Try.ty23 : (prg Try.prog).ty 23 = some ⟨false, (.slice 3), 1, 24, .slice none 0 0⟩ := by kernel_rfl
attribute [go_sem] Try.ty23
theorem Try.ty30 : (prg Try.prog).ty 30 = some ⟨false, (.int .i64), 1, 8, .int .i64 0⟩ := by kernel_rfl
attribute [go_sem] Try.ty30
theorem Try.ty52 : (prg Try.prog).ty 52 = some ⟨true, (.struct #[{ name := "Rate", type := 3, offset := 0, embedded := false, tag := "", pkgPath := "", byteOffset := 0 }, { name := "Cap", type := 3, offset := 1, embedded := false, tag := "", pkgPath := "", byteOffset := 8 }]), 2, 16, .agg #[.int .i64 0, .int .i64 0]⟩ := by kernel_rfl
attribute [go_sem] Try.ty52
theorem Try.ty54 : (prg Try.prog).ty 54 = some ⟨true, (.struct #[{ name := "Rate", type := 3, offset := 0, embedded := false, tag := "", pkgPath := "", byteOffset := 0 }, { name := "Free", type := 3, offset := 1, embedded := false, tag := "", pkgPath := "", byteOffset := 8 }, { name := "Fee", type := 3, offset := 2, embedded := false, tag := "", pkgPath := "", byteOffset := 16 }, { name := "Term", type := 3, offset := 3, embedded := false, tag := "", pkgPath := "", byteOffset := 24 }, { name := "Grace", type := 3, offset := 4, embedded := false, tag := "", pkgPath := "", byteOffset := 32 }]), 5, 40, .agg #[.int .i64 0, .int .i64 0, .int .i64 0, .int .i64 0, .int .i64 0]⟩ := by kernel_rfl
attribute [go_sem] Try.ty54
theorem Try.ty56 : (prg Try.prog).ty 56 = some ⟨true, (.struct #[{ name := "Law", type := 52, offset := 0, embedded := false, tag := "", pkgPath := "", byteOffset := 0 }, { name := "Tariff", type := 54, offset := 2, embedded := false, tag := "", pkgPath := "", byteOffset := 16 }, { name := "Closed", type := 23, offset := 7, embedded := false, tag := "", pkgPath := "", byteOffset := 56 }, { name := "Start", type := 3, offset := 8, embedded := false, tag := "", pkgPath := "", byteOffset := 80 }, { name := "Sum", type := 3, offset := 9, embedded := false, tag := "", pkgPath := "", byteOffset := 88 }]), 10, 96, .agg #[.int .i64 0, .int .i64 0, .int .i64 0, .int .i64 0, .int .i64 0, .int .i64 0, .int .i64 0, .slice none 0 0, .int .i64 0, .int .i64 0]⟩ := by kernel_rfl
attribute [go_sem] Try.ty56
theorem Try.ia23 (t : Tmps) (w : AW) (x y : Operand) : fast (prg Try.prog) t w (.indexAddr 23 x y) = indexV 1 (ev t x) (ev t y) := fast_indexAddr Try.ty23 Try.ty3
attribute [go_sem] Try.ia23
theorem Try.ln23 (t : Tmps) (w : AW) (x : Operand) : fast (prg Try.prog) t w (.call ⟨.builtin .len, ⟨[x]⟩, ⟨[23]⟩⟩) = lenV (ev t x) := fast_len Try.ty23
attribute [go_sem] Try.ln23
theorem Try.bd52 (t : Tmps) (w : AW) (l : List (Nat × Operand)) : fast (prg Try.prog) t w (.build 52 ⟨l⟩) = bldQ [(0, 1), (1, 1)] [.int .i64 0, .int .i64 0] (l.map fun p => (p.1, ev t p.2)) := fast_build (zs := [.int .i64 0, .int .i64 0]) Try.ty52 (by kernel_rfl)
attribute [go_sem] Try.bd52
theorem Try.fa52x0 (t : Tmps) (w : AW) (x : Operand) : fast (prg Try.prog) t w (.fieldAddr 52 x 0) = fieldOff (ev t x) 0 := fast_fieldAddr (fd := { name := "Rate", type := 3, offset := 0, embedded := false, tag := "", pkgPath := "", byteOffset := 0 }) Try.ty52 rfl Try.ty3 rfl
attribute [go_sem] Try.fa52x0
theorem Try.fa52x1 (t : Tmps) (w : AW) (x : Operand) : fast (prg Try.prog) t w (.fieldAddr 52 x 1) = fieldOff (ev t x) 1 := fast_fieldAddr (fd := { name := "Cap", type := 3, offset := 1, embedded := false, tag := "", pkgPath := "", byteOffset := 8 }) Try.ty52 rfl Try.ty3 rfl
attribute [go_sem] Try.fa52x1
theorem Try.bd54 (t : Tmps) (w : AW) (l : List (Nat × Operand)) : fast (prg Try.prog) t w (.build 54 ⟨l⟩) = bldQ [(0, 1), (1, 1), (2, 1), (3, 1), (4, 1)] [.int .i64 0, .int .i64 0, .int .i64 0, .int .i64 0, .int .i64 0] (l.map fun p => (p.1, ev t p.2)) := fast_build (zs := [.int .i64 0, .int .i64 0, .int .i64 0, .int .i64 0, .int .i64 0]) Try.ty54 (by kernel_rfl)
attribute [go_sem] Try.bd54
theorem Try.fa54x0 (t : Tmps) (w : AW) (x : Operand) : fast (prg Try.prog) t w (.fieldAddr 54 x 0) = fieldOff (ev t x) 0 := fast_fieldAddr (fd := { name := "Rate", type := 3, offset := 0, embedded := false, tag := "", pkgPath := "", byteOffset := 0 }) Try.ty54 rfl Try.ty3 rfl
attribute [go_sem] Try.fa54x0
theorem Try.fa54x1 (t : Tmps) (w : AW) (x : Operand) : fast (prg Try.prog) t w (.fieldAddr 54 x 1) = fieldOff (ev t x) 1 := fast_fieldAddr (fd := { name := "Free", type := 3, offset := 1, embedded := false, tag := "", pkgPath := "", byteOffset := 8 }) Try.ty54 rfl Try.ty3 rfl
attribute [go_sem] Try.fa54x1
theorem Try.fa54x2 (t : Tmps) (w : AW) (x : Operand) : fast (prg Try.prog) t w (.fieldAddr 54 x 2) = fieldOff (ev t x) 2 := fast_fieldAddr (fd := { name := "Fee", type := 3, offset := 2, embedded := false, tag := "", pkgPath := "", byteOffset := 16 }) Try.ty54 rfl Try.ty3 rfl
attribute [go_sem] Try.fa54x2
theorem Try.fa54x3 (t : Tmps) (w : AW) (x : Operand) : fast (prg Try.prog) t w (.fieldAddr 54 x 3) = fieldOff (ev t x) 3 := fast_fieldAddr (fd := { name := "Term", type := 3, offset := 3, embedded := false, tag := "", pkgPath := "", byteOffset := 24 }) Try.ty54 rfl Try.ty3 rfl
attribute [go_sem] Try.fa54x3
theorem Try.fa54x4 (t : Tmps) (w : AW) (x : Operand) : fast (prg Try.prog) t w (.fieldAddr 54 x 4) = fieldOff (ev t x) 4 := fast_fieldAddr (fd := { name := "Grace", type := 3, offset := 4, embedded := false, tag := "", pkgPath := "", byteOffset := 32 }) Try.ty54 rfl Try.ty3 rfl
attribute [go_sem] Try.fa54x4
theorem Try.bd56 (t : Tmps) (w : AW) (l : List (Nat × Operand)) : fast (prg Try.prog) t w (.build 56 ⟨l⟩) = bldQ [(0, 2), (2, 5), (7, 1), (8, 1), (9, 1)] [.int .i64 0, .int .i64 0, .int .i64 0, .int .i64 0, .int .i64 0, .int .i64 0, .int .i64 0, .slice none 0 0, .int .i64 0, .int .i64 0] (l.map fun p => (p.1, ev t p.2)) := fast_build (zs := [.int .i64 0, .int .i64 0, .int .i64 0, .int .i64 0, .int .i64 0, .int .i64 0, .int .i64 0, .slice none 0 0, .int .i64 0, .int .i64 0]) Try.ty56 (by kernel_rfl)
attribute [go_sem] Try.bd56
theorem Try.fa56x0 (t : Tmps) (w : AW) (x : Operand) : fast (prg Try.prog) t w (.fieldAddr 56 x 0) = fieldOff (ev t x) 0 := fast_fieldAddr (fd := { name := "Law", type := 52, offset := 0, embedded := false, tag := "", pkgPath := "", byteOffset := 0 }) Try.ty56 rfl Try.ty52 rfl
attribute [go_sem] Try.fa56x0
theorem Try.fa56x1 (t : Tmps) (w : AW) (x : Operand) : fast (prg Try.prog) t w (.fieldAddr 56 x 1) = fieldOff (ev t x) 2 := fast_fieldAddr (fd := { name := "Tariff", type := 54, offset := 2, embedded := false, tag := "", pkgPath := "", byteOffset := 16 }) Try.ty56 rfl Try.ty54 rfl
attribute [go_sem] Try.fa56x1
theorem Try.fa56x2 (t : Tmps) (w : AW) (x : Operand) : fast (prg Try.prog) t w (.fieldAddr 56 x 2) = fieldOff (ev t x) 7 := fast_fieldAddr (fd := { name := "Closed", type := 23, offset := 7, embedded := false, tag := "", pkgPath := "", byteOffset := 56 }) Try.ty56 rfl Try.ty23 rfl
attribute [go_sem] Try.fa56x2
theorem Try.fa56x3 (t : Tmps) (w : AW) (x : Operand) : fast (prg Try.prog) t w (.fieldAddr 56 x 3) = fieldOff (ev t x) 8 := fast_fieldAddr (fd := { name := "Start", type := 3, offset := 8, embedded := false, tag := "", pkgPath := "", byteOffset := 80 }) Try.ty56 rfl Try.ty3 rfl
attribute [go_sem] Try.fa56x3
theorem Try.fa56x4 (t : Tmps) (w : AW) (x : Operand) : fast (prg Try.prog) t w (.fieldAddr 56 x 4) = fieldOff (ev t x) 9 := fast_fieldAddr (fd := { name := "Sum", type := 3, offset := 9, embedded := false, tag := "", pkgPath := "", byteOffset := 88 }) Try.ty56 rfl Try.ty3 rfl
attribute [go_sem] Try.fa56x4
end Go.Proofs

/- What this seat's proofs are told: the program's own check, and sort.Slice at numbers. -/
namespace Go.Proofs
open Go Go.RowKit Go.Sim
set_option maxRecDepth 100000
def Try.T0 : ToldF := toldTrue 21 fun _ _ _ => none
theorem Try.toldT0 (N : Nat) : ToldOk Try.prog N Try.T0 := toldTrue_ok (fun args w => Try.call21 args w) Try.works (fun N => fun f args w w1 v h => by cases h) N
def Try.sliceIds : SliceIds := ⟨68, 69, 23⟩
def Try.T1 : ToldF := toldSlice Try.sliceIds Try.T0
theorem Try.toldT1 (N : Nat) : ToldOk Try.prog N Try.T1 := toldSlice_ok Try.sliceOk Try.toldT0 N
theorem Try.bs23 (t : Tmps) (l : List (Nat × Operand)) : makes (prg Try.prog) t (.buildSlice 23 1 ⟨l⟩) = bsQ 3 1 1 [.int .i64 0] (l.map fun p => (p.1, ev t p.2)) := makes_bs Try.ty23 Try.ty3 rfl (by kernel_rfl)
attribute [go_sem] Try.bs23
end Go.Proofs

/- Facts on this program's types. -/
namespace Go.Proofs
open Go Go.RowKit Go.Sim
set_option maxRecDepth 100000
theorem Try.ty5 : (prg Try.prog).ty 5 = some ⟨false, (.int .u8), 1, 1, .int .u8 0⟩ := by kernel_rfl
attribute [go_sem] Try.ty5
theorem Try.ty9 : (prg Try.prog).ty 9 = some ⟨false, .string, 1, 16, .string ⟨#[]⟩⟩ := by kernel_rfl
attribute [go_sem] Try.ty9
theorem Try.ty27 : (prg Try.prog).ty 27 = some ⟨true, (.struct #[{ name := "Min", type := 3, offset := 0, embedded := false, tag := "", pkgPath := "", byteOffset := 0 }, { name := "Max", type := 3, offset := 1, embedded := false, tag := "", pkgPath := "", byteOffset := 8 }]), 2, 16, .agg #[.int .i64 0, .int .i64 0]⟩ := by kernel_rfl
attribute [go_sem] Try.ty27
theorem Try.ty40 : (prg Try.prog).ty 40 = some ⟨true, (.struct #[{ name := "Fraction", type := 3, offset := 0, embedded := false, tag := "", pkgPath := "", byteOffset := 0 }, { name := "Floor", type := 3, offset := 1, embedded := false, tag := "", pkgPath := "", byteOffset := 8 }, { name := "Cap", type := 3, offset := 2, embedded := false, tag := "", pkgPath := "", byteOffset := 16 }]), 3, 24, .agg #[.int .i64 0, .int .i64 0, .int .i64 0]⟩ := by kernel_rfl
attribute [go_sem] Try.ty40
theorem Try.ty41 : (prg Try.prog).ty 41 = some ⟨false, (.slice 94), 1, 24, .slice none 0 0⟩ := by kernel_rfl
attribute [go_sem] Try.ty41
theorem Try.ty43 : (prg Try.prog).ty 43 = some ⟨true, (.struct #[{ name := "L", type := 41, offset := 0, embedded := false, tag := "", pkgPath := "", byteOffset := 0 }, { name := "Class", type := 9, offset := 1, embedded := false, tag := "", pkgPath := "", byteOffset := 24 }, { name := "Wish", type := 3, offset := 2, embedded := false, tag := "", pkgPath := "", byteOffset := 40 }]), 3, 48, .agg #[.slice none 0 0, .string ⟨#[]⟩, .int .i64 0]⟩ := by kernel_rfl
attribute [go_sem] Try.ty43
theorem Try.ty94 : (prg Try.prog).ty 94 = some ⟨true, (.struct #[{ name := "Class", type := 9, offset := 0, embedded := false, tag := "", pkgPath := "", byteOffset := 0 }, { name := "Terms", type := 40, offset := 1, embedded := false, tag := "", pkgPath := "", byteOffset := 16 }]), 4, 40, .agg #[.string ⟨#[]⟩, .int .i64 0, .int .i64 0, .int .i64 0]⟩ := by kernel_rfl
attribute [go_sem] Try.ty94
theorem Try.ty130 : (prg Try.prog).ty 130 = some ⟨false, (.map 9 4), 1, 8, .map none⟩ := by kernel_rfl
attribute [go_sem] Try.ty130
theorem Try.bd27 (t : Tmps) (w : AW) (l : List (Nat × Operand)) : fast (prg Try.prog) t w (.build 27 ⟨l⟩) = bldQ [(0, 1), (1, 1)] [.int .i64 0, .int .i64 0] (l.map fun p => (p.1, ev t p.2)) := fast_build (zs := [.int .i64 0, .int .i64 0]) Try.ty27 (by kernel_rfl)
attribute [go_sem] Try.bd27
theorem Try.fa27x0 (t : Tmps) (w : AW) (x : Operand) : fast (prg Try.prog) t w (.fieldAddr 27 x 0) = fieldOff (ev t x) 0 := fast_fieldAddr (fd := { name := "Min", type := 3, offset := 0, embedded := false, tag := "", pkgPath := "", byteOffset := 0 }) Try.ty27 rfl Try.ty3 rfl
attribute [go_sem] Try.fa27x0
theorem Try.fa27x1 (t : Tmps) (w : AW) (x : Operand) : fast (prg Try.prog) t w (.fieldAddr 27 x 1) = fieldOff (ev t x) 1 := fast_fieldAddr (fd := { name := "Max", type := 3, offset := 1, embedded := false, tag := "", pkgPath := "", byteOffset := 8 }) Try.ty27 rfl Try.ty3 rfl
attribute [go_sem] Try.fa27x1
theorem Try.bd40 (t : Tmps) (w : AW) (l : List (Nat × Operand)) : fast (prg Try.prog) t w (.build 40 ⟨l⟩) = bldQ [(0, 1), (1, 1), (2, 1)] [.int .i64 0, .int .i64 0, .int .i64 0] (l.map fun p => (p.1, ev t p.2)) := fast_build (zs := [.int .i64 0, .int .i64 0, .int .i64 0]) Try.ty40 (by kernel_rfl)
attribute [go_sem] Try.bd40
theorem Try.fa40x0 (t : Tmps) (w : AW) (x : Operand) : fast (prg Try.prog) t w (.fieldAddr 40 x 0) = fieldOff (ev t x) 0 := fast_fieldAddr (fd := { name := "Fraction", type := 3, offset := 0, embedded := false, tag := "", pkgPath := "", byteOffset := 0 }) Try.ty40 rfl Try.ty3 rfl
attribute [go_sem] Try.fa40x0
theorem Try.fa40x1 (t : Tmps) (w : AW) (x : Operand) : fast (prg Try.prog) t w (.fieldAddr 40 x 1) = fieldOff (ev t x) 1 := fast_fieldAddr (fd := { name := "Floor", type := 3, offset := 1, embedded := false, tag := "", pkgPath := "", byteOffset := 8 }) Try.ty40 rfl Try.ty3 rfl
attribute [go_sem] Try.fa40x1
theorem Try.fa40x2 (t : Tmps) (w : AW) (x : Operand) : fast (prg Try.prog) t w (.fieldAddr 40 x 2) = fieldOff (ev t x) 2 := fast_fieldAddr (fd := { name := "Cap", type := 3, offset := 2, embedded := false, tag := "", pkgPath := "", byteOffset := 16 }) Try.ty40 rfl Try.ty3 rfl
attribute [go_sem] Try.fa40x2
theorem Try.ia41 (t : Tmps) (w : AW) (x y : Operand) : fast (prg Try.prog) t w (.indexAddr 41 x y) = indexV 4 (ev t x) (ev t y) := fast_indexAddr Try.ty41 Try.ty94
attribute [go_sem] Try.ia41
theorem Try.ln41 (t : Tmps) (w : AW) (x : Operand) : fast (prg Try.prog) t w (.call ⟨.builtin .len, ⟨[x]⟩, ⟨[41]⟩⟩) = lenV (ev t x) := fast_len Try.ty41
attribute [go_sem] Try.ln41
theorem Try.bd43 (t : Tmps) (w : AW) (l : List (Nat × Operand)) : fast (prg Try.prog) t w (.build 43 ⟨l⟩) = bldQ [(0, 1), (1, 1), (2, 1)] [.slice none 0 0, .string ⟨#[]⟩, .int .i64 0] (l.map fun p => (p.1, ev t p.2)) := fast_build (zs := [.slice none 0 0, .string ⟨#[]⟩, .int .i64 0]) Try.ty43 (by kernel_rfl)
attribute [go_sem] Try.bd43
theorem Try.fa43x0 (t : Tmps) (w : AW) (x : Operand) : fast (prg Try.prog) t w (.fieldAddr 43 x 0) = fieldOff (ev t x) 0 := fast_fieldAddr (fd := { name := "L", type := 41, offset := 0, embedded := false, tag := "", pkgPath := "", byteOffset := 0 }) Try.ty43 rfl Try.ty41 rfl
attribute [go_sem] Try.fa43x0
theorem Try.fa43x1 (t : Tmps) (w : AW) (x : Operand) : fast (prg Try.prog) t w (.fieldAddr 43 x 1) = fieldOff (ev t x) 1 := fast_fieldAddr (fd := { name := "Class", type := 9, offset := 1, embedded := false, tag := "", pkgPath := "", byteOffset := 24 }) Try.ty43 rfl Try.ty9 rfl
attribute [go_sem] Try.fa43x1
theorem Try.fa43x2 (t : Tmps) (w : AW) (x : Operand) : fast (prg Try.prog) t w (.fieldAddr 43 x 2) = fieldOff (ev t x) 2 := fast_fieldAddr (fd := { name := "Wish", type := 3, offset := 2, embedded := false, tag := "", pkgPath := "", byteOffset := 40 }) Try.ty43 rfl Try.ty3 rfl
attribute [go_sem] Try.fa43x2
theorem Try.bd94 (t : Tmps) (w : AW) (l : List (Nat × Operand)) : fast (prg Try.prog) t w (.build 94 ⟨l⟩) = bldQ [(0, 1), (1, 3)] [.string ⟨#[]⟩, .int .i64 0, .int .i64 0, .int .i64 0] (l.map fun p => (p.1, ev t p.2)) := fast_build (zs := [.string ⟨#[]⟩, .int .i64 0, .int .i64 0, .int .i64 0]) Try.ty94 (by kernel_rfl)
attribute [go_sem] Try.bd94
theorem Try.fa94x0 (t : Tmps) (w : AW) (x : Operand) : fast (prg Try.prog) t w (.fieldAddr 94 x 0) = fieldOff (ev t x) 0 := fast_fieldAddr (fd := { name := "Class", type := 9, offset := 0, embedded := false, tag := "", pkgPath := "", byteOffset := 0 }) Try.ty94 rfl Try.ty9 rfl
attribute [go_sem] Try.fa94x0
theorem Try.fa94x1 (t : Tmps) (w : AW) (x : Operand) : fast (prg Try.prog) t w (.fieldAddr 94 x 1) = fieldOff (ev t x) 1 := fast_fieldAddr (fd := { name := "Terms", type := 40, offset := 1, embedded := false, tag := "", pkgPath := "", byteOffset := 16 }) Try.ty94 rfl Try.ty40 rfl
attribute [go_sem] Try.fa94x1
end Go.Proofs

/- Facts on this program's types. -/
namespace Go.Proofs
open Go Go.RowKit Go.Sim
set_option maxRecDepth 100000
theorem Try.ty22 : (prg Try.prog).ty 22 = some ⟨false, (.slice 66), 1, 24, .slice none 0 0⟩ := by kernel_rfl
attribute [go_sem] Try.ty22
theorem Try.ty25 : (prg Try.prog).ty 25 = some ⟨true, (.struct #[{ name := "Sales", type := 22, offset := 0, embedded := false, tag := "", pkgPath := "", byteOffset := 0 }, { name := "Fade", type := 23, offset := 1, embedded := false, tag := "", pkgPath := "", byteOffset := 24 }, { name := "Metal", type := 3, offset := 2, embedded := false, tag := "", pkgPath := "", byteOffset := 48 }, { name := "Day", type := 3, offset := 3, embedded := false, tag := "", pkgPath := "", byteOffset := 56 }, { name := "Few", type := 3, offset := 4, embedded := false, tag := "", pkgPath := "", byteOffset := 64 }]), 5, 72, .agg #[.slice none 0 0, .slice none 0 0, .int .i64 0, .int .i64 0, .int .i64 0]⟩ := by kernel_rfl
attribute [go_sem] Try.ty25
theorem Try.ty66 : (prg Try.prog).ty 66 = some ⟨true, (.struct #[{ name := "Kind", type := 3, offset := 0, embedded := false, tag := "", pkgPath := "", byteOffset := 0 }, { name := "Day", type := 3, offset := 1, embedded := false, tag := "", pkgPath := "", byteOffset := 8 }, { name := "Weight", type := 3, offset := 2, embedded := false, tag := "", pkgPath := "", byteOffset := 16 }, { name := "Metal", type := 3, offset := 3, embedded := false, tag := "", pkgPath := "", byteOffset := 24 }, { name := "Price", type := 3, offset := 4, embedded := false, tag := "", pkgPath := "", byteOffset := 32 }]), 5, 40, .agg #[.int .i64 0, .int .i64 0, .int .i64 0, .int .i64 0, .int .i64 0]⟩ := by kernel_rfl
attribute [go_sem] Try.ty66
theorem Try.ty29 : (prg Try.prog).ty 29 = some ⟨true, (.struct #[{ name := "Kind", type := 3, offset := 0, embedded := false, tag := "", pkgPath := "", byteOffset := 0 }, { name := "Weight", type := 27, offset := 1, embedded := false, tag := "", pkgPath := "", byteOffset := 8 }]), 3, 24, .agg #[.int .i64 0, .int .i64 0, .int .i64 0]⟩ := by kernel_rfl
attribute [go_sem] Try.ty29
theorem Try.ty121 : (prg Try.prog).ty 121 = some ⟨false, (.func #[66] #[3] false), 1, 8, .nilFunc⟩ := by kernel_rfl
attribute [go_sem] Try.ty121
theorem Try.ty123 : (prg Try.prog).ty 123 = some ⟨true, (.struct #[{ name := "share", type := 3, offset := 0, embedded := false, tag := "", pkgPath := "lombard/loan", byteOffset := 0 }, { name := "day", type := 3, offset := 1, embedded := false, tag := "", pkgPath := "lombard/loan", byteOffset := 8 }]), 2, 16, .agg #[.int .i64 0, .int .i64 0]⟩ := by kernel_rfl
attribute [go_sem] Try.ty123
theorem Try.ia22 (t : Tmps) (w : AW) (x y : Operand) : fast (prg Try.prog) t w (.indexAddr 22 x y) = indexV 5 (ev t x) (ev t y) := fast_indexAddr Try.ty22 Try.ty66
attribute [go_sem] Try.ia22
theorem Try.ln22 (t : Tmps) (w : AW) (x : Operand) : fast (prg Try.prog) t w (.call ⟨.builtin .len, ⟨[x]⟩, ⟨[22]⟩⟩) = lenV (ev t x) := fast_len Try.ty22
attribute [go_sem] Try.ln22
theorem Try.bd25 (t : Tmps) (w : AW) (l : List (Nat × Operand)) : fast (prg Try.prog) t w (.build 25 ⟨l⟩) = bldQ [(0, 1), (1, 1), (2, 1), (3, 1), (4, 1)] [.slice none 0 0, .slice none 0 0, .int .i64 0, .int .i64 0, .int .i64 0] (l.map fun p => (p.1, ev t p.2)) := fast_build (zs := [.slice none 0 0, .slice none 0 0, .int .i64 0, .int .i64 0, .int .i64 0]) Try.ty25 (by kernel_rfl)
attribute [go_sem] Try.bd25
theorem Try.fa25x0 (t : Tmps) (w : AW) (x : Operand) : fast (prg Try.prog) t w (.fieldAddr 25 x 0) = fieldOff (ev t x) 0 := fast_fieldAddr (fd := { name := "Sales", type := 22, offset := 0, embedded := false, tag := "", pkgPath := "", byteOffset := 0 }) Try.ty25 rfl Try.ty22 rfl
attribute [go_sem] Try.fa25x0
theorem Try.fa25x1 (t : Tmps) (w : AW) (x : Operand) : fast (prg Try.prog) t w (.fieldAddr 25 x 1) = fieldOff (ev t x) 1 := fast_fieldAddr (fd := { name := "Fade", type := 23, offset := 1, embedded := false, tag := "", pkgPath := "", byteOffset := 24 }) Try.ty25 rfl Try.ty23 rfl
attribute [go_sem] Try.fa25x1
theorem Try.fa25x2 (t : Tmps) (w : AW) (x : Operand) : fast (prg Try.prog) t w (.fieldAddr 25 x 2) = fieldOff (ev t x) 2 := fast_fieldAddr (fd := { name := "Metal", type := 3, offset := 2, embedded := false, tag := "", pkgPath := "", byteOffset := 48 }) Try.ty25 rfl Try.ty3 rfl
attribute [go_sem] Try.fa25x2
theorem Try.fa25x3 (t : Tmps) (w : AW) (x : Operand) : fast (prg Try.prog) t w (.fieldAddr 25 x 3) = fieldOff (ev t x) 3 := fast_fieldAddr (fd := { name := "Day", type := 3, offset := 3, embedded := false, tag := "", pkgPath := "", byteOffset := 56 }) Try.ty25 rfl Try.ty3 rfl
attribute [go_sem] Try.fa25x3
theorem Try.fa25x4 (t : Tmps) (w : AW) (x : Operand) : fast (prg Try.prog) t w (.fieldAddr 25 x 4) = fieldOff (ev t x) 4 := fast_fieldAddr (fd := { name := "Few", type := 3, offset := 4, embedded := false, tag := "", pkgPath := "", byteOffset := 64 }) Try.ty25 rfl Try.ty3 rfl
attribute [go_sem] Try.fa25x4
theorem Try.bd66 (t : Tmps) (w : AW) (l : List (Nat × Operand)) : fast (prg Try.prog) t w (.build 66 ⟨l⟩) = bldQ [(0, 1), (1, 1), (2, 1), (3, 1), (4, 1)] [.int .i64 0, .int .i64 0, .int .i64 0, .int .i64 0, .int .i64 0] (l.map fun p => (p.1, ev t p.2)) := fast_build (zs := [.int .i64 0, .int .i64 0, .int .i64 0, .int .i64 0, .int .i64 0]) Try.ty66 (by kernel_rfl)
attribute [go_sem] Try.bd66
theorem Try.fa66x0 (t : Tmps) (w : AW) (x : Operand) : fast (prg Try.prog) t w (.fieldAddr 66 x 0) = fieldOff (ev t x) 0 := fast_fieldAddr (fd := { name := "Kind", type := 3, offset := 0, embedded := false, tag := "", pkgPath := "", byteOffset := 0 }) Try.ty66 rfl Try.ty3 rfl
attribute [go_sem] Try.fa66x0
theorem Try.fa66x1 (t : Tmps) (w : AW) (x : Operand) : fast (prg Try.prog) t w (.fieldAddr 66 x 1) = fieldOff (ev t x) 1 := fast_fieldAddr (fd := { name := "Day", type := 3, offset := 1, embedded := false, tag := "", pkgPath := "", byteOffset := 8 }) Try.ty66 rfl Try.ty3 rfl
attribute [go_sem] Try.fa66x1
theorem Try.fa66x2 (t : Tmps) (w : AW) (x : Operand) : fast (prg Try.prog) t w (.fieldAddr 66 x 2) = fieldOff (ev t x) 2 := fast_fieldAddr (fd := { name := "Weight", type := 3, offset := 2, embedded := false, tag := "", pkgPath := "", byteOffset := 16 }) Try.ty66 rfl Try.ty3 rfl
attribute [go_sem] Try.fa66x2
theorem Try.fa66x3 (t : Tmps) (w : AW) (x : Operand) : fast (prg Try.prog) t w (.fieldAddr 66 x 3) = fieldOff (ev t x) 3 := fast_fieldAddr (fd := { name := "Metal", type := 3, offset := 3, embedded := false, tag := "", pkgPath := "", byteOffset := 24 }) Try.ty66 rfl Try.ty3 rfl
attribute [go_sem] Try.fa66x3
theorem Try.fa66x4 (t : Tmps) (w : AW) (x : Operand) : fast (prg Try.prog) t w (.fieldAddr 66 x 4) = fieldOff (ev t x) 4 := fast_fieldAddr (fd := { name := "Price", type := 3, offset := 4, embedded := false, tag := "", pkgPath := "", byteOffset := 32 }) Try.ty66 rfl Try.ty3 rfl
attribute [go_sem] Try.fa66x4
theorem Try.bd29 (t : Tmps) (w : AW) (l : List (Nat × Operand)) : fast (prg Try.prog) t w (.build 29 ⟨l⟩) = bldQ [(0, 1), (1, 2)] [.int .i64 0, .int .i64 0, .int .i64 0] (l.map fun p => (p.1, ev t p.2)) := fast_build (zs := [.int .i64 0, .int .i64 0, .int .i64 0]) Try.ty29 (by kernel_rfl)
attribute [go_sem] Try.bd29
theorem Try.fa29x0 (t : Tmps) (w : AW) (x : Operand) : fast (prg Try.prog) t w (.fieldAddr 29 x 0) = fieldOff (ev t x) 0 := fast_fieldAddr (fd := { name := "Kind", type := 3, offset := 0, embedded := false, tag := "", pkgPath := "", byteOffset := 0 }) Try.ty29 rfl Try.ty3 rfl
attribute [go_sem] Try.fa29x0
theorem Try.fa29x1 (t : Tmps) (w : AW) (x : Operand) : fast (prg Try.prog) t w (.fieldAddr 29 x 1) = fieldOff (ev t x) 1 := fast_fieldAddr (fd := { name := "Weight", type := 27, offset := 1, embedded := false, tag := "", pkgPath := "", byteOffset := 8 }) Try.ty29 rfl Try.ty27 rfl
attribute [go_sem] Try.fa29x1
theorem Try.bd123 (t : Tmps) (w : AW) (l : List (Nat × Operand)) : fast (prg Try.prog) t w (.build 123 ⟨l⟩) = bldQ [(0, 1), (1, 1)] [.int .i64 0, .int .i64 0] (l.map fun p => (p.1, ev t p.2)) := fast_build (zs := [.int .i64 0, .int .i64 0]) Try.ty123 (by kernel_rfl)
attribute [go_sem] Try.bd123
theorem Try.fa123x0 (t : Tmps) (w : AW) (x : Operand) : fast (prg Try.prog) t w (.fieldAddr 123 x 0) = fieldOff (ev t x) 0 := fast_fieldAddr (fd := { name := "share", type := 3, offset := 0, embedded := false, tag := "", pkgPath := "lombard/loan", byteOffset := 0 }) Try.ty123 rfl Try.ty3 rfl
attribute [go_sem] Try.fa123x0
theorem Try.fa123x1 (t : Tmps) (w : AW) (x : Operand) : fast (prg Try.prog) t w (.fieldAddr 123 x 1) = fieldOff (ev t x) 1 := fast_fieldAddr (fd := { name := "day", type := 3, offset := 1, embedded := false, tag := "", pkgPath := "lombard/loan", byteOffset := 8 }) Try.ty123 rfl Try.ty3 rfl
attribute [go_sem] Try.fa123x1
end Go.Proofs

/- Facts on this program's types. -/
namespace Go.Proofs
open Go Go.RowKit Go.Sim
set_option maxRecDepth 100000
theorem Try.ty113 : (prg Try.prog).ty 113 = some ⟨true, (.struct #[{ name := "days", type := 3, offset := 0, embedded := false, tag := "", pkgPath := "lombard/loan", byteOffset := 0 }, { name := "lawful", type := 3, offset := 1, embedded := false, tag := "", pkgPath := "lombard/loan", byteOffset := 8 }, { name := "charged", type := 3, offset := 2, embedded := false, tag := "", pkgPath := "lombard/loan", byteOffset := 16 }, { name := "fees", type := 3, offset := 3, embedded := false, tag := "", pkgPath := "lombard/loan", byteOffset := 24 }]), 4, 32, .agg #[.int .i64 0, .int .i64 0, .int .i64 0, .int .i64 0]⟩ := by kernel_rfl
attribute [go_sem] Try.ty113
theorem Try.ty115 : (prg Try.prog).ty 115 = some ⟨true, (.struct #[{ name := "Account", type := 70, offset := 0, embedded := true, tag := "", pkgPath := "", byteOffset := 0 }, { name := "deal", type := 56, offset := 5, embedded := false, tag := "", pkgPath := "lombard/loan", byteOffset := 40 }, { name := "sums", type := 113, offset := 15, embedded := false, tag := "", pkgPath := "lombard/loan", byteOffset := 136 }, { name := "day", type := 3, offset := 19, embedded := false, tag := "", pkgPath := "lombard/loan", byteOffset := 168 }, { name := "held", type := 3, offset := 20, embedded := false, tag := "", pkgPath := "lombard/loan", byteOffset := 176 }]), 21, 184, .agg #[.int .i64 0, .int .i64 0, .int .i64 0, .int .i64 0, .bool false, .int .i64 0, .int .i64 0, .int .i64 0, .int .i64 0, .int .i64 0, .int .i64 0, .int .i64 0, .slice none 0 0, .int .i64 0, .int .i64 0, .int .i64 0, .int .i64 0, .int .i64 0, .int .i64 0, .int .i64 0, .int .i64 0]⟩ := by kernel_rfl
attribute [go_sem] Try.ty115
theorem Try.ty70 : (prg Try.prog).ty 70 = some ⟨true, (.struct #[{ name := "Principal", type := 3, offset := 0, embedded := false, tag := "", pkgPath := "", byteOffset := 0 }, { name := "Charged", type := 3, offset := 1, embedded := false, tag := "", pkgPath := "", byteOffset := 8 }, { name := "Paid", type := 3, offset := 2, embedded := false, tag := "", pkgPath := "", byteOffset := 16 }, { name := "Age", type := 3, offset := 3, embedded := false, tag := "", pkgPath := "", byteOffset := 24 }, { name := "Open", type := 4, offset := 4, embedded := false, tag := "", pkgPath := "", byteOffset := 32 }]), 5, 40, .agg #[.int .i64 0, .int .i64 0, .int .i64 0, .int .i64 0, .bool false]⟩ := by kernel_rfl
attribute [go_sem] Try.ty70
theorem Try.ty155 : (prg Try.prog).ty 155 = some ⟨true, (.struct #[{ name := "Day", type := 3, offset := 0, embedded := false, tag := "", pkgPath := "", byteOffset := 0 }, { name := "Kind", type := 3, offset := 1, embedded := false, tag := "", pkgPath := "", byteOffset := 8 }, { name := "N", type := 3, offset := 2, embedded := false, tag := "", pkgPath := "", byteOffset := 16 }]), 3, 24, .agg #[.int .i64 0, .int .i64 0, .int .i64 0]⟩ := by kernel_rfl
attribute [go_sem] Try.ty155
theorem Try.ty174 : (prg Try.prog).ty 174 = some ⟨true, (.struct #[{ name := "Day", type := 3, offset := 0, embedded := false, tag := "", pkgPath := "", byteOffset := 0 }, { name := "Kind", type := 3, offset := 1, embedded := false, tag := "", pkgPath := "", byteOffset := 8 }, { name := "N", type := 3, offset := 2, embedded := false, tag := "", pkgPath := "", byteOffset := 16 }]), 3, 24, .agg #[.int .i64 0, .int .i64 0, .int .i64 0]⟩ := by kernel_rfl
attribute [go_sem] Try.ty174
theorem Try.ty175 : (prg Try.prog).ty 175 = some ⟨true, (.struct #[{ name := "Day", type := 3, offset := 0, embedded := false, tag := "", pkgPath := "", byteOffset := 0 }, { name := "Kind", type := 3, offset := 1, embedded := false, tag := "", pkgPath := "", byteOffset := 8 }, { name := "N", type := 3, offset := 2, embedded := false, tag := "", pkgPath := "", byteOffset := 16 }]), 3, 24, .agg #[.int .i64 0, .int .i64 0, .int .i64 0]⟩ := by kernel_rfl
attribute [go_sem] Try.ty175
theorem Try.ty176 : (prg Try.prog).ty 176 = some ⟨true, (.struct #[{ name := "Day", type := 3, offset := 0, embedded := false, tag := "", pkgPath := "", byteOffset := 0 }, { name := "Kind", type := 3, offset := 1, embedded := false, tag := "", pkgPath := "", byteOffset := 8 }, { name := "N", type := 3, offset := 2, embedded := false, tag := "", pkgPath := "", byteOffset := 16 }]), 3, 24, .agg #[.int .i64 0, .int .i64 0, .int .i64 0]⟩ := by kernel_rfl
attribute [go_sem] Try.ty176
theorem Try.ty79 : (prg Try.prog).ty 79 = some ⟨true, (.struct #[{ name := "Day", type := 3, offset := 0, embedded := false, tag := "", pkgPath := "", byteOffset := 0 }, { name := "Kind", type := 3, offset := 1, embedded := false, tag := "", pkgPath := "", byteOffset := 8 }, { name := "N", type := 3, offset := 2, embedded := false, tag := "", pkgPath := "", byteOffset := 16 }]), 3, 24, .agg #[.int .i64 0, .int .i64 0, .int .i64 0]⟩ := by kernel_rfl
attribute [go_sem] Try.ty79
theorem Try.ty68 : (prg Try.prog).ty 68 = some ⟨false, (.slice 79), 1, 24, .slice none 0 0⟩ := by kernel_rfl
attribute [go_sem] Try.ty68
theorem Try.ty73 : (prg Try.prog).ty 73 = some ⟨false, (.slice 70), 1, 24, .slice none 0 0⟩ := by kernel_rfl
attribute [go_sem] Try.ty73
theorem Try.ty158 : (prg Try.prog).ty 158 = some ⟨true, (.array 5 156), 5, 40, .agg #[.nilFunc, .nilFunc, .nilFunc, .nilFunc, .nilFunc]⟩ := by kernel_rfl
attribute [go_sem] Try.ty158
theorem Try.ty156 : (prg Try.prog).ty 156 = some ⟨false, (.func #[109, 3] #[30] false), 1, 8, .nilFunc⟩ := by kernel_rfl
attribute [go_sem] Try.ty156
-- type 153: not written
theorem Try.bd113 (t : Tmps) (w : AW) (l : List (Nat × Operand)) : fast (prg Try.prog) t w (.build 113 ⟨l⟩) = bldQ [(0, 1), (1, 1), (2, 1), (3, 1)] [.int .i64 0, .int .i64 0, .int .i64 0, .int .i64 0] (l.map fun p => (p.1, ev t p.2)) := fast_build (zs := [.int .i64 0, .int .i64 0, .int .i64 0, .int .i64 0]) Try.ty113 (by kernel_rfl)
attribute [go_sem] Try.bd113
theorem Try.fa113x0 (t : Tmps) (w : AW) (x : Operand) : fast (prg Try.prog) t w (.fieldAddr 113 x 0) = fieldOff (ev t x) 0 := fast_fieldAddr (fd := { name := "days", type := 3, offset := 0, embedded := false, tag := "", pkgPath := "lombard/loan", byteOffset := 0 }) Try.ty113 rfl Try.ty3 rfl
attribute [go_sem] Try.fa113x0
theorem Try.fa113x1 (t : Tmps) (w : AW) (x : Operand) : fast (prg Try.prog) t w (.fieldAddr 113 x 1) = fieldOff (ev t x) 1 := fast_fieldAddr (fd := { name := "lawful", type := 3, offset := 1, embedded := false, tag := "", pkgPath := "lombard/loan", byteOffset := 8 }) Try.ty113 rfl Try.ty3 rfl
attribute [go_sem] Try.fa113x1
theorem Try.fa113x2 (t : Tmps) (w : AW) (x : Operand) : fast (prg Try.prog) t w (.fieldAddr 113 x 2) = fieldOff (ev t x) 2 := fast_fieldAddr (fd := { name := "charged", type := 3, offset := 2, embedded := false, tag := "", pkgPath := "lombard/loan", byteOffset := 16 }) Try.ty113 rfl Try.ty3 rfl
attribute [go_sem] Try.fa113x2
theorem Try.fa113x3 (t : Tmps) (w : AW) (x : Operand) : fast (prg Try.prog) t w (.fieldAddr 113 x 3) = fieldOff (ev t x) 3 := fast_fieldAddr (fd := { name := "fees", type := 3, offset := 3, embedded := false, tag := "", pkgPath := "lombard/loan", byteOffset := 24 }) Try.ty113 rfl Try.ty3 rfl
attribute [go_sem] Try.fa113x3
theorem Try.bd115 (t : Tmps) (w : AW) (l : List (Nat × Operand)) : fast (prg Try.prog) t w (.build 115 ⟨l⟩) = bldQ [(0, 5), (5, 10), (15, 4), (19, 1), (20, 1)] [.int .i64 0, .int .i64 0, .int .i64 0, .int .i64 0, .bool false, .int .i64 0, .int .i64 0, .int .i64 0, .int .i64 0, .int .i64 0, .int .i64 0, .int .i64 0, .slice none 0 0, .int .i64 0, .int .i64 0, .int .i64 0, .int .i64 0, .int .i64 0, .int .i64 0, .int .i64 0, .int .i64 0] (l.map fun p => (p.1, ev t p.2)) := fast_build (zs := [.int .i64 0, .int .i64 0, .int .i64 0, .int .i64 0, .bool false, .int .i64 0, .int .i64 0, .int .i64 0, .int .i64 0, .int .i64 0, .int .i64 0, .int .i64 0, .slice none 0 0, .int .i64 0, .int .i64 0, .int .i64 0, .int .i64 0, .int .i64 0, .int .i64 0, .int .i64 0, .int .i64 0]) Try.ty115 (by kernel_rfl)
attribute [go_sem] Try.bd115
theorem Try.fa115x0 (t : Tmps) (w : AW) (x : Operand) : fast (prg Try.prog) t w (.fieldAddr 115 x 0) = fieldOff (ev t x) 0 := fast_fieldAddr (fd := { name := "Account", type := 70, offset := 0, embedded := true, tag := "", pkgPath := "", byteOffset := 0 }) Try.ty115 rfl Try.ty70 rfl
attribute [go_sem] Try.fa115x0
theorem Try.fa115x1 (t : Tmps) (w : AW) (x : Operand) : fast (prg Try.prog) t w (.fieldAddr 115 x 1) = fieldOff (ev t x) 5 := fast_fieldAddr (fd := { name := "deal", type := 56, offset := 5, embedded := false, tag := "", pkgPath := "lombard/loan", byteOffset := 40 }) Try.ty115 rfl Try.ty56 rfl
attribute [go_sem] Try.fa115x1
theorem Try.fa115x2 (t : Tmps) (w : AW) (x : Operand) : fast (prg Try.prog) t w (.fieldAddr 115 x 2) = fieldOff (ev t x) 15 := fast_fieldAddr (fd := { name := "sums", type := 113, offset := 15, embedded := false, tag := "", pkgPath := "lombard/loan", byteOffset := 136 }) Try.ty115 rfl Try.ty113 rfl
attribute [go_sem] Try.fa115x2
theorem Try.fa115x3 (t : Tmps) (w : AW) (x : Operand) : fast (prg Try.prog) t w (.fieldAddr 115 x 3) = fieldOff (ev t x) 19 := fast_fieldAddr (fd := { name := "day", type := 3, offset := 19, embedded := false, tag := "", pkgPath := "lombard/loan", byteOffset := 168 }) Try.ty115 rfl Try.ty3 rfl
attribute [go_sem] Try.fa115x3
theorem Try.fa115x4 (t : Tmps) (w : AW) (x : Operand) : fast (prg Try.prog) t w (.fieldAddr 115 x 4) = fieldOff (ev t x) 20 := fast_fieldAddr (fd := { name := "held", type := 3, offset := 20, embedded := false, tag := "", pkgPath := "lombard/loan", byteOffset := 176 }) Try.ty115 rfl Try.ty3 rfl
attribute [go_sem] Try.fa115x4
theorem Try.bd70 (t : Tmps) (w : AW) (l : List (Nat × Operand)) : fast (prg Try.prog) t w (.build 70 ⟨l⟩) = bldQ [(0, 1), (1, 1), (2, 1), (3, 1), (4, 1)] [.int .i64 0, .int .i64 0, .int .i64 0, .int .i64 0, .bool false] (l.map fun p => (p.1, ev t p.2)) := fast_build (zs := [.int .i64 0, .int .i64 0, .int .i64 0, .int .i64 0, .bool false]) Try.ty70 (by kernel_rfl)
attribute [go_sem] Try.bd70
theorem Try.fa70x0 (t : Tmps) (w : AW) (x : Operand) : fast (prg Try.prog) t w (.fieldAddr 70 x 0) = fieldOff (ev t x) 0 := fast_fieldAddr (fd := { name := "Principal", type := 3, offset := 0, embedded := false, tag := "", pkgPath := "", byteOffset := 0 }) Try.ty70 rfl Try.ty3 rfl
attribute [go_sem] Try.fa70x0
theorem Try.fa70x1 (t : Tmps) (w : AW) (x : Operand) : fast (prg Try.prog) t w (.fieldAddr 70 x 1) = fieldOff (ev t x) 1 := fast_fieldAddr (fd := { name := "Charged", type := 3, offset := 1, embedded := false, tag := "", pkgPath := "", byteOffset := 8 }) Try.ty70 rfl Try.ty3 rfl
attribute [go_sem] Try.fa70x1
theorem Try.fa70x2 (t : Tmps) (w : AW) (x : Operand) : fast (prg Try.prog) t w (.fieldAddr 70 x 2) = fieldOff (ev t x) 2 := fast_fieldAddr (fd := { name := "Paid", type := 3, offset := 2, embedded := false, tag := "", pkgPath := "", byteOffset := 16 }) Try.ty70 rfl Try.ty3 rfl
attribute [go_sem] Try.fa70x2
theorem Try.fa70x3 (t : Tmps) (w : AW) (x : Operand) : fast (prg Try.prog) t w (.fieldAddr 70 x 3) = fieldOff (ev t x) 3 := fast_fieldAddr (fd := { name := "Age", type := 3, offset := 3, embedded := false, tag := "", pkgPath := "", byteOffset := 24 }) Try.ty70 rfl Try.ty3 rfl
attribute [go_sem] Try.fa70x3
theorem Try.fa70x4 (t : Tmps) (w : AW) (x : Operand) : fast (prg Try.prog) t w (.fieldAddr 70 x 4) = fieldOff (ev t x) 4 := fast_fieldAddr (fd := { name := "Open", type := 4, offset := 4, embedded := false, tag := "", pkgPath := "", byteOffset := 32 }) Try.ty70 rfl Try.ty4 rfl
attribute [go_sem] Try.fa70x4
theorem Try.bd155 (t : Tmps) (w : AW) (l : List (Nat × Operand)) : fast (prg Try.prog) t w (.build 155 ⟨l⟩) = bldQ [(0, 1), (1, 1), (2, 1)] [.int .i64 0, .int .i64 0, .int .i64 0] (l.map fun p => (p.1, ev t p.2)) := fast_build (zs := [.int .i64 0, .int .i64 0, .int .i64 0]) Try.ty155 (by kernel_rfl)
attribute [go_sem] Try.bd155
theorem Try.fa155x0 (t : Tmps) (w : AW) (x : Operand) : fast (prg Try.prog) t w (.fieldAddr 155 x 0) = fieldOff (ev t x) 0 := fast_fieldAddr (fd := { name := "Day", type := 3, offset := 0, embedded := false, tag := "", pkgPath := "", byteOffset := 0 }) Try.ty155 rfl Try.ty3 rfl
attribute [go_sem] Try.fa155x0
theorem Try.fa155x1 (t : Tmps) (w : AW) (x : Operand) : fast (prg Try.prog) t w (.fieldAddr 155 x 1) = fieldOff (ev t x) 1 := fast_fieldAddr (fd := { name := "Kind", type := 3, offset := 1, embedded := false, tag := "", pkgPath := "", byteOffset := 8 }) Try.ty155 rfl Try.ty3 rfl
attribute [go_sem] Try.fa155x1
theorem Try.fa155x2 (t : Tmps) (w : AW) (x : Operand) : fast (prg Try.prog) t w (.fieldAddr 155 x 2) = fieldOff (ev t x) 2 := fast_fieldAddr (fd := { name := "N", type := 3, offset := 2, embedded := false, tag := "", pkgPath := "", byteOffset := 16 }) Try.ty155 rfl Try.ty3 rfl
attribute [go_sem] Try.fa155x2
theorem Try.bd174 (t : Tmps) (w : AW) (l : List (Nat × Operand)) : fast (prg Try.prog) t w (.build 174 ⟨l⟩) = bldQ [(0, 1), (1, 1), (2, 1)] [.int .i64 0, .int .i64 0, .int .i64 0] (l.map fun p => (p.1, ev t p.2)) := fast_build (zs := [.int .i64 0, .int .i64 0, .int .i64 0]) Try.ty174 (by kernel_rfl)
attribute [go_sem] Try.bd174
theorem Try.fa174x0 (t : Tmps) (w : AW) (x : Operand) : fast (prg Try.prog) t w (.fieldAddr 174 x 0) = fieldOff (ev t x) 0 := fast_fieldAddr (fd := { name := "Day", type := 3, offset := 0, embedded := false, tag := "", pkgPath := "", byteOffset := 0 }) Try.ty174 rfl Try.ty3 rfl
attribute [go_sem] Try.fa174x0
theorem Try.fa174x1 (t : Tmps) (w : AW) (x : Operand) : fast (prg Try.prog) t w (.fieldAddr 174 x 1) = fieldOff (ev t x) 1 := fast_fieldAddr (fd := { name := "Kind", type := 3, offset := 1, embedded := false, tag := "", pkgPath := "", byteOffset := 8 }) Try.ty174 rfl Try.ty3 rfl
attribute [go_sem] Try.fa174x1
theorem Try.fa174x2 (t : Tmps) (w : AW) (x : Operand) : fast (prg Try.prog) t w (.fieldAddr 174 x 2) = fieldOff (ev t x) 2 := fast_fieldAddr (fd := { name := "N", type := 3, offset := 2, embedded := false, tag := "", pkgPath := "", byteOffset := 16 }) Try.ty174 rfl Try.ty3 rfl
attribute [go_sem] Try.fa174x2
theorem Try.bd175 (t : Tmps) (w : AW) (l : List (Nat × Operand)) : fast (prg Try.prog) t w (.build 175 ⟨l⟩) = bldQ [(0, 1), (1, 1), (2, 1)] [.int .i64 0, .int .i64 0, .int .i64 0] (l.map fun p => (p.1, ev t p.2)) := fast_build (zs := [.int .i64 0, .int .i64 0, .int .i64 0]) Try.ty175 (by kernel_rfl)
attribute [go_sem] Try.bd175
theorem Try.fa175x0 (t : Tmps) (w : AW) (x : Operand) : fast (prg Try.prog) t w (.fieldAddr 175 x 0) = fieldOff (ev t x) 0 := fast_fieldAddr (fd := { name := "Day", type := 3, offset := 0, embedded := false, tag := "", pkgPath := "", byteOffset := 0 }) Try.ty175 rfl Try.ty3 rfl
attribute [go_sem] Try.fa175x0
theorem Try.fa175x1 (t : Tmps) (w : AW) (x : Operand) : fast (prg Try.prog) t w (.fieldAddr 175 x 1) = fieldOff (ev t x) 1 := fast_fieldAddr (fd := { name := "Kind", type := 3, offset := 1, embedded := false, tag := "", pkgPath := "", byteOffset := 8 }) Try.ty175 rfl Try.ty3 rfl
attribute [go_sem] Try.fa175x1
theorem Try.fa175x2 (t : Tmps) (w : AW) (x : Operand) : fast (prg Try.prog) t w (.fieldAddr 175 x 2) = fieldOff (ev t x) 2 := fast_fieldAddr (fd := { name := "N", type := 3, offset := 2, embedded := false, tag := "", pkgPath := "", byteOffset := 16 }) Try.ty175 rfl Try.ty3 rfl
attribute [go_sem] Try.fa175x2
theorem Try.bd176 (t : Tmps) (w : AW) (l : List (Nat × Operand)) : fast (prg Try.prog) t w (.build 176 ⟨l⟩) = bldQ [(0, 1), (1, 1), (2, 1)] [.int .i64 0, .int .i64 0, .int .i64 0] (l.map fun p => (p.1, ev t p.2)) := fast_build (zs := [.int .i64 0, .int .i64 0, .int .i64 0]) Try.ty176 (by kernel_rfl)
attribute [go_sem] Try.bd176
theorem Try.fa176x0 (t : Tmps) (w : AW) (x : Operand) : fast (prg Try.prog) t w (.fieldAddr 176 x 0) = fieldOff (ev t x) 0 := fast_fieldAddr (fd := { name := "Day", type := 3, offset := 0, embedded := false, tag := "", pkgPath := "", byteOffset := 0 }) Try.ty176 rfl Try.ty3 rfl
attribute [go_sem] Try.fa176x0
theorem Try.fa176x1 (t : Tmps) (w : AW) (x : Operand) : fast (prg Try.prog) t w (.fieldAddr 176 x 1) = fieldOff (ev t x) 1 := fast_fieldAddr (fd := { name := "Kind", type := 3, offset := 1, embedded := false, tag := "", pkgPath := "", byteOffset := 8 }) Try.ty176 rfl Try.ty3 rfl
attribute [go_sem] Try.fa176x1
theorem Try.fa176x2 (t : Tmps) (w : AW) (x : Operand) : fast (prg Try.prog) t w (.fieldAddr 176 x 2) = fieldOff (ev t x) 2 := fast_fieldAddr (fd := { name := "N", type := 3, offset := 2, embedded := false, tag := "", pkgPath := "", byteOffset := 16 }) Try.ty176 rfl Try.ty3 rfl
attribute [go_sem] Try.fa176x2
theorem Try.bd79 (t : Tmps) (w : AW) (l : List (Nat × Operand)) : fast (prg Try.prog) t w (.build 79 ⟨l⟩) = bldQ [(0, 1), (1, 1), (2, 1)] [.int .i64 0, .int .i64 0, .int .i64 0] (l.map fun p => (p.1, ev t p.2)) := fast_build (zs := [.int .i64 0, .int .i64 0, .int .i64 0]) Try.ty79 (by kernel_rfl)
attribute [go_sem] Try.bd79
theorem Try.fa79x0 (t : Tmps) (w : AW) (x : Operand) : fast (prg Try.prog) t w (.fieldAddr 79 x 0) = fieldOff (ev t x) 0 := fast_fieldAddr (fd := { name := "Day", type := 3, offset := 0, embedded := false, tag := "", pkgPath := "", byteOffset := 0 }) Try.ty79 rfl Try.ty3 rfl
attribute [go_sem] Try.fa79x0
theorem Try.fa79x1 (t : Tmps) (w : AW) (x : Operand) : fast (prg Try.prog) t w (.fieldAddr 79 x 1) = fieldOff (ev t x) 1 := fast_fieldAddr (fd := { name := "Kind", type := 3, offset := 1, embedded := false, tag := "", pkgPath := "", byteOffset := 8 }) Try.ty79 rfl Try.ty3 rfl
attribute [go_sem] Try.fa79x1
theorem Try.fa79x2 (t : Tmps) (w : AW) (x : Operand) : fast (prg Try.prog) t w (.fieldAddr 79 x 2) = fieldOff (ev t x) 2 := fast_fieldAddr (fd := { name := "N", type := 3, offset := 2, embedded := false, tag := "", pkgPath := "", byteOffset := 16 }) Try.ty79 rfl Try.ty3 rfl
attribute [go_sem] Try.fa79x2
theorem Try.ia68 (t : Tmps) (w : AW) (x y : Operand) : fast (prg Try.prog) t w (.indexAddr 68 x y) = indexV 3 (ev t x) (ev t y) := fast_indexAddr Try.ty68 Try.ty79
attribute [go_sem] Try.ia68
theorem Try.ln68 (t : Tmps) (w : AW) (x : Operand) : fast (prg Try.prog) t w (.call ⟨.builtin .len, ⟨[x]⟩, ⟨[68]⟩⟩) = lenV (ev t x) := fast_len Try.ty68
attribute [go_sem] Try.ln68
theorem Try.ia73 (t : Tmps) (w : AW) (x y : Operand) : fast (prg Try.prog) t w (.indexAddr 73 x y) = indexV 5 (ev t x) (ev t y) := fast_indexAddr Try.ty73 Try.ty70
attribute [go_sem] Try.ia73
theorem Try.ln73 (t : Tmps) (w : AW) (x : Operand) : fast (prg Try.prog) t w (.call ⟨.builtin .len, ⟨[x]⟩, ⟨[73]⟩⟩) = lenV (ev t x) := fast_len Try.ty73
attribute [go_sem] Try.ln73
theorem Try.bd158 (t : Tmps) (w : AW) : fast (prg Try.prog) t w (.build 158 ⟨[(1, .func 89), (2, .func 90), (3, .func 91), (4, .func 92)]⟩) = some (.agg #[.nilFunc, .func (.func 89) #[] #[], .func (.func 90) #[] #[], .func (.func 91) #[] #[], .func (.func 92) #[] #[]]) := by kernel_rfl
theorem Try.ia158 (t : Tmps) (w : AW) (x y : Operand) : fast (prg Try.prog) t w (.indexAddr 158 x y) = indexA 1 5 (ev t x) (ev t y) := fast_indexAddrA Try.ty158 Try.ty156
attribute [go_sem] Try.bd158 Try.ia158
def isI (x : Option TI) : Bool := match x with
  | some ⟨_, .interface _, _, _, _⟩ => true
  | _ => false
theorem Try.ty153 : isI ((prg Try.prog).ty 153) = true := by kernel_rfl
theorem isI_ex {x : Option TI} (h : isI x = true) : ∃ a ms n b z, x = some ⟨a, .interface ms, n, b, z⟩ := by
  unfold isI at h
  split at h
  · exact ⟨_, _, _, _, _, rfl⟩
  · cases h
def nilB : Value → Option Value
  | .nilIface => some (.bool true)
  | .iface _ _ => some (.bool false)
  | _ => none
theorem Try.nil153 (t : Tmps) (w : AW) (x : Operand) (r : TypeId) (y : Value) (h : nilB (ev t x) = some y) : fast (prg Try.prog) t w (.binOp .eql 153 x (.const .nilIface) r) = some y := by
  obtain ⟨a, ms, n, b, z, e⟩ := isI_ex Try.ty153
  generalize hv : ev t x = v at h
  cases v <;> simp only [nilB, reduceCtorEq] at h
  · injection h with h; subst h
    simp only [fast, hv, e, ev_const]; rfl
  · injection h with h; subst h
    simp only [fast, hv, e, ev_const]; rfl
end Go.Proofs

/- Facts on this program's types. -/
namespace Go.Proofs
open Go Go.RowKit Go.Sim
set_option maxRecDepth 100000
theorem Try.ty59 : (prg Try.prog).ty 59 = some ⟨true, (.array 3 3), 3, 24, .agg #[.int .i64 0, .int .i64 0, .int .i64 0]⟩ := by kernel_rfl
attribute [go_sem] Try.ty59
end Go.Proofs

/- Sums and accounts, compared. -/
namespace Go.Proofs
open Go Go.RowKit Go.Sim
set_option maxRecDepth 100000
theorem Try.agg3 : prun Try.prog (isAgg 3) = some false := by kernel_rfl
theorem Try.agg4 : prun Try.prog (isAgg 4) = some false := by kernel_rfl
theorem Try.un3 : Try.prog.underlying 3 = some (.int .i64) := by kernel_rfl
theorem Try.un4 : Try.prog.underlying 4 = some .bool := by kernel_rfl
theorem Try.un113 : Try.prog.underlying 113 = some (.struct #[{ name := "days", type := 3, offset := 0, embedded := false, tag := "", pkgPath := "lombard/loan", byteOffset := 0 }, { name := "lawful", type := 3, offset := 1, embedded := false, tag := "", pkgPath := "lombard/loan", byteOffset := 8 }, { name := "charged", type := 3, offset := 2, embedded := false, tag := "", pkgPath := "lombard/loan", byteOffset := 16 }, { name := "fees", type := 3, offset := 3, embedded := false, tag := "", pkgPath := "lombard/loan", byteOffset := 24 }]) := by kernel_rfl
theorem Try.un70 : Try.prog.underlying 70 = some (.struct #[{ name := "Principal", type := 3, offset := 0, embedded := false, tag := "", pkgPath := "", byteOffset := 0 }, { name := "Charged", type := 3, offset := 1, embedded := false, tag := "", pkgPath := "", byteOffset := 8 }, { name := "Paid", type := 3, offset := 2, embedded := false, tag := "", pkgPath := "", byteOffset := 16 }, { name := "Age", type := 3, offset := 3, embedded := false, tag := "", pkgPath := "", byteOffset := 24 }, { name := "Open", type := 4, offset := 4, embedded := false, tag := "", pkgPath := "", byteOffset := 32 }]) := by kernel_rfl
theorem Try.eq113 (a b c d a' b' c' d' : Int) : eqQ Try.prog .eql 113 (.agg #[.int .i64 a, .int .i64 b, .int .i64 c, .int .i64 d]) (.agg #[.int .i64 a', .int .i64 b', .int .i64 c', .int .i64 d']) = some (.bool ([a == a', b == b', c == c', d == d'].all id)) := by
  refine eqQ_eql (by kernel_rfl) rfl (eqStruct Try.un113 (by kernel_rfl) (n := 9999) ?_)
  refine .cons (eqF_int (k := .i64) (by decide) Try.un3 Try.agg3 rfl rfl) (.cons (eqF_int (k := .i64) (by decide) Try.un3 Try.agg3 rfl rfl) (.cons (eqF_int (k := .i64) (by decide) Try.un3 Try.agg3 rfl rfl) (.cons (eqF_int (k := .i64) (by decide) Try.un3 Try.agg3 rfl rfl) .nil)))
theorem Try.eq70 (a b c d : Int) (p : Bool) (a' b' c' d' : Int) (p' : Bool) : eqQ Try.prog .eql 70 (.agg #[.int .i64 a, .int .i64 b, .int .i64 c, .int .i64 d, .bool p]) (.agg #[.int .i64 a', .int .i64 b', .int .i64 c', .int .i64 d', .bool p']) = some (.bool ([a == a', b == b', c == c', d == d', p == p'].all id)) := by
  refine eqQ_eql (by kernel_rfl) rfl (eqStruct Try.un70 (by kernel_rfl) (n := 9999) ?_)
  refine .cons (eqF_int (k := .i64) (by decide) Try.un3 Try.agg3 rfl rfl) (.cons (eqF_int (k := .i64) (by decide) Try.un3 Try.agg3 rfl rfl) (.cons (eqF_int (k := .i64) (by decide) Try.un3 Try.agg3 rfl rfl) (.cons (eqF_int (k := .i64) (by decide) Try.un3 Try.agg3 rfl rfl) (.cons (eqF_bool (by decide) Try.un4 Try.agg4 rfl rfl) .nil))))
theorem binQ_aggs (op : BinOp) (a b : Array Value) : binQ op (.agg a) (.agg b) = none := rfl
attribute [go_sem] Try.eq113 Try.eq70 binQ_aggs
end Go.Proofs
