/- This program's types, and what the machine is told of it in open calls. -/
import Derived.Test.YtdbeiefgokocnaaNb
import Derived.Test.YtdbeiefgokocnaaChecked
import Derived.Test.YtdbeiefgokocnaaWa
set_option linter.unusedVariables false
set_option linter.unusedSimpArgs false
/- Facts on this program's types. -/
namespace Go.Proofs
open Go Go.RowKit Go.Sim
set_option maxRecDepth 100000
theorem Try.ty3 : (prg Try.prog).ty 3 = some ⟨false, (.int .i64), 1, 8, .int .i64 0⟩ := by kernel_rfl
attribute [go_sem] Try.ty3
theorem Try.ty4 : (prg Try.prog).ty 4 = some ⟨false, .bool, 1, 1, .bool false⟩ := by kernel_rfl
attribute [go_sem] Try.ty4
theorem Try.ty23 : (prg Try.prog).ty 23 = some ⟨false, (.slice 3), 1, 24, .slice none 0 0⟩ := by kernel_rfl
attribute [go_sem] Try.ty23
theorem Try.ty30 : (prg Try.prog).ty 30 = some ⟨false, (.int .i64), 1, 8, .int .i64 0⟩ := by kernel_rfl
attribute [go_sem] Try.ty30
theorem Try.ty52 : (prg Try.prog).ty 52 = some ⟨true, (.struct #[{ name := "Rate", type := 3, offset := 0, embedded := false, tag := "", pkgPath := "", byteOffset := 0 }, { name := "Cap", type := 3, offset := 1, embedded := false, tag := "", pkgPath := "", byteOffset := 8 }]), 2, 16, .agg #[.int .i64 0, .int .i64 0]⟩ := by kernel_rfl
attribute [go_sem] Try.ty52
theorem Try.ty54 : (prg Try.prog).ty 54 = some ⟨true, (.struct #[{ name := "Rate", type := 3, offset := 0, embedded := false, tag := "", pkgPath := "", byteOffset := 0 }, { name := "Free", type := 3, offset := 1, embedded := false, tag := "", pkgPath := "", byteOffset := 8 }, { name := "Fee", type := 3, offset := 2, embedded := false, tag := "", pkgPath := "", byteOffset := 16 }, { name := "Term", type := 3, offset := 3, embedded := false, tag := "", pkgPath := "", byteOffset := 24 }, { name := "Grace", type := 3, offset := 4, embedded := false, tag := "", pkgPath := "", byteOffset := 32 }]), 5, 40, .agg #[.int .i64 0, .int .i64 0, .int .i64 0, .int .i64 0, .int .i64 0]⟩ := by kernel_rfl
attribute [go_sem] Try.ty54
theorem Try.ty56 : (prg Try.prog).ty 56 = some ⟨true, (.struct #[{ name := "Law", type := 52, offset := 0, embedded := false, tag := "", pkgPath := "", byteOffset := 0 }, { name := "Tariff", type := 54, offset := 2, embedded := false, tag := "", pkgPath := "", byteOffset := 16 }, { name := "Closed", type := 23, offset := 7, embedded := false, tag := "", pkgPath := "", byteOffset := 56 }, { name := "Start", type := 3, offset := 8, embedded := false, tag := "", pkgPath := "", byteOffset := 80 }, { name := "Sum", type := 3, offset := 9, embedded := false, tag := "", pkgPath := "", byteOffset := 88 }]), 10, 96, .agg #[.int .i64 0, .int .i64 0, .int .i64 0, .int .i64 0, .int .i64 0, .int .i64 0, .int .i64 0, .slice none 0 0, .int .i64 0, .int .i64 0]⟩ := by kernel_rfl
attribute [go_sem] Try.ty56
theorem Try.ia23 (t : Tmps) (w : AW) (x y : Operand) : fast (prg Try.prog) t w (.indexAddr 23 x y) = indexV 1 (ev t x) (ev t y) := fast_indexAddr Try.ty23 Try.ty3
attribute [go_sem] Try.ia23
theorem Try.ln23 (t : Tmps) (w : AW) (x : Operand) : fast (prg Try.prog) t w (.call ⟨.builtin .len, ⟨[x]⟩, ⟨[23]⟩⟩) = lenV (ev t x) := fast_len Try.ty23
attribute [go_sem] Try.ln23
theorem Try.bd52 (t : Tmps) (w : AW) (l : List (Nat × Operand)) : fast (prg Try.prog) t w (.build 52 ⟨l⟩) = bldQ [(0, 1), (1, 1)] [.int .i64 0, .int .i64 0] (l.map fun p => (p.1, ev t p.2)) := fast_build (zs := [.int .i64 0, .int .i64 0]) Try.ty52 (by kernel_rfl)
attribute [go_sem] Try.bd52
theorem Try.fa52x0 (t : Tmps) (w : AW) (x : Operand) : fast (prg Try.prog) t w (.fieldAddr 52 x 0) = fieldOff (ev t x) 0 := fast_fieldAddr (fd := { name := "Rate", type := 3, offset := 0, embedded := false, tag := "", pkgPath := "", byteOffset := 0 }) Try.ty52 rfl Try.ty3 rfl
attribute [go_sem] Try.fa52x0
theorem Try.fa52x1 (t : Tmps) (w : AW) (x : Operand) : fast (prg Try.prog) t w (.fieldAddr 52 x 1) = fieldOff (ev t x) 1 := fast_fieldAddr (fd := { name := "Cap", type := 3, offset := 1, embedded := false, tag := "", pkgPath := "", byteOffset := 8 }) Try.ty52 rfl Try.ty3 rfl
attribute [go_sem] Try.fa52x1
theorem Try.bd54 (t : Tmps) (w : AW) (l : List (Nat × Operand)) : fast (prg Try.prog) t w (.build 54 ⟨l⟩) = bldQ [(0, 1), (1, 1), (2, 1), (3, 1), (4, 1)] [.int .i64 0, .int .i64 0, .int .i64 0, .int .i64 0, .int .i64 0] (l.map fun p => (p.1, ev t p.2)) := fast_build (zs := [.int .i64 0, .int .i64 0, .int .i64 0, .int .i64 0, .int .i64 0]) Try.ty54 (by kernel_rfl)
attribute [go_sem] Try.bd54
theorem Try.fa54x0 (t : Tmps) (w : AW) (x : Operand) : fast (prg Try.prog) t w (.fieldAddr 54 x 0) = fieldOff (ev t x) 0 := fast_fieldAddr (fd := { name := "Rate", type := 3, offset := 0, embedded := false, tag := "", pkgPath := "", byteOffset := 0 }) Try.ty54 rfl Try.ty3 rfl
attribute [go_sem] Try.fa54x0
theorem Try.fa54x1 (t : Tmps) (w : AW) (x : Operand) : fast (prg Try.prog) t w (.fieldAddr 54 x 1) = fieldOff (ev t x) 1 := fast_fieldAddr (fd := { name := "Free", type := 3, offset := 1, embedded := false, tag := "", pkgPath := "", byteOffset := 8 }) Try.ty54 rfl Try.ty3 rfl
attribute [go_sem] Try.fa54x1
theorem Try.fa54x2 (t : Tmps) (w : AW) (x : Operand) : fast (prg Try.prog) t w (.fieldAddr 54 x 2) = fieldOff (ev t x) 2 := fast_fieldAddr (fd := { name := "Fee", type := 3, offset := 2, embedded := false, tag := "", pkgPath := "", byteOffset := 16 }) Try.ty54 rfl Try.ty3 rfl
attribute [go_sem] Try.fa54x2
theorem Try.fa54x3 (t : Tmps) (w : AW) (x : Operand) : fast (prg Try.prog) t w (.fieldAddr 54 x 3) = fieldOff (ev t x) 3 := fast_fieldAddr (fd := { name := "Term", type := 3, offset := 3, embedded := false, tag := "", pkgPath := "", byteOffset := 24 }) Try.ty54 rfl Try.ty3 rfl
attribute [go_sem] Try.fa54x3
theorem Try.fa54x4 (t : Tmps) (w : AW) (x : Operand) : fast (prg Try.prog) t w (.fieldAddr 54 x 4) = fieldOff (ev t x) 4 := fast_fieldAddr (fd := { name := "Grace", type := 3, offset := 4, embedded := false, tag := "", pkgPath := "", byteOffset := 32 }) Try.ty54 rfl Try.ty3 rfl
attribute [go_sem] Try.fa54x4
theorem Try.bd56 (t : Tmps) (w : AW) (l : List (Nat × Operand)) : fast (prg Try.prog) t w (.build 56 ⟨l⟩) = bldQ [(0, 2), (2, 5), (7, 1), (8, 1), (9, 1)] [.int .i64 0, .int .i64 0, .int .i64 0, .int .i64 0, .int .i64 0, .int .i64 0, .int .i64 0, .slice none 0 0, .int .i64 0, .int .i64 0] (l.map fun p => (p.1, ev t p.2)) := fast_build (zs := [.int .i64 0, .int .i64 0, .int .i64 0, .int .i64 0, .int .i64 0, .int .i64 0, .int .i64 0, .slice none 0 0, .int .i64 0, .int .i64 0]) Try.ty56 (by kernel_rfl)
attribute [go_sem] Try.bd56
theorem Try.fa56x0 (t : Tmps) (w : AW) (x : Operand) : fast (prg Try.prog) t w (.fieldAddr 56 x 0) = fieldOff (ev t x) 0 := fast_fieldAddr (fd := { name := "Law", type := 52, offset := 0, embedded := false, tag := "", pkgPath := "", byteOffset := 0 }) Try.ty56 rfl Try.ty52 rfl
attribute [go_sem] Try.fa56x0
theorem Try.fa56x1 (t : Tmps) (w : AW) (x : Operand) : fast (prg Try.prog) t w (.fieldAddr 56 x 1) = fieldOff (ev t x) 2 := fast_fieldAddr (fd := { name := "Tariff", type := 54, offset := 2, embedded := false, tag := "", pkgPath := "", byteOffset := 16 }) Try.ty56 rfl Try.ty54 rfl
attribute [go_sem] Try.fa56x1
theorem Try.fa56x2 (t : Tmps) (w : AW) (x : Operand) : fast (prg Try.prog) t w (.fieldAddr 56 x 2) = fieldOff (ev t x) 7 := fast_fieldAddr (fd := { name := "Closed", type := 23, offset := 7, embedded := false, tag := "", pkgPath := "", byteOffset := 56 }) Try.ty56 rfl Try.ty23 rfl
attribute [go_sem] Try.fa56x2
theorem Try.fa56x3 (t : Tmps) (w : AW) (x : Operand) : fast (prg Try.prog) t w (.fieldAddr 56 x 3) = fieldOff (ev t x) 8 := fast_fieldAddr (fd := { name := "Start", type := 3, offset := 8, embedded := false, tag := "", pkgPath := "", byteOffset := 80 }) Try.ty56 rfl Try.ty3 rfl
attribute [go_sem] Try.fa56x3
theorem Try.fa56x4 (t : Tmps) (w : AW) (x : Operand) : fast (prg Try.prog) t w (.fieldAddr 56 x 4) = fieldOff (ev t x) 9 := fast_fieldAddr (fd := { name := "Sum", type := 3, offset := 9, embedded := false, tag := "", pkgPath := "", byteOffset := 88 }) Try.ty56 rfl Try.ty3 rfl
attribute [go_sem] Try.fa56x4
end Go.Proofs

/- What this seat's proofs are told: the program's own check, and no more. -/
namespace Go.Proofs
open Go Go.RowKit Go.Sim
set_option maxRecDepth 100000
def Try.T1 : ToldF := toldTrue 21 fun _ _ _ => none
theorem Try.toldT1 (N : Nat) : ToldOk Try.prog N Try.T1 := toldTrue_ok (fun args w => Try.call21 args w) Try.works (fun N => fun f args w w1 v h => by cases h) N
theorem Try.bs23 (t : Tmps) (l : List (Nat × Operand)) : makes (prg Try.prog) t (.buildSlice 23 1 ⟨l⟩) = bsQ 3 1 1 [.int .i64 0] (l.map fun p => (p.1, ev t p.2)) := makes_bs Try.ty23 Try.ty3 rfl (by kernel_rfl)
attribute [go_sem] Try.bs23
end Go.Proofs
