/- This program's types, and what the machine is told of it in open calls. -/
import Derived.Test.YtdbeiefgokocnaaGreatNb
import Derived.Test.YtdbeiefgokocnaaGreatChecked
import Derived.Test.YtdbeiefgokocnaaGreatWa
set_option linter.unusedVariables false
set_option linter.unusedSimpArgs false
/- Facts on this program's types. -/
namespace Go.Proofs
open Go Go.RowKit Go.Sim
set_option maxRecDepth 100000
theorem Tryz.ty3 : (prg Tryz.prog).ty 3 = some ⟨false, (.int .i64), 1, 8, .int .i64 0⟩ := by kernel_rfl
attribute [go_sem] Tryz.ty3
theorem Tryz.ty4 : (prg Tryz.prog).ty 4 = some ⟨false, .bool, 1, 1, .bool false⟩ := by kernel_rfl
attribute [go_sem] Tryz.ty4
theorem Tryz.ty26 : (prg Tryz.prog).ty 26 = some ⟨false, (.slice 3), 1, 24, .slice none 0 0⟩ := by kernel_rfl
attribute [go_sem] Tryz.ty26
theorem Tryz.ty31 : (prg Tryz.prog).ty 31 = some ⟨false, (.int .i64), 1, 8, .int .i64 0⟩ := by kernel_rfl
attribute [go_sem] Tryz.ty31
theorem Tryz.ty23 : (prg Tryz.prog).ty 23 = some ⟨true, (.struct #[{ name := "Rate", type := 3, offset := 0, embedded := false, tag := "", pkgPath := "", byteOffset := 0 }, { name := "Cap", type := 3, offset := 1, embedded := false, tag := "", pkgPath := "", byteOffset := 8 }]), 2, 16, .agg #[.int .i64 0, .int .i64 0]⟩ := by kernel_rfl
attribute [go_sem] Tryz.ty23
theorem Tryz.ty25 : (prg Tryz.prog).ty 25 = some ⟨true, (.struct #[{ name := "Rate", type := 3, offset := 0, embedded := false, tag := "", pkgPath := "", byteOffset := 0 }, { name := "Free", type := 3, offset := 1, embedded := false, tag := "", pkgPath := "", byteOffset := 8 }, { name := "Fee", type := 3, offset := 2, embedded := false, tag := "", pkgPath := "", byteOffset := 16 }, { name := "Term", type := 3, offset := 3, embedded := false, tag := "", pkgPath := "", byteOffset := 24 }, { name := "Grace", type := 3, offset := 4, embedded := false, tag := "", pkgPath := "", byteOffset := 32 }]), 5, 40, .agg #[.int .i64 0, .int .i64 0, .int .i64 0, .int .i64 0, .int .i64 0]⟩ := by kernel_rfl
attribute [go_sem] Tryz.ty25
theorem Tryz.ty28 : (prg Tryz.prog).ty 28 = some ⟨true, (.struct #[{ name := "Law", type := 23, offset := 0, embedded := false, tag := "", pkgPath := "", byteOffset := 0 }, { name := "Tariff", type := 25, offset := 2, embedded := false, tag := "", pkgPath := "", byteOffset := 16 }, { name := "Closed", type := 26, offset := 7, embedded := false, tag := "", pkgPath := "", byteOffset := 56 }, { name := "Start", type := 3, offset := 8, embedded := false, tag := "", pkgPath := "", byteOffset := 80 }, { name := "Sum", type := 3, offset := 9, embedded := false, tag := "", pkgPath := "", byteOffset := 88 }]), 10, 96, .agg #[.int .i64 0, .int .i64 0, .int .i64 0, .int .i64 0, .int .i64 0, .int .i64 0, .int .i64 0, .slice none 0 0, .int .i64 0, .int .i64 0]⟩ := by kernel_rfl
attribute [go_sem] Tryz.ty28
theorem Tryz.ty58 : (prg Tryz.prog).ty 58 = some ⟨true, (.struct #[{ name := "days", type := 3, offset := 0, embedded := false, tag := "", pkgPath := "lombard/loan", byteOffset := 0 }, { name := "lawful", type := 3, offset := 1, embedded := false, tag := "", pkgPath := "lombard/loan", byteOffset := 8 }, { name := "charged", type := 3, offset := 2, embedded := false, tag := "", pkgPath := "lombard/loan", byteOffset := 16 }, { name := "fees", type := 3, offset := 3, embedded := false, tag := "", pkgPath := "lombard/loan", byteOffset := 24 }]), 4, 32, .agg #[.int .i64 0, .int .i64 0, .int .i64 0, .int .i64 0]⟩ := by kernel_rfl
attribute [go_sem] Tryz.ty58
theorem Tryz.ty60 : (prg Tryz.prog).ty 60 = some ⟨true, (.struct #[{ name := "Account", type := 37, offset := 0, embedded := true, tag := "", pkgPath := "", byteOffset := 0 }, { name := "deal", type := 28, offset := 5, embedded := false, tag := "", pkgPath := "lombard/loan", byteOffset := 40 }, { name := "sums", type := 58, offset := 15, embedded := false, tag := "", pkgPath := "lombard/loan", byteOffset := 136 }, { name := "day", type := 3, offset := 19, embedded := false, tag := "", pkgPath := "lombard/loan", byteOffset := 168 }, { name := "held", type := 3, offset := 20, embedded := false, tag := "", pkgPath := "lombard/loan", byteOffset := 176 }]), 21, 184, .agg #[.int .i64 0, .int .i64 0, .int .i64 0, .int .i64 0, .bool false, .int .i64 0, .int .i64 0, .int .i64 0, .int .i64 0, .int .i64 0, .int .i64 0, .int .i64 0, .slice none 0 0, .int .i64 0, .int .i64 0, .int .i64 0, .int .i64 0, .int .i64 0, .int .i64 0, .int .i64 0, .int .i64 0]⟩ := by kernel_rfl
attribute [go_sem] Tryz.ty60
theorem Tryz.ty37 : (prg Tryz.prog).ty 37 = some ⟨true, (.struct #[{ name := "Principal", type := 3, offset := 0, embedded := false, tag := "", pkgPath := "", byteOffset := 0 }, { name := "Charged", type := 3, offset := 1, embedded := false, tag := "", pkgPath := "", byteOffset := 8 }, { name := "Paid", type := 3, offset := 2, embedded := false, tag := "", pkgPath := "", byteOffset := 16 }, { name := "Age", type := 3, offset := 3, embedded := false, tag := "", pkgPath := "", byteOffset := 24 }, { name := "Open", type := 4, offset := 4, embedded := false, tag := "", pkgPath := "", byteOffset := 32 }]), 5, 40, .agg #[.int .i64 0, .int .i64 0, .int .i64 0, .int .i64 0, .bool false]⟩ := by kernel_rfl
attribute [go_sem] Tryz.ty37
theorem Tryz.ty107 : (prg Tryz.prog).ty 107 = some ⟨true, (.struct #[{ name := "Day", type := 3, offset := 0, embedded := false, tag := "", pkgPath := "", byteOffset := 0 }, { name := "Kind", type := 3, offset := 1, embedded := false, tag := "", pkgPath := "", byteOffset := 8 }, { name := "N", type := 3, offset := 2, embedded := false, tag := "", pkgPath := "", byteOffset := 16 }]), 3, 24, .agg #[.int .i64 0, .int .i64 0, .int .i64 0]⟩ := by kernel_rfl
attribute [go_sem] Tryz.ty107
theorem Tryz.ty124 : (prg Tryz.prog).ty 124 = some ⟨true, (.struct #[{ name := "Day", type := 3, offset := 0, embedded := false, tag := "", pkgPath := "", byteOffset := 0 }, { name := "Kind", type := 3, offset := 1, embedded := false, tag := "", pkgPath := "", byteOffset := 8 }, { name := "N", type := 3, offset := 2, embedded := false, tag := "", pkgPath := "", byteOffset := 16 }]), 3, 24, .agg #[.int .i64 0, .int .i64 0, .int .i64 0]⟩ := by kernel_rfl
attribute [go_sem] Tryz.ty124
theorem Tryz.ty125 : (prg Tryz.prog).ty 125 = some ⟨true, (.struct #[{ name := "Day", type := 3, offset := 0, embedded := false, tag := "", pkgPath := "", byteOffset := 0 }, { name := "Kind", type := 3, offset := 1, embedded := false, tag := "", pkgPath := "", byteOffset := 8 }, { name := "N", type := 3, offset := 2, embedded := false, tag := "", pkgPath := "", byteOffset := 16 }]), 3, 24, .agg #[.int .i64 0, .int .i64 0, .int .i64 0]⟩ := by kernel_rfl
attribute [go_sem] Tryz.ty125
theorem Tryz.ty126 : (prg Tryz.prog).ty 126 = some ⟨true, (.struct #[{ name := "Day", type := 3, offset := 0, embedded := false, tag := "", pkgPath := "", byteOffset := 0 }, { name := "Kind", type := 3, offset := 1, embedded := false, tag := "", pkgPath := "", byteOffset := 8 }, { name := "N", type := 3, offset := 2, embedded := false, tag := "", pkgPath := "", byteOffset := 16 }]), 3, 24, .agg #[.int .i64 0, .int .i64 0, .int .i64 0]⟩ := by kernel_rfl
attribute [go_sem] Tryz.ty126
theorem Tryz.ty85 : (prg Tryz.prog).ty 85 = some ⟨true, (.struct #[{ name := "Day", type := 3, offset := 0, embedded := false, tag := "", pkgPath := "", byteOffset := 0 }, { name := "Kind", type := 3, offset := 1, embedded := false, tag := "", pkgPath := "", byteOffset := 8 }, { name := "N", type := 3, offset := 2, embedded := false, tag := "", pkgPath := "", byteOffset := 16 }]), 3, 24, .agg #[.int .i64 0, .int .i64 0, .int .i64 0]⟩ := by kernel_rfl
attribute [go_sem] Tryz.ty85
theorem Tryz.ty29 : (prg Tryz.prog).ty 29 = some ⟨false, (.slice 85), 1, 24, .slice none 0 0⟩ := by kernel_rfl
attribute [go_sem] Tryz.ty29
theorem Tryz.ty30 : (prg Tryz.prog).ty 30 = some ⟨false, (.slice 37), 1, 24, .slice none 0 0⟩ := by kernel_rfl
attribute [go_sem] Tryz.ty30
theorem Tryz.ty113 : (prg Tryz.prog).ty 113 = some ⟨true, (.array 5 111), 5, 40, .agg #[.nilFunc, .nilFunc, .nilFunc, .nilFunc, .nilFunc]⟩ := by kernel_rfl
attribute [go_sem] Tryz.ty113
theorem Tryz.ty111 : (prg Tryz.prog).ty 111 = some ⟨false, (.func #[44, 3] #[31] false), 1, 8, .nilFunc⟩ := by kernel_rfl
attribute [go_sem] Tryz.ty111
theorem Tryz.ia26 (t : Tmps) (w : AW) (x y : Operand) : fast (prg Tryz.prog) t w (.indexAddr 26 x y) = indexV 1 (ev t x) (ev t y) := fast_indexAddr Tryz.ty26 Tryz.ty3
attribute [go_sem] Tryz.ia26
theorem Tryz.ln26 (t : Tmps) (w : AW) (x : Operand) : fast (prg Tryz.prog) t w (.call ⟨.builtin .len, ⟨[x]⟩, ⟨[26]⟩⟩) = lenV (ev t x) := fast_len Tryz.ty26
attribute [go_sem] Tryz.ln26
theorem Tryz.bd23 (t : Tmps) (w : AW) (l : List (Nat × Operand)) : fast (prg Tryz.prog) t w (.build 23 ⟨l⟩) = bldQ [(0, 1), (1, 1)] [.int .i64 0, .int .i64 0] (l.map fun p => (p.1, ev t p.2)) := fast_build (zs := [.int .i64 0, .int .i64 0]) Tryz.ty23 (by kernel_rfl)
attribute [go_sem] Tryz.bd23
theorem Tryz.fa23x0 (t : Tmps) (w : AW) (x : Operand) : fast (prg Tryz.prog) t w (.fieldAddr 23 x 0) = fieldOff (ev t x) 0 := fast_fieldAddr (fd := { name := "Rate", type := 3, offset := 0, embedded := false, tag := "", pkgPath := "", byteOffset := 0 }) Tryz.ty23 rfl Tryz.ty3 rfl
attribute [go_sem] Tryz.fa23x0
theorem Tryz.fa23x1 (t : Tmps) (w : AW) (x : Operand) : fast (prg Tryz.prog) t w (.fieldAddr 23 x 1) = fieldOff (ev t x) 1 := fast_fieldAddr (fd := { name := "Cap", type := 3, offset := 1, embedded := false, tag := "", pkgPath := "", byteOffset := 8 }) Tryz.ty23 rfl Tryz.ty3 rfl
attribute [go_sem] Tryz.fa23x1
theorem Tryz.bd25 (t : Tmps) (w : AW) (l : List (Nat × Operand)) : fast (prg Tryz.prog) t w (.build 25 ⟨l⟩) = bldQ [(0, 1), (1, 1), (2, 1), (3, 1), (4, 1)] [.int .i64 0, .int .i64 0, .int .i64 0, .int .i64 0, .int .i64 0] (l.map fun p => (p.1, ev t p.2)) := fast_build (zs := [.int .i64 0, .int .i64 0, .int .i64 0, .int .i64 0, .int .i64 0]) Tryz.ty25 (by kernel_rfl)
attribute [go_sem] Tryz.bd25
theorem Tryz.fa25x0 (t : Tmps) (w : AW) (x : Operand) : fast (prg Tryz.prog) t w (.fieldAddr 25 x 0) = fieldOff (ev t x) 0 := fast_fieldAddr (fd := { name := "Rate", type := 3, offset := 0, embedded := false, tag := "", pkgPath := "", byteOffset := 0 }) Tryz.ty25 rfl Tryz.ty3 rfl
attribute [go_sem] Tryz.fa25x0
theorem Tryz.fa25x1 (t : Tmps) (w : AW) (x : Operand) : fast (prg Tryz.prog) t w (.fieldAddr 25 x 1) = fieldOff (ev t x) 1 := fast_fieldAddr (fd := { name := "Free", type := 3, offset := 1, embedded := false, tag := "", pkgPath := "", byteOffset := 8 }) Tryz.ty25 rfl Tryz.ty3 rfl
attribute [go_sem] Tryz.fa25x1
theorem Tryz.fa25x2 (t : Tmps) (w : AW) (x : Operand) : fast (prg Tryz.prog) t w (.fieldAddr 25 x 2) = fieldOff (ev t x) 2 := fast_fieldAddr (fd := { name := "Fee", type := 3, offset := 2, embedded := false, tag := "", pkgPath := "", byteOffset := 16 }) Tryz.ty25 rfl Tryz.ty3 rfl
attribute [go_sem] Tryz.fa25x2
theorem Tryz.fa25x3 (t : Tmps) (w : AW) (x : Operand) : fast (prg Tryz.prog) t w (.fieldAddr 25 x 3) = fieldOff (ev t x) 3 := fast_fieldAddr (fd := { name := "Term", type := 3, offset := 3, embedded := false, tag := "", pkgPath := "", byteOffset := 24 }) Tryz.ty25 rfl Tryz.ty3 rfl
attribute [go_sem] Tryz.fa25x3
theorem Tryz.fa25x4 (t : Tmps) (w : AW) (x : Operand) : fast (prg Tryz.prog) t w (.fieldAddr 25 x 4) = fieldOff (ev t x) 4 := fast_fieldAddr (fd := { name := "Grace", type := 3, offset := 4, embedded := false, tag := "", pkgPath := "", byteOffset := 32 }) Tryz.ty25 rfl Tryz.ty3 rfl
attribute [go_sem] Tryz.fa25x4
theorem Tryz.bd28 (t : Tmps) (w : AW) (l : List (Nat × Operand)) : fast (prg Tryz.prog) t w (.build 28 ⟨l⟩) = bldQ [(0, 2), (2, 5), (7, 1), (8, 1), (9, 1)] [.int .i64 0, .int .i64 0, .int .i64 0, .int .i64 0, .int .i64 0, .int .i64 0, .int .i64 0, .slice none 0 0, .int .i64 0, .int .i64 0] (l.map fun p => (p.1, ev t p.2)) := fast_build (zs := [.int .i64 0, .int .i64 0, .int .i64 0, .int .i64 0, .int .i64 0, .int .i64 0, .int .i64 0, .slice none 0 0, .int .i64 0, .int .i64 0]) Tryz.ty28 (by kernel_rfl)
attribute [go_sem] Tryz.bd28
theorem Tryz.fa28x0 (t : Tmps) (w : AW) (x : Operand) : fast (prg Tryz.prog) t w (.fieldAddr 28 x 0) = fieldOff (ev t x) 0 := fast_fieldAddr (fd := { name := "Law", type := 23, offset := 0, embedded := false, tag := "", pkgPath := "", byteOffset := 0 }) Tryz.ty28 rfl Tryz.ty23 rfl
attribute [go_sem] Tryz.fa28x0
theorem Tryz.fa28x1 (t : Tmps) (w : AW) (x : Operand) : fast (prg Tryz.prog) t w (.fieldAddr 28 x 1) = fieldOff (ev t x) 2 := fast_fieldAddr (fd := { name := "Tariff", type := 25, offset := 2, embedded := false, tag := "", pkgPath := "", byteOffset := 16 }) Tryz.ty28 rfl Tryz.ty25 rfl
attribute [go_sem] Tryz.fa28x1
theorem Tryz.fa28x2 (t : Tmps) (w : AW) (x : Operand) : fast (prg Tryz.prog) t w (.fieldAddr 28 x 2) = fieldOff (ev t x) 7 := fast_fieldAddr (fd := { name := "Closed", type := 26, offset := 7, embedded := false, tag := "", pkgPath := "", byteOffset := 56 }) Tryz.ty28 rfl Tryz.ty26 rfl
attribute [go_sem] Tryz.fa28x2
theorem Tryz.fa28x3 (t : Tmps) (w : AW) (x : Operand) : fast (prg Tryz.prog) t w (.fieldAddr 28 x 3) = fieldOff (ev t x) 8 := fast_fieldAddr (fd := { name := "Start", type := 3, offset := 8, embedded := false, tag := "", pkgPath := "", byteOffset := 80 }) Tryz.ty28 rfl Tryz.ty3 rfl
attribute [go_sem] Tryz.fa28x3
theorem Tryz.fa28x4 (t : Tmps) (w : AW) (x : Operand) : fast (prg Tryz.prog) t w (.fieldAddr 28 x 4) = fieldOff (ev t x) 9 := fast_fieldAddr (fd := { name := "Sum", type := 3, offset := 9, embedded := false, tag := "", pkgPath := "", byteOffset := 88 }) Tryz.ty28 rfl Tryz.ty3 rfl
attribute [go_sem] Tryz.fa28x4
theorem Tryz.bd58 (t : Tmps) (w : AW) (l : List (Nat × Operand)) : fast (prg Tryz.prog) t w (.build 58 ⟨l⟩) = bldQ [(0, 1), (1, 1), (2, 1), (3, 1)] [.int .i64 0, .int .i64 0, .int .i64 0, .int .i64 0] (l.map fun p => (p.1, ev t p.2)) := fast_build (zs := [.int .i64 0, .int .i64 0, .int .i64 0, .int .i64 0]) Tryz.ty58 (by kernel_rfl)
attribute [go_sem] Tryz.bd58
theorem Tryz.fa58x0 (t : Tmps) (w : AW) (x : Operand) : fast (prg Tryz.prog) t w (.fieldAddr 58 x 0) = fieldOff (ev t x) 0 := fast_fieldAddr (fd := { name := "days", type := 3, offset := 0, embedded := false, tag := "", pkgPath := "lombard/loan", byteOffset := 0 }) Tryz.ty58 rfl Tryz.ty3 rfl
attribute [go_sem] Tryz.fa58x0
theorem Tryz.fa58x1 (t : Tmps) (w : AW) (x : Operand) : fast (prg Tryz.prog) t w (.fieldAddr 58 x 1) = fieldOff (ev t x) 1 := fast_fieldAddr (fd := { name := "lawful", type := 3, offset := 1, embedded := false, tag := "", pkgPath := "lombard/loan", byteOffset := 8 }) Tryz.ty58 rfl Tryz.ty3 rfl
attribute [go_sem] Tryz.fa58x1
theorem Tryz.fa58x2 (t : Tmps) (w : AW) (x : Operand) : fast (prg Tryz.prog) t w (.fieldAddr 58 x 2) = fieldOff (ev t x) 2 := fast_fieldAddr (fd := { name := "charged", type := 3, offset := 2, embedded := false, tag := "", pkgPath := "lombard/loan", byteOffset := 16 }) Tryz.ty58 rfl Tryz.ty3 rfl
attribute [go_sem] Tryz.fa58x2
theorem Tryz.fa58x3 (t : Tmps) (w : AW) (x : Operand) : fast (prg Tryz.prog) t w (.fieldAddr 58 x 3) = fieldOff (ev t x) 3 := fast_fieldAddr (fd := { name := "fees", type := 3, offset := 3, embedded := false, tag := "", pkgPath := "lombard/loan", byteOffset := 24 }) Tryz.ty58 rfl Tryz.ty3 rfl
attribute [go_sem] Tryz.fa58x3
theorem Tryz.bd60 (t : Tmps) (w : AW) (l : List (Nat × Operand)) : fast (prg Tryz.prog) t w (.build 60 ⟨l⟩) = bldQ [(0, 5), (5, 10), (15, 4), (19, 1), (20, 1)] [.int .i64 0, .int .i64 0, .int .i64 0, .int .i64 0, .bool false, .int .i64 0, .int .i64 0, .int .i64 0, .int .i64 0, .int .i64 0, .int .i64 0, .int .i64 0, .slice none 0 0, .int .i64 0, .int .i64 0, .int .i64 0, .int .i64 0, .int .i64 0, .int .i64 0, .int .i64 0, .int .i64 0] (l.map fun p => (p.1, ev t p.2)) := fast_build (zs := [.int .i64 0, .int .i64 0, .int .i64 0, .int .i64 0, .bool false, .int .i64 0, .int .i64 0, .int .i64 0, .int .i64 0, .int .i64 0, .int .i64 0, .int .i64 0, .slice none 0 0, .int .i64 0, .int .i64 0, .int .i64 0, .int .i64 0, .int .i64 0, .int .i64 0, .int .i64 0, .int .i64 0]) Tryz.ty60 (by kernel_rfl)
attribute [go_sem] Tryz.bd60
theorem Tryz.fa60x0 (t : Tmps) (w : AW) (x : Operand) : fast (prg Tryz.prog) t w (.fieldAddr 60 x 0) = fieldOff (ev t x) 0 := fast_fieldAddr (fd := { name := "Account", type := 37, offset := 0, embedded := true, tag := "", pkgPath := "", byteOffset := 0 }) Tryz.ty60 rfl Tryz.ty37 rfl
attribute [go_sem] Tryz.fa60x0
theorem Tryz.fa60x1 (t : Tmps) (w : AW) (x : Operand) : fast (prg Tryz.prog) t w (.fieldAddr 60 x 1) = fieldOff (ev t x) 5 := fast_fieldAddr (fd := { name := "deal", type := 28, offset := 5, embedded := false, tag := "", pkgPath := "lombard/loan", byteOffset := 40 }) Tryz.ty60 rfl Tryz.ty28 rfl
attribute [go_sem] Tryz.fa60x1
theorem Tryz.fa60x2 (t : Tmps) (w : AW) (x : Operand) : fast (prg Tryz.prog) t w (.fieldAddr 60 x 2) = fieldOff (ev t x) 15 := fast_fieldAddr (fd := { name := "sums", type := 58, offset := 15, embedded := false, tag := "", pkgPath := "lombard/loan", byteOffset := 136 }) Tryz.ty60 rfl Tryz.ty58 rfl
attribute [go_sem] Tryz.fa60x2
theorem Tryz.fa60x3 (t : Tmps) (w : AW) (x : Operand) : fast (prg Tryz.prog) t w (.fieldAddr 60 x 3) = fieldOff (ev t x) 19 := fast_fieldAddr (fd := { name := "day", type := 3, offset := 19, embedded := false, tag := "", pkgPath := "lombard/loan", byteOffset := 168 }) Tryz.ty60 rfl Tryz.ty3 rfl
attribute [go_sem] Tryz.fa60x3
theorem Tryz.fa60x4 (t : Tmps) (w : AW) (x : Operand) : fast (prg Tryz.prog) t w (.fieldAddr 60 x 4) = fieldOff (ev t x) 20 := fast_fieldAddr (fd := { name := "held", type := 3, offset := 20, embedded := false, tag := "", pkgPath := "lombard/loan", byteOffset := 176 }) Tryz.ty60 rfl Tryz.ty3 rfl
attribute [go_sem] Tryz.fa60x4
theorem Tryz.bd37 (t : Tmps) (w : AW) (l : List (Nat × Operand)) : fast (prg Tryz.prog) t w (.build 37 ⟨l⟩) = bldQ [(0, 1), (1, 1), (2, 1), (3, 1), (4, 1)] [.int .i64 0, .int .i64 0, .int .i64 0, .int .i64 0, .bool false] (l.map fun p => (p.1, ev t p.2)) := fast_build (zs := [.int .i64 0, .int .i64 0, .int .i64 0, .int .i64 0, .bool false]) Tryz.ty37 (by kernel_rfl)
attribute [go_sem] Tryz.bd37
theorem Tryz.fa37x0 (t : Tmps) (w : AW) (x : Operand) : fast (prg Tryz.prog) t w (.fieldAddr 37 x 0) = fieldOff (ev t x) 0 := fast_fieldAddr (fd := { name := "Principal", type := 3, offset := 0, embedded := false, tag := "", pkgPath := "", byteOffset := 0 }) Tryz.ty37 rfl Tryz.ty3 rfl
attribute [go_sem] Tryz.fa37x0
theorem Tryz.fa37x1 (t : Tmps) (w : AW) (x : Operand) : fast (prg Tryz.prog) t w (.fieldAddr 37 x 1) = fieldOff (ev t x) 1 := fast_fieldAddr (fd := { name := "Charged", type := 3, offset := 1, embedded := false, tag := "", pkgPath := "", byteOffset := 8 }) Tryz.ty37 rfl Tryz.ty3 rfl
attribute [go_sem] Tryz.fa37x1
theorem Tryz.fa37x2 (t : Tmps) (w : AW) (x : Operand) : fast (prg Tryz.prog) t w (.fieldAddr 37 x 2) = fieldOff (ev t x) 2 := fast_fieldAddr (fd := { name := "Paid", type := 3, offset := 2, embedded := false, tag := "", pkgPath := "", byteOffset := 16 }) Tryz.ty37 rfl Tryz.ty3 rfl
attribute [go_sem] Tryz.fa37x2
theorem Tryz.fa37x3 (t : Tmps) (w : AW) (x : Operand) : fast (prg Tryz.prog) t w (.fieldAddr 37 x 3) = fieldOff (ev t x) 3 := fast_fieldAddr (fd := { name := "Age", type := 3, offset := 3, embedded := false, tag := "", pkgPath := "", byteOffset := 24 }) Tryz.ty37 rfl Tryz.ty3 rfl
attribute [go_sem] Tryz.fa37x3
theorem Tryz.fa37x4 (t : Tmps) (w : AW) (x : Operand) : fast (prg Tryz.prog) t w (.fieldAddr 37 x 4) = fieldOff (ev t x) 4 := fast_fieldAddr (fd := { name := "Open", type := 4, offset := 4, embedded := false, tag := "", pkgPath := "", byteOffset := 32 }) Tryz.ty37 rfl Tryz.ty4 rfl
attribute [go_sem] Tryz.fa37x4
theorem Tryz.bd107 (t : Tmps) (w : AW) (l : List (Nat × Operand)) : fast (prg Tryz.prog) t w (.build 107 ⟨l⟩) = bldQ [(0, 1), (1, 1), (2, 1)] [.int .i64 0, .int .i64 0, .int .i64 0] (l.map fun p => (p.1, ev t p.2)) := fast_build (zs := [.int .i64 0, .int .i64 0, .int .i64 0]) Tryz.ty107 (by kernel_rfl)
attribute [go_sem] Tryz.bd107
theorem Tryz.fa107x0 (t : Tmps) (w : AW) (x : Operand) : fast (prg Tryz.prog) t w (.fieldAddr 107 x 0) = fieldOff (ev t x) 0 := fast_fieldAddr (fd := { name := "Day", type := 3, offset := 0, embedded := false, tag := "", pkgPath := "", byteOffset := 0 }) Tryz.ty107 rfl Tryz.ty3 rfl
attribute [go_sem] Tryz.fa107x0
theorem Tryz.fa107x1 (t : Tmps) (w : AW) (x : Operand) : fast (prg Tryz.prog) t w (.fieldAddr 107 x 1) = fieldOff (ev t x) 1 := fast_fieldAddr (fd := { name := "Kind", type := 3, offset := 1, embedded := false, tag := "", pkgPath := "", byteOffset := 8 }) Tryz.ty107 rfl Tryz.ty3 rfl
attribute [go_sem] Tryz.fa107x1
theorem Tryz.fa107x2 (t : Tmps) (w : AW) (x : Operand) : fast (prg Tryz.prog) t w (.fieldAddr 107 x 2) = fieldOff (ev t x) 2 := fast_fieldAddr (fd := { name := "N", type := 3, offset := 2, embedded := false, tag := "", pkgPath := "", byteOffset := 16 }) Tryz.ty107 rfl Tryz.ty3 rfl
attribute [go_sem] Tryz.fa107x2
theorem Tryz.bd124 (t : Tmps) (w : AW) (l : List (Nat × Operand)) : fast (prg Tryz.prog) t w (.build 124 ⟨l⟩) = bldQ [(0, 1), (1, 1), (2, 1)] [.int .i64 0, .int .i64 0, .int .i64 0] (l.map fun p => (p.1, ev t p.2)) := fast_build (zs := [.int .i64 0, .int .i64 0, .int .i64 0]) Tryz.ty124 (by kernel_rfl)
attribute [go_sem] Tryz.bd124
theorem Tryz.fa124x0 (t : Tmps) (w : AW) (x : Operand) : fast (prg Tryz.prog) t w (.fieldAddr 124 x 0) = fieldOff (ev t x) 0 := fast_fieldAddr (fd := { name := "Day", type := 3, offset := 0, embedded := false, tag := "", pkgPath := "", byteOffset := 0 }) Tryz.ty124 rfl Tryz.ty3 rfl
attribute [go_sem] Tryz.fa124x0
theorem Tryz.fa124x1 (t : Tmps) (w : AW) (x : Operand) : fast (prg Tryz.prog) t w (.fieldAddr 124 x 1) = fieldOff (ev t x) 1 := fast_fieldAddr (fd := { name := "Kind", type := 3, offset := 1, embedded := false, tag := "", pkgPath := "", byteOffset := 8 }) Tryz.ty124 rfl Tryz.ty3 rfl
attribute [go_sem] Tryz.fa124x1
theorem Tryz.fa124x2 (t : Tmps) (w : AW) (x : Operand) : fast (prg Tryz.prog) t w (.fieldAddr 124 x 2) = fieldOff (ev t x) 2 := fast_fieldAddr (fd := { name := "N", type := 3, offset := 2, embedded := false, tag := "", pkgPath := "", byteOffset := 16 }) Tryz.ty124 rfl Tryz.ty3 rfl
attribute [go_sem] Tryz.fa124x2
theorem Tryz.bd125 (t : Tmps) (w : AW) (l : List (Nat × Operand)) : fast (prg Tryz.prog) t w (.build 125 ⟨l⟩) = bldQ [(0, 1), (1, 1), (2, 1)] [.int .i64 0, .int .i64 0, .int .i64 0] (l.map fun p => (p.1, ev t p.2)) := fast_build (zs := [.int .i64 0, .int .i64 0, .int .i64 0]) Tryz.ty125 (by kernel_rfl)
attribute [go_sem] Tryz.bd125
theorem Tryz.fa125x0 (t : Tmps) (w : AW) (x : Operand) : fast (prg Tryz.prog) t w (.fieldAddr 125 x 0) = fieldOff (ev t x) 0 := fast_fieldAddr (fd := { name := "Day", type := 3, offset := 0, embedded := false, tag := "", pkgPath := "", byteOffset := 0 }) Tryz.ty125 rfl Tryz.ty3 rfl
attribute [go_sem] Tryz.fa125x0
theorem Tryz.fa125x1 (t : Tmps) (w : AW) (x : Operand) : fast (prg Tryz.prog) t w (.fieldAddr 125 x 1) = fieldOff (ev t x) 1 := fast_fieldAddr (fd := { name := "Kind", type := 3, offset := 1, embedded := false, tag := "", pkgPath := "", byteOffset := 8 }) Tryz.ty125 rfl Tryz.ty3 rfl
attribute [go_sem] Tryz.fa125x1
theorem Tryz.fa125x2 (t : Tmps) (w : AW) (x : Operand) : fast (prg Tryz.prog) t w (.fieldAddr 125 x 2) = fieldOff (ev t x) 2 := fast_fieldAddr (fd := { name := "N", type := 3, offset := 2, embedded := false, tag := "", pkgPath := "", byteOffset := 16 }) Tryz.ty125 rfl Tryz.ty3 rfl
attribute [go_sem] Tryz.fa125x2
theorem Tryz.bd126 (t : Tmps) (w : AW) (l : List (Nat × Operand)) : fast (prg Tryz.prog) t w (.build 126 ⟨l⟩) = bldQ [(0, 1), (1, 1), (2, 1)] [.int .i64 0, .int .i64 0, .int .i64 0] (l.map fun p => (p.1, ev t p.2)) := fast_build (zs := [.int .i64 0, .int .i64 0, .int .i64 0]) Tryz.ty126 (by kernel_rfl)
attribute [go_sem] Tryz.bd126
theorem Tryz.fa126x0 (t : Tmps) (w : AW) (x : Operand) : fast (prg Tryz.prog) t w (.fieldAddr 126 x 0) = fieldOff (ev t x) 0 := fast_fieldAddr (fd := { name := "Day", type := 3, offset := 0, embedded := false, tag := "", pkgPath := "", byteOffset := 0 }) Tryz.ty126 rfl Tryz.ty3 rfl
attribute [go_sem] Tryz.fa126x0
theorem Tryz.fa126x1 (t : Tmps) (w : AW) (x : Operand) : fast (prg Tryz.prog) t w (.fieldAddr 126 x 1) = fieldOff (ev t x) 1 := fast_fieldAddr (fd := { name := "Kind", type := 3, offset := 1, embedded := false, tag := "", pkgPath := "", byteOffset := 8 }) Tryz.ty126 rfl Tryz.ty3 rfl
attribute [go_sem] Tryz.fa126x1
theorem Tryz.fa126x2 (t : Tmps) (w : AW) (x : Operand) : fast (prg Tryz.prog) t w (.fieldAddr 126 x 2) = fieldOff (ev t x) 2 := fast_fieldAddr (fd := { name := "N", type := 3, offset := 2, embedded := false, tag := "", pkgPath := "", byteOffset := 16 }) Tryz.ty126 rfl Tryz.ty3 rfl
attribute [go_sem] Tryz.fa126x2
theorem Tryz.bd85 (t : Tmps) (w : AW) (l : List (Nat × Operand)) : fast (prg Tryz.prog) t w (.build 85 ⟨l⟩) = bldQ [(0, 1), (1, 1), (2, 1)] [.int .i64 0, .int .i64 0, .int .i64 0] (l.map fun p => (p.1, ev t p.2)) := fast_build (zs := [.int .i64 0, .int .i64 0, .int .i64 0]) Tryz.ty85 (by kernel_rfl)
attribute [go_sem] Tryz.bd85
theorem Tryz.fa85x0 (t : Tmps) (w : AW) (x : Operand) : fast (prg Tryz.prog) t w (.fieldAddr 85 x 0) = fieldOff (ev t x) 0 := fast_fieldAddr (fd := { name := "Day", type := 3, offset := 0, embedded := false, tag := "", pkgPath := "", byteOffset := 0 }) Tryz.ty85 rfl Tryz.ty3 rfl
attribute [go_sem] Tryz.fa85x0
theorem Tryz.fa85x1 (t : Tmps) (w : AW) (x : Operand) : fast (prg Tryz.prog) t w (.fieldAddr 85 x 1) = fieldOff (ev t x) 1 := fast_fieldAddr (fd := { name := "Kind", type := 3, offset := 1, embedded := false, tag := "", pkgPath := "", byteOffset := 8 }) Tryz.ty85 rfl Tryz.ty3 rfl
attribute [go_sem] Tryz.fa85x1
theorem Tryz.fa85x2 (t : Tmps) (w : AW) (x : Operand) : fast (prg Tryz.prog) t w (.fieldAddr 85 x 2) = fieldOff (ev t x) 2 := fast_fieldAddr (fd := { name := "N", type := 3, offset := 2, embedded := false, tag := "", pkgPath := "", byteOffset := 16 }) Tryz.ty85 rfl Tryz.ty3 rfl
attribute [go_sem] Tryz.fa85x2
theorem Tryz.ia29 (t : Tmps) (w : AW) (x y : Operand) : fast (prg Tryz.prog) t w (.indexAddr 29 x y) = indexV 3 (ev t x) (ev t y) := fast_indexAddr Tryz.ty29 Tryz.ty85
attribute [go_sem] Tryz.ia29
theorem Tryz.ln29 (t : Tmps) (w : AW) (x : Operand) : fast (prg Tryz.prog) t w (.call ⟨.builtin .len, ⟨[x]⟩, ⟨[29]⟩⟩) = lenV (ev t x) := fast_len Tryz.ty29
attribute [go_sem] Tryz.ln29
theorem Tryz.ia30 (t : Tmps) (w : AW) (x y : Operand) : fast (prg Tryz.prog) t w (.indexAddr 30 x y) = indexV 5 (ev t x) (ev t y) := fast_indexAddr Tryz.ty30 Tryz.ty37
attribute [go_sem] Tryz.ia30
theorem Tryz.ln30 (t : Tmps) (w : AW) (x : Operand) : fast (prg Tryz.prog) t w (.call ⟨.builtin .len, ⟨[x]⟩, ⟨[30]⟩⟩) = lenV (ev t x) := fast_len Tryz.ty30
attribute [go_sem] Tryz.ln30
end Go.Proofs

/- What this seat's proofs are told: the program's own check, and no more. -/
namespace Go.Proofs
open Go Go.RowKit Go.Sim
set_option maxRecDepth 100000
def Tryz.T1 : ToldF := toldTrue 13 fun _ _ _ => none
theorem Tryz.toldT1 (N : Nat) : ToldOk Tryz.prog N Tryz.T1 := toldTrue_ok (fun args w => Tryz.call13 args w) Tryz.works (fun N => fun f args w w1 v h => by cases h) N
theorem Tryz.bs26 (t : Tmps) (l : List (Nat × Operand)) : makes (prg Tryz.prog) t (.buildSlice 26 1 ⟨l⟩) = bsQ 3 1 1 [.int .i64 0] (l.map fun p => (p.1, ev t p.2)) := makes_bs Tryz.ty26 Tryz.ty3 rfl (by kernel_rfl)
attribute [go_sem] Tryz.bs26
end Go.Proofs

/- Facts on this program's arrays of functions and its interfaces. -/
namespace Go.Proofs
open Go Go.RowKit Go.Sim
set_option maxRecDepth 100000
theorem Tryz.bd113 (t : Tmps) (w : AW) : fast (prg Tryz.prog) t w (.build 113 ⟨[(1, .func 58), (2, .func 59), (3, .func 60), (4, .func 61)]⟩) = some (.agg #[.nilFunc, .func (.func 58) #[] #[], .func (.func 59) #[] #[], .func (.func 60) #[] #[], .func (.func 61) #[] #[]]) := by kernel_rfl
theorem Tryz.ia113 (t : Tmps) (w : AW) (x y : Operand) : fast (prg Tryz.prog) t w (.indexAddr 113 x y) = indexA 1 5 (ev t x) (ev t y) := fast_indexAddrA Tryz.ty113 Tryz.ty111
attribute [go_sem] Tryz.bd113 Tryz.ia113
def isI (x : Option TI) : Bool := match x with
  | some ⟨_, .interface _, _, _, _⟩ => true
  | _ => false
theorem Tryz.ty105 : isI ((prg Tryz.prog).ty 105) = true := by kernel_rfl
theorem isI_ex {x : Option TI} (h : isI x = true) : ∃ a ms n b z, x = some ⟨a, .interface ms, n, b, z⟩ := by
  unfold isI at h
  split at h
  · exact ⟨_, _, _, _, _, rfl⟩
  · cases h
def nilB : Value → Option Value
  | .nilIface => some (.bool true)
  | .iface _ _ => some (.bool false)
  | _ => none
theorem Tryz.nil105 (t : Tmps) (w : AW) (x : Operand) (r : TypeId) (y : Value) (h : nilB (ev t x) = some y) : fast (prg Tryz.prog) t w (.binOp .eql 105 x (.const .nilIface) r) = some y := by
  obtain ⟨a, ms, n, b, z, e⟩ := isI_ex Tryz.ty105
  generalize hv : ev t x = v at h
  cases v <;> simp only [nilB, reduceCtorEq] at h
  · injection h with h; subst h
    simp only [fast, hv, e, ev_const]; rfl
  · injection h with h; subst h
    simp only [fast, hv, e, ev_const]; rfl
end Go.Proofs

/- Sums and accounts, compared. -/
namespace Go.Proofs
open Go Go.RowKit Go.Sim
set_option maxRecDepth 100000
theorem Tryz.agg3 : prun Tryz.prog (isAgg 3) = some false := by kernel_rfl
theorem Tryz.agg4 : prun Tryz.prog (isAgg 4) = some false := by kernel_rfl
theorem Tryz.un3 : Tryz.prog.underlying 3 = some (.int .i64) := by kernel_rfl
theorem Tryz.un4 : Tryz.prog.underlying 4 = some .bool := by kernel_rfl
theorem Tryz.un58 : Tryz.prog.underlying 58 = some (.struct #[{ name := "days", type := 3, offset := 0, embedded := false, tag := "", pkgPath := "lombard/loan", byteOffset := 0 }, { name := "lawful", type := 3, offset := 1, embedded := false, tag := "", pkgPath := "lombard/loan", byteOffset := 8 }, { name := "charged", type := 3, offset := 2, embedded := false, tag := "", pkgPath := "lombard/loan", byteOffset := 16 }, { name := "fees", type := 3, offset := 3, embedded := false, tag := "", pkgPath := "lombard/loan", byteOffset := 24 }]) := by kernel_rfl
theorem Tryz.un37 : Tryz.prog.underlying 37 = some (.struct #[{ name := "Principal", type := 3, offset := 0, embedded := false, tag := "", pkgPath := "", byteOffset := 0 }, { name := "Charged", type := 3, offset := 1, embedded := false, tag := "", pkgPath := "", byteOffset := 8 }, { name := "Paid", type := 3, offset := 2, embedded := false, tag := "", pkgPath := "", byteOffset := 16 }, { name := "Age", type := 3, offset := 3, embedded := false, tag := "", pkgPath := "", byteOffset := 24 }, { name := "Open", type := 4, offset := 4, embedded := false, tag := "", pkgPath := "", byteOffset := 32 }]) := by kernel_rfl
theorem Tryz.eq58 (a b c d a' b' c' d' : Int) : eqQ Tryz.prog .eql 58 (.agg #[.int .i64 a, .int .i64 b, .int .i64 c, .int .i64 d]) (.agg #[.int .i64 a', .int .i64 b', .int .i64 c', .int .i64 d']) = some (.bool ([a == a', b == b', c == c', d == d'].all id)) := by
  refine eqQ_eql (by kernel_rfl) rfl (eqStruct Tryz.un58 (by kernel_rfl) (n := 9999) ?_)
  refine .cons (eqF_int (k := .i64) (by decide) Tryz.un3 Tryz.agg3 rfl rfl) (.cons (eqF_int (k := .i64) (by decide) Tryz.un3 Tryz.agg3 rfl rfl) (.cons (eqF_int (k := .i64) (by decide) Tryz.un3 Tryz.agg3 rfl rfl) (.cons (eqF_int (k := .i64) (by decide) Tryz.un3 Tryz.agg3 rfl rfl) .nil)))
theorem Tryz.eq37 (a b c d : Int) (p : Bool) (a' b' c' d' : Int) (p' : Bool) : eqQ Tryz.prog .eql 37 (.agg #[.int .i64 a, .int .i64 b, .int .i64 c, .int .i64 d, .bool p]) (.agg #[.int .i64 a', .int .i64 b', .int .i64 c', .int .i64 d', .bool p']) = some (.bool ([a == a', b == b', c == c', d == d', p == p'].all id)) := by
  refine eqQ_eql (by kernel_rfl) rfl (eqStruct Tryz.un37 (by kernel_rfl) (n := 9999) ?_)
  refine .cons (eqF_int (k := .i64) (by decide) Tryz.un3 Tryz.agg3 rfl rfl) (.cons (eqF_int (k := .i64) (by decide) Tryz.un3 Tryz.agg3 rfl rfl) (.cons (eqF_int (k := .i64) (by decide) Tryz.un3 Tryz.agg3 rfl rfl) (.cons (eqF_int (k := .i64) (by decide) Tryz.un3 Tryz.agg3 rfl rfl) (.cons (eqF_bool (by decide) Tryz.un4 Tryz.agg4 rfl rfl) .nil))))
theorem binQ_aggs (op : BinOp) (a b : Array Value) : binQ op (.agg a) (.agg b) = none := rfl
attribute [go_sem] Tryz.eq58 Tryz.eq37 binQ_aggs
end Go.Proofs

/- Facts on this program's types. -/
namespace Go.Proofs
open Go Go.RowKit Go.Sim
set_option maxRecDepth 100000
theorem Tryz.ty93 : (prg Tryz.prog).ty 93 = some ⟨true, (.struct #[{ name := "D", type := 28, offset := 0, embedded := false, tag := "", pkgPath := "", byteOffset := 0 }, { name := "X", type := 37, offset := 10, embedded := false, tag := "", pkgPath := "", byteOffset := 96 }, { name := "Day", type := 3, offset := 15, embedded := false, tag := "", pkgPath := "", byteOffset := 136 }, { name := "Counted", type := 3, offset := 16, embedded := false, tag := "", pkgPath := "", byteOffset := 144 }, { name := "Charged", type := 3, offset := 17, embedded := false, tag := "", pkgPath := "", byteOffset := 152 }, { name := "Lawful", type := 3, offset := 18, embedded := false, tag := "", pkgPath := "", byteOffset := 160 }, { name := "Renewed", type := 3, offset := 19, embedded := false, tag := "", pkgPath := "", byteOffset := 168 }, { name := "Held", type := 3, offset := 20, embedded := false, tag := "", pkgPath := "", byteOffset := 176 }]), 21, 184, .agg #[.int .i64 0, .int .i64 0, .int .i64 0, .int .i64 0, .int .i64 0, .int .i64 0, .int .i64 0, .slice none 0 0, .int .i64 0, .int .i64 0, .int .i64 0, .int .i64 0, .int .i64 0, .int .i64 0, .bool false, .int .i64 0, .int .i64 0, .int .i64 0, .int .i64 0, .int .i64 0, .int .i64 0]⟩ := by kernel_rfl
attribute [go_sem] Tryz.ty93
theorem Tryz.bd93 (t : Tmps) (w : AW) (l : List (Nat × Operand)) : fast (prg Tryz.prog) t w (.build 93 ⟨l⟩) = bldQ [(0, 10), (10, 5), (15, 1), (16, 1), (17, 1), (18, 1), (19, 1), (20, 1)] [.int .i64 0, .int .i64 0, .int .i64 0, .int .i64 0, .int .i64 0, .int .i64 0, .int .i64 0, .slice none 0 0, .int .i64 0, .int .i64 0, .int .i64 0, .int .i64 0, .int .i64 0, .int .i64 0, .bool false, .int .i64 0, .int .i64 0, .int .i64 0, .int .i64 0, .int .i64 0, .int .i64 0] (l.map fun p => (p.1, ev t p.2)) := fast_build (zs := [.int .i64 0, .int .i64 0, .int .i64 0, .int .i64 0, .int .i64 0, .int .i64 0, .int .i64 0, .slice none 0 0, .int .i64 0, .int .i64 0, .int .i64 0, .int .i64 0, .int .i64 0, .int .i64 0, .bool false, .int .i64 0, .int .i64 0, .int .i64 0, .int .i64 0, .int .i64 0, .int .i64 0]) Tryz.ty93 (by kernel_rfl)
attribute [go_sem] Tryz.bd93
theorem Tryz.fa93x0 (t : Tmps) (w : AW) (x : Operand) : fast (prg Tryz.prog) t w (.fieldAddr 93 x 0) = fieldOff (ev t x) 0 := fast_fieldAddr (fd := { name := "D", type := 28, offset := 0, embedded := false, tag := "", pkgPath := "", byteOffset := 0 }) Tryz.ty93 rfl Tryz.ty28 rfl
attribute [go_sem] Tryz.fa93x0
theorem Tryz.fa93x1 (t : Tmps) (w : AW) (x : Operand) : fast (prg Tryz.prog) t w (.fieldAddr 93 x 1) = fieldOff (ev t x) 10 := fast_fieldAddr (fd := { name := "X", type := 37, offset := 10, embedded := false, tag := "", pkgPath := "", byteOffset := 96 }) Tryz.ty93 rfl Tryz.ty37 rfl
attribute [go_sem] Tryz.fa93x1
theorem Tryz.fa93x2 (t : Tmps) (w : AW) (x : Operand) : fast (prg Tryz.prog) t w (.fieldAddr 93 x 2) = fieldOff (ev t x) 15 := fast_fieldAddr (fd := { name := "Day", type := 3, offset := 15, embedded := false, tag := "", pkgPath := "", byteOffset := 136 }) Tryz.ty93 rfl Tryz.ty3 rfl
attribute [go_sem] Tryz.fa93x2
theorem Tryz.fa93x3 (t : Tmps) (w : AW) (x : Operand) : fast (prg Tryz.prog) t w (.fieldAddr 93 x 3) = fieldOff (ev t x) 16 := fast_fieldAddr (fd := { name := "Counted", type := 3, offset := 16, embedded := false, tag := "", pkgPath := "", byteOffset := 144 }) Tryz.ty93 rfl Tryz.ty3 rfl
attribute [go_sem] Tryz.fa93x3
theorem Tryz.fa93x4 (t : Tmps) (w : AW) (x : Operand) : fast (prg Tryz.prog) t w (.fieldAddr 93 x 4) = fieldOff (ev t x) 17 := fast_fieldAddr (fd := { name := "Charged", type := 3, offset := 17, embedded := false, tag := "", pkgPath := "", byteOffset := 152 }) Tryz.ty93 rfl Tryz.ty3 rfl
attribute [go_sem] Tryz.fa93x4
theorem Tryz.fa93x5 (t : Tmps) (w : AW) (x : Operand) : fast (prg Tryz.prog) t w (.fieldAddr 93 x 5) = fieldOff (ev t x) 18 := fast_fieldAddr (fd := { name := "Lawful", type := 3, offset := 18, embedded := false, tag := "", pkgPath := "", byteOffset := 160 }) Tryz.ty93 rfl Tryz.ty3 rfl
attribute [go_sem] Tryz.fa93x5
theorem Tryz.fa93x6 (t : Tmps) (w : AW) (x : Operand) : fast (prg Tryz.prog) t w (.fieldAddr 93 x 6) = fieldOff (ev t x) 19 := fast_fieldAddr (fd := { name := "Renewed", type := 3, offset := 19, embedded := false, tag := "", pkgPath := "", byteOffset := 168 }) Tryz.ty93 rfl Tryz.ty3 rfl
attribute [go_sem] Tryz.fa93x6
theorem Tryz.fa93x7 (t : Tmps) (w : AW) (x : Operand) : fast (prg Tryz.prog) t w (.fieldAddr 93 x 7) = fieldOff (ev t x) 20 := fast_fieldAddr (fd := { name := "Held", type := 3, offset := 20, embedded := false, tag := "", pkgPath := "", byteOffset := 176 }) Tryz.ty93 rfl Tryz.ty3 rfl
attribute [go_sem] Tryz.fa93x7
end Go.Proofs
