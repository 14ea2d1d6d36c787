/- This program's types, and what the machine is told of it in open calls. -/
import Derived.Test.YtbmgalmnjaimeaaNc
import Derived.Test.YtbmgalmnjaimeaaChecked
import Derived.Test.YtbmgalmnjaimeaaWb
set_option linter.unusedVariables false
set_option linter.unusedSimpArgs false
namespace Go.Proofs
open Go Go.RowKit Go.Sim
set_option maxRecDepth 100000
theorem Try.ty3 : (prg Try.prog).ty 3 = some ⟨false, (.int .i64), 1, 8, .int .i64 0⟩ := by kernel_rfl
attribute [go_sem] Try.ty3
theorem Try.ty4 : (prg Try.prog).ty 4 = some ⟨false, .bool, 1, 1, .bool false⟩ := by kernel_rfl
attribute [go_sem] Try.ty4
theorem Try.ty24 : (prg Try.prog).ty 24 = some ⟨false, (.int .i64), 1, 8, .int .i64 0⟩ := by kernel_rfl
attribute [go_sem] Try.ty24
theorem Try.ty22 : (prg Try.prog).ty 22 = some ⟨false, (.slice 3), 1, 24, .slice none 0 0⟩ := by kernel_rfl
attribute [go_sem] Try.ty22
theorem Try.ty23 : (prg Try.prog).ty 23 = some ⟨false, (.slice 76), 1, 24, .slice none 0 0⟩ := by kernel_rfl
attribute [go_sem] Try.ty23
theorem Try.ty76 : (prg Try.prog).ty 76 = some ⟨true, (.struct #[{ name := "Rank", type := 3, offset := 0, embedded := false, tag := "", pkgPath := "", byteOffset := 0 }, { name := "Amount", type := 3, offset := 1, embedded := false, tag := "", pkgPath := "", byteOffset := 8 }]), 2, 16, .agg #[.int .i64 0, .int .i64 0]⟩ := by kernel_rfl
attribute [go_sem] Try.ty76
theorem Try.ty9 : (prg Try.prog).ty 9 = some ⟨false, .string, 1, 16, .string ⟨#[]⟩⟩ := by kernel_rfl
attribute [go_sem] Try.ty9
theorem Try.ty32 : (prg Try.prog).ty 32 = some ⟨false, (.slice 79), 1, 24, .slice none 0 0⟩ := by kernel_rfl
attribute [go_sem] Try.ty32
theorem Try.ty33 : (prg Try.prog).ty 33 = some ⟨false, (.slice 81), 1, 24, .slice none 0 0⟩ := by kernel_rfl
attribute [go_sem] Try.ty33
theorem Try.ty79 : (prg Try.prog).ty 79 = some ⟨true, (.struct #[{ name := "Pledge", type := 9, offset := 0, embedded := false, tag := "", pkgPath := "", byteOffset := 0 }, { name := "Value", type := 3, offset := 1, embedded := false, tag := "", pkgPath := "", byteOffset := 16 }, { name := "Dues", type := 23, offset := 2, embedded := false, tag := "", pkgPath := "", byteOffset := 24 }]), 3, 48, .agg #[.string ⟨#[]⟩, .int .i64 0, .slice none 0 0]⟩ := by kernel_rfl
attribute [go_sem] Try.ty79
theorem Try.ty81 : (prg Try.prog).ty 81 = some ⟨true, (.struct #[{ name := "Price", type := 3, offset := 0, embedded := false, tag := "", pkgPath := "", byteOffset := 0 }, { name := "Paid", type := 22, offset := 1, embedded := false, tag := "", pkgPath := "", byteOffset := 8 }, { name := "Left", type := 3, offset := 2, embedded := false, tag := "", pkgPath := "", byteOffset := 32 }]), 3, 40, .agg #[.int .i64 0, .slice none 0 0, .int .i64 0]⟩ := by kernel_rfl
attribute [go_sem] Try.ty81
theorem Try.ia22 (t : Tmps) (w : AW) (x y : Operand) : fast (prg Try.prog) t w (.indexAddr 22 x y) = indexV 1 (ev t x) (ev t y) := fast_indexAddr Try.ty22 Try.ty3
attribute [go_sem] Try.ia22
theorem Try.ln22 (t : Tmps) (w : AW) (x : Operand) : fast (prg Try.prog) t w (.call ⟨.builtin .len, ⟨[x]⟩, ⟨[22]⟩⟩) = lenV (ev t x) := fast_len Try.ty22
attribute [go_sem] Try.ln22
theorem Try.ia23 (t : Tmps) (w : AW) (x y : Operand) : fast (prg Try.prog) t w (.indexAddr 23 x y) = indexV 2 (ev t x) (ev t y) := fast_indexAddr Try.ty23 Try.ty76
attribute [go_sem] Try.ia23
theorem Try.ln23 (t : Tmps) (w : AW) (x : Operand) : fast (prg Try.prog) t w (.call ⟨.builtin .len, ⟨[x]⟩, ⟨[23]⟩⟩) = lenV (ev t x) := fast_len Try.ty23
attribute [go_sem] Try.ln23
theorem Try.fa76x0 (t : Tmps) (w : AW) (x : Operand) : fast (prg Try.prog) t w (.fieldAddr 76 x 0) = fieldOff (ev t x) 0 := fast_fieldAddr (fd := { name := "Rank", type := 3, offset := 0, embedded := false, tag := "", pkgPath := "", byteOffset := 0 }) Try.ty76 rfl Try.ty3 rfl
attribute [go_sem] Try.fa76x0
theorem Try.fa76x1 (t : Tmps) (w : AW) (x : Operand) : fast (prg Try.prog) t w (.fieldAddr 76 x 1) = fieldOff (ev t x) 1 := fast_fieldAddr (fd := { name := "Amount", type := 3, offset := 1, embedded := false, tag := "", pkgPath := "", byteOffset := 8 }) Try.ty76 rfl Try.ty3 rfl
attribute [go_sem] Try.fa76x1
theorem Try.ia32 (t : Tmps) (w : AW) (x y : Operand) : fast (prg Try.prog) t w (.indexAddr 32 x y) = indexV 3 (ev t x) (ev t y) := fast_indexAddr Try.ty32 Try.ty79
attribute [go_sem] Try.ia32
theorem Try.ln32 (t : Tmps) (w : AW) (x : Operand) : fast (prg Try.prog) t w (.call ⟨.builtin .len, ⟨[x]⟩, ⟨[32]⟩⟩) = lenV (ev t x) := fast_len Try.ty32
attribute [go_sem] Try.ln32
theorem Try.ia33 (t : Tmps) (w : AW) (x y : Operand) : fast (prg Try.prog) t w (.indexAddr 33 x y) = indexV 3 (ev t x) (ev t y) := fast_indexAddr Try.ty33 Try.ty81
attribute [go_sem] Try.ia33
theorem Try.ln33 (t : Tmps) (w : AW) (x : Operand) : fast (prg Try.prog) t w (.call ⟨.builtin .len, ⟨[x]⟩, ⟨[33]⟩⟩) = lenV (ev t x) := fast_len Try.ty33
attribute [go_sem] Try.ln33
theorem Try.fa79x0 (t : Tmps) (w : AW) (x : Operand) : fast (prg Try.prog) t w (.fieldAddr 79 x 0) = fieldOff (ev t x) 0 := fast_fieldAddr (fd := { name := "Pledge", type := 9, offset := 0, embedded := false, tag := "", pkgPath := "", byteOffset := 0 }) Try.ty79 rfl Try.ty9 rfl
attribute [go_sem] Try.fa79x0
theorem Try.fa79x1 (t : Tmps) (w : AW) (x : Operand) : fast (prg Try.prog) t w (.fieldAddr 79 x 1) = fieldOff (ev t x) 1 := fast_fieldAddr (fd := { name := "Value", type := 3, offset := 1, embedded := false, tag := "", pkgPath := "", byteOffset := 16 }) Try.ty79 rfl Try.ty3 rfl
attribute [go_sem] Try.fa79x1
theorem Try.fa79x2 (t : Tmps) (w : AW) (x : Operand) : fast (prg Try.prog) t w (.fieldAddr 79 x 2) = fieldOff (ev t x) 2 := fast_fieldAddr (fd := { name := "Dues", type := 23, offset := 2, embedded := false, tag := "", pkgPath := "", byteOffset := 24 }) Try.ty79 rfl Try.ty23 rfl
attribute [go_sem] Try.fa79x2
theorem Try.bd81 (t : Tmps) (w : AW) (l : List (Nat × Operand)) : fast (prg Try.prog) t w (.build 81 ⟨l⟩) = bldQ [(0, 1), (1, 1), (2, 1)] [.int .i64 0, .slice none 0 0, .int .i64 0] (l.map fun p => (p.1, ev t p.2)) := fast_build (zs := [.int .i64 0, .slice none 0 0, .int .i64 0]) Try.ty81 (by kernel_rfl)
attribute [go_sem] Try.bd81
theorem Try.fa81x2 (t : Tmps) (w : AW) (x : Operand) : fast (prg Try.prog) t w (.fieldAddr 81 x 2) = fieldOff (ev t x) 2 := fast_fieldAddr (fd := { name := "Left", type := 3, offset := 2, embedded := false, tag := "", pkgPath := "", byteOffset := 32 }) Try.ty81 rfl Try.ty3 rfl
attribute [go_sem] Try.fa81x2
end Go.Proofs

namespace Go.Proofs
open Go Go.RowKit Go.Sim
set_option maxRecDepth 100000
theorem Try.bs22 (t : Tmps) (l : List (Nat × Operand)) : makes (prg Try.prog) t (.buildSlice 22 1 ⟨l⟩) = bsQ 3 1 1 [.int .i64 0] (l.map fun p => (p.1, ev t p.2)) := makes_bs Try.ty22 Try.ty3 rfl (by kernel_rfl)
theorem bsQ_00 {e : TypeId} {z : Nat} : bsQ e 0 z [] [] = some ([], e, fun n => .slice (some ⟨n, 0, none⟩) 0 0) := rfl
attribute [go_sem] Try.bs22 bsQ_00
end Go.Proofs

namespace Go.Proofs
open Go Go.RowKit Go.Sim
set_option maxRecDepth 100000
theorem Try.ty133 : (prg Try.prog).ty 133 = some ⟨false, (.map 9 4), 1, 8, .map none⟩ := by kernel_rfl
attribute [go_sem] Try.ty133
theorem Try.und9 : Try.prog.underlying 9 = some .string := by kernel_rfl
theorem Try.ln9 (t : Tmps) (w : AW) (x : Operand) : fast (prg Try.prog) t w (.call ⟨.builtin .len, ⟨[x]⟩, ⟨[9]⟩⟩) = none := by simp only [fast, Try.ty9]
theorem Try.lq9 (s : ByteArray) : lenSQ (prg Try.prog) 9 (.string s) = some (.int .i64 (s.size : Int)) := by
  have : (prg Try.prog).p.underlying 9 = some .string := Try.und9
  simp only [lenSQ, this]
theorem Try.ix9 (t : Tmps) (w : AW) (x i : Operand) : fast (prg Try.prog) t w (.index 9 x i) = none := by simp only [fast, Try.ty9]
theorem Try.iq9 (s : ByteArray) (k : IntKind) (n : Nat) (h : n < s.size) : indexSQ (prg Try.prog) 9 (.string s) (.int k (n : Int)) = some (.int .u8 (s[n]'h).toNat) := by
  have : (prg Try.prog).p.underlying 9 = some .string := Try.und9
  have hn : (0 : Int) ≤ (n : Int) := by omega
  simp only [indexSQ, this, hn, if_true, Int.toNat_natCast]
  rw [getElem?_pos s n h]
attribute [go_sem] Try.ln9 Try.lq9 Try.ix9
theorem Try.lk133 (t : Tmps) (w : AW) (x k : Operand) (ok : Bool) : fast (prg Try.prog) t w (.lookup 133 x k ok) = lookupV w .string (.bool false) (ev t x) (ev t k) ok := by simp only [fast, Try.ty133, Try.ty9, Try.ty4]
attribute [go_sem] Try.lk133
end Go.Proofs
