/- This program's types, and what the machine is told of it in open calls. -/
import Derived.Test.YtdbeiefgokocnaaNb
import Derived.Test.YtdbeiefgokocnaaChecked
import Derived.Test.YtdbeiefgokocnaaWa
set_option linter.unusedVariables false
set_option linter.unusedSimpArgs false
/- Facts on this program's types. -/
namespace Go.Proofs
open Go Go.RowKit Go.Sim
set_option maxRecDepth 100000
theorem Try.ty3 : (prg Try.prog).ty 3 = some ⟨false, (.int .i64), 1, 8, .int .i64 0⟩ := by kernel_rfl
attribute [go_sem] Try.ty3
theorem Try.ty4 : (prg Try.prog).ty 4 = some ⟨false, .bool, 1, 1, .bool false⟩ := by kernel_rfl
attribute [go_sem] Try.ty4
theorem Try.ty23 : (prg Try.prog).ty 23 = some ⟨false, (.slice 3), 1, 24, .slice none 0 0⟩ := by kernel_rfl
attribute [go_sem] Try.ty23
theorem Try.ty30 : (prg Try.prog).ty 30 = some ⟨false, (.int .i64), 1, 8, .int .i64 0⟩ := by kernel_rfl
attribute [go_sem] Try.ty30
theorem Try.ty52 : (prg Try.prog).ty 52 = some ⟨true, (.struct #[{ name := "Rate", type := 3, offset := 0, embedded := false, tag := "", pkgPath := "", byteOffset := 0 }, { name := "Cap", type := 3, offset := 1, embedded := false, tag := "", pkgPath := "", byteOffset := 8 }]), 2, 16, .agg #[.int .i64 0, .int .i64 0]⟩ := by kernel_rfl
attribute [go_sem] Try.ty52
theorem Try.ty54 : (prg Try.prog).ty 54 = some ⟨true, (.struct #[{ name := "Rate", type := 3, offset := 0, embedded := false, tag := "", pkgPath := "", byteOffset := 0 }, { name := "Free", type := 3, offset := 1, embedded := false, tag := "", pkgPath := "", byteOffset := 8 }, { name := "Fee", type := 3, offset := 2, embedded := false, tag := "", pkgPath := "", byteOffset := 16 }, { name := "Term", type := 3, offset := 3, embedded := false, tag := "", pkgPath := "", byteOffset := 24 }, { name := "Grace", type := 3, offset := 4, embedded := false, tag := "", pkgPath := "", byteOffset := 32 }]), 5, 40, .agg #[.int .i64 0, .int .i64 0, .int .i64 0, .int .i64 0, .int .i64 0]⟩ := by kernel_rfl
attribute [go_sem] Try.ty54
theorem Try.ty56 : (prg Try.prog).ty 56 = some ⟨true, (.struct #[{ name := "Law", type := 52, offset := 0, embedded := false, tag := "", pkgPath := "", byteOffset := 0 }, { name := "Tariff", type := 54, offset := 2, embedded := false, tag := "", pkgPath := "", byteOffset := 16 }, { name := "Closed", type := 23, offset := 7, embedded := false, tag := "", pkgPath := "", byteOffset := 56 }, { name := "Start", type := 3, offset := 8, embedded := false, tag := "", pkgPath := "", byteOffset := 80 }, { name := "Sum", type := 3, offset := 9, embedded := false, tag := "", pkgPath := "", byteOffset := 88 }]), 10, 96, .agg #[.int .i64 0, .int .i64 0, .int .i64 0, .int .i64 0, .int .i64 0, .int .i64 0, .int .i64 0, .slice none 0 0, .int .i64 0, .int .i64 0]⟩ := by kernel_rfl
attribute [go_sem] Try.ty56
theorem Try.ia23 (t : Tmps) (w : AW) (x y : Operand) : fast (prg Try.prog) t w (.indexAddr 23 x y) = indexV 1 (ev t x) (ev t y) := fast_indexAddr Try.ty23 Try.ty3
attribute [go_sem] Try.ia23
theorem Try.ln23 (t : Tmps) (w : AW) (x : Operand) : fast (prg Try.prog) t w (.call ⟨.builtin .len, ⟨[x]⟩, ⟨[23]⟩⟩) = lenV (ev t x) := fast_len Try.ty23
attribute [go_sem] Try.ln23
theorem Try.bd52 (t : Tmps) (w : AW) (l : List (Nat × Operand)) : fast (prg Try.prog) t w (.build 52 ⟨l⟩) = bldQ [(0, 1), (1, 1)] [.int .i64 0, .int .i64 0] (l.map fun p => (p.1, ev t p.2)) := fast_build (zs := [.int .i64 0, .int .i64 0]) Try.ty52 (by kernel_rfl)
attribute [go_sem] Try.bd52
theorem Try.fa52x0 (t : Tmps) (w : AW) (x : Operand) : fast (prg Try.prog) t w (.fieldAddr 52 x 0) = fieldOff (ev t x) 0 := fast_fieldAddr (fd := { name := "Rate", type := 3, offset := 0, embedded := false, tag := "", pkgPath := "", byteOffset := 0 }) Try.ty52 rfl Try.ty3 rfl
attribute [go_sem] Try.fa52x0
theorem Try.fa52x1 (t : Tmps) (w : AW) (x : Operand) : fast (prg Try.prog) t w (.fieldAddr 52 x 1) = fieldOff (ev t x) 1 := fast_fieldAddr (fd := { name := "Cap", type := 3, offset := 1, embedded := false, tag := "", pkgPath := "", byteOffset := 8 }) Try.ty52 rfl Try.ty3 rfl
attribute [go_sem] Try.fa52x1
theorem Try.bd54 (t : Tmps) (w : AW) (l : List (Nat × Operand)) : fast (prg Try.prog) t w (.build 54 ⟨l⟩) = bldQ [(0, 1), (1, 1), (2, 1), (3, 1), (4, 1)] [.int .i64 0, .int .i64 0, .int .i64 0, .int .i64 0, .int .i64 0] (l.map fun p => (p.1, ev t p.2)) := fast_build (zs := [.int .i64 0, .int .i64 0, .int .i64 0, .int .i64 0, .int .i64 0]) Try.ty54 (by kernel_rfl)
attribute [go_sem] Try.bd54
theorem Try.fa54x0 (t : Tmps) (w : AW) (x : Operand) : fast (prg Try.prog) t w (.fieldAddr 54 x 0) = fieldOff (ev t x) 0 := fast_fieldAddr (fd := { name := "Rate", type := 3, offset := 0, embedded := false, tag := "", pkgPath := "", byteOffset := 0 }) Try.ty54 rfl Try.ty3 rfl
attribute [go_sem] Try.fa54x0
theorem Try.fa54x1 (t : Tmps) (w : AW) (x : Operand) : fast (prg Try.prog) t w (.fieldAddr 54 x 1) = fieldOff (ev t x) 1 := fast_fieldAddr (fd := { name := "Free", type := 3, offset := 1, embedded := false, tag := "", pkgPath := "", byteOffset := 8 }) Try.ty54 rfl Try.ty3 rfl
attribute [go_sem] Try.fa54x1
theorem Try.fa54x2 (t : Tmps) (w : AW) (x : Operand) : fast (prg Try.prog) t w (.fieldAddr 54 x 2) = fieldOff (ev t x) 2 := fast_fieldAddr (fd := { name := "Fee", type := 3, offset := 2, embedded := false, tag := "", pkgPath := "", byteOffset := 16 }) Try.ty54 rfl Try.ty3 rfl
attribute [go_sem] Try.fa54x2
theorem Try.fa54x3 (t : Tmps) (w : AW) (x : Operand) : fast (prg Try.prog) t w (.fieldAddr 54 x 3) = fieldOff (ev t x) 3 := fast_fieldAddr (fd := { name := "Term", type := 3, offset := 3, embedded := false, tag := "", pkgPath := "", byteOffset := 24 }) Try.ty54 rfl Try.ty3 rfl
attribute [go_sem] Try.fa54x3
theorem Try.fa54x4 (t : Tmps) (w : AW) (x : Operand) : fast (prg Try.prog) t w (.fieldAddr 54 x 4) = fieldOff (ev t x) 4 := fast_fieldAddr (fd := { name := "Grace", type := 3, offset := 4, embedded := false, tag := "", pkgPath := "", byteOffset := 32 }) Try.ty54 rfl Try.ty3 rfl
attribute [go_sem] Try.fa54x4
theorem Try.bd56 (t : Tmps) (w : AW) (l : List (Nat × Operand)) : fast (prg Try.prog) t w (.build 56 ⟨l⟩) = bldQ [(0, 2), (2, 5), (7, 1), (8, 1), (9, 1)] [.int .i64 0, .int .i64 0, .int .i64 0, .int .i64 0, .int .i64 0, .int .i64 0, .int .i64 0, .slice none 0 0, .int .i64 0, .int .i64 0] (l.map fun p => (p.1, ev t p.2)) := fast_build (zs := [.int .i64 0, .int .i64 0, .int .i64 0, .int .i64 0, .int .i64 0, .int .i64 0, .int .i64 0, .slice none 0 0, .int .i64 0, .int .i64 0]) Try.ty56 (by kernel_rfl)
attribute [go_sem] Try.bd56
theorem Try.fa56x0 (t : Tmps) (w : AW) (x : Operand) : fast (prg Try.prog) t w (.fieldAddr 56 x 0) = fieldOff (ev t x) 0 := fast_fieldAddr (fd := { name := "Law", type := 52, offset := 0, embedded := false, tag := "", pkgPath := "", byteOffset := 0 }) Try.ty56 rfl Try.ty52 rfl
attribute [go_sem] Try.fa56x0
theorem Try.fa56x1 (t : Tmps) (w : AW) (x : Operand) : fast (prg Try.prog) t w (.fieldAddr 56 x 1) = fieldOff (ev t x) 2 := fast_fieldAddr (fd := { name := "Tariff", type := 54, offset := 2, embedded := false, tag := "", pkgPath := "", byteOffset := 16 }) Try.ty56 rfl Try.ty54 rfl
attribute [go_sem] Try.fa56x1
theorem Try.fa56x2 (t : Tmps) (w : AW) (x : Operand) : fast (prg Try.prog) t w (.fieldAddr 56 x 2) = fieldOff (ev t x) 7 := fast_fieldAddr (fd := { name := "Closed", type := 23, offset := 7, embedded := false, tag := "", pkgPath := "", byteOffset := 56 }) Try.ty56 rfl Try.ty23 rfl
attribute [go_sem] Try.fa56x2
theorem Try.fa56x3 (t : Tmps) (w : AW) (x : Operand) : fast (prg Try.prog) t w (.fieldAddr 56 x 3) = fieldOff (ev t x) 8 := fast_fieldAddr (fd := { name := "Start", type := 3, offset := 8, embedded := false, tag := "", pkgPath := "", byteOffset := 80 }) Try.ty56 rfl Try.ty3 rfl
attribute [go_sem] Try.fa56x3
theorem Try.fa56x4 (t : Tmps) (w : AW) (x : Operand) : fast (prg Try.prog) t w (.fieldAddr 56 x 4) = fieldOff (ev t x) 9 := fast_fieldAddr (fd := { name := "Sum", type := 3, offset := 9, embedded := false, tag := "", pkgPath := "", byteOffset := 88 }) Try.ty56 rfl Try.ty3 rfl
attribute [go_sem] Try.fa56x4
end Go.Proofs

/- What this seat's proofs are told: the program's own check, and no more. -/
namespace Go.Proofs
open Go Go.RowKit Go.Sim
set_option maxRecDepth 100000
def Try.T1 : ToldF := toldTrue 21 fun _ _ _ => none
theorem Try.toldT1 (N : Nat) : ToldOk Try.prog N Try.T1 := toldTrue_ok (fun args w => Try.call21 args w) Try.works (fun N => fun f args w w1 v h => by cases h) N
theorem Try.bs23 (t : Tmps) (l : List (Nat × Operand)) : makes (prg Try.prog) t (.buildSlice 23 1 ⟨l⟩) = bsQ 3 1 1 [.int .i64 0] (l.map fun p => (p.1, ev t p.2)) := makes_bs Try.ty23 Try.ty3 rfl (by kernel_rfl)
attribute [go_sem] Try.bs23
end Go.Proofs

/- Facts on this program's types. -/
namespace Go.Proofs
open Go Go.RowKit Go.Sim
set_option maxRecDepth 100000
theorem Try.ty5 : (prg Try.prog).ty 5 = some ⟨false, (.int .u8), 1, 1, .int .u8 0⟩ := by kernel_rfl
attribute [go_sem] Try.ty5
theorem Try.ty9 : (prg Try.prog).ty 9 = some ⟨false, .string, 1, 16, .string ⟨#[]⟩⟩ := by kernel_rfl
attribute [go_sem] Try.ty9
theorem Try.ty27 : (prg Try.prog).ty 27 = some ⟨true, (.struct #[{ name := "Min", type := 3, offset := 0, embedded := false, tag := "", pkgPath := "", byteOffset := 0 }, { name := "Max", type := 3, offset := 1, embedded := false, tag := "", pkgPath := "", byteOffset := 8 }]), 2, 16, .agg #[.int .i64 0, .int .i64 0]⟩ := by kernel_rfl
attribute [go_sem] Try.ty27
theorem Try.ty40 : (prg Try.prog).ty 40 = some ⟨true, (.struct #[{ name := "Fraction", type := 3, offset := 0, embedded := false, tag := "", pkgPath := "", byteOffset := 0 }, { name := "Floor", type := 3, offset := 1, embedded := false, tag := "", pkgPath := "", byteOffset := 8 }, { name := "Cap", type := 3, offset := 2, embedded := false, tag := "", pkgPath := "", byteOffset := 16 }]), 3, 24, .agg #[.int .i64 0, .int .i64 0, .int .i64 0]⟩ := by kernel_rfl
attribute [go_sem] Try.ty40
theorem Try.ty41 : (prg Try.prog).ty 41 = some ⟨false, (.slice 94), 1, 24, .slice none 0 0⟩ := by kernel_rfl
attribute [go_sem] Try.ty41
theorem Try.ty43 : (prg Try.prog).ty 43 = some ⟨true, (.struct #[{ name := "L", type := 41, offset := 0, embedded := false, tag := "", pkgPath := "", byteOffset := 0 }, { name := "Class", type := 9, offset := 1, embedded := false, tag := "", pkgPath := "", byteOffset := 24 }, { name := "Wish", type := 3, offset := 2, embedded := false, tag := "", pkgPath := "", byteOffset := 40 }]), 3, 48, .agg #[.slice none 0 0, .string ⟨#[]⟩, .int .i64 0]⟩ := by kernel_rfl
attribute [go_sem] Try.ty43
theorem Try.ty94 : (prg Try.prog).ty 94 = some ⟨true, (.struct #[{ name := "Class", type := 9, offset := 0, embedded := false, tag := "", pkgPath := "", byteOffset := 0 }, { name := "Terms", type := 40, offset := 1, embedded := false, tag := "", pkgPath := "", byteOffset := 16 }]), 4, 40, .agg #[.string ⟨#[]⟩, .int .i64 0, .int .i64 0, .int .i64 0]⟩ := by kernel_rfl
attribute [go_sem] Try.ty94
theorem Try.ty130 : (prg Try.prog).ty 130 = some ⟨false, (.map 9 4), 1, 8, .map none⟩ := by kernel_rfl
attribute [go_sem] Try.ty130
theorem Try.bd27 (t : Tmps) (w : AW) (l : List (Nat × Operand)) : fast (prg Try.prog) t w (.build 27 ⟨l⟩) = bldQ [(0, 1), (1, 1)] [.int .i64 0, .int .i64 0] (l.map fun p => (p.1, ev t p.2)) := fast_build (zs := [.int .i64 0, .int .i64 0]) Try.ty27 (by kernel_rfl)
attribute [go_sem] Try.bd27
theorem Try.fa27x0 (t : Tmps) (w : AW) (x : Operand) : fast (prg Try.prog) t w (.fieldAddr 27 x 0) = fieldOff (ev t x) 0 := fast_fieldAddr (fd := { name := "Min", type := 3, offset := 0, embedded := false, tag := "", pkgPath := "", byteOffset := 0 }) Try.ty27 rfl Try.ty3 rfl
attribute [go_sem] Try.fa27x0
theorem Try.fa27x1 (t : Tmps) (w : AW) (x : Operand) : fast (prg Try.prog) t w (.fieldAddr 27 x 1) = fieldOff (ev t x) 1 := fast_fieldAddr (fd := { name := "Max", type := 3, offset := 1, embedded := false, tag := "", pkgPath := "", byteOffset := 8 }) Try.ty27 rfl Try.ty3 rfl
attribute [go_sem] Try.fa27x1
theorem Try.bd40 (t : Tmps) (w : AW) (l : List (Nat × Operand)) : fast (prg Try.prog) t w (.build 40 ⟨l⟩) = bldQ [(0, 1), (1, 1), (2, 1)] [.int .i64 0, .int .i64 0, .int .i64 0] (l.map fun p => (p.1, ev t p.2)) := fast_build (zs := [.int .i64 0, .int .i64 0, .int .i64 0]) Try.ty40 (by kernel_rfl)
attribute [go_sem] Try.bd40
theorem Try.fa40x0 (t : Tmps) (w : AW) (x : Operand) : fast (prg Try.prog) t w (.fieldAddr 40 x 0) = fieldOff (ev t x) 0 := fast_fieldAddr (fd := { name := "Fraction", type := 3, offset := 0, embedded := false, tag := "", pkgPath := "", byteOffset := 0 }) Try.ty40 rfl Try.ty3 rfl
attribute [go_sem] Try.fa40x0
theorem Try.fa40x1 (t : Tmps) (w : AW) (x : Operand) : fast (prg Try.prog) t w (.fieldAddr 40 x 1) = fieldOff (ev t x) 1 := fast_fieldAddr (fd := { name := "Floor", type := 3, offset := 1, embedded := false, tag := "", pkgPath := "", byteOffset := 8 }) Try.ty40 rfl Try.ty3 rfl
attribute [go_sem] Try.fa40x1
theorem Try.fa40x2 (t : Tmps) (w : AW) (x : Operand) : fast (prg Try.prog) t w (.fieldAddr 40 x 2) = fieldOff (ev t x) 2 := fast_fieldAddr (fd := { name := "Cap", type := 3, offset := 2, embedded := false, tag := "", pkgPath := "", byteOffset := 16 }) Try.ty40 rfl Try.ty3 rfl
attribute [go_sem] Try.fa40x2
theorem Try.ia41 (t : Tmps) (w : AW) (x y : Operand) : fast (prg Try.prog) t w (.indexAddr 41 x y) = indexV 4 (ev t x) (ev t y) := fast_indexAddr Try.ty41 Try.ty94
attribute [go_sem] Try.ia41
theorem Try.ln41 (t : Tmps) (w : AW) (x : Operand) : fast (prg Try.prog) t w (.call ⟨.builtin .len, ⟨[x]⟩, ⟨[41]⟩⟩) = lenV (ev t x) := fast_len Try.ty41
attribute [go_sem] Try.ln41
theorem Try.bd43 (t : Tmps) (w : AW) (l : List (Nat × Operand)) : fast (prg Try.prog) t w (.build 43 ⟨l⟩) = bldQ [(0, 1), (1, 1), (2, 1)] [.slice none 0 0, .string ⟨#[]⟩, .int .i64 0] (l.map fun p => (p.1, ev t p.2)) := fast_build (zs := [.slice none 0 0, .string ⟨#[]⟩, .int .i64 0]) Try.ty43 (by kernel_rfl)
attribute [go_sem] Try.bd43
theorem Try.fa43x0 (t : Tmps) (w : AW) (x : Operand) : fast (prg Try.prog) t w (.fieldAddr 43 x 0) = fieldOff (ev t x) 0 := fast_fieldAddr (fd := { name := "L", type := 41, offset := 0, embedded := false, tag := "", pkgPath := "", byteOffset := 0 }) Try.ty43 rfl Try.ty41 rfl
attribute [go_sem] Try.fa43x0
theorem Try.fa43x1 (t : Tmps) (w : AW) (x : Operand) : fast (prg Try.prog) t w (.fieldAddr 43 x 1) = fieldOff (ev t x) 1 := fast_fieldAddr (fd := { name := "Class", type := 9, offset := 1, embedded := false, tag := "", pkgPath := "", byteOffset := 24 }) Try.ty43 rfl Try.ty9 rfl
attribute [go_sem] Try.fa43x1
theorem Try.fa43x2 (t : Tmps) (w : AW) (x : Operand) : fast (prg Try.prog) t w (.fieldAddr 43 x 2) = fieldOff (ev t x) 2 := fast_fieldAddr (fd := { name := "Wish", type := 3, offset := 2, embedded := false, tag := "", pkgPath := "", byteOffset := 40 }) Try.ty43 rfl Try.ty3 rfl
attribute [go_sem] Try.fa43x2
theorem Try.bd94 (t : Tmps) (w : AW) (l : List (Nat × Operand)) : fast (prg Try.prog) t w (.build 94 ⟨l⟩) = bldQ [(0, 1), (1, 3)] [.string ⟨#[]⟩, .int .i64 0, .int .i64 0, .int .i64 0] (l.map fun p => (p.1, ev t p.2)) := fast_build (zs := [.string ⟨#[]⟩, .int .i64 0, .int .i64 0, .int .i64 0]) Try.ty94 (by kernel_rfl)
attribute [go_sem] Try.bd94
theorem Try.fa94x0 (t : Tmps) (w : AW) (x : Operand) : fast (prg Try.prog) t w (.fieldAddr 94 x 0) = fieldOff (ev t x) 0 := fast_fieldAddr (fd := { name := "Class", type := 9, offset := 0, embedded := false, tag := "", pkgPath := "", byteOffset := 0 }) Try.ty94 rfl Try.ty9 rfl
attribute [go_sem] Try.fa94x0
theorem Try.fa94x1 (t : Tmps) (w : AW) (x : Operand) : fast (prg Try.prog) t w (.fieldAddr 94 x 1) = fieldOff (ev t x) 1 := fast_fieldAddr (fd := { name := "Terms", type := 40, offset := 1, embedded := false, tag := "", pkgPath := "", byteOffset := 16 }) Try.ty94 rfl Try.ty40 rfl
attribute [go_sem] Try.fa94x1
end Go.Proofs

/- Facts on this program's texts. -/
namespace Go.Proofs
open Go Go.RowKit Go.Sim
theorem Try.und9 : Try.prog.underlying 9 = some .string := by kernel_rfl
theorem Try.ln9 (t : Tmps) (w : AW) (x : Operand) : fast (prg Try.prog) t w (.call ⟨.builtin .len, ⟨[x]⟩, ⟨[9]⟩⟩) = none := by simp only [fast, Try.ty9]
theorem Try.lq9 (s : ByteArray) : lenSQ (prg Try.prog) 9 (.string s) = some (.int .i64 (s.size : Int)) := by
  have : (prg Try.prog).p.underlying 9 = some .string := Try.und9
  simp only [lenSQ, this]
theorem Try.ix9 (t : Tmps) (w : AW) (x i : Operand) : fast (prg Try.prog) t w (.index 9 x i) = none := by simp only [fast, Try.ty9]
theorem Try.iq9 (s : ByteArray) (k : IntKind) (n : Nat) (h : n < s.size) : indexSQ (prg Try.prog) 9 (.string s) (.int k (n : Int)) = some (.int .u8 (s[n]'h).toNat) := by
  have : (prg Try.prog).p.underlying 9 = some .string := Try.und9
  have hn : (0 : Int) ≤ (n : Int) := by omega
  simp only [indexSQ, this, hn, if_true, Int.toNat_natCast]
  rw [getElem?_pos s n h]
attribute [go_sem] Try.ln9 Try.lq9 Try.ix9
end Go.Proofs

/- Facts on this program's maps, its texts compared, its terms compared. -/
namespace Go.Proofs
open Go Go.RowKit Go.Sim
set_option maxRecDepth 100000
theorem Try.lk130 (t : Tmps) (w : AW) (x k : Operand) (ok : Bool) : fast (prg Try.prog) t w (.lookup 130 x k ok) = lookupV w .string (.bool false) (ev t x) (ev t k) ok := by simp only [fast, Try.ty130, Try.ty9, Try.ty4]
theorem Try.sb1 (a b : ByteArray) (op : BinOp) (h : op = .eql ∨ op = .neq) : binQ op (.string a) (.string b) = none := by rcases h with rfl | rfl <;> rfl
theorem Try.sbe (a b : ByteArray) : binQ .eql (.string a) (.string b) = none := rfl
theorem Try.sbn (a b : ByteArray) : binQ .neq (.string a) (.string b) = none := rfl
theorem Try.sqe (a b : ByteArray) (ty : TypeId) : eqQ Try.prog .eql ty (.string a) (.string b) = none := rfl
theorem Try.sqn (a b : ByteArray) (ty : TypeId) : eqQ Try.prog .neq ty (.string a) (.string b) = none := rfl
def strB (op : BinOp) (x y : Value) (d : Option Value) : Option Value := match binV op x y with | some v => some v | none => d
theorem strB_eql (a b : ByteArray) (d : Option Value) : strB .eql (.string a) (.string b) d = some (.bool (sEq a b)) := rfl
theorem strB_neq (a b : ByteArray) (d : Option Value) : strB .neq (.string a) (.string b) d = some (.bool (!sEq a b)) := rfl
theorem Try.sf9 (t : Tmps) (w : AW) (op : BinOp) (x y : Operand) (r : TypeId) : fast (prg Try.prog) t w (.binOp op 9 x y r) = strB op (ev t x) (ev t y) (match nilC .string op y (ev t x) with | some v => some v | none => eqNilV .string op (ev t x) (ev t y)) := by
  simp only [fast, Try.ty9, strB]
  cases binV op (ev t x) (ev t y) with
  | some v => rfl
  | none => cases nilC .string op y (ev t x) <;> rfl
theorem Try.und40 : Try.prog.underlying 40 = some (.struct #[{ name := "Fraction", type := 3, offset := 0, embedded := false, tag := "", pkgPath := "", byteOffset := 0 }, { name := "Floor", type := 3, offset := 1, embedded := false, tag := "", pkgPath := "", byteOffset := 8 }, { name := "Cap", type := 3, offset := 2, embedded := false, tag := "", pkgPath := "", byteOffset := 16 }]) := by kernel_rfl
attribute [go_sem] Try.sf9 strB_eql strB_neq Try.lk130 Try.sbe Try.sbn Try.sqe Try.sqn
theorem Try.und3' : Try.prog.underlying 3 = some (.int .i64) := by kernel_rfl
theorem Try.stood40 : Try.prog.stoodInHeld 40 = false := by kernel_rfl
theorem Try.eqInt3 (d : Nat) (a : Int) : prun Try.prog (Op.equalIn (d + 1) 3 (.int .i64 a) (.int .i64 a)) = some true := by
  rw [Op.equalIn]
  show prun _ ((underlying 3).bind _) = _
  rw [prun_bind _ _ _ (prun_underlying Try.und3')]
  simp
  rfl
theorem Try.part3 (cs : Array Value) (o : Nat) (v : Value) (h : cs[o]? = some v) : prun Try.prog (part 3 cs o) = some v := by
  have e : prun Try.prog (isAgg 3) = some false := by kernel_rfl
  unfold part
  show prun _ ((isAgg 3).bind _) = _
  rw [prun_bind _ _ _ e]
  simp [h, prun]
  rfl
theorem Try.pp : prun Try.prog program = some Try.prog := rfl
theorem Try.eqS40 (n : Nat) (a b c : Int) : prun Try.prog (Op.equalIn (n + 2) 40 (.agg #[.int .i64 a, .int .i64 b, .int .i64 c]) (.agg #[.int .i64 a, .int .i64 b, .int .i64 c])) = some true := by
  rw [Op.equalIn]
  show prun _ ((underlying 40).bind _) = _
  rw [prun_bind _ _ _ (prun_underlying Try.und40)]
  simp only []
  show prun _ (program.bind _) = _
  rw [prun_bind _ _ _ Try.pp]
  simp only [Try.stood40, Bool.false_eq_true, if_false]
  simp only [List.forIn_toArray, List.forIn_cons, List.forIn_nil]
  have p1 := Try.part3 #[.int .i64 a, .int .i64 b, .int .i64 c] 0 (.int .i64 a) rfl
  have p2 := Try.part3 #[.int .i64 a, .int .i64 b, .int .i64 c] 1 (.int .i64 b) rfl
  have p3 := Try.part3 #[.int .i64 a, .int .i64 b, .int .i64 c] 2 (.int .i64 c) rfl
  have e1 := Try.eqInt3 n a
  have e2 := Try.eqInt3 n b
  have e3 := Try.eqInt3 n c
  rw [if_pos (by decide), if_pos (by decide), if_pos (by decide)]
  simp only [bind_assoc]
  show prun _ (Sem.bind _ _) = _
  rw [prun_bind _ _ _ p1]
  show prun _ (Sem.bind _ _) = _
  rw [prun_bind _ _ _ p1]
  show prun _ (Sem.bind _ _) = _
  rw [prun_bind _ _ _ e1]
  simp only [Bool.not_true, Bool.false_eq_true, if_false, pure_bind, bind_assoc]
  show prun _ (Sem.bind _ _) = _
  rw [prun_bind _ _ _ p2]
  show prun _ (Sem.bind _ _) = _
  rw [prun_bind _ _ _ p2]
  show prun _ (Sem.bind _ _) = _
  rw [prun_bind _ _ _ e2]
  simp only [Bool.not_true, Bool.false_eq_true, if_false, pure_bind, bind_assoc]
  show prun _ (Sem.bind _ _) = _
  rw [prun_bind _ _ _ p3]
  show prun _ (Sem.bind _ _) = _
  rw [prun_bind _ _ _ p3]
  show prun _ (Sem.bind _ _) = _
  rw [prun_bind _ _ _ e3]
  rfl
theorem Try.eq40 (a b c : Int) : eqQ Try.prog .eql 40 (.agg #[.int .i64 a, .int .i64 b, .int .i64 c]) (.agg #[.int .i64 a, .int .i64 b, .int .i64 c]) = some (.bool true) := by
  have hg : prun Try.prog (eqGuard .eql 40 (.const undef) (.const undef) (.agg #[.int .i64 a, .int .i64 b, .int .i64 c]) (.agg #[.int .i64 a, .int .i64 b, .int .i64 c])) = some () := by kernel_rfl
  have he : prun Try.prog (Op.equal 40 (.agg #[.int .i64 a, .int .i64 b, .int .i64 c]) (.agg #[.int .i64 a, .int .i64 b, .int .i64 c])) = some true := Try.eqS40 9998 a b c
  have hb : prun Try.prog (do eqGuard .eql 40 (.const undef) (.const undef) (.agg #[.int .i64 a, .int .i64 b, .int .i64 c]) (.agg #[.int .i64 a, .int .i64 b, .int .i64 c]); Go.binOp .eql 40 (.agg #[.int .i64 a, .int .i64 b, .int .i64 c]) (.agg #[.int .i64 a, .int .i64 b, .int .i64 c]))
      = some (.bool true) := by
    show prun _ (Sem.bind _ _) = _
    rw [prun_bind _ _ _ hg]
    show prun _ (Sem.bind _ _) = _
    rw [prun_bind _ _ _ he]
    rfl
  have hf : (flat 6 (.agg #[.int .i64 a, .int .i64 b, .int .i64 c]) && flat 6 (.agg #[.int .i64 a, .int .i64 b, .int .i64 c])) = true := rfl
  unfold eqQ
  simp only [hf, hb]
  rfl
theorem Try.beq40 (a b c : Int) : binQ .eql (.agg #[.int .i64 a, .int .i64 b, .int .i64 c]) (.agg #[.int .i64 a, .int .i64 b, .int .i64 c]) = none := rfl
attribute [go_sem] Try.eq40 Try.beq40
end Go.Proofs
