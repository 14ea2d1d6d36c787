/- This program's types and comparisons. -/
import Derived.Test.YteeheldahpoppaaGreatNb
import Derived.Test.YteeheldahpoppaaGreatChecked
set_option linter.unusedVariables false
set_option linter.unusedSimpArgs false
/- Facts on this program's types. -/
namespace Go.Proofs
open Go Go.RowKit Go.Sim
set_option maxRecDepth 100000
theorem Tryz.ty3 : (prg Tryz.prog).ty 3 = some ⟨false, (.int .i64), 1, 8, .int .i64 0⟩ := by kernel_rfl
attribute [go_sem] Tryz.ty3
theorem Tryz.ty4 : (prg Tryz.prog).ty 4 = some ⟨false, .bool, 1, 1, .bool false⟩ := by kernel_rfl
attribute [go_sem] Tryz.ty4
theorem Tryz.ty9 : (prg Tryz.prog).ty 9 = some ⟨false, .string, 1, 16, .string ⟨#[]⟩⟩ := by kernel_rfl
attribute [go_sem] Tryz.ty9
theorem Tryz.ty22 : (prg Tryz.prog).ty 22 = some ⟨false, (.slice 53), 1, 24, .slice none 0 0⟩ := by kernel_rfl
attribute [go_sem] Tryz.ty22
theorem Tryz.ty23 : (prg Tryz.prog).ty 23 = some ⟨false, (.slice 24), 1, 24, .slice none 0 0⟩ := by kernel_rfl
attribute [go_sem] Tryz.ty23
theorem Tryz.ty24 : (prg Tryz.prog).ty 24 = some ⟨false, (.slice 3), 1, 24, .slice none 0 0⟩ := by kernel_rfl
attribute [go_sem] Tryz.ty24
theorem Tryz.ty25 : (prg Tryz.prog).ty 25 = some ⟨true, (.array 2 24), 2, 48, .agg #[.slice none 0 0, .slice none 0 0]⟩ := by kernel_rfl
attribute [go_sem] Tryz.ty25
theorem Tryz.ty26 : (prg Tryz.prog).ty 26 = some ⟨false, (.slice 58), 1, 24, .slice none 0 0⟩ := by kernel_rfl
attribute [go_sem] Tryz.ty26
theorem Tryz.ty27 : (prg Tryz.prog).ty 27 = some ⟨false, (.int .i64), 1, 8, .int .i64 0⟩ := by kernel_rfl
attribute [go_sem] Tryz.ty27
theorem Tryz.ty36 : (prg Tryz.prog).ty 36 = some ⟨false, (.slice 40), 1, 24, .slice none 0 0⟩ := by kernel_rfl
attribute [go_sem] Tryz.ty36
theorem Tryz.ty38 : (prg Tryz.prog).ty 38 = some ⟨true, (.struct #[{ name := "M", type := 22, offset := 0, embedded := false, tag := "", pkgPath := "", byteOffset := 0 }, { name := "Taken", type := 24, offset := 1, embedded := false, tag := "", pkgPath := "", byteOffset := 24 }, { name := "L", type := 36, offset := 2, embedded := false, tag := "", pkgPath := "", byteOffset := 48 }]), 3, 72, .agg #[.slice none 0 0, .slice none 0 0, .slice none 0 0]⟩ := by kernel_rfl
attribute [go_sem] Tryz.ty38
theorem Tryz.ty40 : (prg Tryz.prog).ty 40 = some ⟨true, (.struct #[{ name := "Has", type := 26, offset := 0, embedded := false, tag := "", pkgPath := "", byteOffset := 0 }]), 1, 24, .agg #[.slice none 0 0]⟩ := by kernel_rfl
attribute [go_sem] Tryz.ty40
theorem Tryz.ty53 : (prg Tryz.prog).ty 53 = some ⟨true, (.struct #[{ name := "Tol", type := 3, offset := 0, embedded := false, tag := "", pkgPath := "", byteOffset := 0 }, { name := "Labour", type := 3, offset := 1, embedded := false, tag := "", pkgPath := "", byteOffset := 8 }]), 2, 16, .agg #[.int .i64 0, .int .i64 0]⟩ := by kernel_rfl
attribute [go_sem] Tryz.ty53
theorem Tryz.ty58 : (prg Tryz.prog).ty 58 = some ⟨true, (.struct #[{ name := "Min", type := 3, offset := 0, embedded := false, tag := "", pkgPath := "", byteOffset := 0 }, { name := "Max", type := 3, offset := 1, embedded := false, tag := "", pkgPath := "", byteOffset := 8 }]), 2, 16, .agg #[.int .i64 0, .int .i64 0]⟩ := by kernel_rfl
attribute [go_sem] Tryz.ty58
theorem Tryz.ia22 (t : Tmps) (w : AW) (x y : Operand) : fast (prg Tryz.prog) t w (.indexAddr 22 x y) = indexV 2 (ev t x) (ev t y) := fast_indexAddr Tryz.ty22 Tryz.ty53
attribute [go_sem] Tryz.ia22
theorem Tryz.ln22 (t : Tmps) (w : AW) (x : Operand) : fast (prg Tryz.prog) t w (.call ⟨.builtin .len, ⟨[x]⟩, ⟨[22]⟩⟩) = lenV (ev t x) := fast_len Tryz.ty22
attribute [go_sem] Tryz.ln22
theorem Tryz.ia23 (t : Tmps) (w : AW) (x y : Operand) : fast (prg Tryz.prog) t w (.indexAddr 23 x y) = indexV 1 (ev t x) (ev t y) := fast_indexAddr Tryz.ty23 Tryz.ty24
attribute [go_sem] Tryz.ia23
theorem Tryz.ln23 (t : Tmps) (w : AW) (x : Operand) : fast (prg Tryz.prog) t w (.call ⟨.builtin .len, ⟨[x]⟩, ⟨[23]⟩⟩) = lenV (ev t x) := fast_len Tryz.ty23
attribute [go_sem] Tryz.ln23
theorem Tryz.ia24 (t : Tmps) (w : AW) (x y : Operand) : fast (prg Tryz.prog) t w (.indexAddr 24 x y) = indexV 1 (ev t x) (ev t y) := fast_indexAddr Tryz.ty24 Tryz.ty3
attribute [go_sem] Tryz.ia24
theorem Tryz.ln24 (t : Tmps) (w : AW) (x : Operand) : fast (prg Tryz.prog) t w (.call ⟨.builtin .len, ⟨[x]⟩, ⟨[24]⟩⟩) = lenV (ev t x) := fast_len Tryz.ty24
attribute [go_sem] Tryz.ln24
theorem Tryz.ia26 (t : Tmps) (w : AW) (x y : Operand) : fast (prg Tryz.prog) t w (.indexAddr 26 x y) = indexV 2 (ev t x) (ev t y) := fast_indexAddr Tryz.ty26 Tryz.ty58
attribute [go_sem] Tryz.ia26
theorem Tryz.ln26 (t : Tmps) (w : AW) (x : Operand) : fast (prg Tryz.prog) t w (.call ⟨.builtin .len, ⟨[x]⟩, ⟨[26]⟩⟩) = lenV (ev t x) := fast_len Tryz.ty26
attribute [go_sem] Tryz.ln26
theorem Tryz.ia36 (t : Tmps) (w : AW) (x y : Operand) : fast (prg Tryz.prog) t w (.indexAddr 36 x y) = indexV 1 (ev t x) (ev t y) := fast_indexAddr Tryz.ty36 Tryz.ty40
attribute [go_sem] Tryz.ia36
theorem Tryz.ln36 (t : Tmps) (w : AW) (x : Operand) : fast (prg Tryz.prog) t w (.call ⟨.builtin .len, ⟨[x]⟩, ⟨[36]⟩⟩) = lenV (ev t x) := fast_len Tryz.ty36
attribute [go_sem] Tryz.ln36
theorem Tryz.bd38 (t : Tmps) (w : AW) (l : List (Nat × Operand)) : fast (prg Tryz.prog) t w (.build 38 ⟨l⟩) = bldQ [(0, 1), (1, 1), (2, 1)] [.slice none 0 0, .slice none 0 0, .slice none 0 0] (l.map fun p => (p.1, ev t p.2)) := fast_build (zs := [.slice none 0 0, .slice none 0 0, .slice none 0 0]) Tryz.ty38 (by kernel_rfl)
attribute [go_sem] Tryz.bd38
theorem Tryz.fa38x0 (t : Tmps) (w : AW) (x : Operand) : fast (prg Tryz.prog) t w (.fieldAddr 38 x 0) = fieldOff (ev t x) 0 := fast_fieldAddr (fd := { name := "M", type := 22, offset := 0, embedded := false, tag := "", pkgPath := "", byteOffset := 0 }) Tryz.ty38 rfl Tryz.ty22 rfl
attribute [go_sem] Tryz.fa38x0
theorem Tryz.fa38x1 (t : Tmps) (w : AW) (x : Operand) : fast (prg Tryz.prog) t w (.fieldAddr 38 x 1) = fieldOff (ev t x) 1 := fast_fieldAddr (fd := { name := "Taken", type := 24, offset := 1, embedded := false, tag := "", pkgPath := "", byteOffset := 24 }) Tryz.ty38 rfl Tryz.ty24 rfl
attribute [go_sem] Tryz.fa38x1
theorem Tryz.fa38x2 (t : Tmps) (w : AW) (x : Operand) : fast (prg Tryz.prog) t w (.fieldAddr 38 x 2) = fieldOff (ev t x) 2 := fast_fieldAddr (fd := { name := "L", type := 36, offset := 2, embedded := false, tag := "", pkgPath := "", byteOffset := 48 }) Tryz.ty38 rfl Tryz.ty36 rfl
attribute [go_sem] Tryz.fa38x2
theorem Tryz.bd40 (t : Tmps) (w : AW) (l : List (Nat × Operand)) : fast (prg Tryz.prog) t w (.build 40 ⟨l⟩) = bldQ [(0, 1)] [.slice none 0 0] (l.map fun p => (p.1, ev t p.2)) := fast_build (zs := [.slice none 0 0]) Tryz.ty40 (by kernel_rfl)
attribute [go_sem] Tryz.bd40
theorem Tryz.fa40x0 (t : Tmps) (w : AW) (x : Operand) : fast (prg Tryz.prog) t w (.fieldAddr 40 x 0) = fieldOff (ev t x) 0 := fast_fieldAddr (fd := { name := "Has", type := 26, offset := 0, embedded := false, tag := "", pkgPath := "", byteOffset := 0 }) Tryz.ty40 rfl Tryz.ty26 rfl
attribute [go_sem] Tryz.fa40x0
theorem Tryz.bd53 (t : Tmps) (w : AW) (l : List (Nat × Operand)) : fast (prg Tryz.prog) t w (.build 53 ⟨l⟩) = bldQ [(0, 1), (1, 1)] [.int .i64 0, .int .i64 0] (l.map fun p => (p.1, ev t p.2)) := fast_build (zs := [.int .i64 0, .int .i64 0]) Tryz.ty53 (by kernel_rfl)
attribute [go_sem] Tryz.bd53
theorem Tryz.fa53x0 (t : Tmps) (w : AW) (x : Operand) : fast (prg Tryz.prog) t w (.fieldAddr 53 x 0) = fieldOff (ev t x) 0 := fast_fieldAddr (fd := { name := "Tol", type := 3, offset := 0, embedded := false, tag := "", pkgPath := "", byteOffset := 0 }) Tryz.ty53 rfl Tryz.ty3 rfl
attribute [go_sem] Tryz.fa53x0
theorem Tryz.fa53x1 (t : Tmps) (w : AW) (x : Operand) : fast (prg Tryz.prog) t w (.fieldAddr 53 x 1) = fieldOff (ev t x) 1 := fast_fieldAddr (fd := { name := "Labour", type := 3, offset := 1, embedded := false, tag := "", pkgPath := "", byteOffset := 8 }) Tryz.ty53 rfl Tryz.ty3 rfl
attribute [go_sem] Tryz.fa53x1
theorem Tryz.bd58 (t : Tmps) (w : AW) (l : List (Nat × Operand)) : fast (prg Tryz.prog) t w (.build 58 ⟨l⟩) = bldQ [(0, 1), (1, 1)] [.int .i64 0, .int .i64 0] (l.map fun p => (p.1, ev t p.2)) := fast_build (zs := [.int .i64 0, .int .i64 0]) Tryz.ty58 (by kernel_rfl)
attribute [go_sem] Tryz.bd58
theorem Tryz.fa58x0 (t : Tmps) (w : AW) (x : Operand) : fast (prg Tryz.prog) t w (.fieldAddr 58 x 0) = fieldOff (ev t x) 0 := fast_fieldAddr (fd := { name := "Min", type := 3, offset := 0, embedded := false, tag := "", pkgPath := "", byteOffset := 0 }) Tryz.ty58 rfl Tryz.ty3 rfl
attribute [go_sem] Tryz.fa58x0
theorem Tryz.fa58x1 (t : Tmps) (w : AW) (x : Operand) : fast (prg Tryz.prog) t w (.fieldAddr 58 x 1) = fieldOff (ev t x) 1 := fast_fieldAddr (fd := { name := "Max", type := 3, offset := 1, embedded := false, tag := "", pkgPath := "", byteOffset := 8 }) Tryz.ty58 rfl Tryz.ty3 rfl
attribute [go_sem] Tryz.fa58x1
end Go.Proofs

/- What this seat's proofs are told, and its comparisons. -/
namespace Go.Proofs
open Go Go.RowKit Go.Sim
set_option maxRecDepth 100000
/-- What the machine is told: the program's own check, strings.Join, the comparison of strings. -/
def Tryz.T : ToldF := toldTrue 16 (toldStr 96 121)
theorem Tryz.eqb4 (a b : Bool) : eqQ Tryz.prog .eql 4 (.bool a) (.bool b) = some (.bool (a == b)) := by
  cases a <;> cases b <;> kernel_rfl
theorem Tryz.und58 : Tryz.prog.underlying 58 = some (.struct #[{ name := "Min", type := 3, offset := 0, embedded := false, tag := "", pkgPath := "", byteOffset := 0 }, { name := "Max", type := 3, offset := 1, embedded := false, tag := "", pkgPath := "", byteOffset := 8 }]) := by kernel_rfl
theorem Tryz.und3 : Tryz.prog.underlying 3 = some (.int .i64) := by kernel_rfl
theorem Tryz.stood58 : Tryz.prog.stoodInHeld 58 = false := by kernel_rfl
theorem Tryz.eqInt3 (d : Nat) (a b : Int) : prun Tryz.prog (Op.equalIn (d + 1) 3 (.int .i64 a) (.int .i64 b)) = some (a == b) := by
  simp only [Op.equalIn]
  simp [underlying, prun, Tryz.und3, Bind.bind, Sem.bind]
  rfl
theorem Tryz.pu (ty : TypeId) (d : TypeDesc) (h : Tryz.prog.underlying ty = some d) : prun Tryz.prog (underlying ty) = some d := by
  simp [underlying, prun, Bind.bind, Sem.bind, program, h]; rfl
theorem Tryz.pp : prun Tryz.prog program = some Tryz.prog := rfl
theorem Tryz.part3 (cs : Array Value) (o : Nat) (v : Value) (h : cs[o]? = some v) : prun Tryz.prog (part 3 cs o) = some v := by
  have e : prun Tryz.prog (isAgg 3) = some false := by kernel_rfl
  unfold part
  show prun _ ((isAgg 3).bind _) = _
  rw [prun_bind _ _ _ e]
  simp [h, prun]
  rfl
theorem Tryz.eqS58 (n : Nat) (a b c d : Int) : prun Tryz.prog (Op.equalIn (n + 2) 58 (.agg #[.int .i64 a, .int .i64 b]) (.agg #[.int .i64 c, .int .i64 d])) = some ((a == c) && (b == d)) := by
  rw [Op.equalIn]
  show prun _ ((underlying 58).bind _) = _
  rw [prun_bind _ _ _ (Tryz.pu 58 _ Tryz.und58)]
  simp only []
  show prun _ (program.bind _) = _
  rw [prun_bind _ _ _ Tryz.pp]
  simp only [Tryz.stood58, Bool.false_eq_true, if_false]
  simp only [List.forIn_toArray, List.forIn_cons, List.forIn_nil]
  have p1 := Tryz.part3 #[.int .i64 a, .int .i64 b] 0 (.int .i64 a) rfl
  have p2 := Tryz.part3 #[.int .i64 c, .int .i64 d] 0 (.int .i64 c) rfl
  have p3 := Tryz.part3 #[.int .i64 a, .int .i64 b] 1 (.int .i64 b) rfl
  have p4 := Tryz.part3 #[.int .i64 c, .int .i64 d] 1 (.int .i64 d) rfl
  have e1 := Tryz.eqInt3 n a c
  have e2 := Tryz.eqInt3 n b d
  rw [if_pos (by decide), if_pos (by decide)]
  simp only [bind_assoc]
  show prun _ (Sem.bind _ _) = _
  rw [prun_bind _ _ _ p1]
  show prun _ (Sem.bind _ _) = _
  rw [prun_bind _ _ _ p2]
  show prun _ (Sem.bind _ _) = _
  rw [prun_bind _ _ _ e1]
  cases h1 : (a == c) with
  | false => rfl
  | true =>
    simp only [Bool.not_true, Bool.false_eq_true, if_false, pure_bind, bind_assoc]
    show prun _ (Sem.bind _ _) = _
    rw [prun_bind _ _ _ p3]
    show prun _ (Sem.bind _ _) = _
    rw [prun_bind _ _ _ p4]
    show prun _ (Sem.bind _ _) = _
    rw [prun_bind _ _ _ e2]
    cases h2 : (b == d) <;> rfl
theorem Tryz.ne58 (a b c d : Int) : eqQ Tryz.prog .neq 58 (.agg #[.int .i64 a, .int .i64 b]) (.agg #[.int .i64 c, .int .i64 d]) = some (.bool (!((a == c) && (b == d)))) := by
  have hg : prun Tryz.prog (eqGuard .neq 58 (.const undef) (.const undef) (.agg #[.int .i64 a, .int .i64 b]) (.agg #[.int .i64 c, .int .i64 d])) = some () := by kernel_rfl
  have he : prun Tryz.prog (Op.equal 58 (.agg #[.int .i64 a, .int .i64 b]) (.agg #[.int .i64 c, .int .i64 d])) = some ((a == c) && (b == d)) := Tryz.eqS58 9998 a b c d
  have hb : prun Tryz.prog (do eqGuard .neq 58 (.const undef) (.const undef) (.agg #[.int .i64 a, .int .i64 b]) (.agg #[.int .i64 c, .int .i64 d]); Go.binOp .neq 58 (.agg #[.int .i64 a, .int .i64 b]) (.agg #[.int .i64 c, .int .i64 d]))
      = some (.bool (!((a == c) && (b == d)))) := by
    show prun _ (Sem.bind _ _) = _
    rw [prun_bind _ _ _ hg]
    show prun _ (Sem.bind _ _) = _
    rw [prun_bind _ _ _ he]
    rfl
  have hf : (flat 6 (.agg #[.int .i64 a, .int .i64 b]) && flat 6 (.agg #[.int .i64 c, .int .i64 d])) = true := rfl
  unfold eqQ
  simp only [hf, hb]
  rfl
theorem Tryz.neb4 (a b : Bool) : eqQ Tryz.prog .neq 4 (.bool a) (.bool b) = some (.bool (!(a == b))) := by
  cases a <;> cases b <;> kernel_rfl
theorem binQ_bool (op : BinOp) (a b : Bool) : binQ op (.bool a) (.bool b) = none := rfl
theorem binQ_agg (op : BinOp) (a b : Array Value) : binQ op (.agg a) (.agg b) = none := rfl
attribute [go_sem] Tryz.eqb4 Tryz.neb4 Tryz.ne58
end Go.Proofs

/- Facts on this program's slices built of parts. -/
namespace Go.Proofs
open Go Go.RowKit Go.Sim
theorem Tryz.bs26 (t : Tmps) (l : List (Nat × Operand)) : makes (prg Tryz.prog) t (.buildSlice 26 1 ⟨l⟩) = bsQ 58 1 2 [.int .i64 0, .int .i64 0] (l.map fun p => (p.1, ev t p.2)) := makes_bs Tryz.ty26 Tryz.ty58 rfl (by kernel_rfl)
theorem Tryz.bs23 (t : Tmps) (l : List (Nat × Operand)) : makes (prg Tryz.prog) t (.buildSlice 23 2 ⟨l⟩) = bsQ 24 2 1 [.slice none 0 0, .slice none 0 0] (l.map fun p => (p.1, ev t p.2)) := makes_bs Tryz.ty23 Tryz.ty24 rfl (by kernel_rfl)
theorem Tryz.ia25 (t : Tmps) (w : AW) (x y : Operand) : fast (prg Tryz.prog) t w (.indexAddr 25 x y) = indexA 1 2 (ev t x) (ev t y) := fast_indexAddrA Tryz.ty25 Tryz.ty24
theorem indexA_0 (b o : Nat) (k : IntKind) : indexA 1 2 (.pointer (some ⟨b, o, none⟩)) (.int k 0) = some (.pointer (some ⟨b, o, none⟩)) := rfl
theorem indexA_1 (b o : Nat) (k : IntKind) : indexA 1 2 (.pointer (some ⟨b, o, none⟩)) (.int k 1) = some (.pointer (some ⟨b, o + 1, none⟩)) := rfl
attribute [go_sem] Tryz.bs26 Tryz.bs23 Tryz.ia25 indexA_0 indexA_1
end Go.Proofs

/- More facts on this program's slices built of parts. -/
namespace Go.Sim
open Go Go.RowKit
theorem ifC_false {α : Type} (x y : Option α) : ifC false x y = y := rfl
theorem bsQ0_11a {e : TypeId} {z0 v : Value} : bsQ0 e 1 1 [z0] [(0, .agg #[v])] = some ([v], e, fun n => .slice (some ⟨n, 0, none⟩) 1 1) := by
  simp [bsQ0, bsQ, Instr.fill, Value.cells]
theorem guardB_undef (b : Bool) : guardB undef b = false := rfl
theorem fast_makeFunc {g : Prg} {t : Tmps} {w : AW} {f : FuncId} {a b : List Operand} : fast g t w (.makeFunc (.func f) ⟨a⟩ ⟨b⟩) = some (.func (.func f) (a.map (ev t)).toArray (b.map (ev t)).toArray) := by
  show some (Value.func (.func f) ((Array.mk a).map (ev t)) ((Array.mk b).map (ev t))) = _
  simp
attribute [go_sem] fast_makeFunc Array.toList_append ifC_false bsQ0_11a guardB_undef
end Go.Sim
namespace Go.Proofs
open Go Go.RowKit Go.Sim
theorem Tryz.bs24 (t : Tmps) (l : List (Nat × Operand)) : makes (prg Tryz.prog) t (.buildSlice 24 1 ⟨l⟩) = bsQ 3 1 1 [.int .i64 0] (l.map fun p => (p.1, ev t p.2)) := makes_bs Tryz.ty24 Tryz.ty3 rfl (by kernel_rfl)
theorem Tryz.bs36 (t : Tmps) (l : List (Nat × Operand)) : makes (prg Tryz.prog) t (.buildSlice 36 1 ⟨l⟩) = bsQ 40 1 1 [.slice none 0 0] (l.map fun p => (p.1, ev t p.2)) := makes_bs Tryz.ty36 Tryz.ty40 rfl (by kernel_rfl)
theorem Tryz.bs23x1 (t : Tmps) (l : List (Nat × Operand)) : makes (prg Tryz.prog) t (.buildSlice 23 1 ⟨l⟩) = bsQ 24 1 1 [.slice none 0 0] (l.map fun p => (p.1, ev t p.2)) := makes_bs Tryz.ty23 Tryz.ty24 rfl (by kernel_rfl)
attribute [go_sem] Tryz.bs24 Tryz.bs36 Tryz.bs23x1
end Go.Proofs
