/- More of this program's types. -/
import Derived.Test.YtdbeiefgokocnaaTa
import Derived.Test.YtdbeiefgokocnaaNb
import Derived.Test.YtdbeiefgokocnaaChecked
set_option linter.unusedVariables false
set_option linter.unusedSimpArgs false
/- Facts on this program's texts. -/
namespace Go.Proofs
open Go Go.RowKit Go.Sim
theorem Try.und9 : Try.prog.underlying 9 = some .string := by kernel_rfl
theorem Try.ln9 (t : Tmps) (w : AW) (x : Operand) : fast (prg Try.prog) t w (.call ⟨.builtin .len, ⟨[x]⟩, ⟨[9]⟩⟩) = none := by simp only [fast, Try.ty9]
theorem Try.lq9 (s : ByteArray) : lenSQ (prg Try.prog) 9 (.string s) = some (.int .i64 (s.size : Int)) := by
  have : (prg Try.prog).p.underlying 9 = some .string := Try.und9
  simp only [lenSQ, this]
theorem Try.ix9 (t : Tmps) (w : AW) (x i : Operand) : fast (prg Try.prog) t w (.index 9 x i) = none := by simp only [fast, Try.ty9]
theorem Try.iq9 (s : ByteArray) (k : IntKind) (n : Nat) (h : n < s.size) : indexSQ (prg Try.prog) 9 (.string s) (.int k (n : Int)) = some (.int .u8 (s[n]'h).toNat) := by
  have : (prg Try.prog).p.underlying 9 = some .string := Try.und9
  have hn : (0 : Int) ≤ (n : Int) := by omega
  simp only [indexSQ, this, hn, if_true, Int.toNat_natCast]
  rw [getElem?_pos s n h]
attribute [go_sem] Try.ln9 Try.lq9 Try.ix9
end Go.Proofs

/- Facts on this program's maps, its texts compared, its terms compared. -/
namespace Go.Proofs
open Go Go.RowKit Go.Sim
set_option maxRecDepth 100000
theorem Try.lk130 (t : Tmps) (w : AW) (x k : Operand) (ok : Bool) : fast (prg Try.prog) t w (.lookup 130 x k ok) = lookupV w .string (.bool false) (ev t x) (ev t k) ok := by simp only [fast, Try.ty130, Try.ty9, Try.ty4]
theorem Try.sb1 (a b : ByteArray) (op : BinOp) (h : op = .eql ∨ op = .neq) : binQ op (.string a) (.string b) = none := by rcases h with rfl | rfl <;> rfl
theorem Try.sbe (a b : ByteArray) : binQ .eql (.string a) (.string b) = none := rfl
theorem Try.sbn (a b : ByteArray) : binQ .neq (.string a) (.string b) = none := rfl
theorem Try.sqe (a b : ByteArray) (ty : TypeId) : eqQ Try.prog .eql ty (.string a) (.string b) = none := rfl
theorem Try.sqn (a b : ByteArray) (ty : TypeId) : eqQ Try.prog .neq ty (.string a) (.string b) = none := rfl
def strB (op : BinOp) (x y : Value) (d : Option Value) : Option Value := match binV op x y with | some v => some v | none => d
theorem strB_eql (a b : ByteArray) (d : Option Value) : strB .eql (.string a) (.string b) d = some (.bool (sEq a b)) := rfl
theorem strB_neq (a b : ByteArray) (d : Option Value) : strB .neq (.string a) (.string b) d = some (.bool (!sEq a b)) := rfl
theorem Try.sf9 (t : Tmps) (w : AW) (op : BinOp) (x y : Operand) (r : TypeId) : fast (prg Try.prog) t w (.binOp op 9 x y r) = strB op (ev t x) (ev t y) (match nilC .string op y (ev t x) with | some v => some v | none => eqNilV .string op (ev t x) (ev t y)) := by
  simp only [fast, Try.ty9, strB]
  cases binV op (ev t x) (ev t y) with
  | some v => rfl
  | none => cases nilC .string op y (ev t x) <;> rfl
theorem Try.und40 : Try.prog.underlying 40 = some (.struct #[{ name := "Fraction", type := 3, offset := 0, embedded := false, tag := "", pkgPath := "", byteOffset := 0 }, { name := "Floor", type := 3, offset := 1, embedded := false, tag := "", pkgPath := "", byteOffset := 8 }, { name := "Cap", type := 3, offset := 2, embedded := false, tag := "", pkgPath := "", byteOffset := 16 }]) := by kernel_rfl
attribute [go_sem] Try.sf9 strB_eql strB_neq Try.lk130 Try.sbe Try.sbn Try.sqe Try.sqn
theorem Try.und3' : Try.prog.underlying 3 = some (.int .i64) := by kernel_rfl
theorem Try.stood40 : Try.prog.stoodInHeld 40 = false := by kernel_rfl
theorem Try.eqInt3 (d : Nat) (a : Int) : prun Try.prog (Op.equalIn (d + 1) 3 (.int .i64 a) (.int .i64 a)) = some true := by
  rw [Op.equalIn]
  show prun _ ((underlying 3).bind _) = _
  rw [prun_bind _ _ _ (prun_underlying Try.und3')]
  simp
  rfl
theorem Try.part3 (cs : Array Value) (o : Nat) (v : Value) (h : cs[o]? = some v) : prun Try.prog (part 3 cs o) = some v := by
  have e : prun Try.prog (isAgg 3) = some false := by kernel_rfl
  unfold part
  show prun _ ((isAgg 3).bind _) = _
  rw [prun_bind _ _ _ e]
  simp [h, prun]
  rfl
theorem Try.pp : prun Try.prog program = some Try.prog := rfl
theorem Try.eqS40 (n : Nat) (a b c : Int) : prun Try.prog (Op.equalIn (n + 2) 40 (.agg #[.int .i64 a, .int .i64 b, .int .i64 c]) (.agg #[.int .i64 a, .int .i64 b, .int .i64 c])) = some true := by
  rw [Op.equalIn]
  show prun _ ((underlying 40).bind _) = _
  rw [prun_bind _ _ _ (prun_underlying Try.und40)]
  simp only []
  show prun _ (program.bind _) = _
  rw [prun_bind _ _ _ Try.pp]
  simp only [Try.stood40, Bool.false_eq_true, if_false]
  simp only [List.forIn_toArray, List.forIn_cons, List.forIn_nil]
  have p1 := Try.part3 #[.int .i64 a, .int .i64 b, .int .i64 c] 0 (.int .i64 a) rfl
  have p2 := Try.part3 #[.int .i64 a, .int .i64 b, .int .i64 c] 1 (.int .i64 b) rfl
  have p3 := Try.part3 #[.int .i64 a, .int .i64 b, .int .i64 c] 2 (.int .i64 c) rfl
  have e1 := Try.eqInt3 n a
  have e2 := Try.eqInt3 n b
  have e3 := Try.eqInt3 n c
  rw [if_pos (by decide), if_pos (by decide), if_pos (by decide)]
  simp only [bind_assoc]
  show prun _ (Sem.bind _ _) = _
  rw [prun_bind _ _ _ p1]
  show prun _ (Sem.bind _ _) = _
  rw [prun_bind _ _ _ p1]
  show prun _ (Sem.bind _ _) = _
  rw [prun_bind _ _ _ e1]
  simp only [Bool.not_true, Bool.false_eq_true, if_false, pure_bind, bind_assoc]
  show prun _ (Sem.bind _ _) = _
  rw [prun_bind _ _ _ p2]
  show prun _ (Sem.bind _ _) = _
  rw [prun_bind _ _ _ p2]
  show prun _ (Sem.bind _ _) = _
  rw [prun_bind _ _ _ e2]
  simp only [Bool.not_true, Bool.false_eq_true, if_false, pure_bind, bind_assoc]
  show prun _ (Sem.bind _ _) = _
  rw [prun_bind _ _ _ p3]
  show prun _ (Sem.bind _ _) = _
  rw [prun_bind _ _ _ p3]
  show prun _ (Sem.bind _ _) = _
  rw [prun_bind _ _ _ e3]
  rfl
theorem Try.eq40 (a b c : Int) : eqQ Try.prog .eql 40 (.agg #[.int .i64 a, .int .i64 b, .int .i64 c]) (.agg #[.int .i64 a, .int .i64 b, .int .i64 c]) = some (.bool true) := by
  have hg : prun Try.prog (eqGuard .eql 40 (.const undef) (.const undef) (.agg #[.int .i64 a, .int .i64 b, .int .i64 c]) (.agg #[.int .i64 a, .int .i64 b, .int .i64 c])) = some () := by kernel_rfl
  have he : prun Try.prog (Op.equal 40 (.agg #[.int .i64 a, .int .i64 b, .int .i64 c]) (.agg #[.int .i64 a, .int .i64 b, .int .i64 c])) = some true := Try.eqS40 9998 a b c
  have hb : prun Try.prog (do eqGuard .eql 40 (.const undef) (.const undef) (.agg #[.int .i64 a, .int .i64 b, .int .i64 c]) (.agg #[.int .i64 a, .int .i64 b, .int .i64 c]); Go.binOp .eql 40 (.agg #[.int .i64 a, .int .i64 b, .int .i64 c]) (.agg #[.int .i64 a, .int .i64 b, .int .i64 c]))
      = some (.bool true) := by
    show prun _ (Sem.bind _ _) = _
    rw [prun_bind _ _ _ hg]
    show prun _ (Sem.bind _ _) = _
    rw [prun_bind _ _ _ he]
    rfl
  have hf : (flat 6 (.agg #[.int .i64 a, .int .i64 b, .int .i64 c]) && flat 6 (.agg #[.int .i64 a, .int .i64 b, .int .i64 c])) = true := rfl
  unfold eqQ
  simp only [hf, hb]
  rfl
theorem Try.beq40 (a b c : Int) : binQ .eql (.agg #[.int .i64 a, .int .i64 b, .int .i64 c]) (.agg #[.int .i64 a, .int .i64 b, .int .i64 c]) = none := rfl
attribute [go_sem] Try.eq40 Try.beq40
end Go.Proofs

/- Facts on this program's types. -/
namespace Go.Proofs
open Go Go.RowKit Go.Sim
set_option maxRecDepth 100000
theorem Try.ty64 : (prg Try.prog).ty 64 = some ⟨true, (.struct #[{ name := "T", type := 40, offset := 0, embedded := false, tag := "", pkgPath := "", byteOffset := 0 }, { name := "Wish", type := 3, offset := 3, embedded := false, tag := "", pkgPath := "", byteOffset := 24 }, { name := "More", type := 3, offset := 4, embedded := false, tag := "", pkgPath := "", byteOffset := 32 }]), 5, 40, .agg #[.int .i64 0, .int .i64 0, .int .i64 0, .int .i64 0, .int .i64 0]⟩ := by kernel_rfl
attribute [go_sem] Try.ty64
theorem Try.bd64 (t : Tmps) (w : AW) (l : List (Nat × Operand)) : fast (prg Try.prog) t w (.build 64 ⟨l⟩) = bldQ [(0, 3), (3, 1), (4, 1)] [.int .i64 0, .int .i64 0, .int .i64 0, .int .i64 0, .int .i64 0] (l.map fun p => (p.1, ev t p.2)) := fast_build (zs := [.int .i64 0, .int .i64 0, .int .i64 0, .int .i64 0, .int .i64 0]) Try.ty64 (by kernel_rfl)
attribute [go_sem] Try.bd64
theorem Try.fa64x0 (t : Tmps) (w : AW) (x : Operand) : fast (prg Try.prog) t w (.fieldAddr 64 x 0) = fieldOff (ev t x) 0 := fast_fieldAddr (fd := { name := "T", type := 40, offset := 0, embedded := false, tag := "", pkgPath := "", byteOffset := 0 }) Try.ty64 rfl Try.ty40 rfl
attribute [go_sem] Try.fa64x0
theorem Try.fa64x1 (t : Tmps) (w : AW) (x : Operand) : fast (prg Try.prog) t w (.fieldAddr 64 x 1) = fieldOff (ev t x) 3 := fast_fieldAddr (fd := { name := "Wish", type := 3, offset := 3, embedded := false, tag := "", pkgPath := "", byteOffset := 24 }) Try.ty64 rfl Try.ty3 rfl
attribute [go_sem] Try.fa64x1
theorem Try.fa64x2 (t : Tmps) (w : AW) (x : Operand) : fast (prg Try.prog) t w (.fieldAddr 64 x 2) = fieldOff (ev t x) 4 := fast_fieldAddr (fd := { name := "More", type := 3, offset := 4, embedded := false, tag := "", pkgPath := "", byteOffset := 32 }) Try.ty64 rfl Try.ty3 rfl
attribute [go_sem] Try.fa64x2
end Go.Proofs
