/- This program: its code, contracts, numbers, part 1. -/
import Derived.Test.YtlilncofnckgdaaNc
import Derived.Test.YtlilncofnckgdaaChecked
import Derived.Test.YtlilncofnckgdaaMc
import Derived.Test.YtlilncofnckgdaaProg
import Derived.Test.YtlilncofnckgdaaSh
import Derived.Test.YtlilncofnckgdaaNa
import Derived.Test.YtlilncofnckgdaaSf
set_option linter.unusedVariables false
set_option linter.unusedSimpArgs false
namespace Go.Proofs
open Go Go.RowKit Go.Sim
set_option maxRecDepth 100000
theorem Try.ty3 : (prg Try.prog).ty 3 = some ⟨false, (.int .i64), 1, 8, .int .i64 0⟩ := by kernel_rfl
attribute [go_sem] Try.ty3
theorem Try.ty22 : (prg Try.prog).ty 22 = some ⟨false, (.slice 3), 1, 24, .slice none 0 0⟩ := by kernel_rfl
attribute [go_sem] Try.ty22
theorem Try.ty79 : (prg Try.prog).ty 79 = some ⟨false, (.func #[3] #[4] false), 1, 8, .nilFunc⟩ := by kernel_rfl
attribute [go_sem] Try.ty79
theorem Try.ty99 : (prg Try.prog).ty 99 = some ⟨false, (.map 104 3), 1, 8, .map none⟩ := by kernel_rfl
attribute [go_sem] Try.ty99
theorem Try.ty101 : (prg Try.prog).ty 101 = some ⟨true, (.struct #[{ name := "periods", type := 22, offset := 0, embedded := false, tag := "", pkgPath := "lombard/census", byteOffset := 0 }, { name := "more", type := 99, offset := 1, embedded := false, tag := "", pkgPath := "lombard/census", byteOffset := 24 }]), 2, 32, .agg #[.slice none 0 0, .map none]⟩ := by kernel_rfl
attribute [go_sem] Try.ty101
theorem Try.ty104 : (prg Try.prog).ty 104 = some ⟨true, (.array 5 3), 5, 40, .agg #[.int .i64 0, .int .i64 0, .int .i64 0, .int .i64 0, .int .i64 0]⟩ := by kernel_rfl
attribute [go_sem] Try.ty104
theorem Try.ty111 : (prg Try.prog).ty 111 = some ⟨true, (.struct #[{ name := "Periods", type := 22, offset := 0, embedded := false, tag := "", pkgPath := "", byteOffset := 0 }, { name := "L", type := 22, offset := 1, embedded := false, tag := "", pkgPath := "", byteOffset := 24 }]), 2, 48, .agg #[.slice none 0 0, .slice none 0 0]⟩ := by kernel_rfl
attribute [go_sem] Try.ty111
theorem Try.ia22 (t : Tmps) (w : AW) (x y : Operand) : fast (prg Try.prog) t w (.indexAddr 22 x y) = indexV 1 (ev t x) (ev t y) := fast_indexAddr Try.ty22 Try.ty3
attribute [go_sem] Try.ia22
theorem Try.ln22 (t : Tmps) (w : AW) (x : Operand) : fast (prg Try.prog) t w (.call ⟨.builtin .len, ⟨[x]⟩, ⟨[22]⟩⟩) = lenV (ev t x) := fast_len Try.ty22
attribute [go_sem] Try.ln22
theorem Try.bd101 (t : Tmps) (w : AW) (l : List (Nat × Operand)) : fast (prg Try.prog) t w (.build 101 ⟨l⟩) = bldQ [(0, 1), (1, 1)] [.slice none 0 0, .map none] (l.map fun p => (p.1, ev t p.2)) := fast_build (zs := [.slice none 0 0, .map none]) Try.ty101 (by kernel_rfl)
attribute [go_sem] Try.bd101
theorem Try.fa101x0 (t : Tmps) (w : AW) (x : Operand) : fast (prg Try.prog) t w (.fieldAddr 101 x 0) = fieldOff (ev t x) 0 := fast_fieldAddr (fd := { name := "periods", type := 22, offset := 0, embedded := false, tag := "", pkgPath := "lombard/census", byteOffset := 0 }) Try.ty101 rfl Try.ty22 rfl
attribute [go_sem] Try.fa101x0
theorem Try.fa101x1 (t : Tmps) (w : AW) (x : Operand) : fast (prg Try.prog) t w (.fieldAddr 101 x 1) = fieldOff (ev t x) 1 := fast_fieldAddr (fd := { name := "more", type := 99, offset := 1, embedded := false, tag := "", pkgPath := "lombard/census", byteOffset := 24 }) Try.ty101 rfl Try.ty99 rfl
attribute [go_sem] Try.fa101x1
theorem Try.bd111 (t : Tmps) (w : AW) (l : List (Nat × Operand)) : fast (prg Try.prog) t w (.build 111 ⟨l⟩) = bldQ [(0, 1), (1, 1)] [.slice none 0 0, .slice none 0 0] (l.map fun p => (p.1, ev t p.2)) := fast_build (zs := [.slice none 0 0, .slice none 0 0]) Try.ty111 (by kernel_rfl)
attribute [go_sem] Try.bd111
theorem Try.fa111x0 (t : Tmps) (w : AW) (x : Operand) : fast (prg Try.prog) t w (.fieldAddr 111 x 0) = fieldOff (ev t x) 0 := fast_fieldAddr (fd := { name := "Periods", type := 22, offset := 0, embedded := false, tag := "", pkgPath := "", byteOffset := 0 }) Try.ty111 rfl Try.ty22 rfl
attribute [go_sem] Try.fa111x0
theorem Try.fa111x1 (t : Tmps) (w : AW) (x : Operand) : fast (prg Try.prog) t w (.fieldAddr 111 x 1) = fieldOff (ev t x) 1 := fast_fieldAddr (fd := { name := "L", type := 22, offset := 1, embedded := false, tag := "", pkgPath := "", byteOffset := 24 }) Try.ty111 rfl Try.ty22 rfl
attribute [go_sem] Try.fa111x1
end Go.Proofs

namespace Go.Proofs
open Go Go.Shelf Go.RowKit Go.Sim
set_option maxRecDepth 1000000
theorem Try.fits : Fit Try.prog := fit_of (by decide +kernel)
theorem Try.mixed : Try.prog.follows .mixedOrders = true := by decide +kernel
theorem Try.told0 (N : Nat) : ToldOk Try.prog N (fun _ _ _ => none) := fun f args w w1 v h => by cases h
end Go.Proofs

namespace Go.Proofs
open Go Go.RowKit Go.Sim
set_option maxRecDepth 1000000
theorem Try.works (W : World) : Calls Try.prog 25 #[] W fun e W' => e = .returned (.bool true) ∧ Below W.heap.size W W' :=
  calls_true (F := 1000000) Try.fits Try.mixed Try.told0 (n := 99) (by decide +kernel) (by decide +kernel) W
def Try.T0 : ToldF := toldTrue 25 fun _ _ _ => none
theorem Try.toldT0 (N : Nat) : ToldOk Try.prog N Try.T0 := toldTrue_ok (fun args w => Try.call25 args w) Try.works Try.told0 N
end Go.Proofs

namespace Go.Sim
open Go Go.RowKit
variable {P : Program} {N F : Nat}
def isVal (r : CR) (v : Value) : Bool :=
  match r with
  | .ret u _ => same 12 v u
  | _ => false
theorem calls_val (hP : Fit P) (hfol : P.follows .mixedOrders = true) {told : ToldF} (ht : ∀ N, ToldOk P N told) {n : Nat} {f : FuncId} {l : List Value} {v : Value} (hno : (told f (l.toArray ++ #[]) .empty).isNone = true) (hl : flat.flats 6 l = true) (hv : flat 6 v = true)
    (h : isVal (xcall (prg P) (xsOf (prg P)) told F (n + 1) (.fn (.func f) #[]) l .empty) v = true) (W : World) :
    Calls P f l.toArray W fun e W' => e = .returned v ∧ Below W.heap.size W W' := by
  rw [xcall_eq hP.funcs] at h
  unfold isVal at h
  split at h
  case h_2 => cases h
  rename_i u w1 hr
  have hu := same_eq 12 _ _ h
  subst hu
  simp only [acall] at hr
  rw [Option.isNone_iff_eq_none.mp hno] at hr
  simp only [Array.append_empty] at hr
  intro cs
  have ha : ARel (fun _ => none) l.toArray l.toArray := ARel.iff.2 (by simpa using flats_self (flat_self 6) hl _)
  obtain ⟨σ', v', W', fr, s, hf, hlv, e, r⟩ := enter_leaves hP hfol (call_ok hP hfol (ht W.heap.size) n) (call_pan hP hfol (ht W.heap.size) n) hr cs (WRel.empty W) (args' := l.toArray) ha
  have := flat_eq 6 v hv σ' v' r
  subst this
  exact ⟨.returned v', W', fr, ⟨rfl, e.below⟩, s, hf, hlv⟩
structure Memo where
  f : FuncId
  args : List Value
  val : Value
def findMemo (f : FuncId) (args : List Value) : List Memo → Option Value
  | [] => none
  | m :: l => match Nat.beq f m.f with
    | true => match same.all 12 m.args args with
      | true => some m.val
      | false => findMemo f args l
    | false => findMemo f args l
def toldMemo (tab : List Memo) (told : ToldF) : ToldF := fun f args w =>
  match findMemo f args.toList tab with
  | some v => some (v, w)
  | none => told f args w
structure MemoOk (P : Program) (m : Memo) : Prop where
  enters : ∀ args w, (callFunc m.f args).run P w = .ok (.enter m.f args) w
  flatArgs : flat.flats 6 m.args = true
  flatVal : flat 6 m.val = true
  calls : ∀ W, Calls P m.f m.args.toArray W fun e W' => e = .returned m.val ∧ Below W.heap.size W W'
inductive MemosOk (P : Program) : List Memo → Prop where
  | nil : MemosOk P []
  | cons {m : Memo} {l : List Memo} (h : MemoOk P m) (t : MemosOk P l) : MemosOk P (m :: l)
theorem findMemo_ok {f : FuncId} {args : List Value} {v : Value} : ∀ {tab : List Memo}, MemosOk P tab → findMemo f args tab = some v → ∃ m, MemoOk P m ∧ m.f = f ∧ m.args = args ∧ m.val = v
  | _, .nil, h => by cases h
  | _, .cons hm ht, h => by
    simp only [findMemo] at h
    split at h
    · rename_i hf
      split at h
      · rename_i hs
        injection h with h
        exact ⟨_, hm, (Nat.eq_of_beq_eq_true hf).symm, sameAll_eq (same_eq 12) hs, h⟩
      · exact findMemo_ok ht h
    · exact findMemo_ok ht h
theorem toldMemo_ok {tab : List Memo} (hm : MemosOk P tab) {told : ToldF} (ht : ∀ N, ToldOk P N told) (N : Nat) : ToldOk P N (toldMemo tab told) := by
  intro f args w w1 v h σ W args0 cap c cs hw ha
  unfold toldMemo at h
  split at h
  · rename_i u hu
    injection h with h; injection h with h1 h2
    subst h1 h2
    obtain ⟨m, hok, rfl, hargs, rfl⟩ := findMemo_ok hm hu
    have e1 : (args0 ++ cap).toList = args.toList := flats_rel (flat_eq 6) (by rw [← hargs]; exact hok.flatArgs) σ _ (ARel.iff.1 ha)
    have e2 : args0 ++ cap = m.args.toArray := Array.ext' (by rw [e1, hargs])
    obtain ⟨W', d1, d2⟩ := delivers_calls hok.enters (by rw [e2]; exact hok.calls W) c cs
    exact ⟨σ, _, W', d1, hw.aside d2, flat_self 6 _ hok.flatVal σ⟩
  · exact ht N f args w w1 v h σ W args0 cap c cs hw ha
end Go.Sim

namespace Go.Proofs
open Go Go.RowKit Go.Sim
set_option maxRecDepth 1000000
def Try.memo0 : Memo := ⟨118, [.int .i64 (1)], .agg #[.int .i64 (0), .int .i64 (0), .int .i64 (0), .int .i64 (0), .int .i64 (0), .int .i64 (0), .int .i64 (0), .int .i64 (0)]⟩
theorem Try.memo0_ok : MemoOk Try.prog Try.memo0 := {
  enters := fun args w => Try.call118 args w
  flatArgs := by decide
  flatVal := by decide
  calls := calls_val (F := 1000000) (told := fun _ _ _ => none) Try.fits Try.mixed Try.told0 (n := 99) (by rfl) (by decide) (by decide) (by decide +kernel) }
def Try.memo1 : Memo := ⟨118, [.int .i64 (2)], .agg #[.int .i64 (0), .int .i64 (1), .int .i64 (0), .int .i64 (0), .int .i64 (0), .int .i64 (0), .int .i64 (0), .int .i64 (0)]⟩
theorem Try.memo1_ok : MemoOk Try.prog Try.memo1 := {
  enters := fun args w => Try.call118 args w
  flatArgs := by decide
  flatVal := by decide
  calls := calls_val (F := 1000000) (told := fun _ _ _ => none) Try.fits Try.mixed Try.told0 (n := 99) (by rfl) (by decide) (by decide) (by decide +kernel) }
def Try.memo2 : Memo := ⟨118, [.int .i64 (3)], .agg #[.int .i64 (0), .int .i64 (1), .int .i64 (2), .int .i64 (0), .int .i64 (0), .int .i64 (0), .int .i64 (0), .int .i64 (0)]⟩
theorem Try.memo2_ok : MemoOk Try.prog Try.memo2 := {
  enters := fun args w => Try.call118 args w
  flatArgs := by decide
  flatVal := by decide
  calls := calls_val (F := 1000000) (told := fun _ _ _ => none) Try.fits Try.mixed Try.told0 (n := 99) (by rfl) (by decide) (by decide) (by decide +kernel) }
def Try.memo3 : Memo := ⟨118, [.int .i64 (4)], .agg #[.int .i64 (0), .int .i64 (1), .int .i64 (2), .int .i64 (3), .int .i64 (0), .int .i64 (0), .int .i64 (0), .int .i64 (0)]⟩
theorem Try.memo3_ok : MemoOk Try.prog Try.memo3 := {
  enters := fun args w => Try.call118 args w
  flatArgs := by decide
  flatVal := by decide
  calls := calls_val (F := 1000000) (told := fun _ _ _ => none) Try.fits Try.mixed Try.told0 (n := 99) (by rfl) (by decide) (by decide) (by decide +kernel) }
def Try.memo4 : Memo := ⟨118, [.int .i64 (5)], .agg #[.int .i64 (0), .int .i64 (1), .int .i64 (2), .int .i64 (3), .int .i64 (4), .int .i64 (0), .int .i64 (0), .int .i64 (0)]⟩
theorem Try.memo4_ok : MemoOk Try.prog Try.memo4 := {
  enters := fun args w => Try.call118 args w
  flatArgs := by decide
  flatVal := by decide
  calls := calls_val (F := 1000000) (told := fun _ _ _ => none) Try.fits Try.mixed Try.told0 (n := 99) (by rfl) (by decide) (by decide) (by decide +kernel) }
def Try.memo5 : Memo := ⟨118, [.int .i64 (6)], .agg #[.int .i64 (0), .int .i64 (1), .int .i64 (2), .int .i64 (3), .int .i64 (4), .int .i64 (5), .int .i64 (0), .int .i64 (0)]⟩
theorem Try.memo5_ok : MemoOk Try.prog Try.memo5 := {
  enters := fun args w => Try.call118 args w
  flatArgs := by decide
  flatVal := by decide
  calls := calls_val (F := 1000000) (told := fun _ _ _ => none) Try.fits Try.mixed Try.told0 (n := 99) (by rfl) (by decide) (by decide) (by decide +kernel) }
def Try.memo6 : Memo := ⟨118, [.int .i64 (7)], .agg #[.int .i64 (0), .int .i64 (1), .int .i64 (2), .int .i64 (3), .int .i64 (4), .int .i64 (5), .int .i64 (6), .int .i64 (0)]⟩
theorem Try.memo6_ok : MemoOk Try.prog Try.memo6 := {
  enters := fun args w => Try.call118 args w
  flatArgs := by decide
  flatVal := by decide
  calls := calls_val (F := 1000000) (told := fun _ _ _ => none) Try.fits Try.mixed Try.told0 (n := 99) (by rfl) (by decide) (by decide) (by decide +kernel) }
def Try.memo7 : Memo := ⟨118, [.int .i64 (8)], .agg #[.int .i64 (0), .int .i64 (1), .int .i64 (2), .int .i64 (3), .int .i64 (4), .int .i64 (5), .int .i64 (6), .int .i64 (7)]⟩
theorem Try.memo7_ok : MemoOk Try.prog Try.memo7 := {
  enters := fun args w => Try.call118 args w
  flatArgs := by decide
  flatVal := by decide
  calls := calls_val (F := 1000000) (told := fun _ _ _ => none) Try.fits Try.mixed Try.told0 (n := 99) (by rfl) (by decide) (by decide) (by decide +kernel) }
def Try.memo8 : Memo := ⟨125, [.int .u64 (1)], .int .i64 (1)⟩
theorem Try.memo8_ok : MemoOk Try.prog Try.memo8 := {
  enters := fun args w => Try.call125 args w
  flatArgs := by decide
  flatVal := by decide
  calls := calls_val (F := 1000000) (told := fun _ _ _ => none) Try.fits Try.mixed Try.told0 (n := 99) (by rfl) (by decide) (by decide) (by decide +kernel) }
def Try.memo9 : Memo := ⟨125, [.int .u64 (2)], .int .i64 (2)⟩
theorem Try.memo9_ok : MemoOk Try.prog Try.memo9 := {
  enters := fun args w => Try.call125 args w
  flatArgs := by decide
  flatVal := by decide
  calls := calls_val (F := 1000000) (told := fun _ _ _ => none) Try.fits Try.mixed Try.told0 (n := 99) (by rfl) (by decide) (by decide) (by decide +kernel) }
def Try.memo10 : Memo := ⟨125, [.int .u64 (3)], .int .i64 (2)⟩
theorem Try.memo10_ok : MemoOk Try.prog Try.memo10 := {
  enters := fun args w => Try.call125 args w
  flatArgs := by decide
  flatVal := by decide
  calls := calls_val (F := 1000000) (told := fun _ _ _ => none) Try.fits Try.mixed Try.told0 (n := 99) (by rfl) (by decide) (by decide) (by decide +kernel) }
def Try.memo11 : Memo := ⟨125, [.int .u64 (4)], .int .i64 (3)⟩
theorem Try.memo11_ok : MemoOk Try.prog Try.memo11 := {
  enters := fun args w => Try.call125 args w
  flatArgs := by decide
  flatVal := by decide
  calls := calls_val (F := 1000000) (told := fun _ _ _ => none) Try.fits Try.mixed Try.told0 (n := 99) (by rfl) (by decide) (by decide) (by decide +kernel) }
def Try.memo12 : Memo := ⟨125, [.int .u64 (5)], .int .i64 (3)⟩
theorem Try.memo12_ok : MemoOk Try.prog Try.memo12 := {
  enters := fun args w => Try.call125 args w
  flatArgs := by decide
  flatVal := by decide
  calls := calls_val (F := 1000000) (told := fun _ _ _ => none) Try.fits Try.mixed Try.told0 (n := 99) (by rfl) (by decide) (by decide) (by decide +kernel) }
def Try.memo13 : Memo := ⟨125, [.int .u64 (6)], .int .i64 (3)⟩
theorem Try.memo13_ok : MemoOk Try.prog Try.memo13 := {
  enters := fun args w => Try.call125 args w
  flatArgs := by decide
  flatVal := by decide
  calls := calls_val (F := 1000000) (told := fun _ _ _ => none) Try.fits Try.mixed Try.told0 (n := 99) (by rfl) (by decide) (by decide) (by decide +kernel) }
def Try.memo14 : Memo := ⟨125, [.int .u64 (7)], .int .i64 (3)⟩
theorem Try.memo14_ok : MemoOk Try.prog Try.memo14 := {
  enters := fun args w => Try.call125 args w
  flatArgs := by decide
  flatVal := by decide
  calls := calls_val (F := 1000000) (told := fun _ _ _ => none) Try.fits Try.mixed Try.told0 (n := 99) (by rfl) (by decide) (by decide) (by decide +kernel) }
def Try.memo15 : Memo := ⟨125, [.int .u64 (8)], .int .i64 (4)⟩
theorem Try.memo15_ok : MemoOk Try.prog Try.memo15 := {
  enters := fun args w => Try.call125 args w
  flatArgs := by decide
  flatVal := by decide
  calls := calls_val (F := 1000000) (told := fun _ _ _ => none) Try.fits Try.mixed Try.told0 (n := 99) (by rfl) (by decide) (by decide) (by decide +kernel) }
def Try.memo16 : Memo := ⟨93, [.int .i64 (0)], .int .i64 (1)⟩
theorem Try.memo16_ok : MemoOk Try.prog Try.memo16 := {
  enters := fun args w => Try.call93 args w
  flatArgs := by decide
  flatVal := by decide
  calls := calls_val (F := 1000000) (told := fun _ _ _ => none) Try.fits Try.mixed Try.told0 (n := 99) (by rfl) (by decide) (by decide) (by decide +kernel) }
def Try.memo17 : Memo := ⟨93, [.int .i64 (1)], .int .i64 (1)⟩
theorem Try.memo17_ok : MemoOk Try.prog Try.memo17 := {
  enters := fun args w => Try.call93 args w
  flatArgs := by decide
  flatVal := by decide
  calls := calls_val (F := 1000000) (told := fun _ _ _ => none) Try.fits Try.mixed Try.told0 (n := 99) (by rfl) (by decide) (by decide) (by decide +kernel) }
def Try.memo18 : Memo := ⟨93, [.int .i64 (2)], .int .i64 (2)⟩
theorem Try.memo18_ok : MemoOk Try.prog Try.memo18 := {
  enters := fun args w => Try.call93 args w
  flatArgs := by decide
  flatVal := by decide
  calls := calls_val (F := 1000000) (told := fun _ _ _ => none) Try.fits Try.mixed Try.told0 (n := 99) (by rfl) (by decide) (by decide) (by decide +kernel) }
def Try.memo19 : Memo := ⟨93, [.int .i64 (3)], .int .i64 (6)⟩
theorem Try.memo19_ok : MemoOk Try.prog Try.memo19 := {
  enters := fun args w => Try.call93 args w
  flatArgs := by decide
  flatVal := by decide
  calls := calls_val (F := 1000000) (told := fun _ _ _ => none) Try.fits Try.mixed Try.told0 (n := 99) (by rfl) (by decide) (by decide) (by decide +kernel) }
def Try.memo20 : Memo := ⟨93, [.int .i64 (4)], .int .i64 (24)⟩
theorem Try.memo20_ok : MemoOk Try.prog Try.memo20 := {
  enters := fun args w => Try.call93 args w
  flatArgs := by decide
  flatVal := by decide
  calls := calls_val (F := 1000000) (told := fun _ _ _ => none) Try.fits Try.mixed Try.told0 (n := 99) (by rfl) (by decide) (by decide) (by decide +kernel) }
def Try.memo21 : Memo := ⟨93, [.int .i64 (5)], .int .i64 (120)⟩
theorem Try.memo21_ok : MemoOk Try.prog Try.memo21 := {
  enters := fun args w => Try.call93 args w
  flatArgs := by decide
  flatVal := by decide
  calls := calls_val (F := 1000000) (told := fun _ _ _ => none) Try.fits Try.mixed Try.told0 (n := 99) (by rfl) (by decide) (by decide) (by decide +kernel) }
def Try.memo22 : Memo := ⟨93, [.int .i64 (6)], .int .i64 (720)⟩
theorem Try.memo22_ok : MemoOk Try.prog Try.memo22 := {
  enters := fun args w => Try.call93 args w
  flatArgs := by decide
  flatVal := by decide
  calls := calls_val (F := 1000000) (told := fun _ _ _ => none) Try.fits Try.mixed Try.told0 (n := 99) (by rfl) (by decide) (by decide) (by decide +kernel) }
def Try.memo23 : Memo := ⟨93, [.int .i64 (7)], .int .i64 (5040)⟩
theorem Try.memo23_ok : MemoOk Try.prog Try.memo23 := {
  enters := fun args w => Try.call93 args w
  flatArgs := by decide
  flatVal := by decide
  calls := calls_val (F := 1000000) (told := fun _ _ _ => none) Try.fits Try.mixed Try.told0 (n := 99) (by rfl) (by decide) (by decide) (by decide +kernel) }
def Try.memo24 : Memo := ⟨93, [.int .i64 (8)], .int .i64 (40320)⟩
theorem Try.memo24_ok : MemoOk Try.prog Try.memo24 := {
  enters := fun args w => Try.call93 args w
  flatArgs := by decide
  flatVal := by decide
  calls := calls_val (F := 1000000) (told := fun _ _ _ => none) Try.fits Try.mixed Try.told0 (n := 99) (by rfl) (by decide) (by decide) (by decide +kernel) }
def Try.memo25 : Memo := ⟨87, [.int .i64 (0)], .int .i64 (1)⟩
theorem Try.memo25_ok : MemoOk Try.prog Try.memo25 := {
  enters := fun args w => Try.call87 args w
  flatArgs := by decide
  flatVal := by decide
  calls := calls_val (F := 1000000) (told := fun _ _ _ => none) Try.fits Try.mixed Try.told0 (n := 99) (by rfl) (by decide) (by decide) (by decide +kernel) }
def Try.memo26 : Memo := ⟨87, [.int .i64 (1)], .int .i64 (1)⟩
theorem Try.memo26_ok : MemoOk Try.prog Try.memo26 := {
  enters := fun args w => Try.call87 args w
  flatArgs := by decide
  flatVal := by decide
  calls := calls_val (F := 1000000) (told := fun _ _ _ => none) Try.fits Try.mixed Try.told0 (n := 99) (by rfl) (by decide) (by decide) (by decide +kernel) }
def Try.memo27 : Memo := ⟨87, [.int .i64 (2)], .int .i64 (2)⟩
theorem Try.memo27_ok : MemoOk Try.prog Try.memo27 := {
  enters := fun args w => Try.call87 args w
  flatArgs := by decide
  flatVal := by decide
  calls := calls_val (F := 1000000) (told := fun _ _ _ => none) Try.fits Try.mixed Try.told0 (n := 99) (by rfl) (by decide) (by decide) (by decide +kernel) }
def Try.memo28 : Memo := ⟨87, [.int .i64 (3)], .int .i64 (6)⟩
theorem Try.memo28_ok : MemoOk Try.prog Try.memo28 := {
  enters := fun args w => Try.call87 args w
  flatArgs := by decide
  flatVal := by decide
  calls := calls_val (F := 1000000) (told := fun _ _ _ => none) Try.fits Try.mixed Try.told0 (n := 99) (by rfl) (by decide) (by decide) (by decide +kernel) }
def Try.memo29 : Memo := ⟨87, [.int .i64 (4)], .int .i64 (24)⟩
theorem Try.memo29_ok : MemoOk Try.prog Try.memo29 := {
  enters := fun args w => Try.call87 args w
  flatArgs := by decide
  flatVal := by decide
  calls := calls_val (F := 1000000) (told := fun _ _ _ => none) Try.fits Try.mixed Try.told0 (n := 99) (by rfl) (by decide) (by decide) (by decide +kernel) }
def Try.memo30 : Memo := ⟨87, [.int .i64 (5)], .int .i64 (120)⟩
theorem Try.memo30_ok : MemoOk Try.prog Try.memo30 := {
  enters := fun args w => Try.call87 args w
  flatArgs := by decide
  flatVal := by decide
  calls := calls_val (F := 1000000) (told := fun _ _ _ => none) Try.fits Try.mixed Try.told0 (n := 99) (by rfl) (by decide) (by decide) (by decide +kernel) }
def Try.memo31 : Memo := ⟨87, [.int .i64 (6)], .int .i64 (720)⟩
theorem Try.memo31_ok : MemoOk Try.prog Try.memo31 := {
  enters := fun args w => Try.call87 args w
  flatArgs := by decide
  flatVal := by decide
  calls := calls_val (F := 1000000) (told := fun _ _ _ => none) Try.fits Try.mixed Try.told0 (n := 99) (by rfl) (by decide) (by decide) (by decide +kernel) }
def Try.memo32 : Memo := ⟨87, [.int .i64 (7)], .int .i64 (5040)⟩
theorem Try.memo32_ok : MemoOk Try.prog Try.memo32 := {
  enters := fun args w => Try.call87 args w
  flatArgs := by decide
  flatVal := by decide
  calls := calls_val (F := 1000000) (told := fun _ _ _ => none) Try.fits Try.mixed Try.told0 (n := 99) (by rfl) (by decide) (by decide) (by decide +kernel) }
def Try.memo33 : Memo := ⟨87, [.int .i64 (8)], .int .i64 (40320)⟩
theorem Try.memo33_ok : MemoOk Try.prog Try.memo33 := {
  enters := fun args w => Try.call87 args w
  flatArgs := by decide
  flatVal := by decide
  calls := calls_val (F := 1000000) (told := fun _ _ _ => none) Try.fits Try.mixed Try.told0 (n := 99) (by rfl) (by decide) (by decide) (by decide +kernel) }
def Try.memo34 : Memo := ⟨106, [], .agg #[.int .i64 (1), .int .i64 (0), .int .i64 (0), .int .i64 (0), .int .i64 (0), .int .i64 (0), .int .i64 (0), .int .i64 (0), .int .i64 (0), .int .i64 (1), .int .i64 (1), .int .i64 (0), .int .i64 (0), .int .i64 (0), .int .i64 (0), .int .i64 (0), .int .i64 (0), .int .i64 (0), .int .i64 (1), .int .i64 (2), .int .i64 (1), .int .i64 (0), .int .i64 (0), .int .i64 (0), .int .i64 (0), .int .i64 (0), .int .i64 (0), .int .i64 (1), .int .i64 (3), .int .i64 (3), .int .i64 (1), .int .i64 (0), .int .i64 (0), .int .i64 (0), .int .i64 (0), .int .i64 (0), .int .i64 (1), .int .i64 (4), .int .i64 (6), .int .i64 (4), .int .i64 (1), .int .i64 (0), .int .i64 (0), .int .i64 (0), .int .i64 (0), .int .i64 (1), .int .i64 (5), .int .i64 (10), .int .i64 (10), .int .i64 (5), .int .i64 (1), .int .i64 (0), .int .i64 (0), .int .i64 (0), .int .i64 (1), .int .i64 (6), .int .i64 (15), .int .i64 (20), .int .i64 (15), .int .i64 (6), .int .i64 (1), .int .i64 (0), .int .i64 (0), .int .i64 (1), .int .i64 (7), .int .i64 (21), .int .i64 (35), .int .i64 (35), .int .i64 (21), .int .i64 (7), .int .i64 (1), .int .i64 (0), .int .i64 (1), .int .i64 (8), .int .i64 (28), .int .i64 (56), .int .i64 (70), .int .i64 (56), .int .i64 (28), .int .i64 (8), .int .i64 (1)]⟩
theorem Try.memo34_ok : MemoOk Try.prog Try.memo34 := {
  enters := fun args w => Try.call106 args w
  flatArgs := by decide
  flatVal := by decide
  calls := calls_val (F := 1000000) (told := fun _ _ _ => none) Try.fits Try.mixed Try.told0 (n := 99) (by rfl) (by decide) (by decide) (by decide +kernel) }
def Try.memos : List Memo := [Try.memo0, Try.memo1, Try.memo2, Try.memo3, Try.memo4, Try.memo5, Try.memo6, Try.memo7, Try.memo8, Try.memo9, Try.memo10, Try.memo11, Try.memo12, Try.memo13, Try.memo14, Try.memo15, Try.memo16, Try.memo17, Try.memo18, Try.memo19, Try.memo20, Try.memo21, Try.memo22, Try.memo23, Try.memo24, Try.memo25, Try.memo26, Try.memo27, Try.memo28, Try.memo29, Try.memo30, Try.memo31, Try.memo32, Try.memo33, Try.memo34]
theorem Try.memos_ok : MemosOk Try.prog Try.memos := .cons Try.memo0_ok (.cons Try.memo1_ok (.cons Try.memo2_ok (.cons Try.memo3_ok (.cons Try.memo4_ok (.cons Try.memo5_ok (.cons Try.memo6_ok (.cons Try.memo7_ok (.cons Try.memo8_ok (.cons Try.memo9_ok (.cons Try.memo10_ok (.cons Try.memo11_ok (.cons Try.memo12_ok (.cons Try.memo13_ok (.cons Try.memo14_ok (.cons Try.memo15_ok (.cons Try.memo16_ok (.cons Try.memo17_ok (.cons Try.memo18_ok (.cons Try.memo19_ok (.cons Try.memo20_ok (.cons Try.memo21_ok (.cons Try.memo22_ok (.cons Try.memo23_ok (.cons Try.memo24_ok (.cons Try.memo25_ok (.cons Try.memo26_ok (.cons Try.memo27_ok (.cons Try.memo28_ok (.cons Try.memo29_ok (.cons Try.memo30_ok (.cons Try.memo31_ok (.cons Try.memo32_ok (.cons Try.memo33_ok (.cons Try.memo34_ok (.nil)))))))))))))))))))))))))))))))))))
end Go.Proofs

namespace Go.Proofs
open Go Go.RowKit Go.Sim
set_option maxRecDepth 100000
def Try.T1 : ToldF := toldMemo Try.memos Try.T0
theorem Try.toldT1 (N : Nat) : ToldOk Try.prog N Try.T1 := toldMemo_ok Try.memos_ok Try.toldT0 N
theorem Try.bs22 (t : Tmps) (l : List (Nat × Operand)) : makes (prg Try.prog) t (.buildSlice 22 1 ⟨l⟩) = bsQ 3 1 1 [.int .i64 0] (l.map fun p => (p.1, ev t p.2)) := makes_bs Try.ty22 Try.ty3 rfl (by kernel_rfl)
attribute [go_sem] Try.bs22
theorem Try.und3 : Try.prog.underlying 3 = some (.int .i64) := by kernel_rfl
def RowA (B : Nat) (w : AW) (v : Value) (L : List Int) : Prop := AOwn B w 3 1 v L.length (L.flatMap icells)
theorem RowA.arr {B : Nat} {w : AW} {v : Value} {L : List Int} (h : RowA B w v L) (hl : L.length ≤ 1048576) : ArrOf w 1 icells v L := AOwn.arr h icells_len hl
theorem RowA.one {B : Nat} {w : AW} {v : Value} {L : List Int} (h : RowA B w v L) : oneCell v = true := AOwn.one h
theorem RowA.nil (B : Nat) (w : AW) : RowA B w (.slice none 0 0) [] := .inl ⟨rfl, rfl, rfl⟩
end Go.Proofs

namespace Go.Proofs
open Go Go.Sim
def aftI (S a : List Int) (r : Int) : List Int := (List.range 5).map fun i => if i < S.length then (if (i : Int) = r then 0 else W a i + 1) else W a i
def keptB (S a : List Int) (r : Int) : Bool := (List.range S.length).all fun i => decide (W (aftI S a r) i < W S i)
theorem aft_len (S a : List Int) (r : Int) : (aftI S a r).length = 5 := by simp [aftI]
theorem aft_at {S a : List Int} {r : Int} {i : Nat} (h : i < 5) : W (aftI S a r) i = if i < S.length then (if (i : Int) = r then 0 else W a i + 1) else W a i := by
  rw [W_at (by rw [aft_len]; exact h)]
  simp [aftI]
theorem kept_iff {S a : List Int} {r : Int} : keptB S a r = true ↔ ∀ i, i < S.length → W (aftI S a r) i < W S i := by
  simp [keptB]
def perB (S : List Int) : Bool := inR 1 S.length 5 && S.all fun n => inR 1 n 8
theorem perB_iff {S : List Int} : perB S = true ↔ (1 ≤ S.length ∧ S.length ≤ 5) ∧ ∀ i, i < S.length → 1 ≤ W S i ∧ W S i ≤ 8 := by
  unfold perB
  rw [Bool.and_eq_true, inR_iff, List.all_eq_true]
  constructor
  · rintro ⟨h1, h2⟩
    refine ⟨by omega, fun i hi => ?_⟩
    have := h2 _ (List.getElem_mem hi)
    rw [inR_iff, ← W_at hi] at this
    exact this
  · rintro ⟨h1, h2⟩
    refine ⟨by omega, fun x hx => ?_⟩
    obtain ⟨i, hi, rfl⟩ := List.getElem_of_mem hx
    rw [inR_iff, ← W_at hi]
    exact h2 i hi
structure StOk (S a : List Int) : Prop where
  len : a.length = 5
  fit : ∀ i, i < S.length → 0 ≤ W a i ∧ W a i < W S i
  out : ∀ i, S.length ≤ i → W a i = 0
def zero5 : List Int := [0, 0, 0, 0, 0]
theorem zero5_at (i : Nat) : W zero5 i = 0 := by
  match i with
  | 0 | 1 | 2 | 3 | 4 => rfl
  | i + 5 => exact W_out (by simp [zero5])
theorem st_zero {S : List Int} (hS : perB S = true) : StOk S zero5 := ⟨rfl, fun i hi => by rw [zero5_at]; have := (perB_iff.1 hS).2 i hi; omega, fun i _ => zero5_at i⟩
theorem st_aft {S a : List Int} (hS : perB S = true) (h : StOk S a) {r : Int} (hk : keptB S a r = true) : StOk S (aftI S a r) := by
  have h5 := (perB_iff.1 hS).1
  refine ⟨aft_len _ _ _, fun i hi => ⟨?_, kept_iff.1 hk i hi⟩, fun i hi => ?_⟩
  · rw [aft_at (by omega), if_pos hi]
    have := (h.fit i hi).1
    split <;> omega
  · rcases Nat.lt_or_ge i 5 with q | q
    · rw [aft_at q, if_neg (by omega)]; exact h.out i hi
    · exact W_out (by rw [aft_len]; exact q)
def runB (S : List Int) : List Int → List Int → Bool
  | _, [] => true
  | a, r :: t => inR 0 r ((S.length : Int) - 1) && keptB S a r && runB S (aftI S a r) t
def endI (S a : List Int) (t : List Int) : List Int := t.foldl (aftI S) a
theorem run_cons {S a : List Int} {r : Int} {t : List Int} : runB S a (r :: t) = true ↔ (0 ≤ r ∧ r < (S.length : Int)) ∧ keptB S a r = true ∧ runB S (aftI S a r) t = true := by
  simp only [runB, Bool.and_eq_true, inR_iff]
  constructor
  · rintro ⟨⟨h1, h2⟩, h3⟩; exact ⟨by omega, h2, h3⟩
  · rintro ⟨h1, h2, h3⟩; exact ⟨⟨by omega, h2⟩, h3⟩
theorem run_append {S : List Int} : ∀ {t u a : List Int}, runB S a (t ++ u) = true ↔ runB S a t = true ∧ runB S (endI S a t) u = true
  | [], u, a => by simp [runB, endI]
  | r :: t, u, a => by
    rw [List.cons_append, run_cons, run_cons, run_append (t := t)]
    simp only [endI, List.foldl_cons]
    constructor
    · rintro ⟨h1, h2, h3, h4⟩; exact ⟨⟨h1, h2, h3⟩, h4⟩
    · rintro ⟨⟨h1, h2, h3⟩, h4⟩; exact ⟨h1, h2, h3, h4⟩
theorem end_append (S a t u : List Int) : endI S a (t ++ u) = endI S (endI S a t) u := by simp [endI]
theorem st_end {S : List Int} (hS : perB S = true) : ∀ {t a : List Int}, StOk S a → runB S a t = true → StOk S (endI S a t)
  | [], _, h, _ => h
  | r :: t, a, h, hr => by
    rw [run_cons] at hr
    exact st_end hS (t := t) (st_aft hS h hr.2.1) hr.2.2
def infP (S a : List Int) : Prop := ∀ k : Nat, ∃ t, k ≤ t.length ∧ runB S a t = true
def maxP (S a : List Int) (n : Nat) : Prop := (∃ t, t.length = n ∧ runB S a t = true) ∧ ∀ t, runB S a t = true → t.length ≤ n
theorem inf_path {S a b : List Int} {t : List Int} (ht : runB S a t = true) (he : endI S a t = b) (hb : infP S b) : infP S a := fun k => by
  obtain ⟨u, h1, h2⟩ := hb k
  exact ⟨t ++ u, by rw [List.length_append]; omega, run_append.2 ⟨ht, by rw [he]; exact h2⟩⟩
theorem inf_cycle {S a : List Int} {t : List Int} (ht : runB S a t = true) (h1 : 1 ≤ t.length) (he : endI S a t = a) : infP S a := by
  have : ∀ k : Nat, ∃ u, k ≤ u.length ∧ runB S a u = true ∧ endI S a u = a := by
    intro k
    induction k with
    | zero => exact ⟨[], Nat.le_refl _, rfl, rfl⟩
    | succ k ih =>
      obtain ⟨u, a1, a2, a3⟩ := ih
      exact ⟨t ++ u, by rw [List.length_append]; omega, run_append.2 ⟨ht, by rw [he]; exact a2⟩, by rw [end_append, he, a3]⟩
  exact fun k => let ⟨u, a1, a2, _⟩ := this k; ⟨u, a1, a2⟩
theorem inf_not_max {S a : List Int} {n : Nat} (h : infP S a) (k : maxP S a n) : False := by
  obtain ⟨t, h1, h2⟩ := h (n + 1)
  have := k.2 t h2
  omega
theorem run_take {S a t : List Int} (h : runB S a t = true) (k : Nat) : runB S a (t.take k) = true := by
  rw [← List.take_append_drop k t, run_append] at h
  exact h.1
theorem inf_next {S a : List Int} (h : infP S a) : ∃ r : Nat, r < S.length ∧ keptB S a (r : Int) = true ∧ infP S (aftI S a (r : Int)) := by
  rcases Classical.em (∃ r : Nat, r < S.length ∧ keptB S a (r : Int) = true ∧ infP S (aftI S a (r : Int))) with q | q
  · exact q
  exfalso
  have hb : ∀ n : Nat, n ≤ S.length → ∃ K : Nat, ∀ r : Nat, r < n → keptB S a (r : Int) = true → ∀ t, runB S (aftI S a (r : Int)) t = true → t.length < K := by
    intro n
    induction n with
    | zero => exact fun _ => ⟨0, fun r hr => by omega⟩
    | succ n ih =>
      intro hn
      obtain ⟨K, hK⟩ := ih (by omega)
      rcases Classical.em (keptB S a (n : Int) = true) with hk | hk
      · have hni : ¬ infP S (aftI S a (n : Int)) := fun hi => q ⟨n, by omega, hk, hi⟩
        obtain ⟨k0, hk0⟩ := Classical.not_forall.1 hni
        refine ⟨max K k0, fun r hr hkr t ht => ?_⟩
        rcases Nat.lt_or_ge r n with z | z
        · have := hK r z hkr t ht; omega
        · obtain rfl : r = n := by omega
          rcases Nat.lt_or_ge t.length k0 with y | y
          · omega
          · exact absurd ⟨t, y, ht⟩ hk0
      · refine ⟨K, fun r hr hkr t ht => ?_⟩
        rcases Nat.lt_or_ge r n with z | z
        · exact hK r z hkr t ht
        · obtain rfl : r = n := by omega
          exact absurd hkr hk
  obtain ⟨K, hK⟩ := hb S.length (Nat.le_refl _)
  obtain ⟨t, h1, h2⟩ := h (K + 1)
  cases t with
  | nil => simp at h1
  | cons r t =>
    rw [run_cons] at h2
    obtain ⟨n, rfl⟩ : ∃ n : Nat, r = (n : Int) := ⟨r.toNat, by omega⟩
    have := hK n (by omega) h2.2.1 t h2.2.2
    simp at h1
    omega
end Go.Proofs

namespace Go.Proofs
open Go Go.Sim
def decA (k : Nat) : List Int := [((k % 8 : Nat) : Int), ((k / 8 % 8 : Nat) : Int), ((k / 64 % 8 : Nat) : Int), ((k / 512 % 8 : Nat) : Int), ((k / 4096 % 8 : Nat) : Int)]
def allSt : List (List Int) := (List.range 32768).map decA
theorem allSt_len : allSt.length = 32768 := by unfold allSt; rw [List.length_map, List.length_range]
theorem dec_enc (a b c d e : Nat) (h1 : a < 8) (h2 : b < 8) (h3 : c < 8) (h4 : d < 8) (h5 : e < 8) : decA (a + 8 * b + 64 * c + 512 * d + 4096 * e) = [(a : Int), b, c, d, e] := by
  unfold decA
  have e1 : (a + 8 * b + 64 * c + 512 * d + 4096 * e) % 8 = a := by omega
  have e2 : (a + 8 * b + 64 * c + 512 * d + 4096 * e) / 8 % 8 = b := by omega
  have e3 : (a + 8 * b + 64 * c + 512 * d + 4096 * e) / 64 % 8 = c := by omega
  have e4 : (a + 8 * b + 64 * c + 512 * d + 4096 * e) / 512 % 8 = d := by omega
  have e5 : (a + 8 * b + 64 * c + 512 * d + 4096 * e) / 4096 % 8 = e := by omega
  rw [e1, e2, e3, e4, e5]
theorem five {a : List Int} (h : a.length = 5) : ∃ x0 x1 x2 x3 x4, a = [x0, x1, x2, x3, x4] := by
  match a, h with
  | [x0, x1, x2, x3, x4], _ => exact ⟨x0, x1, x2, x3, x4, rfl⟩
theorem st_in {S a : List Int} (hS : perB S = true) (h : StOk S a) : ∀ i, 0 ≤ W a i ∧ W a i < 8 := fun i => by
  rcases Nat.lt_or_ge i S.length with q | q
  · have := h.fit i q
    have := (perB_iff.1 hS).2 i q
    omega
  · have := h.out i q; omega
theorem st_mem {S a : List Int} (hS : perB S = true) (h : StOk S a) : a ∈ allSt := by
  obtain ⟨x0, x1, x2, x3, x4, rfl⟩ := five h.len
  have i0 := st_in hS h 0
  have i1 := st_in hS h 1
  have i2 := st_in hS h 2
  have i3 := st_in hS h 3
  have i4 := st_in hS h 4
  simp only [W, List.getD, List.getElem?_cons_zero, List.getElem?_cons_succ, Option.getD_some] at i0 i1 i2 i3 i4
  obtain ⟨n0, rfl⟩ : ∃ n : Nat, x0 = (n : Int) := ⟨x0.toNat, by omega⟩
  obtain ⟨n1, rfl⟩ : ∃ n : Nat, x1 = (n : Int) := ⟨x1.toNat, by omega⟩
  obtain ⟨n2, rfl⟩ : ∃ n : Nat, x2 = (n : Int) := ⟨x2.toNat, by omega⟩
  obtain ⟨n3, rfl⟩ : ∃ n : Nat, x3 = (n : Int) := ⟨x3.toNat, by omega⟩
  obtain ⟨n4, rfl⟩ : ∃ n : Nat, x4 = (n : Int) := ⟨x4.toNat, by omega⟩
  unfold allSt
  rw [List.mem_map]
  exact ⟨n0 + 8 * n1 + 64 * n2 + 512 * n3 + 4096 * n4, by rw [List.mem_range]; omega, dec_enc _ _ _ _ _ (by omega) (by omega) (by omega) (by omega) (by omega)⟩
theorem countP_le' {α : Type} {p q : α → Bool} : ∀ {l : List α}, (∀ x ∈ l, p x = true → q x = true) → l.countP p ≤ l.countP q
  | [], _ => Nat.le_refl _
  | x :: l, h => by
    have ih := countP_le' (l := l) fun y hy => h y (List.mem_cons_of_mem _ hy)
    have hx := h x List.mem_cons_self
    rw [List.countP_cons, List.countP_cons]
    by_cases hp : p x = true
    · rw [if_pos hp, if_pos (hx hp)]; omega
    · rw [if_neg hp]; split <;> omega
theorem countP_lt' {α : Type} {p q : α → Bool} : ∀ {l : List α}, (∀ x ∈ l, p x = true → q x = true) → (∃ x ∈ l, p x = false ∧ q x = true) → l.countP p < l.countP q
  | [], _, ⟨x, hx, _⟩ => by cases hx
  | x :: l, h, ⟨y, hy, h1, h2⟩ => by
    have hle := countP_le' (l := l) fun z hz => h z (List.mem_cons_of_mem _ hz)
    rw [List.countP_cons, List.countP_cons]
    rcases List.mem_cons.1 hy with rfl | hy
    · rw [h1, if_pos h2]; simp; omega
    · have ih := countP_lt' (l := l) (fun z hz => h z (List.mem_cons_of_mem _ hz)) ⟨y, hy, h1, h2⟩
      have hx := h x List.mem_cons_self
      by_cases hp : p x = true
      · rw [if_pos hp, if_pos (hx hp)]; omega
      · rw [if_neg hp]; split <;> omega
abbrev MemoA := List Int → Option Int
def FV : Int := 9223372036854775807
def putM (M : MemoA) (a : List Int) (v : Int) : MemoA := fun x => if x = a then some v else M x
theorem putM_at (M : MemoA) (a : List Int) (v : Int) : putM M a v a = some v := by simp [putM]
theorem putM_ne {M : MemoA} {a x : List Int} (v : Int) (h : x ≠ a) : putM M a v x = M x := by simp [putM, h]
def cntN (M : MemoA) : Nat := allSt.countP fun x => (M x).isNone
def finB (o : Option Int) : Bool := match o with | some v => decide (v ≠ FV) | none => false
def cntF (M : MemoA) : Nat := allSt.countP fun x => finB (M x)
theorem cntF_le (M : MemoA) : cntF M ≤ 32768 := by
  have := List.countP_le_length (p := fun x => finB (M x)) (l := allSt)
  rw [allSt_len] at this
  exact this
def ExtM (M M' : MemoA) : Prop := ∀ x v, M x = some v → M' x = some v
theorem ExtM.refl (M : MemoA) : ExtM M M := fun _ _ h => h
theorem ExtM.trans {A B C : MemoA} (h : ExtM A B) (k : ExtM B C) : ExtM A C := fun x v q => k x v (h x v q)
theorem ExtM.none {M M' : MemoA} (h : ExtM M M') (x : List Int) (hx : M' x = none) : M x = none := by
  cases hq : M x with
  | none => rfl
  | some v => rw [h x v hq] at hx; cases hx
theorem ExtM.cntN {M M' : MemoA} (h : ExtM M M') : cntN M' ≤ cntN M := countP_le' fun x _ hx => by
  rw [Option.isNone_iff_eq_none] at hx ⊢; exact h.none x hx
theorem ExtM.cntF {M M' : MemoA} (h : ExtM M M') : cntF M ≤ cntF M' := countP_le' fun x _ hx => by
  cases hq : M x with
  | none => rw [hq] at hx; simp [finB] at hx
  | some v => rw [h x v hq]; rw [hq] at hx; exact hx
theorem put_ext {M : MemoA} {a : List Int} (v : Int) (h : M a = none) : ExtM M (putM M a v) := fun x u hx => by
  rw [putM_ne v (fun e => by subst e; rw [h] at hx; cases hx)]; exact hx
theorem put_cntN {M : MemoA} {a : List Int} (v : Int) (h : M a = none) (ha : a ∈ allSt) : cntN (putM M a v) < cntN M := countP_lt' (fun x _ hx => by
  rw [Option.isNone_iff_eq_none] at hx ⊢; exact (put_ext v h).none x hx) ⟨a, ha, by rw [putM_at]; rfl, by rw [h]; rfl⟩
theorem put_cntF {M : MemoA} {a : List Int} {v : Int} (hv : v ≠ FV) (h : M a = some FV) (ha : a ∈ allSt) : cntF M < cntF (putM M a v) := countP_lt' (fun x _ hx => by
  by_cases e : x = a
  · subst e; rw [putM_at]; simp [finB, hv]
  · rw [putM_ne v e]; exact hx) ⟨a, ha, by rw [h]; simp [finB], by rw [putM_at]; simp [finB, hv]⟩
def InvM (S : List Int) (M : MemoA) (K : List (List Int)) : Prop := ∀ x v, M x = some v → (v = FV ∧ (x ∈ K ∨ infP S x)) ∨ (v ≠ FV ∧ 0 ≤ v ∧ v ≤ (cntF M : Int) ∧ maxP S x v.toNat)
def LeadS (S : List Int) (K : List (List Int)) (a : List Int) : Prop := ∀ s ∈ K, ∃ t, 1 ≤ t.length ∧ runB S s t = true ∧ endI S s t = a
def LastP (S : List Int) (a : List Int) (M : MemoA) (v : Int) : Prop := (v = FV ∧ infP S a) ∨ (v ≠ FV ∧ 0 ≤ v ∧ v ≤ (cntF M : Int) ∧ maxP S a v.toNat)
theorem LastP.ext {S a : List Int} {M M' : MemoA} {v : Int} (h : LastP S a M v) (k : ExtM M M') : LastP S a M' v := by
  rcases h with h | ⟨h1, h2, h3, h4⟩
  · exact .inl h
  · exact .inr ⟨h1, h2, by have := k.cntF; omega, h4⟩
theorem last_known {S a : List Int} {M : MemoA} {K : List (List Int)} {v : Int} (h : InvM S M K) (hl : LeadS S K a) (hv : M a = some v) : LastP S a M v := by
  rcases h a v hv with ⟨h1, h2 | h2⟩ | h1
  · obtain ⟨t, a1, a2, a3⟩ := hl a h2
    exact .inl ⟨h1, inf_cycle a2 a1 a3⟩
  · exact .inl ⟨h1, h2⟩
  · exact .inr h1
theorem inv_push {S a : List Int} {M : MemoA} {K : List (List Int)} (h : InvM S M K) (ha : M a = none) : InvM S (putM M a FV) (a :: K) := fun x v hx => by
  by_cases e : x = a
  · subst e
    rw [putM_at] at hx
    injection hx with hx
    exact .inl ⟨hx.symm, .inl List.mem_cons_self⟩
  · rw [putM_ne _ e] at hx
    have hc := (put_ext FV ha).cntF
    rcases h x v hx with ⟨h1, h2 | h2⟩ | ⟨h1, h2, h3, h4⟩
    · exact .inl ⟨h1, .inl (List.mem_cons_of_mem _ h2)⟩
    · exact .inl ⟨h1, .inr h2⟩
    · exact .inr ⟨h1, h2, by omega, h4⟩
theorem lead_push {S a : List Int} {K : List (List Int)} (h : LeadS S K a) {r : Int} (hr : 0 ≤ r ∧ r < (S.length : Int)) (hk : keptB S a r = true) : LeadS S (a :: K) (aftI S a r) := fun s hs => by
  have h1 : runB S a [r] = true := run_cons.2 ⟨hr, hk, rfl⟩
  rcases List.mem_cons.1 hs with rfl | hs
  · exact ⟨[r], by simp, h1, rfl⟩
  · obtain ⟨t, a1, a2, a3⟩ := h s hs
    exact ⟨t ++ [r], by rw [List.length_append]; omega, run_append.2 ⟨a2, by rw [a3]; exact h1⟩, by rw [end_append, a3]; rfl⟩
theorem inv_pop_inf {S a : List Int} {M : MemoA} {K : List (List Int)} (h : InvM S M (a :: K)) (ha : infP S a) : InvM S M K := fun x v hx => by
  rcases h x v hx with ⟨h1, h2 | h2⟩ | h1
  · rcases List.mem_cons.1 h2 with rfl | h2
    · exact .inl ⟨h1, .inr ha⟩
    · exact .inl ⟨h1, .inl h2⟩
  · exact .inl ⟨h1, .inr h2⟩
  · exact .inr h1
theorem inv_pop {S a : List Int} {M : MemoA} {K : List (List Int)} (h : InvM S M (a :: K)) {m : Nat} (hm : maxP S a m) (hv : (m : Int) ≠ FV) (hc : m ≤ cntF (putM M a (m : Int))) (hmo : cntF M ≤ cntF (putM M a (m : Int))) : InvM S (putM M a (m : Int)) K := fun x v hx => by
  by_cases e : x = a
  · subst e
    rw [putM_at] at hx
    injection hx with hx
    subst hx
    exact .inr ⟨hv, by omega, by omega, by simpa using hm⟩
  · rw [putM_ne _ e] at hx
    rcases h x v hx with ⟨h1, h2 | h2⟩ | ⟨h1, h2, h3, h4⟩
    · rcases List.mem_cons.1 h2 with q | h2
      · exact absurd q e
      · exact .inl ⟨h1, .inl h2⟩
    · exact .inl ⟨h1, .inr h2⟩
    · exact .inr ⟨h1, h2, by omega, h4⟩
def MostTo (S a : List Int) (i m : Nat) : Prop := (∃ t, t.length = m ∧ runB S a t = true) ∧ ∀ r t, r < (i : Int) → runB S a (r :: t) = true → t.length + 1 ≤ m
theorem most_zero (S a : List Int) : MostTo S a 0 0 := ⟨⟨[], rfl, rfl⟩, fun r t hr h => by have := (run_cons.1 h).1; omega⟩
theorem most_skip {S a : List Int} {i m : Nat} (h : MostTo S a i m) (hk : keptB S a (i : Int) = false) : MostTo S a (i + 1) m := ⟨h.1, fun r t hr ht => by
  by_cases e : r = (i : Int)
  · subst e; have := (run_cons.1 ht).2.1; rw [hk] at this; cases this
  · exact h.2 r t (by omega) ht⟩
theorem most_step {S a : List Int} {i m k : Nat} (h : MostTo S a i m) (hi : i < S.length) (hk : keptB S a (i : Int) = true) (hm : maxP S (aftI S a (i : Int)) k) : MostTo S a (i + 1) (max m (k + 1)) := by
  refine ⟨?_, fun r t hr ht => ?_⟩
  · rcases Nat.le_total m (k + 1) with q | q
    · obtain ⟨t, h1, h2⟩ := hm.1
      exact ⟨(i : Int) :: t, by rw [List.length_cons]; omega, run_cons.2 ⟨by omega, hk, h2⟩⟩
    · obtain ⟨t, h1, h2⟩ := h.1
      exact ⟨t, by omega, h2⟩
  · by_cases e : r = (i : Int)
    · subst e
      have := hm.2 t (run_cons.1 ht).2.2
      omega
    · have := h.2 r t (by omega) ht
      omega
theorem most_all {S a : List Int} {m : Nat} (h : MostTo S a S.length m) : maxP S a m := ⟨h.1, fun t ht => by
  cases t with
  | nil => simp
  | cons r t =>
    have := h.2 r t (run_cons.1 ht).1.2 ht
    rw [List.length_cons]; omega⟩
theorem fv_big {n : Nat} (h : n ≤ 40000) : (n : Int) ≠ FV := by unfold FV; omega
end Go.Proofs

namespace Go.Proofs
open Go Go.RowKit Go.Sim
set_option maxRecDepth 100000
def Try.s46 : SC := (.seq (.ops false [⟨⟨(some 6),.assign (.const (.bool false)),4,"",⟨[]⟩,none⟩,none,false⟩]) (.seq (.ops false [⟨⟨(some 7),.move (.tmp 0),3,"",⟨[]⟩,none⟩,none,false⟩,⟨⟨(some 8),.move (.tmp 1),3,"",⟨[]⟩,none⟩,none,false⟩,⟨⟨(some 9),.binOp .leq 3 (.tmp 7) (.tmp 8) 3,4,"",⟨[]⟩,none⟩,none,false⟩,⟨⟨(some 10),.move (.tmp 9),4,"",⟨[]⟩,none⟩,none,false⟩,⟨⟨(some 11),.move (.tmp 1),3,"",⟨[]⟩,none⟩,some ((some 10),true),false⟩,⟨⟨(some 12),.move (.tmp 2),3,"",⟨[]⟩,none⟩,some ((some 10),true),false⟩,⟨⟨(some 13),.binOp .leq 3 (.tmp 11) (.tmp 12) 3,4,"",⟨[]⟩,none⟩,some ((some 10),true),false⟩,⟨⟨(some 14),.pick (.tmp 10) (.tmp 13) (.const (.bool false)),4,"",⟨[]⟩,none⟩,none,false⟩,⟨⟨(some 6),.assign (.tmp 14),4,"",⟨[]⟩,none⟩,none,false⟩]) .ret))
def Try.s64 : SC := (.seq (.ops false [⟨⟨(some 6),.assign (.const (.bool false)),4,"",⟨[]⟩,none⟩,none,false⟩]) (.seq (.ops false [⟨⟨(some 7),.move (.tmp 1),3,"",⟨[]⟩,none⟩,none,false⟩,⟨⟨(some 8),.move (.tmp 0),3,"",⟨[]⟩,none⟩,none,false⟩,⟨⟨(some 9),.binOp .leq 3 (.tmp 7) (.tmp 8) 3,4,"",⟨[]⟩,none⟩,none,false⟩,⟨⟨(some 10),.move (.tmp 9),4,"",⟨[]⟩,none⟩,none,false⟩,⟨⟨(some 11),.move (.tmp 0),3,"",⟨[]⟩,none⟩,some ((some 10),true),false⟩,⟨⟨(some 12),.move (.tmp 2),3,"",⟨[]⟩,none⟩,some ((some 10),true),false⟩,⟨⟨(some 13),.binOp .leq 3 (.tmp 11) (.tmp 12) 3,4,"",⟨[]⟩,none⟩,some ((some 10),true),false⟩,⟨⟨(some 14),.pick (.tmp 10) (.tmp 13) (.const (.bool false)),4,"",⟨[]⟩,none⟩,none,false⟩,⟨⟨(some 6),.assign (.tmp 14),4,"",⟨[]⟩,none⟩,none,false⟩]) .ret))
def Try.s65 : SC := (.seq (.ops false [⟨⟨(some 3),.box 79 (.tmp 1),0,"",⟨[]⟩,none⟩,none,false⟩,⟨⟨(some 4),.assign (.const (.bool false)),4,"",⟨[]⟩,none⟩,none,false⟩]) (.seq (.ops false [⟨⟨(some 5),.move (.tmp 0),22,"",⟨[]⟩,none⟩,none,false⟩,⟨⟨(some 6),.makeFunc (.func 109) ⟨[]⟩ ⟨[(.tmp 3)]⟩,79,"",⟨[]⟩,none⟩,none,false⟩,⟨⟨(some 7),.call ⟨.value (.func 108),⟨[(.tmp 5),(.tmp 6)]⟩,⟨[22,79]⟩⟩,4,"",⟨[]⟩,none⟩,none,false⟩,⟨⟨(some 8),.unOp .not 4 (.tmp 7),4,"",⟨[]⟩,none⟩,none,false⟩,⟨⟨(some 4),.assign (.tmp 8),4,"",⟨[]⟩,none⟩,none,false⟩]) .ret))
def Try.s108 : SC := (.seq (.ops false [⟨⟨(some 4),.assign (.const (.bool false)),4,"",⟨[]⟩,none⟩,none,false⟩]) (.seq (.ops false [⟨⟨(some 5),.move (.tmp 0),22,"",⟨[]⟩,none⟩,none,false⟩,⟨⟨(some 6),.move (.tmp 1),79,"",⟨[]⟩,none⟩,none,false⟩,⟨⟨(some 7),.call ⟨.value (.func 123),⟨[(.tmp 5),(.tmp 6)]⟩,⟨[22,79]⟩⟩,3,"",⟨[]⟩,none⟩,none,false⟩,⟨⟨(some 8),.binOp .geq 3 (.tmp 7) (.const (.int .i64 0)) 3,4,"",⟨[]⟩,none⟩,none,false⟩,⟨⟨(some 4),.assign (.tmp 8),4,"",⟨[]⟩,none⟩,none,false⟩]) .ret))
def Try.s123 : SC := (.seq (.ops false [⟨⟨(some 4),.assign (.const (.int .i64 0)),3,"",⟨[]⟩,none⟩,none,false⟩]) (.seq (.seq (.ops false [⟨⟨(some 6),.move (.tmp 0),22,"",⟨[]⟩,none⟩,none,false⟩,⟨⟨(some 7),.call ⟨.builtin .len,⟨[(.tmp 6)]⟩,⟨[22]⟩⟩,3,"",⟨[]⟩,none⟩,none,false⟩,⟨⟨(some 8),.move (.const (.int .i64 0)),3,"",⟨[]⟩,none⟩,none,false⟩]) (.block 0 (.loop (.seq (.ops false [⟨⟨(some 9),.binOp .lss 3 (.tmp 8) (.tmp 7) 3,0,"",⟨[]⟩,none⟩,none,false⟩]) (.seq (.cond (.tmp 9) .skip (.exit 0)) (.seq (.block 1 (.seq (.ops false [⟨⟨(some 10),.move (.tmp 8),3,"",⟨[]⟩,none⟩,none,false⟩,⟨⟨(some 5),.assign (.tmp 10),3,"",⟨[]⟩,none⟩,none,false⟩]) (.seq (.ops false [⟨⟨(some 11),.move (.tmp 1),79,"",⟨[]⟩,none⟩,none,false⟩,⟨⟨(some 12),.move (.tmp 0),22,"",⟨[]⟩,none⟩,none,false⟩,⟨⟨(some 13),.move (.tmp 5),3,"",⟨[]⟩,none⟩,none,false⟩,⟨⟨(some 14),.indexAddr 22 (.tmp 12) (.tmp 13),0,"",⟨[]⟩,none⟩,none,false⟩,⟨⟨(some 15),.load 3 (.tmp 14),3,"",⟨[]⟩,none⟩,none,false⟩,⟨⟨(some 16),.call ⟨.value (.tmp 11),⟨[(.tmp 15)]⟩,⟨[3]⟩⟩,4,"",⟨[]⟩,none⟩,none,false⟩]) (.cond (.tmp 16) (.seq (.ops false [⟨⟨(some 17),.move (.tmp 5),3,"",⟨[]⟩,none⟩,none,false⟩,⟨⟨(some 4),.assign (.tmp 17),3,"",⟨[]⟩,none⟩,none,false⟩]) .ret) .skip)))) (.ops false [⟨⟨(some 18),.binOp .add 3 (.tmp 8) (.const (.int .i64 1)) 3,3,"",⟨[]⟩,none⟩,none,false⟩,⟨⟨(some 8),.move (.tmp 18),3,"",⟨[]⟩,none⟩,none,false⟩]))))))) (.seq (.ops false [⟨⟨(some 4),.assign (.const (.int .i64 (-1))),3,"",⟨[]⟩,none⟩,none,false⟩]) .ret)))
def Try.s109 : SC := (.seq (.ops false [⟨⟨(some 3),.assign (.const (.bool false)),4,"",⟨[]⟩,none⟩,none,false⟩]) (.seq (.ops false [⟨⟨(some 4),.load 79 (.tmp 1),79,"",⟨[]⟩,none⟩,none,false⟩,⟨⟨(some 5),.move (.tmp 0),3,"",⟨[]⟩,none⟩,none,false⟩,⟨⟨(some 6),.call ⟨.value (.tmp 4),⟨[(.tmp 5)]⟩,⟨[3]⟩⟩,4,"",⟨[]⟩,none⟩,none,false⟩,⟨⟨(some 7),.unOp .not 4 (.tmp 6),4,"",⟨[]⟩,none⟩,none,false⟩,⟨⟨(some 3),.assign (.tmp 7),4,"",⟨[]⟩,none⟩,none,false⟩]) .ret))
def Try.s5 : SC := (.seq (.ops false [⟨⟨(some 6),.assign (.const (.bool false)),4,"",⟨[]⟩,none⟩,none,false⟩]) (.seq (.ops false [⟨⟨(some 16),.move (.tmp 0),22,"",⟨[]⟩,none⟩,none,false⟩,⟨⟨(some 17),.move (.tmp 1),22,"",⟨[]⟩,none⟩,none,false⟩,⟨⟨(some 18),.call ⟨.value (.func 28),⟨[(.tmp 16),(.tmp 17)]⟩,⟨[22,22]⟩⟩,39,"",⟨[]⟩,none⟩,none,false⟩,⟨⟨(some 15),.move (.tmp 18),39,"",⟨[]⟩,none⟩,none,false⟩,⟨⟨(some 19),.extract (.tmp 15) 0,3,"",⟨[]⟩,none⟩,none,false⟩,⟨⟨(some 20),.extract (.tmp 15) 1,25,"",⟨[]⟩,none⟩,none,false⟩,⟨⟨(some 7),.assign (.tmp 19),3,"",⟨[]⟩,none⟩,none,false⟩,⟨⟨(some 8),.assign (.tmp 20),25,"",⟨[]⟩,none⟩,none,false⟩]) (.seq (.ops false [⟨⟨(some 22),.move (.tmp 0),22,"",⟨[]⟩,none⟩,none,false⟩,⟨⟨(some 23),.move (.tmp 1),22,"",⟨[]⟩,none⟩,none,false⟩,⟨⟨(some 24),.call ⟨.value (.func 29),⟨[(.tmp 22),(.tmp 23)]⟩,⟨[22,22]⟩⟩,39,"",⟨[]⟩,none⟩,none,false⟩,⟨⟨(some 21),.move (.tmp 24),39,"",⟨[]⟩,none⟩,none,false⟩,⟨⟨(some 25),.extract (.tmp 21) 0,3,"",⟨[]⟩,none⟩,none,false⟩,⟨⟨(some 26),.extract (.tmp 21) 1,25,"",⟨[]⟩,none⟩,none,false⟩,⟨⟨(some 9),.assign (.tmp 25),3,"",⟨[]⟩,none⟩,none,false⟩,⟨⟨(some 10),.assign (.tmp 26),25,"",⟨[]⟩,none⟩,none,false⟩]) (.seq (.seq (.ops false [⟨⟨(some 27),.move (.tmp 7),3,"",⟨[]⟩,none⟩,none,false⟩,⟨⟨(some 28),.move (.tmp 9),3,"",⟨[]⟩,none⟩,none,false⟩,⟨⟨(some 29),.binOp .neq 3 (.tmp 27) (.tmp 28) 3,4,"",⟨[]⟩,none⟩,none,false⟩,⟨⟨(some 30),.move (.tmp 29),4,"",⟨[]⟩,none⟩,none,false⟩,⟨⟨(some 31),.move (.tmp 8),25,"",⟨[]⟩,none⟩,some ((some 30),false),false⟩,⟨⟨(some 32),.move (.tmp 10),25,"",⟨[]⟩,none⟩,some ((some 30),false),false⟩,⟨⟨(some 33),.binOp .neq 25 (.tmp 31) (.tmp 32) 25,4,"",⟨[]⟩,none⟩,some ((some 30),false),false⟩,⟨⟨(some 34),.pick (.tmp 30) (.const (.bool true)) (.tmp 33),4,"",⟨[]⟩,none⟩,none,false⟩]) (.cond (.tmp 34) (.seq (.ops false [⟨⟨(some 6),.assign (.const (.bool false)),4,"",⟨[]⟩,none⟩,none,false⟩]) .ret) .skip)) (.seq (.ops false [⟨⟨(some 36),.move (.tmp 0),22,"",⟨[]⟩,none⟩,none,false⟩,⟨⟨(some 37),.move (.tmp 2),3,"",⟨[]⟩,none⟩,none,false⟩,⟨⟨(some 38),.call ⟨.value (.func 30),⟨[(.tmp 36),(.tmp 37)]⟩,⟨[22,3]⟩⟩,39,"",⟨[]⟩,none⟩,none,false⟩,⟨⟨(some 35),.move (.tmp 38),39,"",⟨[]⟩,none⟩,none,false⟩,⟨⟨(some 39),.extract (.tmp 35) 0,3,"",⟨[]⟩,none⟩,none,false⟩,⟨⟨(some 40),.extract (.tmp 35) 1,25,"",⟨[]⟩,none⟩,none,false⟩,⟨⟨(some 7),.assign (.tmp 39),3,"",⟨[]⟩,none⟩,none,false⟩,⟨⟨(some 8),.assign (.tmp 40),25,"",⟨[]⟩,none⟩,none,false⟩]) (.seq (.ops false [⟨⟨(some 42),.move (.tmp 0),22,"",⟨[]⟩,none⟩,none,false⟩,⟨⟨(some 43),.move (.tmp 2),3,"",⟨[]⟩,none⟩,none,false⟩,⟨⟨(some 44),.call ⟨.value (.func 31),⟨[(.tmp 42),(.tmp 43)]⟩,⟨[22,3]⟩⟩,39,"",⟨[]⟩,none⟩,none,false⟩,⟨⟨(some 41),.move (.tmp 44),39,"",⟨[]⟩,none⟩,none,false⟩,⟨⟨(some 45),.extract (.tmp 41) 0,3,"",⟨[]⟩,none⟩,none,false⟩,⟨⟨(some 46),.extract (.tmp 41) 1,25,"",⟨[]⟩,none⟩,none,false⟩,⟨⟨(some 9),.assign (.tmp 45),3,"",⟨[]⟩,none⟩,none,false⟩,⟨⟨(some 10),.assign (.tmp 46),25,"",⟨[]⟩,none⟩,none,false⟩]) (.seq (.seq (.ops false [⟨⟨(some 47),.move (.tmp 7),3,"",⟨[]⟩,none⟩,none,false⟩,⟨⟨(some 48),.move (.tmp 9),3,"",⟨[]⟩,none⟩,none,false⟩,⟨⟨(some 49),.binOp .neq 3 (.tmp 47) (.tmp 48) 3,4,"",⟨[]⟩,none⟩,none,false⟩,⟨⟨(some 50),.move (.tmp 49),4,"",⟨[]⟩,none⟩,none,false⟩,⟨⟨(some 51),.move (.tmp 8),25,"",⟨[]⟩,none⟩,some ((some 50),false),false⟩,⟨⟨(some 52),.move (.tmp 10),25,"",⟨[]⟩,none⟩,some ((some 50),false),false⟩,⟨⟨(some 53),.binOp .neq 25 (.tmp 51) (.tmp 52) 25,4,"",⟨[]⟩,none⟩,some ((some 50),false),false⟩,⟨⟨(some 54),.pick (.tmp 50) (.const (.bool true)) (.tmp 53),4,"",⟨[]⟩,none⟩,none,false⟩]) (.cond (.tmp 54) (.seq (.ops false [⟨⟨(some 6),.assign (.const (.bool false)),4,"",⟨[]⟩,none⟩,none,false⟩]) .ret) .skip)) (.seq (.ops false [⟨⟨(some 56),.move (.tmp 0),22,"",⟨[]⟩,none⟩,none,false⟩,⟨⟨(some 57),.call ⟨.value (.func 32),⟨[(.tmp 56)]⟩,⟨[22]⟩⟩,36,"",⟨[]⟩,none⟩,none,false⟩,⟨⟨(some 55),.move (.tmp 57),36,"",⟨[]⟩,none⟩,none,false⟩,⟨⟨(some 58),.extract (.tmp 55) 0,22,"",⟨[]⟩,none⟩,none,false⟩,⟨⟨(some 59),.extract (.tmp 55) 1,3,"",⟨[]⟩,none⟩,none,false⟩,⟨⟨(some 60),.extract (.tmp 55) 2,25,"",⟨[]⟩,none⟩,none,false⟩,⟨⟨(some 11),.assign (.tmp 58),22,"",⟨[]⟩,none⟩,none,false⟩,⟨⟨(some 7),.assign (.tmp 59),3,"",⟨[]⟩,none⟩,none,false⟩,⟨⟨(some 8),.assign (.tmp 60),25,"",⟨[]⟩,none⟩,none,false⟩]) (.seq (.ops false [⟨⟨(some 62),.move (.tmp 0),22,"",⟨[]⟩,none⟩,none,false⟩,⟨⟨(some 63),.move (.tmp 11),22,"",⟨[]⟩,none⟩,none,false⟩,⟨⟨(some 64),.call ⟨.value (.func 29),⟨[(.tmp 62),(.tmp 63)]⟩,⟨[22,22]⟩⟩,39,"",⟨[]⟩,none⟩,none,false⟩,⟨⟨(some 61),.move (.tmp 64),39,"",⟨[]⟩,none⟩,none,false⟩,⟨⟨(some 65),.extract (.tmp 61) 0,3,"",⟨[]⟩,none⟩,none,false⟩,⟨⟨(some 66),.extract (.tmp 61) 1,25,"",⟨[]⟩,none⟩,none,false⟩,⟨⟨(some 12),.assign (.tmp 65),3,"",⟨[]⟩,none⟩,none,false⟩,⟨⟨(some 10),.assign (.tmp 66),25,"",⟨[]⟩,none⟩,none,false⟩]) (.seq (.seq (.ops false [⟨⟨(some 67),.move (.tmp 8),25,"",⟨[]⟩,none⟩,none,false⟩,⟨⟨(some 68),.binOp .neq 25 (.tmp 67) (.const (.int .i64 0)) 25,4,"",⟨[]⟩,none⟩,none,false⟩]) (.cond (.tmp 68) (.seq (.ops false [⟨⟨(some 70),.move (.tmp 0),22,"",⟨[]⟩,none⟩,none,false⟩,⟨⟨(some 71),.call ⟨.value (.func 31),⟨[(.tmp 70),(.const (.int .i64 0))]⟩,⟨[22,3]⟩⟩,39,"",⟨[]⟩,none⟩,none,false⟩,⟨⟨(some 69),.move (.tmp 71),39,"",⟨[]⟩,none⟩,none,false⟩,⟨⟨(some 72),.extract (.tmp 69) 0,3,"",⟨[]⟩,none⟩,none,false⟩,⟨⟨(some 73),.extract (.tmp 69) 1,25,"",⟨[]⟩,none⟩,none,false⟩,⟨⟨(some 13),.assign (.tmp 72),3,"",⟨[]⟩,none⟩,none,false⟩,⟨⟨(some 14),.assign (.tmp 73),25,"",⟨[]⟩,none⟩,none,false⟩]) (.seq (.ops false [⟨⟨(some 74),.move (.tmp 8),25,"",⟨[]⟩,none⟩,none,false⟩,⟨⟨(some 75),.binOp .eql 25 (.tmp 74) (.const (.int .i64 103)) 25,4,"",⟨[]⟩,none⟩,none,false⟩,⟨⟨(some 76),.move (.tmp 75),4,"",⟨[]⟩,none⟩,none,false⟩,⟨⟨(some 77),.move (.tmp 14),25,"",⟨[]⟩,none⟩,some ((some 76),true),false⟩,⟨⟨(some 78),.move (.tmp 8),25,"",⟨[]⟩,none⟩,some ((some 76),true),false⟩,⟨⟨(some 79),.binOp .eql 25 (.tmp 77) (.tmp 78) 25,4,"",⟨[]⟩,none⟩,some ((some 76),true),false⟩,⟨⟨(some 80),.pick (.tmp 76) (.tmp 79) (.const (.bool false)),4,"",⟨[]⟩,none⟩,none,false⟩,⟨⟨(some 81),.move (.tmp 80),4,"",⟨[]⟩,none⟩,none,false⟩,⟨⟨(some 82),.move (.tmp 11),22,"",⟨[]⟩,none⟩,some ((some 81),true),false⟩,⟨⟨(some 83),.call ⟨.builtin .len,⟨[(.tmp 82)]⟩,⟨[22]⟩⟩,3,"",⟨[]⟩,none⟩,some ((some 81),true),false⟩,⟨⟨(some 84),.binOp .eql 3 (.tmp 83) (.const (.int .i64 0)) 3,4,"",⟨[]⟩,none⟩,some ((some 81),true),false⟩,⟨⟨(some 85),.pick (.tmp 81) (.tmp 84) (.const (.bool false)),4,"",⟨[]⟩,none⟩,none,false⟩,⟨⟨(some 86),.move (.tmp 85),4,"",⟨[]⟩,none⟩,none,false⟩,⟨⟨(some 87),.move (.tmp 7),3,"",⟨[]⟩,none⟩,some ((some 86),true),false⟩,⟨⟨(some 88),.binOp .eql 3 (.tmp 87) (.const (.int .i64 0)) 3,4,"",⟨[]⟩,none⟩,some ((some 86),true),false⟩,⟨⟨(some 89),.pick (.tmp 86) (.tmp 88) (.const (.bool false)),4,"",⟨[]⟩,none⟩,none,false⟩,⟨⟨(some 90),.move (.tmp 89),4,"",⟨[]⟩,none⟩,none,false⟩,⟨⟨(some 91),.call ⟨.value (.func 25),⟨[]⟩,⟨[]⟩⟩,4,"",⟨[]⟩,none⟩,some ((some 90),true),false⟩,⟨⟨(some 92),.pick (.tmp 90) (.tmp 91) (.const (.bool false)),4,"",⟨[]⟩,none⟩,none,false⟩,⟨⟨(some 6),.assign (.tmp 92),4,"",⟨[]⟩,none⟩,none,false⟩]) .ret)) .skip)) (.seq (.ops false [⟨⟨(some 93),.move (.tmp 10),25,"",⟨[]⟩,none⟩,none,false⟩,⟨⟨(some 94),.binOp .eql 25 (.tmp 93) (.const (.int .i64 0)) 25,4,"",⟨[]⟩,none⟩,none,false⟩,⟨⟨(some 95),.move (.tmp 94),4,"",⟨[]⟩,none⟩,none,false⟩,⟨⟨(some 96),.move (.tmp 12),3,"",⟨[]⟩,none⟩,some ((some 95),true),false⟩,⟨⟨(some 97),.move (.tmp 7),3,"",⟨[]⟩,none⟩,some ((some 95),true),false⟩,⟨⟨(some 98),.binOp .eql 3 (.tmp 96) (.tmp 97) 3,4,"",⟨[]⟩,none⟩,some ((some 95),true),false⟩,⟨⟨(some 99),.pick (.tmp 95) (.tmp 98) (.const (.bool false)),4,"",⟨[]⟩,none⟩,none,false⟩,⟨⟨(some 100),.move (.tmp 99),4,"",⟨[]⟩,none⟩,none,false⟩,⟨⟨(some 101),.move (.tmp 7),3,"",⟨[]⟩,none⟩,some ((some 100),true),false⟩,⟨⟨(some 102),.move (.tmp 0),22,"",⟨[]⟩,none⟩,some ((some 100),true),false⟩,⟨⟨(some 103),.call ⟨.value (.func 33),⟨[(.tmp 102)]⟩,⟨[22]⟩⟩,3,"",⟨[]⟩,none⟩,some ((some 100),true),false⟩,⟨⟨(some 104),.binOp .eql 3 (.tmp 101) (.tmp 103) 3,4,"",⟨[]⟩,none⟩,some ((some 100),true),false⟩,⟨⟨(some 105),.pick (.tmp 100) (.tmp 104) (.const (.bool false)),4,"",⟨[]⟩,none⟩,none,false⟩,⟨⟨(some 106),.move (.tmp 105),4,"",⟨[]⟩,none⟩,none,false⟩,⟨⟨(some 107),.call ⟨.value (.func 25),⟨[]⟩,⟨[]⟩⟩,4,"",⟨[]⟩,none⟩,some ((some 106),true),false⟩,⟨⟨(some 108),.pick (.tmp 106) (.tmp 107) (.const (.bool false)),4,"",⟨[]⟩,none⟩,none,false⟩,⟨⟨(some 6),.assign (.tmp 108),4,"",⟨[]⟩,none⟩,none,false⟩]) .ret)))))))))))
theorem Try.s46_eq : Try.f46.body.map sOf = some Try.s46 := by kernel_rfl
theorem Try.s64_eq : Try.f64.body.map sOf = some Try.s64 := by kernel_rfl
theorem Try.s65_eq : Try.f65.body.map sOf = some Try.s65 := by kernel_rfl
theorem Try.s108_eq : Try.f108.body.map sOf = some Try.s108 := by kernel_rfl
theorem Try.s123_eq : Try.f123.body.map sOf = some Try.s123 := by kernel_rfl
theorem Try.s109_eq : Try.f109.body.map sOf = some Try.s109 := by kernel_rfl
end Go.Proofs

namespace Go.Proofs
open Go Go.Sim
def wgt (r l : Int) : Int := 64 - min 64 (r / l)
def needL (L : List Int) (r : Int) : Int := (L.map (wgt r)).sum
theorem wgt_mono {r s l : Int} (hl : 1 ≤ l) (h : r ≤ s) : wgt s l ≤ wgt r l := by
  have : r / l ≤ s / l := Int.ediv_le_ediv (by omega) h
  unfold wgt; omega
theorem needL_nil (r : Int) : needL [] r = 0 := rfl
theorem needL_cons (l : Int) (L : List Int) (r : Int) : needL (l :: L) r = wgt r l + needL L r := by simp [needL]
def pos (L : List Int) : Prop := ∀ l ∈ L, 1 ≤ l ∧ l ≤ 10000
theorem pos.tail {l : Int} {L : List Int} (h : pos (l :: L)) : pos L := fun x hx => h x (List.mem_cons_of_mem _ hx)
theorem needL_mono {L : List Int} {r s : Int} (hL : pos L) (h : r ≤ s) : needL L s ≤ needL L r := by
  induction L with
  | nil => simp [needL_nil]
  | cons l L ih =>
    rw [needL_cons, needL_cons]
    have := wgt_mono (hL l List.mem_cons_self).1 h
    have := ih hL.tail
    omega
def LeastRisk (L : List Int) (r : Int) : Prop := 0 ≤ r ∧ r ≤ 640000 ∧ needL L r ≤ 64 ∧ (r = 0 ∨ 64 < needL L (r - 1))
theorem LeastRisk.one {L : List Int} {r s : Int} (hL : pos L) (h : LeastRisk L r) (k : LeastRisk L s) : r = s := by
  obtain ⟨h1, h2, h3, h4⟩ := h
  obtain ⟨k1, k2, k3, k4⟩ := k
  rcases Int.lt_trichotomy r s with q | q | q
  · rcases k4 with e | e
    · omega
    · have := needL_mono (r := r) (s := s - 1) hL (by omega); omega
  · exact q
  · rcases h4 with e | e
    · omega
    · have := needL_mono (r := s) (s := r - 1) hL (by omega); omega
end Go.Proofs

namespace Go.Proofs
open Go Go.RowKit Go.Sim
set_option maxRecDepth 100000
theorem same_fn0 (f : Nat) : same 12 (.func (.func f) #[] #[]) (.func (.func f) #[] #[]) = true := by simp [same, same.all]
theorem same_fn (f b : Nat) : same 12 (.func (.func f) #[] #[.pointer (some ⟨b, 0, none⟩)]) (.func (.func f) #[] #[.pointer (some ⟨b, 0, none⟩)]) = true := by simp [same, same.all]
theorem within_ok (n a b : Int) (w : AW) : CallT Try.prog Try.T1 (.fn (.func 64) #[]) #[.int .i64 n, .int .i64 a, .int .i64 b] w (Ret (.bool (inR a n b)) fun w' => w = w') := by
  refine callT_code rfl Try.func64 rfl Try.s64_eq rfl ?_
  unfold Try.s64
  by_cases h : a ≤ n
  all_goals
    simp -dsimp -implicitDefEqProofs (maxSteps := 2000000) (disch := first | assumption | omega | (simp only [nx]; omega) | ((repeat refine Fresh.push ?_ _); assumption) | (simp only [smA]; done) | (simp [oneCell, AW.next_push]; done) | fail) only [go_sem, Nat.reduceEqDiff, reduceIte, Nat.reduceAdd, Int.toNat_natCast, Nat.add_zero, Owes_true, Try.results64, h]
    exact ⟨by simp [inR, h], rfl⟩
theorem From_ok (n a b : Int) (w : AW) : CallT Try.prog Try.T1 (.fn (.func 46) #[]) #[.int .i64 a, .int .i64 n, .int .i64 b] w (Ret (.bool (inR a n b)) fun w' => w = w') := by
  refine callT_code rfl Try.func46 rfl Try.s46_eq rfl ?_
  unfold Try.s46
  by_cases h : a ≤ n
  all_goals
    simp -dsimp -implicitDefEqProofs (maxSteps := 2000000) (disch := first | assumption | omega | (simp only [nx]; omega) | ((repeat refine Fresh.push ?_ _); assumption) | (simp only [smA]; done) | (simp [oneCell, AW.next_push]; done) | fail) only [go_sem, Nat.reduceEqDiff, reduceIte, Nat.reduceAdd, Int.toNat_natCast, Nat.add_zero, Owes_true, Try.results46, h]
    exact ⟨by simp [inR, h], rfl⟩
def Fits (g : FuncId) (cap : Array Value) (p : Int → Bool) (w : AW) : Prop := same 12 (.func (.func g) #[] cap) (.func (.func g) #[] cap) = true ∧ ∀ (n : Int) (w' : AW), Grown w w' → CallT Try.prog Try.T1 (.fn (.func g) cap) #[.int .i64 n] w' (Ret (.bool (p n)) fun w'' => w' = w'')
theorem all1_ok (g : FuncId) (cap : Array Value) (p : Int → Bool) (n : Int) (b : Nat) (w0 w : AW) (hp : Fits g cap p w0) (hg : Grown w0 w) (h : Own w b 79 [.func (.func g) #[] cap]) : CallT Try.prog Try.T1 (.fn (.func 109) #[.pointer (some ⟨b, 0, none⟩)]) #[.int .i64 n] w (Ret (.bool (!p n)) fun w' => w = w') := by
  have c0 := h.cell (o := 0) rfl rfl
  have hs := hp.1
  refine callT_code rfl Try.func109 rfl Try.s109_eq rfl ?_
  unfold Try.s109
  simp -dsimp -implicitDefEqProofs (maxSteps := 2000000) (disch := first | assumption | omega | (simp only [nx]; omega) | ((repeat refine Fresh.push ?_ _); assumption) | (simp only [smA]; done) | (simp [oneCell, AW.next_push]; done) | fail) only [go_sem, Nat.reduceEqDiff, reduceIte, Nat.reduceAdd, Int.toNat_natCast, Nat.add_zero, Owes_true, Try.results109, c0, Nat.zero_add, hs]
  apply callV_of (e := rfl)
  · exact hp.2 n w hg
  rintro _ _ ⟨rfl, rfl⟩
  simp -dsimp -implicitDefEqProofs (maxSteps := 2000000) (disch := first | assumption | omega | (simp only [nx]; omega) | ((repeat refine Fresh.push ?_ _); assumption) | (simp only [smA]; done) | (simp [oneCell, AW.next_push]; done) | fail) only [go_sem, Nat.reduceEqDiff, reduceIte, Nat.reduceAdd, Int.toNat_natCast, Nat.add_zero, Owes_true, Try.results109]
  exact ⟨rfl, rfl⟩
theorem index_ok (g : FuncId) (cap : Array Value) (p : Int → Bool) (l : List Int) (v : Value) (b : Nat) (w0 w : AW) (hp : Fits g cap p w0) (hg : Grown w0 w) (hs : ArrOf w 1 icells v l) (h : Own w b 79 [.func (.func g) #[] cap]) :
    CallT Try.prog Try.T1 (.fn (.func 123) #[]) #[v, .func (.func 109) #[] #[.pointer (some ⟨b, 0, none⟩)]] w (fun r w' => w = w' ∧ ∃ n : Int, r = .int .i64 n ∧ decide (n ≥ 0) = !l.all p) := by
  obtain ⟨pp, cp, rfl, _, _, hat⟩ := hs.open
  have hfn := same_fn 109 b
  refine callT_code rfl Try.func123 rfl Try.s123_eq rfl ?_
  unfold Try.s123
  simp -dsimp -implicitDefEqProofs (maxSteps := 2000000) (disch := first | assumption | omega | (simp only [nx]; omega) | ((repeat refine Fresh.push ?_ _); assumption) | (simp only [smA]; done) | (simp [oneCell, AW.next_push]; done) | fail) only [go_sem, Nat.reduceEqDiff, reduceIte, Nat.reduceAdd, Int.toNat_natCast, Nat.add_zero, Owes_true, Try.results123]
  refine loopR (fun k t ds w1 => ∃ i : Nat, i ≤ l.length ∧ k = l.length - i ∧ ds = [] ∧ ev t (.tmp 0) = .slice pp l.length cp ∧ ev t (.tmp 1) = .func (.func 109) #[] #[.pointer (some ⟨b, 0, none⟩)] ∧ ev t (.tmp 6) = .slice pp l.length cp ∧ ev t (.tmp 7) = .int .i64 (l.length : Int) ∧ ev t (.tmp 8) = .int .i64 (i : Int) ∧ w = w1 ∧ (l.take i).all p = true) (l.length) ?_ ?_
  · refine ⟨0, by omega, by omega, rfl, ?_, ?_, ?_, ?_, ?_, rfl, rfl⟩ <;> simp -dsimp -implicitDefEqProofs (maxSteps := 2000000) (disch := first | assumption | omega | (simp only [nx]; omega) | ((repeat refine Fresh.push ?_ _); assumption) | (simp only [smA]; done) | (simp [oneCell, AW.next_push]; done) | fail) only [go_sem, Nat.reduceEqDiff, reduceIte, Nat.reduceAdd, Int.toNat_natCast, Nat.add_zero, Owes_true] <;> rfl
  rintro k t ds w1 ⟨i, hii, rfl, rfl, e0, e1, e6, e7, e8, hw, ha⟩
  subst hw
  by_cases hlt : (i : Int) < (l.length : Int)
  case neg =>
    obtain rfl : i = l.length := by omega
    rw [List.take_of_length_le (Nat.le_refl _)] at ha
    simp -dsimp -implicitDefEqProofs (maxSteps := 2000000) (disch := first | assumption | omega | (simp only [nx]; omega) | ((repeat refine Fresh.push ?_ _); assumption) | (simp only [smA]; done) | (simp [oneCell, AW.next_push]; done) | fail) only [go_sem, Nat.reduceEqDiff, reduceIte, Nat.reduceAdd, Int.toNat_natCast, Nat.add_zero, Owes_true, Try.results123, e0, e1, e6, e7, e8, hlt]
    exact ⟨trivial, -1, rfl, by rw [ha]; rfl⟩
  have hlt' : i < l.length := by omega
  obtain ⟨b1, o1, rfl, hb1, hcell⟩ := hat i hlt'
  have a0 := hcell w (.refl _ _) 0 _ rfl
  rw [Nat.add_zero] at a0
  simp -dsimp -implicitDefEqProofs (maxSteps := 2000000) (disch := first | assumption | omega | (simp only [nx]; omega) | ((repeat refine Fresh.push ?_ _); assumption) | (simp only [smA]; done) | (simp [oneCell, AW.next_push]; done) | fail) only [go_sem, Nat.reduceEqDiff, reduceIte, Nat.reduceAdd, Int.toNat_natCast, Nat.add_zero, Owes_true, Try.results123, e0, e1, e6, e7, e8, hlt, indexV_eq, a0, hfn]
  apply callV_of (e := rfl)
  · exact all1_ok g cap p _ b w0 w hp hg h
  rintro _ _ ⟨rfl, rfl⟩
  cases hq : p l[i] with
  | true =>
    simp -dsimp -implicitDefEqProofs (maxSteps := 2000000) (disch := first | assumption | omega | (simp only [nx]; omega) | ((repeat refine Fresh.push ?_ _); assumption) | (simp only [smA]; done) | (simp [oneCell, AW.next_push]; done) | fail) only [go_sem, Nat.reduceEqDiff, reduceIte, Nat.reduceAdd, Int.toNat_natCast, Nat.add_zero, Owes_true, Try.results123, hq, e0, e1, e6, e7, e8]
    refine ⟨_, by omega, i + 1, by omega, rfl, rfl, by (simp -dsimp -implicitDefEqProofs (maxSteps := 2000000) (disch := first | assumption | omega | (simp only [nx]; omega) | ((repeat refine Fresh.push ?_ _); assumption) | (simp only [smA]; done) | (simp [oneCell, AW.next_push]; done) | fail) only [go_sem, Nat.reduceEqDiff, reduceIte, Nat.reduceAdd, Int.toNat_natCast, Nat.add_zero, Owes_true, e0]; try rfl), by (simp -dsimp -implicitDefEqProofs (maxSteps := 2000000) (disch := first | assumption | omega | (simp only [nx]; omega) | ((repeat refine Fresh.push ?_ _); assumption) | (simp only [smA]; done) | (simp [oneCell, AW.next_push]; done) | fail) only [go_sem, Nat.reduceEqDiff, reduceIte, Nat.reduceAdd, Int.toNat_natCast, Nat.add_zero, Owes_true, e1]; try rfl), by (simp -dsimp -implicitDefEqProofs (maxSteps := 2000000) (disch := first | assumption | omega | (simp only [nx]; omega) | ((repeat refine Fresh.push ?_ _); assumption) | (simp only [smA]; done) | (simp [oneCell, AW.next_push]; done) | fail) only [go_sem, Nat.reduceEqDiff, reduceIte, Nat.reduceAdd, Int.toNat_natCast, Nat.add_zero, Owes_true, e6]; try rfl), by (simp -dsimp -implicitDefEqProofs (maxSteps := 2000000) (disch := first | assumption | omega | (simp only [nx]; omega) | ((repeat refine Fresh.push ?_ _); assumption) | (simp only [smA]; done) | (simp [oneCell, AW.next_push]; done) | fail) only [go_sem, Nat.reduceEqDiff, reduceIte, Nat.reduceAdd, Int.toNat_natCast, Nat.add_zero, Owes_true, e7]; try rfl), by (simp -dsimp -implicitDefEqProofs (maxSteps := 2000000) (disch := first | assumption | omega | (simp only [nx]; omega) | ((repeat refine Fresh.push ?_ _); assumption) | (simp only [smA]; done) | (simp [oneCell, AW.next_push]; done) | fail) only [go_sem, Nat.reduceEqDiff, reduceIte, Nat.reduceAdd, Int.toNat_natCast, Nat.add_zero, Owes_true, e8]; try rfl), rfl, by rw [List.take_succ_eq_append_getElem hlt', List.all_append, ha]; simp [hq]⟩
  | false =>
    simp -dsimp -implicitDefEqProofs (maxSteps := 2000000) (disch := first | assumption | omega | (simp only [nx]; omega) | ((repeat refine Fresh.push ?_ _); assumption) | (simp only [smA]; done) | (simp [oneCell, AW.next_push]; done) | fail) only [go_sem, Nat.reduceEqDiff, reduceIte, Nat.reduceAdd, Int.toNat_natCast, Nat.add_zero, Owes_true, Try.results123, hq, e0, e1, e6, e7, e8]
    refine ⟨trivial, (i : Int), rfl, ?_⟩
    have h1 : l.all p = false := by
      rw [List.all_eq_false]; exact ⟨l[i], List.getElem_mem hlt', by rw [hq]; simp⟩
    rw [h1]; simp
theorem contains_ok (g : FuncId) (cap : Array Value) (p : Int → Bool) (l : List Int) (v : Value) (b : Nat) (w0 w : AW) (hp : Fits g cap p w0) (hg : Grown w0 w) (hs : ArrOf w 1 icells v l) (h : Own w b 79 [.func (.func g) #[] cap]) :
    CallT Try.prog Try.T1 (.fn (.func 108) #[]) #[v, .func (.func 109) #[] #[.pointer (some ⟨b, 0, none⟩)]] w (Ret (.bool (!l.all p)) fun w' => w = w') := by
  obtain ⟨pp, cp, rfl, _⟩ := id hs.open
  have hfn := same_fn 109 b
  refine callT_code rfl Try.func108 rfl Try.s108_eq rfl ?_
  unfold Try.s108
  simp -dsimp -implicitDefEqProofs (maxSteps := 2000000) (disch := first | assumption | omega | (simp only [nx]; omega) | ((repeat refine Fresh.push ?_ _); assumption) | (simp only [smA]; done) | (simp [oneCell, AW.next_push]; done) | fail) only [go_sem, Nat.reduceEqDiff, reduceIte, Nat.reduceAdd, Int.toNat_natCast, Nat.add_zero, Owes_true, Try.results108, hfn]
  apply callV_of (e := rfl)
  · exact index_ok g cap p l _ b w0 w hp hg hs h
  rintro _ _ ⟨rfl, n, rfl, hn⟩
  simp -dsimp -implicitDefEqProofs (maxSteps := 2000000) (disch := first | assumption | omega | (simp only [nx]; omega) | ((repeat refine Fresh.push ?_ _); assumption) | (simp only [smA]; done) | (simp [oneCell, AW.next_push]; done) | fail) only [go_sem, Nat.reduceEqDiff, reduceIte, Nat.reduceAdd, Int.toNat_natCast, Nat.add_zero, Owes_true, Try.results108, hn]
  exact ⟨rfl, rfl⟩
theorem all_ok (g : FuncId) (cap : Array Value) (p : Int → Bool) (l : List Int) (v : Value) (w : AW) (f : Fresh w) (hp : Fits g cap p w) (hs : ArrOf w 1 icells v l) :
    CallT Try.prog Try.T1 (.fn (.func 65) #[]) #[v, .func (.func g) #[] cap] w (Ret (.bool (l.all p)) (Grown w)) := by
  obtain ⟨pp, cp, rfl, _⟩ := id hs.open
  have hfn := same_fn 109 w.next
  have hs0 := hp.1
  have gg := (Grown.refl f).push (.cells [.func (.func g) #[] cap] 79 w.next 0 0)
  have hO := Own.new f 79 [.func (.func g) #[] cap]
  refine callT_code rfl Try.func65 rfl Try.s65_eq rfl ?_
  unfold Try.s65
  simp -dsimp -implicitDefEqProofs (maxSteps := 2000000) (disch := first | assumption | omega | (simp only [nx]; omega) | ((repeat refine Fresh.push ?_ _); assumption) | (simp only [smA]; done) | (simp [oneCell, AW.next_push]; done) | fail) only [go_sem, Nat.reduceEqDiff, reduceIte, Nat.reduceAdd, Int.toNat_natCast, Nat.add_zero, Owes_true, Try.results65, hfn, hs0]
  apply callV_of (e := rfl)
  · exact contains_ok g cap p l _ w.next w _ hp gg (hs.grown gg) hO
  rintro _ _ ⟨rfl, rfl⟩
  simp -dsimp -implicitDefEqProofs (maxSteps := 2000000) (disch := first | assumption | omega | (simp only [nx]; omega) | ((repeat refine Fresh.push ?_ _); assumption) | (simp only [smA]; done) | (simp [oneCell, AW.next_push]; done) | fail) only [go_sem, Nat.reduceEqDiff, reduceIte, Nat.reduceAdd, Int.toNat_natCast, Nat.add_zero, Owes_true, Try.results65]
  exact ⟨by rw [Bool.not_not], gg⟩
end Go.Proofs

namespace Go.Proofs
open Go Go.Sim
end Go.Proofs
