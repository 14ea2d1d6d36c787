/- Calls with given texts and numbers, run once each. -/
import Derived.Test.YtbpglhajhmacmaaMc
import Derived.Test.YtbpglhajhmacmaaWa
set_option linter.unusedVariables false
set_option linter.unusedSimpArgs false
/- Calls with given texts and numbers, run once each. -/
namespace Go.Proofs
open Go Go.RowKit Go.Sim
set_option maxRecDepth 1000000
def Try.memo0 : Memo := ⟨12, [.int .i64 (0)], .tuple #[.string ⟨#[]⟩, .int .i64 (7)]⟩
theorem Try.memo0_ok : MemoOk Try.prog Try.memo0 := {
  enters := fun args w => Try.call12 args w
  flatArgs := by decide
  flatVal := by decide
  calls := calls_val (F := 1000000) (told := toldClone 112 (fun _ _ _ => none)) Try.fits Try.mixed Try.told (n := 99) (by rfl) (by decide) (by decide) (by decide +kernel) }
def Try.memo1 : Memo := ⟨12, [.int .i64 (100000000)], .tuple #[.string ⟨#[]⟩, .int .i64 (7)]⟩
theorem Try.memo1_ok : MemoOk Try.prog Try.memo1 := {
  enters := fun args w => Try.call12 args w
  flatArgs := by decide
  flatVal := by decide
  calls := calls_val (F := 1000000) (told := toldClone 112 (fun _ _ _ => none)) Try.fits Try.mixed Try.told (n := 99) (by rfl) (by decide) (by decide) (by decide +kernel) }
def Try.memo2 : Memo := ⟨12, [.int .i64 (12345678)], .tuple #[.string ⟨#[49, 50, 51, 52, 53, 54, 55, 56, 56, 57]⟩, .int .i64 (0)]⟩
theorem Try.memo2_ok : MemoOk Try.prog Try.memo2 := {
  enters := fun args w => Try.call12 args w
  flatArgs := by decide
  flatVal := by decide
  calls := calls_val (F := 1000000) (told := toldClone 112 (fun _ _ _ => none)) Try.fits Try.mixed Try.told (n := 99) (by rfl) (by decide) (by decide) (by decide +kernel) }
def Try.memo3 : Memo := ⟨12, [.int .i64 (99999999)], .tuple #[.string ⟨#[57, 57, 57, 57, 57, 57, 57, 57, 53, 50]⟩, .int .i64 (0)]⟩
theorem Try.memo3_ok : MemoOk Try.prog Try.memo3 := {
  enters := fun args w => Try.call12 args w
  flatArgs := by decide
  flatVal := by decide
  calls := calls_val (F := 1000000) (told := toldClone 112 (fun _ _ _ => none)) Try.fits Try.mixed Try.told (n := 99) (by rfl) (by decide) (by decide) (by decide +kernel) }
def Try.memo4 : Memo := ⟨14, [.string ⟨#[48, 48, 48, 48, 48, 48, 48, 48, 57, 56]⟩], .tuple #[.int .i64 (0), .int .i64 (30)]⟩
theorem Try.memo4_ok : MemoOk Try.prog Try.memo4 := {
  enters := fun args w => Try.call14 args w
  flatArgs := by decide
  flatVal := by decide
  calls := calls_val (F := 1000000) (told := toldClone 112 (fun _ _ _ => none)) Try.fits Try.mixed Try.told (n := 99) (by rfl) (by decide) (by decide) (by decide +kernel) }
def Try.memo5 : Memo := ⟨14, [.string ⟨#[48, 48, 48, 48, 48, 48, 48, 49, 32, 53]⟩], .tuple #[.int .i64 (0), .int .i64 (5)]⟩
theorem Try.memo5_ok : MemoOk Try.prog Try.memo5 := {
  enters := fun args w => Try.call14 args w
  flatArgs := by decide
  flatVal := by decide
  calls := calls_val (F := 1000000) (told := toldClone 112 (fun _ _ _ => none)) Try.fits Try.mixed Try.told (n := 99) (by rfl) (by decide) (by decide) (by decide +kernel) }
def Try.memo6 : Memo := ⟨14, [.string ⟨#[48, 48, 48, 48, 48, 48, 48, 49, 57, 53]⟩], .tuple #[.int .i64 (1), .int .i64 (0)]⟩
theorem Try.memo6_ok : MemoOk Try.prog Try.memo6 := {
  enters := fun args w => Try.call14 args w
  flatArgs := by decide
  flatVal := by decide
  calls := calls_val (F := 1000000) (told := toldClone 112 (fun _ _ _ => none)) Try.fits Try.mixed Try.told (n := 99) (by rfl) (by decide) (by decide) (by decide +kernel) }
def Try.memo7 : Memo := ⟨14, [.string ⟨#[48, 48, 48, 48, 48, 48, 48, 49, 57, 54]⟩], .tuple #[.int .i64 (0), .int .i64 (30)]⟩
theorem Try.memo7_ok : MemoOk Try.prog Try.memo7 := {
  enters := fun args w => Try.call14 args w
  flatArgs := by decide
  flatVal := by decide
  calls := calls_val (F := 1000000) (told := toldClone 112 (fun _ _ _ => none)) Try.fits Try.mixed Try.told (n := 99) (by rfl) (by decide) (by decide) (by decide +kernel) }
def Try.memo8 : Memo := ⟨14, [.string ⟨#[48, 48, 48, 48, 48, 48, 48, 50, 57, 50]⟩], .tuple #[.int .i64 (2), .int .i64 (0)]⟩
theorem Try.memo8_ok : MemoOk Try.prog Try.memo8 := {
  enters := fun args w => Try.call14 args w
  flatArgs := by decide
  flatVal := by decide
  calls := calls_val (F := 1000000) (told := toldClone 112 (fun _ _ _ => none)) Try.fits Try.mixed Try.told (n := 99) (by rfl) (by decide) (by decide) (by decide +kernel) }
def Try.memo9 : Memo := ⟨14, [.string ⟨#[48, 48, 48, 48, 48, 48, 48, 52, 56, 54]⟩], .tuple #[.int .i64 (4), .int .i64 (0)]⟩
theorem Try.memo9_ok : MemoOk Try.prog Try.memo9 := {
  enters := fun args w => Try.call14 args w
  flatArgs := by decide
  flatVal := by decide
  calls := calls_val (F := 1000000) (told := toldClone 112 (fun _ _ _ => none)) Try.fits Try.mixed Try.told (n := 99) (by rfl) (by decide) (by decide) (by decide +kernel) }
def Try.memo10 : Memo := ⟨14, [.string ⟨#[48, 48, 48, 48, 48, 48, 49, 57, 53]⟩], .tuple #[.int .i64 (0), .int .i64 (5)]⟩
theorem Try.memo10_ok : MemoOk Try.prog Try.memo10 := {
  enters := fun args w => Try.call14 args w
  flatArgs := by decide
  flatVal := by decide
  calls := calls_val (F := 1000000) (told := toldClone 112 (fun _ _ _ => none)) Try.fits Try.mixed Try.told (n := 99) (by rfl) (by decide) (by decide) (by decide +kernel) }
def Try.memo11 : Memo := ⟨44, [.int .i64 (1)], .string ⟨#[48, 48, 48, 48, 48, 48, 48, 49, 57, 53]⟩⟩
theorem Try.memo11_ok : MemoOk Try.prog Try.memo11 := {
  enters := fun args w => Try.call44 args w
  flatArgs := by decide
  flatVal := by decide
  calls := calls_val (F := 1000000) (told := toldClone 112 (fun _ _ _ => none)) Try.fits Try.mixed Try.told (n := 99) (by rfl) (by decide) (by decide) (by decide +kernel) }
def Try.memo12 : Memo := ⟨44, [.int .i64 (2)], .string ⟨#[48, 48, 48, 48, 48, 48, 48, 50, 57, 50]⟩⟩
theorem Try.memo12_ok : MemoOk Try.prog Try.memo12 := {
  enters := fun args w => Try.call44 args w
  flatArgs := by decide
  flatVal := by decide
  calls := calls_val (F := 1000000) (told := toldClone 112 (fun _ _ _ => none)) Try.fits Try.mixed Try.told (n := 99) (by rfl) (by decide) (by decide) (by decide +kernel) }
def Try.memo13 : Memo := ⟨44, [.int .i64 (3)], .string ⟨#[48, 48, 48, 48, 48, 48, 48, 51, 56, 57]⟩⟩
theorem Try.memo13_ok : MemoOk Try.prog Try.memo13 := {
  enters := fun args w => Try.call44 args w
  flatArgs := by decide
  flatVal := by decide
  calls := calls_val (F := 1000000) (told := toldClone 112 (fun _ _ _ => none)) Try.fits Try.mixed Try.told (n := 99) (by rfl) (by decide) (by decide) (by decide +kernel) }
def Try.memos : List Memo := [Try.memo0, Try.memo1, Try.memo2, Try.memo3, Try.memo4, Try.memo5, Try.memo6, Try.memo7, Try.memo8, Try.memo9, Try.memo10, Try.memo11, Try.memo12, Try.memo13]
theorem Try.memos_ok : MemosOk Try.prog Try.memos := .cons Try.memo0_ok (.cons Try.memo1_ok (.cons Try.memo2_ok (.cons Try.memo3_ok (.cons Try.memo4_ok (.cons Try.memo5_ok (.cons Try.memo6_ok (.cons Try.memo7_ok (.cons Try.memo8_ok (.cons Try.memo9_ok (.cons Try.memo10_ok (.cons Try.memo11_ok (.cons Try.memo12_ok (.cons Try.memo13_ok (.nil))))))))))))))
end Go.Proofs
