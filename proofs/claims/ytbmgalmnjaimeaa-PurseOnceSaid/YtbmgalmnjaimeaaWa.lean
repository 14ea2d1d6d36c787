/- What the machine is told of this program. -/
import Derived.Test.YtbmgalmnjaimeaaMc
import Derived.Shelf.Pu.Clone
import Derived.Test.YtbmgalmnjaimeaaProg
set_option linter.unusedVariables false
set_option linter.unusedSimpArgs false
namespace Go.Proofs
open Go Go.Shelf Go.RowKit Go.Sim
set_option maxRecDepth 1000000
theorem Try.fits : Fit Try.prog := fit_of (by decide +kernel)
theorem Try.mixed : Try.prog.follows .mixedOrders = true := by decide +kernel
def Try.cloneRen : Go.Shelf.Ren := ⟨fun | 25 => 118 | n => n, fun | 37 => 149 | 47 => 150 | n => n, fun | n => n⟩
theorem Try.laysClone : Go.Proofs.LaysPu.n25 Try.prog Try.cloneRen := {
  mixed := by kernel_rfl
  f25 := Try.func118.trans (congrArg some (by kernel_rfl))
  t0 := Try.underlying0
  a0 := Try.isAgg0
  z0 := Try.sizeOf0
  v0 := Try.zeroValue0
  i0 := by kernel_rfl
  t3 := Try.underlying3
  a3 := Try.isAgg3
  z3 := Try.sizeOf3
  v3 := Try.zeroValue3
  i3 := by kernel_rfl
  t4 := Try.underlying4
  a4 := Try.isAgg4
  z4 := Try.sizeOf4
  v4 := Try.zeroValue4
  i4 := by kernel_rfl
  t5 := Try.underlying5
  a5 := Try.isAgg5
  z5 := Try.sizeOf5
  v5 := Try.zeroValue5
  i5 := by kernel_rfl
  t9 := Try.underlying9
  a9 := Try.isAgg9
  z9 := Try.sizeOf9
  v9 := Try.zeroValue9
  i9 := by kernel_rfl
  t37 := Try.underlying149
  a37 := Try.isAgg149
  z37 := Try.sizeOf149
  v37 := Try.zeroValue149
  i37 := by kernel_rfl
  t47 := Try.underlying150
  a47 := Try.isAgg150
  z47 := Try.sizeOf150
  v47 := Try.zeroValue150
  i47 := by kernel_rfl }
theorem Try.told (N : Nat) : ToldOk Try.prog N (toldClone 118 (fun _ _ _ => none)) :=
  toldClone_ok (fun args w => Try.call118 args w) (fun s w h => AnyPu.stringslite_Clone Try.laysClone s w h) (fun N => fun f args w w1 v h => by cases h) N
end Go.Proofs
