/- This program: its code, contracts, numbers, part 10. -/
import Derived.Test.YtnbfkakjdifcpaaGreatPai
import Derived.Test.YtnbfkakjdifcpaaGreatProg
import Derived.Shelf.SlSortCmp.NoneTotal
import Derived.Ground.SlsfProg
import Derived.Lib.RowBridge
import Derived.Lib.SortBridge
import Derived.WalkKit
import Derived.Test.YtnbfkakjdifcpaaGreatNc
import Derived.Test.YtnbfkakjdifcpaaGreatPad
import Derived.Test.YtnbfkakjdifcpaaGreatRows
import Derived.ProofKit
import Derived.SizedLaws
set_option linter.unusedVariables false
set_option linter.unusedSimpArgs false
namespace Go.Proofs
open Go Go.RowKit Go.Sim
set_option maxRecDepth 1000000
def Tryz.give0:GMemo:=⟨15,12,[.agg [.sl 3 3 [.flat (.int .i64 (0)),.flat (.int .i64 (0)),.flat (.int .i64 (0)),.flat (.int .i64 (2)),.flat (.int .i64 (0)),.flat (.int .i64 (4)),.flat (.int .i64 (1)),.flat (.int .i64 (1)),.flat (.int .i64 (0))],.sl 3 3 [.flat (.int .i64 (0)),.flat (.int .i64 (1)),.flat (.int .i64 (1)),.sl 1 1 [.flat (.int .i64 (1))],.flat (.int .i64 (1)),.flat (.int .i64 (2)),.flat (.int .i64 (2)),.sl 1 1 [.flat (.int .i64 (6))],.flat (.int .i64 (0)),.flat (.int .i64 (2)),.flat (.int .i64 (1)),.sl 1 1 [.flat (.int .i64 (8))]],.sl 3 3 [.flat (.int .i64 (1)),.flat (.int .i64 (2)),.flat (.int .i64 (3))]],.flat (.int .i64 (3))],.tuple #[.int .i64 (7),.int .i64 (0)]⟩
theorem Tryz.give0_ok:GMemoOk Tryz.prog Tryz.give0:={
  enters:=fun args w=>Tryz.call15 args w
  flatVal:=by decide
  calls:=fun N σ w W hw args args' hm hr=>calls_give (F:=1000000) (told:=fun _ _ _=>none) Tryz.fits Tryz.mixed Tryz.told0 (n:=99) (k:=12) (ds:=Tryz.give0.ds) (by rfl) (by decide) (by decide +kernel) hw hm hr }
def Tryz.give1:GMemo:=⟨17,12,[.agg [.sl 3 3 [.flat (.int .i64 (0)),.flat (.int .i64 (0)),.flat (.int .i64 (0)),.flat (.int .i64 (2)),.flat (.int .i64 (0)),.flat (.int .i64 (4)),.flat (.int .i64 (1)),.flat (.int .i64 (1)),.flat (.int .i64 (0))],.sl 3 3 [.flat (.int .i64 (0)),.flat (.int .i64 (1)),.flat (.int .i64 (1)),.sl 1 1 [.flat (.int .i64 (1))],.flat (.int .i64 (1)),.flat (.int .i64 (2)),.flat (.int .i64 (2)),.sl 1 1 [.flat (.int .i64 (6))],.flat (.int .i64 (0)),.flat (.int .i64 (2)),.flat (.int .i64 (1)),.sl 1 1 [.flat (.int .i64 (8))]],.sl 3 3 [.flat (.int .i64 (1)),.flat (.int .i64 (2)),.flat (.int .i64 (3))]]],.int .i64 (0)⟩
theorem Tryz.give1_ok:GMemoOk Tryz.prog Tryz.give1:={
  enters:=fun args w=>Tryz.call17 args w
  flatVal:=by decide
  calls:=fun N σ w W hw args args' hm hr=>calls_give (F:=1000000) (told:=fun _ _ _=>none) Tryz.fits Tryz.mixed Tryz.told0 (n:=99) (k:=12) (ds:=Tryz.give1.ds) (by rfl) (by decide) (by decide +kernel) hw hm hr }
def Tryz.give2:GMemo:=⟨19,12,[.agg [.sl 3 3 [.flat (.int .i64 (0)),.flat (.int .i64 (0)),.flat (.int .i64 (0)),.flat (.int .i64 (2)),.flat (.int .i64 (0)),.flat (.int .i64 (4)),.flat (.int .i64 (1)),.flat (.int .i64 (1)),.flat (.int .i64 (0))],.sl 3 3 [.flat (.int .i64 (0)),.flat (.int .i64 (1)),.flat (.int .i64 (1)),.sl 1 1 [.flat (.int .i64 (1))],.flat (.int .i64 (1)),.flat (.int .i64 (2)),.flat (.int .i64 (2)),.sl 1 1 [.flat (.int .i64 (6))],.flat (.int .i64 (0)),.flat (.int .i64 (2)),.flat (.int .i64 (1)),.sl 1 1 [.flat (.int .i64 (8))]],.sl 3 3 [.flat (.int .i64 (1)),.flat (.int .i64 (2)),.flat (.int .i64 (3))]],.flat (.int .i64 (1)),.flat (.int .i64 (3))],.tuple #[.bool true,.int .i64 (0)]⟩
theorem Tryz.give2_ok:GMemoOk Tryz.prog Tryz.give2:={
  enters:=fun args w=>Tryz.call19 args w
  flatVal:=by decide
  calls:=fun N σ w W hw args args' hm hr=>calls_give (F:=1000000) (told:=fun _ _ _=>none) Tryz.fits Tryz.mixed Tryz.told0 (n:=99) (k:=12) (ds:=Tryz.give2.ds) (by rfl) (by decide) (by decide +kernel) hw hm hr }
def Tryz.give3:GMemo:=⟨31,12,[.agg [.sl 3 3 [.flat (.int .i64 (0)),.flat (.int .i64 (0)),.flat (.int .i64 (0)),.flat (.int .i64 (2)),.flat (.int .i64 (0)),.flat (.int .i64 (4)),.flat (.int .i64 (1)),.flat (.int .i64 (1)),.flat (.int .i64 (0))],.sl 3 3 [.flat (.int .i64 (0)),.flat (.int .i64 (1)),.flat (.int .i64 (1)),.sl 1 1 [.flat (.int .i64 (1))],.flat (.int .i64 (1)),.flat (.int .i64 (2)),.flat (.int .i64 (2)),.sl 1 1 [.flat (.int .i64 (6))],.flat (.int .i64 (0)),.flat (.int .i64 (2)),.flat (.int .i64 (1)),.sl 1 1 [.flat (.int .i64 (8))]],.sl 3 3 [.flat (.int .i64 (1)),.flat (.int .i64 (2)),.flat (.int .i64 (3))]],.sl 3 3 [.flat (.int .i64 (5)),.flat (.int .i64 (1)),.flat (.int .i64 (7)),.flat (.int .i64 (1)),.flat (.int .i64 (0)),.flat (.int .i64 (1)),.flat (.int .i64 (10)),.flat (.int .i64 (3)),.flat (.int .i64 (6)),.flat (.int .i64 (2)),.flat (.int .i64 (7)),.flat (.int .i64 (2)),.flat (.int .i64 (1)),.flat (.int .i64 (2)),.flat (.int .i64 (0)),.flat (.int .i64 (0)),.flat (.int .i64 (8)),.flat (.int .i64 (3)),.flat (.int .i64 (7)),.flat (.int .i64 (0)),.flat (.int .i64 (0)),.flat (.int .i64 (1)),.flat (.int .i64 (10)),.flat (.int .i64 (0))]],.tuple #[.agg #[.int .i64 (0),.int .i64 (0),.int .i64 (0),.int .i64 (0),.int .i64 (0),.int .i64 (0),.int .i64 (0),.int .i64 (0),.int .i64 (0),.int .i64 (0),.int .i64 (0),.int .i64 (0),.int .i64 (0),.int .i64 (0),.int .i64 (0),.int .i64 (0),.int .i64 (0),.int .i64 (0),.int .i64 (0),.int .i64 (0),.int .i64 (0),.int .i64 (0),.int .i64 (0),.int .i64 (0),.int .i64 (0),.int .i64 (0),.int .i64 (0),.int .i64 (0),.int .i64 (0),.int .i64 (0),.int .i64 (0),.int .i64 (0),.int .i64 (0),.int .i64 (0),.int .i64 (0),.int .i64 (2),.int .i64 (10),.int .i64 (3),.int .i64 (0),.int .i64 (1),.int .i64 (0),.int .i64 (0),.int .i64 (0),.int .i64 (0),.int .i64 (0),.int .i64 (0),.int .i64 (0),.int .i64 (0),.int .i64 (0),.int .i64 (0),.int .i64 (0),.int .i64 (0),.int .i64 (0),.int .i64 (0),.int .i64 (0),.int .i64 (0),.int .i64 (0),.int .i64 (0),.int .i64 (0),.int .i64 (0),.int .i64 (0),.int .i64 (0),.int .i64 (0),.int .i64 (0),.int .i64 (0),.int .i64 (0),.int .i64 (0),.int .i64 (0),.int .i64 (0),.int .i64 (0),.int .i64 (0),.int .i64 (0),.int .i64 (0),.int .i64 (0),.int .i64 (0),.int .i64 (0),.int .i64 (0),.int .i64 (0),.int .i64 (0),.int .i64 (0),.int .i64 (0),.int .i64 (0),.int .i64 (0),.int .i64 (0),.int .i64 (0),.int .i64 (0),.int .i64 (0),.int .i64 (0),.int .i64 (0),.int .i64 (0),.int .i64 (0),.int .i64 (0),.int .i64 (0),.int .i64 (0),.int .i64 (0),.int .i64 (0),.int .i64 (0),.int .i64 (0),.int .i64 (0),.int .i64 (0),.int .i64 (0),.int .i64 (0),.int .i64 (0),.int .i64 (0),.int .i64 (0),.int .i64 (0),.int .i64 (0),.int .i64 (0),.int .i64 (0),.int .i64 (0),.int .i64 (0),.int .i64 (0),.int .i64 (0),.int .i64 (0),.int .i64 (0),.int .i64 (0),.int .i64 (0),.int .i64 (0),.int .i64 (0),.int .i64 (0),.int .i64 (0),.int .i64 (0),.int .i64 (0),.int .i64 (0),.int .i64 (0),.int .i64 (0),.int .i64 (0),.int .i64 (0),.int .i64 (0),.int .i64 (0),.int .i64 (0),.int .i64 (0),.int .i64 (0),.int .i64 (0),.int .i64 (0),.int .i64 (0),.int .i64 (0),.int .i64 (0),.int .i64 (0),.int .i64 (0),.int .i64 (0),.int .i64 (0),.int .i64 (0),.int .i64 (0),.int .i64 (0),.int .i64 (0),.int .i64 (0),.int .i64 (0),.int .i64 (0),.int .i64 (0),.int .i64 (0),.int .i64 (0),.int .i64 (0),.int .i64 (0),.int .i64 (0),.int .i64 (0),.int .i64 (0),.int .i64 (0),.int .i64 (0),.int .i64 (0)],.int .i64 (3),.int .i64 (0)]⟩
theorem Tryz.give3_ok:GMemoOk Tryz.prog Tryz.give3:={
  enters:=fun args w=>Tryz.call31 args w
  flatVal:=by decide
  calls:=fun N σ w W hw args args' hm hr=>calls_give (F:=1000000) (told:=fun _ _ _=>none) Tryz.fits Tryz.mixed Tryz.told0 (n:=99) (k:=12) (ds:=Tryz.give3.ds) (by rfl) (by decide) (by decide +kernel) hw hm hr }
def Tryz.give4:GMemo:=⟨33,12,[.agg [.sl 3 3 [.flat (.int .i64 (0)),.flat (.int .i64 (0)),.flat (.int .i64 (0)),.flat (.int .i64 (2)),.flat (.int .i64 (0)),.flat (.int .i64 (4)),.flat (.int .i64 (1)),.flat (.int .i64 (1)),.flat (.int .i64 (0))],.sl 3 3 [.flat (.int .i64 (0)),.flat (.int .i64 (1)),.flat (.int .i64 (1)),.sl 1 1 [.flat (.int .i64 (1))],.flat (.int .i64 (1)),.flat (.int .i64 (2)),.flat (.int .i64 (2)),.sl 1 1 [.flat (.int .i64 (6))],.flat (.int .i64 (0)),.flat (.int .i64 (2)),.flat (.int .i64 (1)),.sl 1 1 [.flat (.int .i64 (8))]],.sl 3 3 [.flat (.int .i64 (1)),.flat (.int .i64 (2)),.flat (.int .i64 (3))]],.sl 3 3 [.flat (.int .i64 (5)),.flat (.int .i64 (1)),.flat (.int .i64 (7)),.flat (.int .i64 (1)),.flat (.int .i64 (0)),.flat (.int .i64 (1)),.flat (.int .i64 (10)),.flat (.int .i64 (3)),.flat (.int .i64 (6)),.flat (.int .i64 (2)),.flat (.int .i64 (7)),.flat (.int .i64 (2)),.flat (.int .i64 (1)),.flat (.int .i64 (2)),.flat (.int .i64 (0)),.flat (.int .i64 (0)),.flat (.int .i64 (8)),.flat (.int .i64 (3)),.flat (.int .i64 (7)),.flat (.int .i64 (0)),.flat (.int .i64 (0)),.flat (.int .i64 (1)),.flat (.int .i64 (10)),.flat (.int .i64 (0))],.flat (.int .i64 (7)),.flat (.int .i64 (5))],.tuple #[.int .i64 (1),.int .i64 (0)]⟩
theorem Tryz.give4_ok:GMemoOk Tryz.prog Tryz.give4:={
  enters:=fun args w=>Tryz.call33 args w
  flatVal:=by decide
  calls:=fun N σ w W hw args args' hm hr=>calls_give (F:=1000000) (told:=fun _ _ _=>none) Tryz.fits Tryz.mixed Tryz.told0 (n:=99) (k:=12) (ds:=Tryz.give4.ds) (by rfl) (by decide) (by decide +kernel) hw hm hr }
def Tryz.give5:GMemo:=⟨58,12,[.agg [.sl 3 3 [.flat (.int .i64 (0)),.flat (.int .i64 (0)),.flat (.int .i64 (0)),.flat (.int .i64 (2)),.flat (.int .i64 (0)),.flat (.int .i64 (4)),.flat (.int .i64 (1)),.flat (.int .i64 (1)),.flat (.int .i64 (0))],.sl 3 3 [.flat (.int .i64 (0)),.flat (.int .i64 (1)),.flat (.int .i64 (1)),.sl 1 1 [.flat (.int .i64 (1))],.flat (.int .i64 (1)),.flat (.int .i64 (2)),.flat (.int .i64 (2)),.sl 1 1 [.flat (.int .i64 (6))],.flat (.int .i64 (0)),.flat (.int .i64 (2)),.flat (.int .i64 (1)),.sl 1 1 [.flat (.int .i64 (8))]],.sl 3 3 [.flat (.int .i64 (1)),.flat (.int .i64 (2)),.flat (.int .i64 (3))]],.flat (.int .i64 (1))],.int .i64 (0)⟩
theorem Tryz.give5_ok:GMemoOk Tryz.prog Tryz.give5:={
  enters:=fun args w=>Tryz.call58 args w
  flatVal:=by decide
  calls:=fun N σ w W hw args args' hm hr=>calls_give (F:=1000000) (told:=fun _ _ _=>none) Tryz.fits Tryz.mixed Tryz.told0 (n:=99) (k:=12) (ds:=Tryz.give5.ds) (by rfl) (by decide) (by decide +kernel) hw hm hr }
def Tryz.give6:GMemo:=⟨58,12,[.agg [.sl 3 3 [.flat (.int .i64 (0)),.flat (.int .i64 (0)),.flat (.int .i64 (0)),.flat (.int .i64 (2)),.flat (.int .i64 (0)),.flat (.int .i64 (4)),.flat (.int .i64 (1)),.flat (.int .i64 (1)),.flat (.int .i64 (0))],.sl 3 3 [.flat (.int .i64 (0)),.flat (.int .i64 (1)),.flat (.int .i64 (1)),.sl 1 1 [.flat (.int .i64 (1))],.flat (.int .i64 (1)),.flat (.int .i64 (2)),.flat (.int .i64 (2)),.sl 1 1 [.flat (.int .i64 (6))],.flat (.int .i64 (0)),.flat (.int .i64 (2)),.flat (.int .i64 (1)),.sl 1 1 [.flat (.int .i64 (8))]],.sl 3 3 [.flat (.int .i64 (1)),.flat (.int .i64 (2)),.flat (.int .i64 (3))]],.flat (.int .i64 (2))],.int .i64 (0)⟩
theorem Tryz.give6_ok:GMemoOk Tryz.prog Tryz.give6:={
  enters:=fun args w=>Tryz.call58 args w
  flatVal:=by decide
  calls:=fun N σ w W hw args args' hm hr=>calls_give (F:=1000000) (told:=fun _ _ _=>none) Tryz.fits Tryz.mixed Tryz.told0 (n:=99) (k:=12) (ds:=Tryz.give6.ds) (by rfl) (by decide) (by decide +kernel) hw hm hr }
def Tryz.give7:GMemo:=⟨67,12,[.agg [.sl 3 3 [.flat (.int .i64 (0)),.flat (.int .i64 (0)),.flat (.int .i64 (0)),.flat (.int .i64 (2)),.flat (.int .i64 (0)),.flat (.int .i64 (4)),.flat (.int .i64 (1)),.flat (.int .i64 (1)),.flat (.int .i64 (0))],.sl 3 3 [.flat (.int .i64 (0)),.flat (.int .i64 (1)),.flat (.int .i64 (1)),.sl 1 1 [.flat (.int .i64 (1))],.flat (.int .i64 (1)),.flat (.int .i64 (2)),.flat (.int .i64 (2)),.sl 1 1 [.flat (.int .i64 (6))],.flat (.int .i64 (0)),.flat (.int .i64 (2)),.flat (.int .i64 (1)),.sl 1 1 [.flat (.int .i64 (8))]],.sl 3 3 [.flat (.int .i64 (1)),.flat (.int .i64 (2)),.flat (.int .i64 (3))]],.flat (.int .i64 (0)),.flat (.int .i64 (2))],.bool false⟩
theorem Tryz.give7_ok:GMemoOk Tryz.prog Tryz.give7:={
  enters:=fun args w=>Tryz.call67 args w
  flatVal:=by decide
  calls:=fun N σ w W hw args args' hm hr=>calls_give (F:=1000000) (told:=fun _ _ _=>none) Tryz.fits Tryz.mixed Tryz.told0 (n:=99) (k:=12) (ds:=Tryz.give7.ds) (by rfl) (by decide) (by decide +kernel) hw hm hr }
def Tryz.give8:GMemo:=⟨67,12,[.agg [.sl 3 3 [.flat (.int .i64 (0)),.flat (.int .i64 (0)),.flat (.int .i64 (0)),.flat (.int .i64 (2)),.flat (.int .i64 (0)),.flat (.int .i64 (4)),.flat (.int .i64 (1)),.flat (.int .i64 (1)),.flat (.int .i64 (0))],.sl 3 3 [.flat (.int .i64 (0)),.flat (.int .i64 (1)),.flat (.int .i64 (1)),.sl 1 1 [.flat (.int .i64 (1))],.flat (.int .i64 (1)),.flat (.int .i64 (2)),.flat (.int .i64 (2)),.sl 1 1 [.flat (.int .i64 (6))],.flat (.int .i64 (0)),.flat (.int .i64 (2)),.flat (.int .i64 (1)),.sl 1 1 [.flat (.int .i64 (8))]],.sl 3 3 [.flat (.int .i64 (1)),.flat (.int .i64 (2)),.flat (.int .i64 (3))]],.flat (.int .i64 (0)),.flat (.int .i64 (4))],.bool false⟩
theorem Tryz.give8_ok:GMemoOk Tryz.prog Tryz.give8:={
  enters:=fun args w=>Tryz.call67 args w
  flatVal:=by decide
  calls:=fun N σ w W hw args args' hm hr=>calls_give (F:=1000000) (told:=fun _ _ _=>none) Tryz.fits Tryz.mixed Tryz.told0 (n:=99) (k:=12) (ds:=Tryz.give8.ds) (by rfl) (by decide) (by decide +kernel) hw hm hr }
def Tryz.give9:GMemo:=⟨67,12,[.agg [.sl 3 3 [.flat (.int .i64 (0)),.flat (.int .i64 (0)),.flat (.int .i64 (0)),.flat (.int .i64 (2)),.flat (.int .i64 (0)),.flat (.int .i64 (4)),.flat (.int .i64 (1)),.flat (.int .i64 (1)),.flat (.int .i64 (0))],.sl 3 3 [.flat (.int .i64 (0)),.flat (.int .i64 (1)),.flat (.int .i64 (1)),.sl 1 1 [.flat (.int .i64 (1))],.flat (.int .i64 (1)),.flat (.int .i64 (2)),.flat (.int .i64 (2)),.sl 1 1 [.flat (.int .i64 (6))],.flat (.int .i64 (0)),.flat (.int .i64 (2)),.flat (.int .i64 (1)),.sl 1 1 [.flat (.int .i64 (8))]],.sl 3 3 [.flat (.int .i64 (1)),.flat (.int .i64 (2)),.flat (.int .i64 (3))]],.flat (.int .i64 (0)),.flat (.int .i64 (6))],.bool false⟩
theorem Tryz.give9_ok:GMemoOk Tryz.prog Tryz.give9:={
  enters:=fun args w=>Tryz.call67 args w
  flatVal:=by decide
  calls:=fun N σ w W hw args args' hm hr=>calls_give (F:=1000000) (told:=fun _ _ _=>none) Tryz.fits Tryz.mixed Tryz.told0 (n:=99) (k:=12) (ds:=Tryz.give9.ds) (by rfl) (by decide) (by decide +kernel) hw hm hr }
def Tryz.give10:GMemo:=⟨67,12,[.agg [.sl 3 3 [.flat (.int .i64 (0)),.flat (.int .i64 (0)),.flat (.int .i64 (0)),.flat (.int .i64 (2)),.flat (.int .i64 (0)),.flat (.int .i64 (4)),.flat (.int .i64 (1)),.flat (.int .i64 (1)),.flat (.int .i64 (0))],.sl 3 3 [.flat (.int .i64 (0)),.flat (.int .i64 (1)),.flat (.int .i64 (1)),.sl 1 1 [.flat (.int .i64 (1))],.flat (.int .i64 (1)),.flat (.int .i64 (2)),.flat (.int .i64 (2)),.sl 1 1 [.flat (.int .i64 (6))],.flat (.int .i64 (0)),.flat (.int .i64 (2)),.flat (.int .i64 (1)),.sl 1 1 [.flat (.int .i64 (8))]],.sl 3 3 [.flat (.int .i64 (1)),.flat (.int .i64 (2)),.flat (.int .i64 (3))]],.flat (.int .i64 (1)),.flat (.int .i64 (2))],.bool true⟩
theorem Tryz.give10_ok:GMemoOk Tryz.prog Tryz.give10:={
  enters:=fun args w=>Tryz.call67 args w
  flatVal:=by decide
  calls:=fun N σ w W hw args args' hm hr=>calls_give (F:=1000000) (told:=fun _ _ _=>none) Tryz.fits Tryz.mixed Tryz.told0 (n:=99) (k:=12) (ds:=Tryz.give10.ds) (by rfl) (by decide) (by decide +kernel) hw hm hr }
def Tryz.give11:GMemo:=⟨67,12,[.agg [.sl 3 3 [.flat (.int .i64 (0)),.flat (.int .i64 (0)),.flat (.int .i64 (0)),.flat (.int .i64 (2)),.flat (.int .i64 (0)),.flat (.int .i64 (4)),.flat (.int .i64 (1)),.flat (.int .i64 (1)),.flat (.int .i64 (0))],.sl 3 3 [.flat (.int .i64 (0)),.flat (.int .i64 (1)),.flat (.int .i64 (1)),.sl 1 1 [.flat (.int .i64 (1))],.flat (.int .i64 (1)),.flat (.int .i64 (2)),.flat (.int .i64 (2)),.sl 1 1 [.flat (.int .i64 (6))],.flat (.int .i64 (0)),.flat (.int .i64 (2)),.flat (.int .i64 (1)),.sl 1 1 [.flat (.int .i64 (8))]],.sl 3 3 [.flat (.int .i64 (1)),.flat (.int .i64 (2)),.flat (.int .i64 (3))]],.flat (.int .i64 (1)),.flat (.int .i64 (4))],.bool false⟩
theorem Tryz.give11_ok:GMemoOk Tryz.prog Tryz.give11:={
  enters:=fun args w=>Tryz.call67 args w
  flatVal:=by decide
  calls:=fun N σ w W hw args args' hm hr=>calls_give (F:=1000000) (told:=fun _ _ _=>none) Tryz.fits Tryz.mixed Tryz.told0 (n:=99) (k:=12) (ds:=Tryz.give11.ds) (by rfl) (by decide) (by decide +kernel) hw hm hr }
def Tryz.give12:GMemo:=⟨67,12,[.agg [.sl 3 3 [.flat (.int .i64 (0)),.flat (.int .i64 (0)),.flat (.int .i64 (0)),.flat (.int .i64 (2)),.flat (.int .i64 (0)),.flat (.int .i64 (4)),.flat (.int .i64 (1)),.flat (.int .i64 (1)),.flat (.int .i64 (0))],.sl 3 3 [.flat (.int .i64 (0)),.flat (.int .i64 (1)),.flat (.int .i64 (1)),.sl 1 1 [.flat (.int .i64 (1))],.flat (.int .i64 (1)),.flat (.int .i64 (2)),.flat (.int .i64 (2)),.sl 1 1 [.flat (.int .i64 (6))],.flat (.int .i64 (0)),.flat (.int .i64 (2)),.flat (.int .i64 (1)),.sl 1 1 [.flat (.int .i64 (8))]],.sl 3 3 [.flat (.int .i64 (1)),.flat (.int .i64 (2)),.flat (.int .i64 (3))]],.flat (.int .i64 (1)),.flat (.int .i64 (6))],.bool true⟩
theorem Tryz.give12_ok:GMemoOk Tryz.prog Tryz.give12:={
  enters:=fun args w=>Tryz.call67 args w
  flatVal:=by decide
  calls:=fun N σ w W hw args args' hm hr=>calls_give (F:=1000000) (told:=fun _ _ _=>none) Tryz.fits Tryz.mixed Tryz.told0 (n:=99) (k:=12) (ds:=Tryz.give12.ds) (by rfl) (by decide) (by decide +kernel) hw hm hr }
def Tryz.give13:GMemo:=⟨67,12,[.agg [.sl 3 3 [.flat (.int .i64 (0)),.flat (.int .i64 (0)),.flat (.int .i64 (0)),.flat (.int .i64 (2)),.flat (.int .i64 (0)),.flat (.int .i64 (4)),.flat (.int .i64 (1)),.flat (.int .i64 (1)),.flat (.int .i64 (0))],.sl 3 3 [.flat (.int .i64 (0)),.flat (.int .i64 (1)),.flat (.int .i64 (1)),.sl 1 1 [.flat (.int .i64 (1))],.flat (.int .i64 (1)),.flat (.int .i64 (2)),.flat (.int .i64 (2)),.sl 1 1 [.flat (.int .i64 (6))],.flat (.int .i64 (0)),.flat (.int .i64 (2)),.flat (.int .i64 (1)),.sl 1 1 [.flat (.int .i64 (8))]],.sl 3 3 [.flat (.int .i64 (1)),.flat (.int .i64 (2)),.flat (.int .i64 (3))]],.flat (.int .i64 (2)),.flat (.int .i64 (2))],.bool false⟩
theorem Tryz.give13_ok:GMemoOk Tryz.prog Tryz.give13:={
  enters:=fun args w=>Tryz.call67 args w
  flatVal:=by decide
  calls:=fun N σ w W hw args args' hm hr=>calls_give (F:=1000000) (told:=fun _ _ _=>none) Tryz.fits Tryz.mixed Tryz.told0 (n:=99) (k:=12) (ds:=Tryz.give13.ds) (by rfl) (by decide) (by decide +kernel) hw hm hr }
def Tryz.give14:GMemo:=⟨67,12,[.agg [.sl 3 3 [.flat (.int .i64 (0)),.flat (.int .i64 (0)),.flat (.int .i64 (0)),.flat (.int .i64 (2)),.flat (.int .i64 (0)),.flat (.int .i64 (4)),.flat (.int .i64 (1)),.flat (.int .i64 (1)),.flat (.int .i64 (0))],.sl 3 3 [.flat (.int .i64 (0)),.flat (.int .i64 (1)),.flat (.int .i64 (1)),.sl 1 1 [.flat (.int .i64 (1))],.flat (.int .i64 (1)),.flat (.int .i64 (2)),.flat (.int .i64 (2)),.sl 1 1 [.flat (.int .i64 (6))],.flat (.int .i64 (0)),.flat (.int .i64 (2)),.flat (.int .i64 (1)),.sl 1 1 [.flat (.int .i64 (8))]],.sl 3 3 [.flat (.int .i64 (1)),.flat (.int .i64 (2)),.flat (.int .i64 (3))]],.flat (.int .i64 (2)),.flat (.int .i64 (4))],.bool false⟩
theorem Tryz.give14_ok:GMemoOk Tryz.prog Tryz.give14:={
  enters:=fun args w=>Tryz.call67 args w
  flatVal:=by decide
  calls:=fun N σ w W hw args args' hm hr=>calls_give (F:=1000000) (told:=fun _ _ _=>none) Tryz.fits Tryz.mixed Tryz.told0 (n:=99) (k:=12) (ds:=Tryz.give14.ds) (by rfl) (by decide) (by decide +kernel) hw hm hr }
def Tryz.give15:GMemo:=⟨67,12,[.agg [.sl 3 3 [.flat (.int .i64 (0)),.flat (.int .i64 (0)),.flat (.int .i64 (0)),.flat (.int .i64 (2)),.flat (.int .i64 (0)),.flat (.int .i64 (4)),.flat (.int .i64 (1)),.flat (.int .i64 (1)),.flat (.int .i64 (0))],.sl 3 3 [.flat (.int .i64 (0)),.flat (.int .i64 (1)),.flat (.int .i64 (1)),.sl 1 1 [.flat (.int .i64 (1))],.flat (.int .i64 (1)),.flat (.int .i64 (2)),.flat (.int .i64 (2)),.sl 1 1 [.flat (.int .i64 (6))],.flat (.int .i64 (0)),.flat (.int .i64 (2)),.flat (.int .i64 (1)),.sl 1 1 [.flat (.int .i64 (8))]],.sl 3 3 [.flat (.int .i64 (1)),.flat (.int .i64 (2)),.flat (.int .i64 (3))]],.flat (.int .i64 (2)),.flat (.int .i64 (6))],.bool false⟩
theorem Tryz.give15_ok:GMemoOk Tryz.prog Tryz.give15:={
  enters:=fun args w=>Tryz.call67 args w
  flatVal:=by decide
  calls:=fun N σ w W hw args args' hm hr=>calls_give (F:=1000000) (told:=fun _ _ _=>none) Tryz.fits Tryz.mixed Tryz.told0 (n:=99) (k:=12) (ds:=Tryz.give15.ds) (by rfl) (by decide) (by decide +kernel) hw hm hr }
def Tryz.give16:GMemo:=⟨67,12,[.agg [.sl 3 3 [.flat (.int .i64 (0)),.flat (.int .i64 (0)),.flat (.int .i64 (0)),.flat (.int .i64 (2)),.flat (.int .i64 (0)),.flat (.int .i64 (4)),.flat (.int .i64 (1)),.flat (.int .i64 (1)),.flat (.int .i64 (0))],.sl 3 3 [.flat (.int .i64 (0)),.flat (.int .i64 (1)),.flat (.int .i64 (1)),.sl 1 1 [.flat (.int .i64 (1))],.flat (.int .i64 (1)),.flat (.int .i64 (2)),.flat (.int .i64 (2)),.sl 1 1 [.flat (.int .i64 (6))],.flat (.int .i64 (0)),.flat (.int .i64 (2)),.flat (.int .i64 (1)),.sl 1 1 [.flat (.int .i64 (8))]],.sl 3 3 [.flat (.int .i64 (1)),.flat (.int .i64 (2)),.flat (.int .i64 (3))]],.flat (.int .i64 (3)),.flat (.int .i64 (2))],.bool true⟩
theorem Tryz.give16_ok:GMemoOk Tryz.prog Tryz.give16:={
  enters:=fun args w=>Tryz.call67 args w
  flatVal:=by decide
  calls:=fun N σ w W hw args args' hm hr=>calls_give (F:=1000000) (told:=fun _ _ _=>none) Tryz.fits Tryz.mixed Tryz.told0 (n:=99) (k:=12) (ds:=Tryz.give16.ds) (by rfl) (by decide) (by decide +kernel) hw hm hr }
def Tryz.give17:GMemo:=⟨67,12,[.agg [.sl 3 3 [.flat (.int .i64 (0)),.flat (.int .i64 (0)),.flat (.int .i64 (0)),.flat (.int .i64 (2)),.flat (.int .i64 (0)),.flat (.int .i64 (4)),.flat (.int .i64 (1)),.flat (.int .i64 (1)),.flat (.int .i64 (0))],.sl 3 3 [.flat (.int .i64 (0)),.flat (.int .i64 (1)),.flat (.int .i64 (1)),.sl 1 1 [.flat (.int .i64 (1))],.flat (.int .i64 (1)),.flat (.int .i64 (2)),.flat (.int .i64 (2)),.sl 1 1 [.flat (.int .i64 (6))],.flat (.int .i64 (0)),.flat (.int .i64 (2)),.flat (.int .i64 (1)),.sl 1 1 [.flat (.int .i64 (8))]],.sl 3 3 [.flat (.int .i64 (1)),.flat (.int .i64 (2)),.flat (.int .i64 (3))]],.flat (.int .i64 (3)),.flat (.int .i64 (4))],.bool true⟩
theorem Tryz.give17_ok:GMemoOk Tryz.prog Tryz.give17:={
  enters:=fun args w=>Tryz.call67 args w
  flatVal:=by decide
  calls:=fun N σ w W hw args args' hm hr=>calls_give (F:=1000000) (told:=fun _ _ _=>none) Tryz.fits Tryz.mixed Tryz.told0 (n:=99) (k:=12) (ds:=Tryz.give17.ds) (by rfl) (by decide) (by decide +kernel) hw hm hr }
def Tryz.give18:GMemo:=⟨67,12,[.agg [.sl 3 3 [.flat (.int .i64 (0)),.flat (.int .i64 (0)),.flat (.int .i64 (0)),.flat (.int .i64 (2)),.flat (.int .i64 (0)),.flat (.int .i64 (4)),.flat (.int .i64 (1)),.flat (.int .i64 (1)),.flat (.int .i64 (0))],.sl 3 3 [.flat (.int .i64 (0)),.flat (.int .i64 (1)),.flat (.int .i64 (1)),.sl 1 1 [.flat (.int .i64 (1))],.flat (.int .i64 (1)),.flat (.int .i64 (2)),.flat (.int .i64 (2)),.sl 1 1 [.flat (.int .i64 (6))],.flat (.int .i64 (0)),.flat (.int .i64 (2)),.flat (.int .i64 (1)),.sl 1 1 [.flat (.int .i64 (8))]],.sl 3 3 [.flat (.int .i64 (1)),.flat (.int .i64 (2)),.flat (.int .i64 (3))]],.flat (.int .i64 (3)),.flat (.int .i64 (6))],.bool true⟩
theorem Tryz.give18_ok:GMemoOk Tryz.prog Tryz.give18:={
  enters:=fun args w=>Tryz.call67 args w
  flatVal:=by decide
  calls:=fun N σ w W hw args args' hm hr=>calls_give (F:=1000000) (told:=fun _ _ _=>none) Tryz.fits Tryz.mixed Tryz.told0 (n:=99) (k:=12) (ds:=Tryz.give18.ds) (by rfl) (by decide) (by decide +kernel) hw hm hr }
def Tryz.give19:GMemo:=⟨67,12,[.agg [.sl 3 3 [.flat (.int .i64 (0)),.flat (.int .i64 (0)),.flat (.int .i64 (0)),.flat (.int .i64 (2)),.flat (.int .i64 (0)),.flat (.int .i64 (4)),.flat (.int .i64 (1)),.flat (.int .i64 (1)),.flat (.int .i64 (0))],.sl 3 3 [.flat (.int .i64 (0)),.flat (.int .i64 (1)),.flat (.int .i64 (1)),.sl 1 1 [.flat (.int .i64 (1))],.flat (.int .i64 (1)),.flat (.int .i64 (2)),.flat (.int .i64 (2)),.sl 1 1 [.flat (.int .i64 (6))],.flat (.int .i64 (0)),.flat (.int .i64 (2)),.flat (.int .i64 (1)),.sl 1 1 [.flat (.int .i64 (8))]],.sl 3 3 [.flat (.int .i64 (1)),.flat (.int .i64 (2)),.flat (.int .i64 (3))]],.flat (.int .i64 (4)),.flat (.int .i64 (2))],.bool true⟩
theorem Tryz.give19_ok:GMemoOk Tryz.prog Tryz.give19:={
  enters:=fun args w=>Tryz.call67 args w
  flatVal:=by decide
  calls:=fun N σ w W hw args args' hm hr=>calls_give (F:=1000000) (told:=fun _ _ _=>none) Tryz.fits Tryz.mixed Tryz.told0 (n:=99) (k:=12) (ds:=Tryz.give19.ds) (by rfl) (by decide) (by decide +kernel) hw hm hr }
def Tryz.give20:GMemo:=⟨67,12,[.agg [.sl 3 3 [.flat (.int .i64 (0)),.flat (.int .i64 (0)),.flat (.int .i64 (0)),.flat (.int .i64 (2)),.flat (.int .i64 (0)),.flat (.int .i64 (4)),.flat (.int .i64 (1)),.flat (.int .i64 (1)),.flat (.int .i64 (0))],.sl 3 3 [.flat (.int .i64 (0)),.flat (.int .i64 (1)),.flat (.int .i64 (1)),.sl 1 1 [.flat (.int .i64 (1))],.flat (.int .i64 (1)),.flat (.int .i64 (2)),.flat (.int .i64 (2)),.sl 1 1 [.flat (.int .i64 (6))],.flat (.int .i64 (0)),.flat (.int .i64 (2)),.flat (.int .i64 (1)),.sl 1 1 [.flat (.int .i64 (8))]],.sl 3 3 [.flat (.int .i64 (1)),.flat (.int .i64 (2)),.flat (.int .i64 (3))]],.flat (.int .i64 (4)),.flat (.int .i64 (4))],.bool false⟩
theorem Tryz.give20_ok:GMemoOk Tryz.prog Tryz.give20:={
  enters:=fun args w=>Tryz.call67 args w
  flatVal:=by decide
  calls:=fun N σ w W hw args args' hm hr=>calls_give (F:=1000000) (told:=fun _ _ _=>none) Tryz.fits Tryz.mixed Tryz.told0 (n:=99) (k:=12) (ds:=Tryz.give20.ds) (by rfl) (by decide) (by decide +kernel) hw hm hr }
def Tryz.give21:GMemo:=⟨67,12,[.agg [.sl 3 3 [.flat (.int .i64 (0)),.flat (.int .i64 (0)),.flat (.int .i64 (0)),.flat (.int .i64 (2)),.flat (.int .i64 (0)),.flat (.int .i64 (4)),.flat (.int .i64 (1)),.flat (.int .i64 (1)),.flat (.int .i64 (0))],.sl 3 3 [.flat (.int .i64 (0)),.flat (.int .i64 (1)),.flat (.int .i64 (1)),.sl 1 1 [.flat (.int .i64 (1))],.flat (.int .i64 (1)),.flat (.int .i64 (2)),.flat (.int .i64 (2)),.sl 1 1 [.flat (.int .i64 (6))],.flat (.int .i64 (0)),.flat (.int .i64 (2)),.flat (.int .i64 (1)),.sl 1 1 [.flat (.int .i64 (8))]],.sl 3 3 [.flat (.int .i64 (1)),.flat (.int .i64 (2)),.flat (.int .i64 (3))]],.flat (.int .i64 (4)),.flat (.int .i64 (6))],.bool true⟩
theorem Tryz.give21_ok:GMemoOk Tryz.prog Tryz.give21:={
  enters:=fun args w=>Tryz.call67 args w
  flatVal:=by decide
  calls:=fun N σ w W hw args args' hm hr=>calls_give (F:=1000000) (told:=fun _ _ _=>none) Tryz.fits Tryz.mixed Tryz.told0 (n:=99) (k:=12) (ds:=Tryz.give21.ds) (by rfl) (by decide) (by decide +kernel) hw hm hr }
def Tryz.give22:GMemo:=⟨67,12,[.agg [.sl 3 3 [.flat (.int .i64 (0)),.flat (.int .i64 (0)),.flat (.int .i64 (0)),.flat (.int .i64 (2)),.flat (.int .i64 (0)),.flat (.int .i64 (4)),.flat (.int .i64 (1)),.flat (.int .i64 (1)),.flat (.int .i64 (0))],.sl 3 3 [.flat (.int .i64 (0)),.flat (.int .i64 (1)),.flat (.int .i64 (1)),.sl 1 1 [.flat (.int .i64 (1))],.flat (.int .i64 (1)),.flat (.int .i64 (2)),.flat (.int .i64 (2)),.sl 1 1 [.flat (.int .i64 (6))],.flat (.int .i64 (0)),.flat (.int .i64 (2)),.flat (.int .i64 (1)),.sl 1 1 [.flat (.int .i64 (8))]],.sl 3 3 [.flat (.int .i64 (1)),.flat (.int .i64 (2)),.flat (.int .i64 (3))]],.flat (.int .i64 (5)),.flat (.int .i64 (2))],.bool true⟩
theorem Tryz.give22_ok:GMemoOk Tryz.prog Tryz.give22:={
  enters:=fun args w=>Tryz.call67 args w
  flatVal:=by decide
  calls:=fun N σ w W hw args args' hm hr=>calls_give (F:=1000000) (told:=fun _ _ _=>none) Tryz.fits Tryz.mixed Tryz.told0 (n:=99) (k:=12) (ds:=Tryz.give22.ds) (by rfl) (by decide) (by decide +kernel) hw hm hr }
def Tryz.give23:GMemo:=⟨67,12,[.agg [.sl 3 3 [.flat (.int .i64 (0)),.flat (.int .i64 (0)),.flat (.int .i64 (0)),.flat (.int .i64 (2)),.flat (.int .i64 (0)),.flat (.int .i64 (4)),.flat (.int .i64 (1)),.flat (.int .i64 (1)),.flat (.int .i64 (0))],.sl 3 3 [.flat (.int .i64 (0)),.flat (.int .i64 (1)),.flat (.int .i64 (1)),.sl 1 1 [.flat (.int .i64 (1))],.flat (.int .i64 (1)),.flat (.int .i64 (2)),.flat (.int .i64 (2)),.sl 1 1 [.flat (.int .i64 (6))],.flat (.int .i64 (0)),.flat (.int .i64 (2)),.flat (.int .i64 (1)),.sl 1 1 [.flat (.int .i64 (8))]],.sl 3 3 [.flat (.int .i64 (1)),.flat (.int .i64 (2)),.flat (.int .i64 (3))]],.flat (.int .i64 (5)),.flat (.int .i64 (4))],.bool true⟩
theorem Tryz.give23_ok:GMemoOk Tryz.prog Tryz.give23:={
  enters:=fun args w=>Tryz.call67 args w
  flatVal:=by decide
  calls:=fun N σ w W hw args args' hm hr=>calls_give (F:=1000000) (told:=fun _ _ _=>none) Tryz.fits Tryz.mixed Tryz.told0 (n:=99) (k:=12) (ds:=Tryz.give23.ds) (by rfl) (by decide) (by decide +kernel) hw hm hr }
def Tryz.give24:GMemo:=⟨67,12,[.agg [.sl 3 3 [.flat (.int .i64 (0)),.flat (.int .i64 (0)),.flat (.int .i64 (0)),.flat (.int .i64 (2)),.flat (.int .i64 (0)),.flat (.int .i64 (4)),.flat (.int .i64 (1)),.flat (.int .i64 (1)),.flat (.int .i64 (0))],.sl 3 3 [.flat (.int .i64 (0)),.flat (.int .i64 (1)),.flat (.int .i64 (1)),.sl 1 1 [.flat (.int .i64 (1))],.flat (.int .i64 (1)),.flat (.int .i64 (2)),.flat (.int .i64 (2)),.sl 1 1 [.flat (.int .i64 (6))],.flat (.int .i64 (0)),.flat (.int .i64 (2)),.flat (.int .i64 (1)),.sl 1 1 [.flat (.int .i64 (8))]],.sl 3 3 [.flat (.int .i64 (1)),.flat (.int .i64 (2)),.flat (.int .i64 (3))]],.flat (.int .i64 (5)),.flat (.int .i64 (6))],.bool true⟩
theorem Tryz.give24_ok:GMemoOk Tryz.prog Tryz.give24:={
  enters:=fun args w=>Tryz.call67 args w
  flatVal:=by decide
  calls:=fun N σ w W hw args args' hm hr=>calls_give (F:=1000000) (told:=fun _ _ _=>none) Tryz.fits Tryz.mixed Tryz.told0 (n:=99) (k:=12) (ds:=Tryz.give24.ds) (by rfl) (by decide) (by decide +kernel) hw hm hr }
def Tryz.give25:GMemo:=⟨67,12,[.agg [.sl 3 3 [.flat (.int .i64 (0)),.flat (.int .i64 (0)),.flat (.int .i64 (0)),.flat (.int .i64 (2)),.flat (.int .i64 (0)),.flat (.int .i64 (4)),.flat (.int .i64 (1)),.flat (.int .i64 (1)),.flat (.int .i64 (0))],.sl 3 3 [.flat (.int .i64 (0)),.flat (.int .i64 (1)),.flat (.int .i64 (1)),.sl 1 1 [.flat (.int .i64 (1))],.flat (.int .i64 (1)),.flat (.int .i64 (2)),.flat (.int .i64 (2)),.sl 1 1 [.flat (.int .i64 (6))],.flat (.int .i64 (0)),.flat (.int .i64 (2)),.flat (.int .i64 (1)),.sl 1 1 [.flat (.int .i64 (8))]],.sl 3 3 [.flat (.int .i64 (1)),.flat (.int .i64 (2)),.flat (.int .i64 (3))]],.flat (.int .i64 (6)),.flat (.int .i64 (2))],.bool true⟩
theorem Tryz.give25_ok:GMemoOk Tryz.prog Tryz.give25:={
  enters:=fun args w=>Tryz.call67 args w
  flatVal:=by decide
  calls:=fun N σ w W hw args args' hm hr=>calls_give (F:=1000000) (told:=fun _ _ _=>none) Tryz.fits Tryz.mixed Tryz.told0 (n:=99) (k:=12) (ds:=Tryz.give25.ds) (by rfl) (by decide) (by decide +kernel) hw hm hr }
def Tryz.give26:GMemo:=⟨67,12,[.agg [.sl 3 3 [.flat (.int .i64 (0)),.flat (.int .i64 (0)),.flat (.int .i64 (0)),.flat (.int .i64 (2)),.flat (.int .i64 (0)),.flat (.int .i64 (4)),.flat (.int .i64 (1)),.flat (.int .i64 (1)),.flat (.int .i64 (0))],.sl 3 3 [.flat (.int .i64 (0)),.flat (.int .i64 (1)),.flat (.int .i64 (1)),.sl 1 1 [.flat (.int .i64 (1))],.flat (.int .i64 (1)),.flat (.int .i64 (2)),.flat (.int .i64 (2)),.sl 1 1 [.flat (.int .i64 (6))],.flat (.int .i64 (0)),.flat (.int .i64 (2)),.flat (.int .i64 (1)),.sl 1 1 [.flat (.int .i64 (8))]],.sl 3 3 [.flat (.int .i64 (1)),.flat (.int .i64 (2)),.flat (.int .i64 (3))]],.flat (.int .i64 (6)),.flat (.int .i64 (4))],.bool true⟩
theorem Tryz.give26_ok:GMemoOk Tryz.prog Tryz.give26:={
  enters:=fun args w=>Tryz.call67 args w
  flatVal:=by decide
  calls:=fun N σ w W hw args args' hm hr=>calls_give (F:=1000000) (told:=fun _ _ _=>none) Tryz.fits Tryz.mixed Tryz.told0 (n:=99) (k:=12) (ds:=Tryz.give26.ds) (by rfl) (by decide) (by decide +kernel) hw hm hr }
def Tryz.give27:GMemo:=⟨67,12,[.agg [.sl 3 3 [.flat (.int .i64 (0)),.flat (.int .i64 (0)),.flat (.int .i64 (0)),.flat (.int .i64 (2)),.flat (.int .i64 (0)),.flat (.int .i64 (4)),.flat (.int .i64 (1)),.flat (.int .i64 (1)),.flat (.int .i64 (0))],.sl 3 3 [.flat (.int .i64 (0)),.flat (.int .i64 (1)),.flat (.int .i64 (1)),.sl 1 1 [.flat (.int .i64 (1))],.flat (.int .i64 (1)),.flat (.int .i64 (2)),.flat (.int .i64 (2)),.sl 1 1 [.flat (.int .i64 (6))],.flat (.int .i64 (0)),.flat (.int .i64 (2)),.flat (.int .i64 (1)),.sl 1 1 [.flat (.int .i64 (8))]],.sl 3 3 [.flat (.int .i64 (1)),.flat (.int .i64 (2)),.flat (.int .i64 (3))]],.flat (.int .i64 (6)),.flat (.int .i64 (6))],.bool true⟩
theorem Tryz.give27_ok:GMemoOk Tryz.prog Tryz.give27:={
  enters:=fun args w=>Tryz.call67 args w
  flatVal:=by decide
  calls:=fun N σ w W hw args args' hm hr=>calls_give (F:=1000000) (told:=fun _ _ _=>none) Tryz.fits Tryz.mixed Tryz.told0 (n:=99) (k:=12) (ds:=Tryz.give27.ds) (by rfl) (by decide) (by decide +kernel) hw hm hr }
def Tryz.give28:GMemo:=⟨67,12,[.agg [.sl 3 3 [.flat (.int .i64 (0)),.flat (.int .i64 (0)),.flat (.int .i64 (0)),.flat (.int .i64 (2)),.flat (.int .i64 (0)),.flat (.int .i64 (4)),.flat (.int .i64 (1)),.flat (.int .i64 (1)),.flat (.int .i64 (0))],.sl 3 3 [.flat (.int .i64 (0)),.flat (.int .i64 (1)),.flat (.int .i64 (1)),.sl 1 1 [.flat (.int .i64 (1))],.flat (.int .i64 (1)),.flat (.int .i64 (2)),.flat (.int .i64 (2)),.sl 1 1 [.flat (.int .i64 (6))],.flat (.int .i64 (0)),.flat (.int .i64 (2)),.flat (.int .i64 (1)),.sl 1 1 [.flat (.int .i64 (8))]],.sl 3 3 [.flat (.int .i64 (1)),.flat (.int .i64 (2)),.flat (.int .i64 (3))]],.flat (.int .i64 (7)),.flat (.int .i64 (2))],.bool true⟩
theorem Tryz.give28_ok:GMemoOk Tryz.prog Tryz.give28:={
  enters:=fun args w=>Tryz.call67 args w
  flatVal:=by decide
  calls:=fun N σ w W hw args args' hm hr=>calls_give (F:=1000000) (told:=fun _ _ _=>none) Tryz.fits Tryz.mixed Tryz.told0 (n:=99) (k:=12) (ds:=Tryz.give28.ds) (by rfl) (by decide) (by decide +kernel) hw hm hr }
def Tryz.give29:GMemo:=⟨67,12,[.agg [.sl 3 3 [.flat (.int .i64 (0)),.flat (.int .i64 (0)),.flat (.int .i64 (0)),.flat (.int .i64 (2)),.flat (.int .i64 (0)),.flat (.int .i64 (4)),.flat (.int .i64 (1)),.flat (.int .i64 (1)),.flat (.int .i64 (0))],.sl 3 3 [.flat (.int .i64 (0)),.flat (.int .i64 (1)),.flat (.int .i64 (1)),.sl 1 1 [.flat (.int .i64 (1))],.flat (.int .i64 (1)),.flat (.int .i64 (2)),.flat (.int .i64 (2)),.sl 1 1 [.flat (.int .i64 (6))],.flat (.int .i64 (0)),.flat (.int .i64 (2)),.flat (.int .i64 (1)),.sl 1 1 [.flat (.int .i64 (8))]],.sl 3 3 [.flat (.int .i64 (1)),.flat (.int .i64 (2)),.flat (.int .i64 (3))]],.flat (.int .i64 (7)),.flat (.int .i64 (4))],.bool true⟩
theorem Tryz.give29_ok:GMemoOk Tryz.prog Tryz.give29:={
  enters:=fun args w=>Tryz.call67 args w
  flatVal:=by decide
  calls:=fun N σ w W hw args args' hm hr=>calls_give (F:=1000000) (told:=fun _ _ _=>none) Tryz.fits Tryz.mixed Tryz.told0 (n:=99) (k:=12) (ds:=Tryz.give29.ds) (by rfl) (by decide) (by decide +kernel) hw hm hr }
def Tryz.give30:GMemo:=⟨67,12,[.agg [.sl 3 3 [.flat (.int .i64 (0)),.flat (.int .i64 (0)),.flat (.int .i64 (0)),.flat (.int .i64 (2)),.flat (.int .i64 (0)),.flat (.int .i64 (4)),.flat (.int .i64 (1)),.flat (.int .i64 (1)),.flat (.int .i64 (0))],.sl 3 3 [.flat (.int .i64 (0)),.flat (.int .i64 (1)),.flat (.int .i64 (1)),.sl 1 1 [.flat (.int .i64 (1))],.flat (.int .i64 (1)),.flat (.int .i64 (2)),.flat (.int .i64 (2)),.sl 1 1 [.flat (.int .i64 (6))],.flat (.int .i64 (0)),.flat (.int .i64 (2)),.flat (.int .i64 (1)),.sl 1 1 [.flat (.int .i64 (8))]],.sl 3 3 [.flat (.int .i64 (1)),.flat (.int .i64 (2)),.flat (.int .i64 (3))]],.flat (.int .i64 (7)),.flat (.int .i64 (6))],.bool true⟩
theorem Tryz.give30_ok:GMemoOk Tryz.prog Tryz.give30:={
  enters:=fun args w=>Tryz.call67 args w
  flatVal:=by decide
  calls:=fun N σ w W hw args args' hm hr=>calls_give (F:=1000000) (told:=fun _ _ _=>none) Tryz.fits Tryz.mixed Tryz.told0 (n:=99) (k:=12) (ds:=Tryz.give30.ds) (by rfl) (by decide) (by decide +kernel) hw hm hr }
def Tryz.give31:GMemo:=⟨103,12,[.agg [.sl 3 3 [.flat (.int .i64 (0)),.flat (.int .i64 (0)),.flat (.int .i64 (0)),.flat (.int .i64 (2)),.flat (.int .i64 (0)),.flat (.int .i64 (4)),.flat (.int .i64 (1)),.flat (.int .i64 (1)),.flat (.int .i64 (0))],.sl 3 3 [.flat (.int .i64 (0)),.flat (.int .i64 (1)),.flat (.int .i64 (1)),.sl 1 1 [.flat (.int .i64 (1))],.flat (.int .i64 (1)),.flat (.int .i64 (2)),.flat (.int .i64 (2)),.sl 1 1 [.flat (.int .i64 (6))],.flat (.int .i64 (0)),.flat (.int .i64 (2)),.flat (.int .i64 (1)),.sl 1 1 [.flat (.int .i64 (8))]],.sl 3 3 [.flat (.int .i64 (1)),.flat (.int .i64 (2)),.flat (.int .i64 (3))]],.sl 2 3 [.flat (.int .i64 (5)),.flat (.int .i64 (1)),.flat (.int .i64 (7)),.flat (.int .i64 (1)),.flat (.int .i64 (0)),.flat (.int .i64 (1)),.flat (.int .i64 (10)),.flat (.int .i64 (3)),.flat (.int .i64 (6)),.flat (.int .i64 (2)),.flat (.int .i64 (7)),.flat (.int .i64 (2)),.flat (.int .i64 (1)),.flat (.int .i64 (2)),.flat (.int .i64 (0)),.flat (.int .i64 (0)),.flat (.int .i64 (8)),.flat (.int .i64 (3)),.flat (.int .i64 (7)),.flat (.int .i64 (0)),.flat (.int .i64 (0)),.flat (.int .i64 (1)),.flat (.int .i64 (10)),.flat (.int .i64 (0))]],.bool true⟩
theorem Tryz.give31_ok:GMemoOk Tryz.prog Tryz.give31:={
  enters:=fun args w=>Tryz.call103 args w
  flatVal:=by decide
  calls:=fun N σ w W hw args args' hm hr=>calls_give (F:=1000000) (told:=fun _ _ _=>none) Tryz.fits Tryz.mixed Tryz.told0 (n:=99) (k:=12) (ds:=Tryz.give31.ds) (by rfl) (by decide) (by decide +kernel) hw hm hr }
def Tryz.give32:GMemo:=⟨111,12,[.agg [.sl 3 3 [.flat (.int .i64 (0)),.flat (.int .i64 (0)),.flat (.int .i64 (0)),.flat (.int .i64 (2)),.flat (.int .i64 (0)),.flat (.int .i64 (4)),.flat (.int .i64 (1)),.flat (.int .i64 (1)),.flat (.int .i64 (0))],.sl 3 3 [.flat (.int .i64 (0)),.flat (.int .i64 (1)),.flat (.int .i64 (1)),.sl 1 1 [.flat (.int .i64 (1))],.flat (.int .i64 (1)),.flat (.int .i64 (2)),.flat (.int .i64 (2)),.sl 1 1 [.flat (.int .i64 (6))],.flat (.int .i64 (0)),.flat (.int .i64 (2)),.flat (.int .i64 (1)),.sl 1 1 [.flat (.int .i64 (8))]],.sl 3 3 [.flat (.int .i64 (1)),.flat (.int .i64 (2)),.flat (.int .i64 (3))],.flat (.int .i64 (3)),.flat (.int .i64 (1))],.agg [.flat (.int .i64 (0)),.flat (.int .i64 (1)),.flat (.int .i64 (1)),.sl 1 1 [.flat (.int .i64 (1))]]],.bool true⟩
theorem Tryz.give32_ok:GMemoOk Tryz.prog Tryz.give32:={
  enters:=fun args w=>Tryz.call111 args w
  flatVal:=by decide
  calls:=fun N σ w W hw args args' hm hr=>calls_give (F:=1000000) (told:=fun _ _ _=>none) Tryz.fits Tryz.mixed Tryz.told0 (n:=99) (k:=12) (ds:=Tryz.give32.ds) (by rfl) (by decide) (by decide +kernel) hw hm hr }
def Tryz.give33:GMemo:=⟨111,12,[.agg [.sl 3 3 [.flat (.int .i64 (0)),.flat (.int .i64 (0)),.flat (.int .i64 (0)),.flat (.int .i64 (2)),.flat (.int .i64 (0)),.flat (.int .i64 (4)),.flat (.int .i64 (1)),.flat (.int .i64 (1)),.flat (.int .i64 (0))],.sl 3 3 [.flat (.int .i64 (0)),.flat (.int .i64 (1)),.flat (.int .i64 (1)),.sl 1 1 [.flat (.int .i64 (1))],.flat (.int .i64 (1)),.flat (.int .i64 (2)),.flat (.int .i64 (2)),.sl 1 1 [.flat (.int .i64 (6))],.flat (.int .i64 (0)),.flat (.int .i64 (2)),.flat (.int .i64 (1)),.sl 1 1 [.flat (.int .i64 (8))]],.sl 3 3 [.flat (.int .i64 (1)),.flat (.int .i64 (2)),.flat (.int .i64 (3))],.flat (.int .i64 (3)),.flat (.int .i64 (1))],.agg [.flat (.int .i64 (0)),.flat (.int .i64 (2)),.flat (.int .i64 (1)),.sl 1 1 [.flat (.int .i64 (8))]]],.bool false⟩
theorem Tryz.give33_ok:GMemoOk Tryz.prog Tryz.give33:={
  enters:=fun args w=>Tryz.call111 args w
  flatVal:=by decide
  calls:=fun N σ w W hw args args' hm hr=>calls_give (F:=1000000) (told:=fun _ _ _=>none) Tryz.fits Tryz.mixed Tryz.told0 (n:=99) (k:=12) (ds:=Tryz.give33.ds) (by rfl) (by decide) (by decide +kernel) hw hm hr }
def Tryz.give34:GMemo:=⟨111,12,[.agg [.sl 3 3 [.flat (.int .i64 (0)),.flat (.int .i64 (0)),.flat (.int .i64 (0)),.flat (.int .i64 (2)),.flat (.int .i64 (0)),.flat (.int .i64 (4)),.flat (.int .i64 (1)),.flat (.int .i64 (1)),.flat (.int .i64 (0))],.sl 3 3 [.flat (.int .i64 (0)),.flat (.int .i64 (1)),.flat (.int .i64 (1)),.sl 1 1 [.flat (.int .i64 (1))],.flat (.int .i64 (1)),.flat (.int .i64 (2)),.flat (.int .i64 (2)),.sl 1 1 [.flat (.int .i64 (6))],.flat (.int .i64 (0)),.flat (.int .i64 (2)),.flat (.int .i64 (1)),.sl 1 1 [.flat (.int .i64 (8))]],.sl 3 3 [.flat (.int .i64 (1)),.flat (.int .i64 (2)),.flat (.int .i64 (3))],.flat (.int .i64 (3)),.flat (.int .i64 (3))],.agg [.flat (.int .i64 (1)),.flat (.int .i64 (2)),.flat (.int .i64 (2)),.sl 1 1 [.flat (.int .i64 (6))]]],.bool true⟩
theorem Tryz.give34_ok:GMemoOk Tryz.prog Tryz.give34:={
  enters:=fun args w=>Tryz.call111 args w
  flatVal:=by decide
  calls:=fun N σ w W hw args args' hm hr=>calls_give (F:=1000000) (told:=fun _ _ _=>none) Tryz.fits Tryz.mixed Tryz.told0 (n:=99) (k:=12) (ds:=Tryz.give34.ds) (by rfl) (by decide) (by decide +kernel) hw hm hr }
def Tryz.gives:List GMemo:=[Tryz.give0,Tryz.give1,Tryz.give2,Tryz.give3,Tryz.give4,Tryz.give5,Tryz.give6,Tryz.give7,Tryz.give8,Tryz.give9,Tryz.give10,Tryz.give11,Tryz.give12,Tryz.give13,Tryz.give14,Tryz.give15,Tryz.give16,Tryz.give17,Tryz.give18,Tryz.give19,Tryz.give20,Tryz.give21,Tryz.give22,Tryz.give23,Tryz.give24,Tryz.give25,Tryz.give26,Tryz.give27,Tryz.give28,Tryz.give29,Tryz.give30,Tryz.give31,Tryz.give32,Tryz.give33,Tryz.give34]
theorem Tryz.gives_ok:GMemosOk Tryz.prog Tryz.gives:=.cons Tryz.give0_ok (.cons Tryz.give1_ok (.cons Tryz.give2_ok (.cons Tryz.give3_ok (.cons Tryz.give4_ok (.cons Tryz.give5_ok (.cons Tryz.give6_ok (.cons Tryz.give7_ok (.cons Tryz.give8_ok (.cons Tryz.give9_ok (.cons Tryz.give10_ok (.cons Tryz.give11_ok (.cons Tryz.give12_ok (.cons Tryz.give13_ok (.cons Tryz.give14_ok (.cons Tryz.give15_ok (.cons Tryz.give16_ok (.cons Tryz.give17_ok (.cons Tryz.give18_ok (.cons Tryz.give19_ok (.cons Tryz.give20_ok (.cons Tryz.give21_ok (.cons Tryz.give22_ok (.cons Tryz.give23_ok (.cons Tryz.give24_ok (.cons Tryz.give25_ok (.cons Tryz.give26_ok (.cons Tryz.give27_ok (.cons Tryz.give28_ok (.cons Tryz.give29_ok (.cons Tryz.give30_ok (.cons Tryz.give31_ok (.cons Tryz.give32_ok (.cons Tryz.give33_ok (.cons Tryz.give34_ok (.nil)))))))))))))))))))))))))))))))))))
end Go.Proofs

namespace Go.Proofs
open Go Go.RowKit Go.Sim
set_option maxRecDepth 1000000
def Tryz.toldG:ToldF:=toldGive Tryz.gives (fun _ _ _=>none)
theorem Tryz.toldG_ok (N:Nat):ToldOk Tryz.prog N Tryz.toldG:=toldGive_ok Tryz.gives_ok Tryz.told0 N
theorem Tryz.works (W:World):Calls Tryz.prog 21 #[] W fun e W'=>e=.returned (.bool true)∧BelowD W.heap.size W W' :=
  calls_true (F:=1000000) Tryz.fits Tryz.mixed Tryz.toldG_ok (n:=99) (by decide +kernel) (by decide +kernel) W
def Tryz.T0:ToldF:=toldTrue 21 fun _ _ _=>none
theorem Tryz.toldT0 (N:Nat):ToldOk Tryz.prog N Tryz.T0:=toldTrue_ok (fun args w=>Tryz.call21 args w) Tryz.works (fun N=>fun f args w w1 v h=>by cases h) N
end Go.Proofs

namespace Go.Proofs
open Go.Shelf
def Tryz.sortL_ren:Go.Shelf.Ren:=⟨fun|6=>94|15=>116|14=>115|28=>140|29=>141|20=>132|21=>133|22=>134|23=>135|24=>136|25=>137|26=>138|27=>139|46=>154|47=>155|48=>156|49=>157|50=>158|57=>164|n=>n,fun|22=>135|24=>77|25=>139|3=>3|39=>150|0=>0|53=>167|55=>169|4=>4|46=>160|45=>159|50=>164|5=>5|9=>9|66=>182|70=>186|76=>191|77=>192|n=>n,fun|n=>n⟩
theorem Tryz.sortL:Go.Proofs.SlLaysF.n6 Tryz.prog Tryz.sortL_ren:={
  mixed:=by kernel_rfl
  f6:=⟨Tryz.f94.name,by decide,Tryz.func94.trans (congrArg some (by kernel_rfl))⟩
  f14:=⟨Tryz.f115.name,by decide,Tryz.func115.trans (congrArg some (by kernel_rfl))⟩
  f15:=Tryz.func116.trans (congrArg some (by kernel_rfl))
  f20:=⟨Tryz.f132.name,by decide,Tryz.func132.trans (congrArg some (by kernel_rfl))⟩
  f21:=⟨Tryz.f133.name,by decide,Tryz.func133.trans (congrArg some (by kernel_rfl))⟩
  f22:=⟨Tryz.f134.name,by decide,Tryz.func134.trans (congrArg some (by kernel_rfl))⟩
  f23:=⟨Tryz.f135.name,by decide,Tryz.func135.trans (congrArg some (by kernel_rfl))⟩
  f24:=⟨Tryz.f136.name,by decide,Tryz.func136.trans (congrArg some (by kernel_rfl))⟩
  f25:=⟨Tryz.f137.name,by decide,Tryz.func137.trans (congrArg some (by kernel_rfl))⟩
  f26:=⟨Tryz.f138.name,by decide,Tryz.func138.trans (congrArg some (by kernel_rfl))⟩
  f27:=⟨Tryz.f139.name,by decide,Tryz.func139.trans (congrArg some (by kernel_rfl))⟩
  f28:=Tryz.func140.trans (congrArg some (by kernel_rfl))
  f29:=Tryz.func141.trans (congrArg some (by kernel_rfl))
  f46:=⟨Tryz.f154.name,by decide,Tryz.func154.trans (congrArg some (by kernel_rfl))⟩
  f47:=Tryz.func155.trans (congrArg some (by kernel_rfl))
  f48:=Tryz.func156.trans (congrArg some (by kernel_rfl))
  f49:=⟨Tryz.f157.name,by decide,Tryz.func157.trans (congrArg some (by kernel_rfl))⟩
  f50:=⟨Tryz.f158.name,by decide,Tryz.func158.trans (congrArg some (by kernel_rfl))⟩
  f57:=⟨Tryz.f164.name,by decide,Tryz.func164.trans (congrArg some (by kernel_rfl))⟩
  t0:=Tryz.underlying0
  a0:=Tryz.isAgg0
  z0:=Tryz.sizeOf0
  v0:=Tryz.zeroValue0
  t3:=Tryz.underlying3
  a3:=Tryz.isAgg3
  z3:=Tryz.sizeOf3
  v3:=Tryz.zeroValue3
  t4:=Tryz.underlying4
  a4:=Tryz.isAgg4
  z4:=Tryz.sizeOf4
  v4:=Tryz.zeroValue4
  t5:=Tryz.underlying5
  a5:=Tryz.isAgg5
  z5:=Tryz.sizeOf5
  v5:=Tryz.zeroValue5
  t9:=Tryz.underlying9
  a9:=Tryz.isAgg9
  z9:=Tryz.sizeOf9
  v9:=Tryz.zeroValue9
  t22:=Tryz.underlying135
  a22:=Tryz.isAgg135
  z22:=Tryz.sizeOf135
  v22:=Tryz.zeroValue135
  a24:=Tryz.isAgg77
  z24:=Tryz.sizeOf77
  t25:=Tryz.underlying139
  a25:=Tryz.isAgg139
  z25:=Tryz.sizeOf139
  v25:=Tryz.zeroValue139
  t39:=Tryz.underlying150
  a39:=Tryz.isAgg150
  z39:=Tryz.sizeOf150
  v39:=Tryz.zeroValue150
  t45:=Tryz.underlying159
  a45:=Tryz.isAgg159
  z45:=Tryz.sizeOf159
  v45:=Tryz.zeroValue159
  t46:=Tryz.underlying160
  a46:=Tryz.isAgg160
  z46:=Tryz.sizeOf160
  v46:=Tryz.zeroValue160
  t50:=Tryz.underlying164
  a50:=Tryz.isAgg164
  z50:=Tryz.sizeOf164
  v50:=Tryz.zeroValue164
  t53:=Tryz.underlying167
  a53:=Tryz.isAgg167
  z53:=Tryz.sizeOf167
  v53:=Tryz.zeroValue167
  t55:=Tryz.underlying169
  a55:=Tryz.isAgg169
  z55:=Tryz.sizeOf169
  v55:=Tryz.zeroValue169
  t66:=Tryz.underlying182
  a66:=Tryz.isAgg182
  z66:=Tryz.sizeOf182
  v66:=Tryz.zeroValue182
  t70:=Tryz.underlying186
  a70:=Tryz.isAgg186
  z70:=Tryz.sizeOf186
  v70:=Tryz.zeroValue186
  t76:=Tryz.underlying191
  a76:=Tryz.isAgg191
  z76:=Tryz.sizeOf191
  v76:=Tryz.zeroValue191
  t77:=Tryz.underlying192
  a77:=Tryz.isAgg192
  z77:=Tryz.sizeOf192
  v77:=Tryz.zeroValue192 }
end Go.Proofs
namespace Go.Proofs
open Go Go.Shelf Go.RowKit Go.Lib Go.Sort Go.Sim
theorem Tryz.lens:∀ x,x < Tryz.lenTab.n→isVal (xcall (prg Tryz.prog) (xsOf (prg Tryz.prog)) (fun _ _ _=>none) 1000000 100 (.fn (.func 116) #[]) [.int .u64 (x:Int)] .empty) (Tryz.lenTab.g x)=true:=by decide +kernel
theorem Tryz.pops:∀ x,x < Tryz.popTab.n→isVal (xcall (prg Tryz.prog) (xsOf (prg Tryz.prog)) (fun _ _ _=>none) 1000000 100 (.fn (.func 98) #[]) [.int .i64 (x:Int)] .empty) (Tryz.popTab.g x)=true:=by decide +kernel
theorem Tryz.lenOk:TabOk Tryz.prog Tryz.lenTab:={
  enters:=fun args w=>Tryz.call116 args w
  flatVal:=fun _ _=>rfl
  calls:=fun x hx W=>tab_calls (F:=1000000) (n:=99) Tryz.fits Tryz.mixed Tryz.told0 (fun _=>rfl) (fun _ _=>rfl) Tryz.lens x hx W }
theorem Tryz.popOk:TabOk Tryz.prog Tryz.popTab:={
  enters:=fun args w=>Tryz.call98 args w
  flatVal:=fun _ _=>rfl
  calls:=fun x hx W=>tab_calls (F:=1000000) (n:=99) Tryz.fits Tryz.mixed Tryz.told0 (fun _=>rfl) (fun _ _=>rfl) Tryz.pops x hx W }
theorem Tryz.toldT0c (N:Nat):ToldOk Tryz.prog N Tryz.T0c:=toldTab_ok Tryz.lenOk (fun N=>toldTab_ok Tryz.popOk Tryz.toldT0 N) N
def cfV (x y:Fin 64):Int:=cmpN x.val y.val
theorem ltV (x y:Fin 64):ltOf cfV x y=decide (popN x.val < popN y.val ∨ (popN x.val=popN y.val∧x.val < y.val)):=by
  unfold ltOf cfV cmpN
  rw [decide_eq_decide]
  repeat' split
  all_goals omega
theorem swoV:SWO (ltOf cfV) where
  irrefl x:=by rw [ltV];simp
  trans x y z h1 h2:=by rw [ltV] at *;simp only [decide_eq_true_eq] at *;omega
  ntrans x y z h1 h2:=by rw [ltV] at *;simp only [decide_eq_false_iff_not] at *;omega
theorem totV (x y:Fin 64) (h1:ltOf cfV x y=false) (h2:ltOf cfV y x=false):x=y:=by
  rw [ltV] at *
  simp only [decide_eq_false_iff_not] at *
  exact Fin.ext (by omega)
theorem fresh_empty:Fresh AW.empty:=⟨fun b _=>by simp [AW.empty,AW.blk,Trie.get_leaf],fun r _=>by simp [AW.empty,AW.family,Trie.get_leaf]⟩
theorem closureV (x y:Fin 64) (W:World):Calls Tryz.prog 95 #[encF 63 x,encF 63 y] W fun e w'=>e=.returned (.int .i64 (cfV x y))∧∃ q os,w'=grow (W.drewN q) os:=by
  have h:=calls_flat Tryz.fits Tryz.mixed Tryz.toldT0c (f:=95) (l:=[encF 63 x,encF 63 y]) (v:=.int .i64 (cfV x y)) rfl rfl rfl (cmpSets_ok x.val y.val x.isLt y.isLt .empty fresh_empty) W
  exact h.mono fun e w' ⟨he,hb⟩=>⟨he,grown_of hb⟩
theorem cmpLaysV (blk off size:Nat) (w:World):CmpLays1 Tryz.prog 95 #[] (encF 63) cfV blk off size w:=fun _ _ _ _ x y=>closureV x y _
theorem Tryz.cmpOk:CmpOk2 Tryz.prog Tryz.cmpIds:={
  enters:=fun args W=>Tryz.call94 args W
  tiny:=fun p c W=>by
    have h:=AnyF.slices_SortFunc_none (P:=Tryz.prog) (ρ:=Tryz.sortL_ren) { Tryz.sortL with } p c (.func (.func 95) #[] #[]) W
    exact h
  sorts:=fun blk off c d W h1 h2 hH hblk=>by
    have hS:=Any.slices_SortFunc_total Tryz.sortL (encF 63) (fun _=>rfl) cfV swoV 95 #[] blk off c d W (fun args W=>Tryz.call95 args W) (cmpLaysV blk off d.size W) hH hblk (Nat.lt_of_le_of_lt h2 (by decide)) totV
    refine hS.mono ?_
    rintro e w' ⟨he,n,os,hw⟩
    refine ⟨he,n,os,?_⟩
    rw [hw]
    unfold sortWorld
    rfl }
theorem Tryz.toldT1 (N:Nat):ToldOk Tryz.prog N Tryz.T1:=toldSets_ok Tryz.cmpOk Tryz.toldT0c N
end Go.Proofs

namespace Go.Proofs
open Go Go.RowKit Go.Sim Go.ChangeShapes Go.WideShapes Go.ChangeAt
set_option maxRecDepth 100000
theorem Tryz.own:ownKnob Tryz.prog.godebug=none:=by kernel_rfl
theorem Tryz.laidOut:laidOutB Tryz.prog=true:=by kernel_rfl
theorem Tryz.und4:Tryz.prog.underlying 4=some .bool:=by kernel_rfl
end Go.Proofs
