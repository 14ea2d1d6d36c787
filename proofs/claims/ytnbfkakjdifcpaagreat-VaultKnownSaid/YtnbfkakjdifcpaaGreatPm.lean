/- Calls of the program's own check, run once each. -/
import Derived.Test.YtnbfkakjdifcpaaGreatPa
set_option linter.unusedVariables false
set_option linter.unusedSimpArgs false
namespace Go.Proofs
open Go Go.RowKit Go.Sim
set_option maxRecDepth 1000000
abbrev zi (n:Int):GDat:=.flat (.int .i64 n)
def Tryz.give0:GMemo:=⟨15,12,[.agg [.sl 3 3 [zi 0,zi 0,zi 0,zi 2,zi 0,zi 4,zi 1,zi 1,zi 0],.sl 3 3 [zi 0,zi 1,zi 1,.sl 1 1 [zi 1],zi 1,zi 2,zi 2,.sl 1 1 [zi 6],zi 0,zi 2,zi 1,.sl 1 1 [zi 8]],.sl 3 3 [zi 1,zi 2,zi 3]],zi 3],.tuple #[.int .i64 (7),.int .i64 (0)]⟩
theorem Tryz.give0_ok:GMemoOk Tryz.prog Tryz.give0:={
 enters:=fun args w=>Tryz.call15 args w
 flatVal:=by decide
 calls:=fun N σ w W hw args args' hm hr=>calls_give (F:=1000000) (told:=fun _ _ _=>none) Tryz.fits Tryz.mixed Tryz.told0 (n:=99) (k:=12) (ds:=Tryz.give0.ds) (by rfl) (by decide) (by decide +kernel) hw hm hr }
def Tryz.give1:GMemo:=⟨17,12,[.agg [.sl 3 3 [zi 0,zi 0,zi 0,zi 2,zi 0,zi 4,zi 1,zi 1,zi 0],.sl 3 3 [zi 0,zi 1,zi 1,.sl 1 1 [zi 1],zi 1,zi 2,zi 2,.sl 1 1 [zi 6],zi 0,zi 2,zi 1,.sl 1 1 [zi 8]],.sl 3 3 [zi 1,zi 2,zi 3]]],.int .i64 (0)⟩
theorem Tryz.give1_ok:GMemoOk Tryz.prog Tryz.give1:={
 enters:=fun args w=>Tryz.call17 args w
 flatVal:=by decide
 calls:=fun N σ w W hw args args' hm hr=>calls_give (F:=1000000) (told:=fun _ _ _=>none) Tryz.fits Tryz.mixed Tryz.told0 (n:=99) (k:=12) (ds:=Tryz.give1.ds) (by rfl) (by decide) (by decide +kernel) hw hm hr }
def Tryz.give2:GMemo:=⟨19,12,[.agg [.sl 3 3 [zi 0,zi 0,zi 0,zi 2,zi 0,zi 4,zi 1,zi 1,zi 0],.sl 3 3 [zi 0,zi 1,zi 1,.sl 1 1 [zi 1],zi 1,zi 2,zi 2,.sl 1 1 [zi 6],zi 0,zi 2,zi 1,.sl 1 1 [zi 8]],.sl 3 3 [zi 1,zi 2,zi 3]],zi 1,zi 3],.tuple #[.bool true,.int .i64 (0)]⟩
theorem Tryz.give2_ok:GMemoOk Tryz.prog Tryz.give2:={
 enters:=fun args w=>Tryz.call19 args w
 flatVal:=by decide
 calls:=fun N σ w W hw args args' hm hr=>calls_give (F:=1000000) (told:=fun _ _ _=>none) Tryz.fits Tryz.mixed Tryz.told0 (n:=99) (k:=12) (ds:=Tryz.give2.ds) (by rfl) (by decide) (by decide +kernel) hw hm hr }
def Tryz.give3:GMemo:=⟨31,12,[.agg [.sl 3 3 [zi 0,zi 0,zi 0,zi 2,zi 0,zi 4,zi 1,zi 1,zi 0],.sl 3 3 [zi 0,zi 1,zi 1,.sl 1 1 [zi 1],zi 1,zi 2,zi 2,.sl 1 1 [zi 6],zi 0,zi 2,zi 1,.sl 1 1 [zi 8]],.sl 3 3 [zi 1,zi 2,zi 3]],.sl 3 3 [zi 5,zi 1,zi 7,zi 1,zi 0,zi 1,zi 10,zi 3,zi 6,zi 2,zi 7,zi 2,zi 1,zi 2,zi 0,zi 0,zi 8,zi 3,zi 7,zi 0,zi 0,zi 1,zi 10,zi 0]],.tuple #[.agg #[.int .i64 (0),.int .i64 (0),.int .i64 (0),.int .i64 (0),.int .i64 (0),.int .i64 (0),.int .i64 (0),.int .i64 (0),.int .i64 (0),.int .i64 (0),.int .i64 (0),.int .i64 (0),.int .i64 (0),.int .i64 (0),.int .i64 (0),.int .i64 (0),.int .i64 (0),.int .i64 (0),.int .i64 (0),.int .i64 (0),.int .i64 (0),.int .i64 (0),.int .i64 (0),.int .i64 (0),.int .i64 (0),.int .i64 (0),.int .i64 (0),.int .i64 (0),.int .i64 (0),.int .i64 (0),.int .i64 (0),.int .i64 (0),.int .i64 (0),.int .i64 (0),.int .i64 (0),.int .i64 (2),.int .i64 (10),.int .i64 (3),.int .i64 (0),.int .i64 (1),.int .i64 (0),.int .i64 (0),.int .i64 (0),.int .i64 (0),.int .i64 (0),.int .i64 (0),.int .i64 (0),.int .i64 (0),.int .i64 (0),.int .i64 (0),.int .i64 (0),.int .i64 (0),.int .i64 (0),.int .i64 (0),.int .i64 (0),.int .i64 (0),.int .i64 (0),.int .i64 (0),.int .i64 (0),.int .i64 (0),.int .i64 (0),.int .i64 (0),.int .i64 (0),.int .i64 (0),.int .i64 (0),.int .i64 (0),.int .i64 (0),.int .i64 (0),.int .i64 (0),.int .i64 (0),.int .i64 (0),.int .i64 (0),.int .i64 (0),.int .i64 (0),.int .i64 (0),.int .i64 (0),.int .i64 (0),.int .i64 (0),.int .i64 (0),.int .i64 (0),.int .i64 (0),.int .i64 (0),.int .i64 (0),.int .i64 (0),.int .i64 (0),.int .i64 (0),.int .i64 (0),.int .i64 (0),.int .i64 (0),.int .i64 (0),.int .i64 (0),.int .i64 (0),.int .i64 (0),.int .i64 (0),.int .i64 (0),.int .i64 (0),.int .i64 (0),.int .i64 (0),.int .i64 (0),.int .i64 (0),.int .i64 (0),.int .i64 (0),.int .i64 (0),.int .i64 (0),.int .i64 (0),.int .i64 (0),.int .i64 (0),.int .i64 (0),.int .i64 (0),.int .i64 (0),.int .i64 (0),.int .i64 (0),.int .i64 (0),.int .i64 (0),.int .i64 (0),.int .i64 (0),.int .i64 (0),.int .i64 (0),.int .i64 (0),.int .i64 (0),.int .i64 (0),.int .i64 (0),.int .i64 (0),.int .i64 (0),.int .i64 (0),.int .i64 (0),.int .i64 (0),.int .i64 (0),.int .i64 (0),.int .i64 (0),.int .i64 (0),.int .i64 (0),.int .i64 (0),.int .i64 (0),.int .i64 (0),.int .i64 (0),.int .i64 (0),.int .i64 (0),.int .i64 (0),.int .i64 (0),.int .i64 (0),.int .i64 (0),.int .i64 (0),.int .i64 (0),.int .i64 (0),.int .i64 (0),.int .i64 (0),.int .i64 (0),.int .i64 (0),.int .i64 (0),.int .i64 (0),.int .i64 (0),.int .i64 (0),.int .i64 (0),.int .i64 (0),.int .i64 (0),.int .i64 (0),.int .i64 (0),.int .i64 (0),.int .i64 (0)],.int .i64 (3),.int .i64 (0)]⟩
theorem Tryz.give3_ok:GMemoOk Tryz.prog Tryz.give3:={
 enters:=fun args w=>Tryz.call31 args w
 flatVal:=by decide
 calls:=fun N σ w W hw args args' hm hr=>calls_give (F:=1000000) (told:=fun _ _ _=>none) Tryz.fits Tryz.mixed Tryz.told0 (n:=99) (k:=12) (ds:=Tryz.give3.ds) (by rfl) (by decide) (by decide +kernel) hw hm hr }
def Tryz.give4:GMemo:=⟨33,12,[.agg [.sl 3 3 [zi 0,zi 0,zi 0,zi 2,zi 0,zi 4,zi 1,zi 1,zi 0],.sl 3 3 [zi 0,zi 1,zi 1,.sl 1 1 [zi 1],zi 1,zi 2,zi 2,.sl 1 1 [zi 6],zi 0,zi 2,zi 1,.sl 1 1 [zi 8]],.sl 3 3 [zi 1,zi 2,zi 3]],.sl 3 3 [zi 5,zi 1,zi 7,zi 1,zi 0,zi 1,zi 10,zi 3,zi 6,zi 2,zi 7,zi 2,zi 1,zi 2,zi 0,zi 0,zi 8,zi 3,zi 7,zi 0,zi 0,zi 1,zi 10,zi 0],zi 7,zi 5],.tuple #[.int .i64 (1),.int .i64 (0)]⟩
theorem Tryz.give4_ok:GMemoOk Tryz.prog Tryz.give4:={
 enters:=fun args w=>Tryz.call33 args w
 flatVal:=by decide
 calls:=fun N σ w W hw args args' hm hr=>calls_give (F:=1000000) (told:=fun _ _ _=>none) Tryz.fits Tryz.mixed Tryz.told0 (n:=99) (k:=12) (ds:=Tryz.give4.ds) (by rfl) (by decide) (by decide +kernel) hw hm hr }
def Tryz.give5:GMemo:=⟨58,12,[.agg [.sl 3 3 [zi 0,zi 0,zi 0,zi 2,zi 0,zi 4,zi 1,zi 1,zi 0],.sl 3 3 [zi 0,zi 1,zi 1,.sl 1 1 [zi 1],zi 1,zi 2,zi 2,.sl 1 1 [zi 6],zi 0,zi 2,zi 1,.sl 1 1 [zi 8]],.sl 3 3 [zi 1,zi 2,zi 3]],zi 1],.int .i64 (0)⟩
theorem Tryz.give5_ok:GMemoOk Tryz.prog Tryz.give5:={
 enters:=fun args w=>Tryz.call58 args w
 flatVal:=by decide
 calls:=fun N σ w W hw args args' hm hr=>calls_give (F:=1000000) (told:=fun _ _ _=>none) Tryz.fits Tryz.mixed Tryz.told0 (n:=99) (k:=12) (ds:=Tryz.give5.ds) (by rfl) (by decide) (by decide +kernel) hw hm hr }
def Tryz.give6:GMemo:=⟨58,12,[.agg [.sl 3 3 [zi 0,zi 0,zi 0,zi 2,zi 0,zi 4,zi 1,zi 1,zi 0],.sl 3 3 [zi 0,zi 1,zi 1,.sl 1 1 [zi 1],zi 1,zi 2,zi 2,.sl 1 1 [zi 6],zi 0,zi 2,zi 1,.sl 1 1 [zi 8]],.sl 3 3 [zi 1,zi 2,zi 3]],zi 2],.int .i64 (0)⟩
theorem Tryz.give6_ok:GMemoOk Tryz.prog Tryz.give6:={
 enters:=fun args w=>Tryz.call58 args w
 flatVal:=by decide
 calls:=fun N σ w W hw args args' hm hr=>calls_give (F:=1000000) (told:=fun _ _ _=>none) Tryz.fits Tryz.mixed Tryz.told0 (n:=99) (k:=12) (ds:=Tryz.give6.ds) (by rfl) (by decide) (by decide +kernel) hw hm hr }
def Tryz.give7:GMemo:=⟨67,12,[.agg [.sl 3 3 [zi 0,zi 0,zi 0,zi 2,zi 0,zi 4,zi 1,zi 1,zi 0],.sl 3 3 [zi 0,zi 1,zi 1,.sl 1 1 [zi 1],zi 1,zi 2,zi 2,.sl 1 1 [zi 6],zi 0,zi 2,zi 1,.sl 1 1 [zi 8]],.sl 3 3 [zi 1,zi 2,zi 3]],zi 0,zi 2],.bool false⟩
theorem Tryz.give7_ok:GMemoOk Tryz.prog Tryz.give7:={
 enters:=fun args w=>Tryz.call67 args w
 flatVal:=by decide
 calls:=fun N σ w W hw args args' hm hr=>calls_give (F:=1000000) (told:=fun _ _ _=>none) Tryz.fits Tryz.mixed Tryz.told0 (n:=99) (k:=12) (ds:=Tryz.give7.ds) (by rfl) (by decide) (by decide +kernel) hw hm hr }
def Tryz.give8:GMemo:=⟨67,12,[.agg [.sl 3 3 [zi 0,zi 0,zi 0,zi 2,zi 0,zi 4,zi 1,zi 1,zi 0],.sl 3 3 [zi 0,zi 1,zi 1,.sl 1 1 [zi 1],zi 1,zi 2,zi 2,.sl 1 1 [zi 6],zi 0,zi 2,zi 1,.sl 1 1 [zi 8]],.sl 3 3 [zi 1,zi 2,zi 3]],zi 0,zi 4],.bool false⟩
theorem Tryz.give8_ok:GMemoOk Tryz.prog Tryz.give8:={
 enters:=fun args w=>Tryz.call67 args w
 flatVal:=by decide
 calls:=fun N σ w W hw args args' hm hr=>calls_give (F:=1000000) (told:=fun _ _ _=>none) Tryz.fits Tryz.mixed Tryz.told0 (n:=99) (k:=12) (ds:=Tryz.give8.ds) (by rfl) (by decide) (by decide +kernel) hw hm hr }
def Tryz.give9:GMemo:=⟨67,12,[.agg [.sl 3 3 [zi 0,zi 0,zi 0,zi 2,zi 0,zi 4,zi 1,zi 1,zi 0],.sl 3 3 [zi 0,zi 1,zi 1,.sl 1 1 [zi 1],zi 1,zi 2,zi 2,.sl 1 1 [zi 6],zi 0,zi 2,zi 1,.sl 1 1 [zi 8]],.sl 3 3 [zi 1,zi 2,zi 3]],zi 0,zi 6],.bool false⟩
theorem Tryz.give9_ok:GMemoOk Tryz.prog Tryz.give9:={
 enters:=fun args w=>Tryz.call67 args w
 flatVal:=by decide
 calls:=fun N σ w W hw args args' hm hr=>calls_give (F:=1000000) (told:=fun _ _ _=>none) Tryz.fits Tryz.mixed Tryz.told0 (n:=99) (k:=12) (ds:=Tryz.give9.ds) (by rfl) (by decide) (by decide +kernel) hw hm hr }
def Tryz.give10:GMemo:=⟨67,12,[.agg [.sl 3 3 [zi 0,zi 0,zi 0,zi 2,zi 0,zi 4,zi 1,zi 1,zi 0],.sl 3 3 [zi 0,zi 1,zi 1,.sl 1 1 [zi 1],zi 1,zi 2,zi 2,.sl 1 1 [zi 6],zi 0,zi 2,zi 1,.sl 1 1 [zi 8]],.sl 3 3 [zi 1,zi 2,zi 3]],zi 1,zi 2],.bool true⟩
theorem Tryz.give10_ok:GMemoOk Tryz.prog Tryz.give10:={
 enters:=fun args w=>Tryz.call67 args w
 flatVal:=by decide
 calls:=fun N σ w W hw args args' hm hr=>calls_give (F:=1000000) (told:=fun _ _ _=>none) Tryz.fits Tryz.mixed Tryz.told0 (n:=99) (k:=12) (ds:=Tryz.give10.ds) (by rfl) (by decide) (by decide +kernel) hw hm hr }
def Tryz.give11:GMemo:=⟨67,12,[.agg [.sl 3 3 [zi 0,zi 0,zi 0,zi 2,zi 0,zi 4,zi 1,zi 1,zi 0],.sl 3 3 [zi 0,zi 1,zi 1,.sl 1 1 [zi 1],zi 1,zi 2,zi 2,.sl 1 1 [zi 6],zi 0,zi 2,zi 1,.sl 1 1 [zi 8]],.sl 3 3 [zi 1,zi 2,zi 3]],zi 1,zi 4],.bool false⟩
theorem Tryz.give11_ok:GMemoOk Tryz.prog Tryz.give11:={
 enters:=fun args w=>Tryz.call67 args w
 flatVal:=by decide
 calls:=fun N σ w W hw args args' hm hr=>calls_give (F:=1000000) (told:=fun _ _ _=>none) Tryz.fits Tryz.mixed Tryz.told0 (n:=99) (k:=12) (ds:=Tryz.give11.ds) (by rfl) (by decide) (by decide +kernel) hw hm hr }
def Tryz.give12:GMemo:=⟨67,12,[.agg [.sl 3 3 [zi 0,zi 0,zi 0,zi 2,zi 0,zi 4,zi 1,zi 1,zi 0],.sl 3 3 [zi 0,zi 1,zi 1,.sl 1 1 [zi 1],zi 1,zi 2,zi 2,.sl 1 1 [zi 6],zi 0,zi 2,zi 1,.sl 1 1 [zi 8]],.sl 3 3 [zi 1,zi 2,zi 3]],zi 1,zi 6],.bool true⟩
theorem Tryz.give12_ok:GMemoOk Tryz.prog Tryz.give12:={
 enters:=fun args w=>Tryz.call67 args w
 flatVal:=by decide
 calls:=fun N σ w W hw args args' hm hr=>calls_give (F:=1000000) (told:=fun _ _ _=>none) Tryz.fits Tryz.mixed Tryz.told0 (n:=99) (k:=12) (ds:=Tryz.give12.ds) (by rfl) (by decide) (by decide +kernel) hw hm hr }
def Tryz.give13:GMemo:=⟨67,12,[.agg [.sl 3 3 [zi 0,zi 0,zi 0,zi 2,zi 0,zi 4,zi 1,zi 1,zi 0],.sl 3 3 [zi 0,zi 1,zi 1,.sl 1 1 [zi 1],zi 1,zi 2,zi 2,.sl 1 1 [zi 6],zi 0,zi 2,zi 1,.sl 1 1 [zi 8]],.sl 3 3 [zi 1,zi 2,zi 3]],zi 2,zi 2],.bool false⟩
theorem Tryz.give13_ok:GMemoOk Tryz.prog Tryz.give13:={
 enters:=fun args w=>Tryz.call67 args w
 flatVal:=by decide
 calls:=fun N σ w W hw args args' hm hr=>calls_give (F:=1000000) (told:=fun _ _ _=>none) Tryz.fits Tryz.mixed Tryz.told0 (n:=99) (k:=12) (ds:=Tryz.give13.ds) (by rfl) (by decide) (by decide +kernel) hw hm hr }
def Tryz.give14:GMemo:=⟨67,12,[.agg [.sl 3 3 [zi 0,zi 0,zi 0,zi 2,zi 0,zi 4,zi 1,zi 1,zi 0],.sl 3 3 [zi 0,zi 1,zi 1,.sl 1 1 [zi 1],zi 1,zi 2,zi 2,.sl 1 1 [zi 6],zi 0,zi 2,zi 1,.sl 1 1 [zi 8]],.sl 3 3 [zi 1,zi 2,zi 3]],zi 2,zi 4],.bool false⟩
theorem Tryz.give14_ok:GMemoOk Tryz.prog Tryz.give14:={
 enters:=fun args w=>Tryz.call67 args w
 flatVal:=by decide
 calls:=fun N σ w W hw args args' hm hr=>calls_give (F:=1000000) (told:=fun _ _ _=>none) Tryz.fits Tryz.mixed Tryz.told0 (n:=99) (k:=12) (ds:=Tryz.give14.ds) (by rfl) (by decide) (by decide +kernel) hw hm hr }
def Tryz.give15:GMemo:=⟨67,12,[.agg [.sl 3 3 [zi 0,zi 0,zi 0,zi 2,zi 0,zi 4,zi 1,zi 1,zi 0],.sl 3 3 [zi 0,zi 1,zi 1,.sl 1 1 [zi 1],zi 1,zi 2,zi 2,.sl 1 1 [zi 6],zi 0,zi 2,zi 1,.sl 1 1 [zi 8]],.sl 3 3 [zi 1,zi 2,zi 3]],zi 2,zi 6],.bool false⟩
theorem Tryz.give15_ok:GMemoOk Tryz.prog Tryz.give15:={
 enters:=fun args w=>Tryz.call67 args w
 flatVal:=by decide
 calls:=fun N σ w W hw args args' hm hr=>calls_give (F:=1000000) (told:=fun _ _ _=>none) Tryz.fits Tryz.mixed Tryz.told0 (n:=99) (k:=12) (ds:=Tryz.give15.ds) (by rfl) (by decide) (by decide +kernel) hw hm hr }
def Tryz.give16:GMemo:=⟨67,12,[.agg [.sl 3 3 [zi 0,zi 0,zi 0,zi 2,zi 0,zi 4,zi 1,zi 1,zi 0],.sl 3 3 [zi 0,zi 1,zi 1,.sl 1 1 [zi 1],zi 1,zi 2,zi 2,.sl 1 1 [zi 6],zi 0,zi 2,zi 1,.sl 1 1 [zi 8]],.sl 3 3 [zi 1,zi 2,zi 3]],zi 3,zi 2],.bool true⟩
theorem Tryz.give16_ok:GMemoOk Tryz.prog Tryz.give16:={
 enters:=fun args w=>Tryz.call67 args w
 flatVal:=by decide
 calls:=fun N σ w W hw args args' hm hr=>calls_give (F:=1000000) (told:=fun _ _ _=>none) Tryz.fits Tryz.mixed Tryz.told0 (n:=99) (k:=12) (ds:=Tryz.give16.ds) (by rfl) (by decide) (by decide +kernel) hw hm hr }
def Tryz.give17:GMemo:=⟨67,12,[.agg [.sl 3 3 [zi 0,zi 0,zi 0,zi 2,zi 0,zi 4,zi 1,zi 1,zi 0],.sl 3 3 [zi 0,zi 1,zi 1,.sl 1 1 [zi 1],zi 1,zi 2,zi 2,.sl 1 1 [zi 6],zi 0,zi 2,zi 1,.sl 1 1 [zi 8]],.sl 3 3 [zi 1,zi 2,zi 3]],zi 3,zi 4],.bool true⟩
theorem Tryz.give17_ok:GMemoOk Tryz.prog Tryz.give17:={
 enters:=fun args w=>Tryz.call67 args w
 flatVal:=by decide
 calls:=fun N σ w W hw args args' hm hr=>calls_give (F:=1000000) (told:=fun _ _ _=>none) Tryz.fits Tryz.mixed Tryz.told0 (n:=99) (k:=12) (ds:=Tryz.give17.ds) (by rfl) (by decide) (by decide +kernel) hw hm hr }
def Tryz.give18:GMemo:=⟨67,12,[.agg [.sl 3 3 [zi 0,zi 0,zi 0,zi 2,zi 0,zi 4,zi 1,zi 1,zi 0],.sl 3 3 [zi 0,zi 1,zi 1,.sl 1 1 [zi 1],zi 1,zi 2,zi 2,.sl 1 1 [zi 6],zi 0,zi 2,zi 1,.sl 1 1 [zi 8]],.sl 3 3 [zi 1,zi 2,zi 3]],zi 3,zi 6],.bool true⟩
theorem Tryz.give18_ok:GMemoOk Tryz.prog Tryz.give18:={
 enters:=fun args w=>Tryz.call67 args w
 flatVal:=by decide
 calls:=fun N σ w W hw args args' hm hr=>calls_give (F:=1000000) (told:=fun _ _ _=>none) Tryz.fits Tryz.mixed Tryz.told0 (n:=99) (k:=12) (ds:=Tryz.give18.ds) (by rfl) (by decide) (by decide +kernel) hw hm hr }
def Tryz.give19:GMemo:=⟨67,12,[.agg [.sl 3 3 [zi 0,zi 0,zi 0,zi 2,zi 0,zi 4,zi 1,zi 1,zi 0],.sl 3 3 [zi 0,zi 1,zi 1,.sl 1 1 [zi 1],zi 1,zi 2,zi 2,.sl 1 1 [zi 6],zi 0,zi 2,zi 1,.sl 1 1 [zi 8]],.sl 3 3 [zi 1,zi 2,zi 3]],zi 4,zi 2],.bool true⟩
theorem Tryz.give19_ok:GMemoOk Tryz.prog Tryz.give19:={
 enters:=fun args w=>Tryz.call67 args w
 flatVal:=by decide
 calls:=fun N σ w W hw args args' hm hr=>calls_give (F:=1000000) (told:=fun _ _ _=>none) Tryz.fits Tryz.mixed Tryz.told0 (n:=99) (k:=12) (ds:=Tryz.give19.ds) (by rfl) (by decide) (by decide +kernel) hw hm hr }
def Tryz.give20:GMemo:=⟨67,12,[.agg [.sl 3 3 [zi 0,zi 0,zi 0,zi 2,zi 0,zi 4,zi 1,zi 1,zi 0],.sl 3 3 [zi 0,zi 1,zi 1,.sl 1 1 [zi 1],zi 1,zi 2,zi 2,.sl 1 1 [zi 6],zi 0,zi 2,zi 1,.sl 1 1 [zi 8]],.sl 3 3 [zi 1,zi 2,zi 3]],zi 4,zi 4],.bool false⟩
theorem Tryz.give20_ok:GMemoOk Tryz.prog Tryz.give20:={
 enters:=fun args w=>Tryz.call67 args w
 flatVal:=by decide
 calls:=fun N σ w W hw args args' hm hr=>calls_give (F:=1000000) (told:=fun _ _ _=>none) Tryz.fits Tryz.mixed Tryz.told0 (n:=99) (k:=12) (ds:=Tryz.give20.ds) (by rfl) (by decide) (by decide +kernel) hw hm hr }
def Tryz.give21:GMemo:=⟨67,12,[.agg [.sl 3 3 [zi 0,zi 0,zi 0,zi 2,zi 0,zi 4,zi 1,zi 1,zi 0],.sl 3 3 [zi 0,zi 1,zi 1,.sl 1 1 [zi 1],zi 1,zi 2,zi 2,.sl 1 1 [zi 6],zi 0,zi 2,zi 1,.sl 1 1 [zi 8]],.sl 3 3 [zi 1,zi 2,zi 3]],zi 4,zi 6],.bool true⟩
theorem Tryz.give21_ok:GMemoOk Tryz.prog Tryz.give21:={
 enters:=fun args w=>Tryz.call67 args w
 flatVal:=by decide
 calls:=fun N σ w W hw args args' hm hr=>calls_give (F:=1000000) (told:=fun _ _ _=>none) Tryz.fits Tryz.mixed Tryz.told0 (n:=99) (k:=12) (ds:=Tryz.give21.ds) (by rfl) (by decide) (by decide +kernel) hw hm hr }
def Tryz.give22:GMemo:=⟨67,12,[.agg [.sl 3 3 [zi 0,zi 0,zi 0,zi 2,zi 0,zi 4,zi 1,zi 1,zi 0],.sl 3 3 [zi 0,zi 1,zi 1,.sl 1 1 [zi 1],zi 1,zi 2,zi 2,.sl 1 1 [zi 6],zi 0,zi 2,zi 1,.sl 1 1 [zi 8]],.sl 3 3 [zi 1,zi 2,zi 3]],zi 5,zi 2],.bool true⟩
theorem Tryz.give22_ok:GMemoOk Tryz.prog Tryz.give22:={
 enters:=fun args w=>Tryz.call67 args w
 flatVal:=by decide
 calls:=fun N σ w W hw args args' hm hr=>calls_give (F:=1000000) (told:=fun _ _ _=>none) Tryz.fits Tryz.mixed Tryz.told0 (n:=99) (k:=12) (ds:=Tryz.give22.ds) (by rfl) (by decide) (by decide +kernel) hw hm hr }
def Tryz.give23:GMemo:=⟨67,12,[.agg [.sl 3 3 [zi 0,zi 0,zi 0,zi 2,zi 0,zi 4,zi 1,zi 1,zi 0],.sl 3 3 [zi 0,zi 1,zi 1,.sl 1 1 [zi 1],zi 1,zi 2,zi 2,.sl 1 1 [zi 6],zi 0,zi 2,zi 1,.sl 1 1 [zi 8]],.sl 3 3 [zi 1,zi 2,zi 3]],zi 5,zi 4],.bool true⟩
theorem Tryz.give23_ok:GMemoOk Tryz.prog Tryz.give23:={
 enters:=fun args w=>Tryz.call67 args w
 flatVal:=by decide
 calls:=fun N σ w W hw args args' hm hr=>calls_give (F:=1000000) (told:=fun _ _ _=>none) Tryz.fits Tryz.mixed Tryz.told0 (n:=99) (k:=12) (ds:=Tryz.give23.ds) (by rfl) (by decide) (by decide +kernel) hw hm hr }
def Tryz.give24:GMemo:=⟨67,12,[.agg [.sl 3 3 [zi 0,zi 0,zi 0,zi 2,zi 0,zi 4,zi 1,zi 1,zi 0],.sl 3 3 [zi 0,zi 1,zi 1,.sl 1 1 [zi 1],zi 1,zi 2,zi 2,.sl 1 1 [zi 6],zi 0,zi 2,zi 1,.sl 1 1 [zi 8]],.sl 3 3 [zi 1,zi 2,zi 3]],zi 5,zi 6],.bool true⟩
theorem Tryz.give24_ok:GMemoOk Tryz.prog Tryz.give24:={
 enters:=fun args w=>Tryz.call67 args w
 flatVal:=by decide
 calls:=fun N σ w W hw args args' hm hr=>calls_give (F:=1000000) (told:=fun _ _ _=>none) Tryz.fits Tryz.mixed Tryz.told0 (n:=99) (k:=12) (ds:=Tryz.give24.ds) (by rfl) (by decide) (by decide +kernel) hw hm hr }
def Tryz.give25:GMemo:=⟨67,12,[.agg [.sl 3 3 [zi 0,zi 0,zi 0,zi 2,zi 0,zi 4,zi 1,zi 1,zi 0],.sl 3 3 [zi 0,zi 1,zi 1,.sl 1 1 [zi 1],zi 1,zi 2,zi 2,.sl 1 1 [zi 6],zi 0,zi 2,zi 1,.sl 1 1 [zi 8]],.sl 3 3 [zi 1,zi 2,zi 3]],zi 6,zi 2],.bool true⟩
theorem Tryz.give25_ok:GMemoOk Tryz.prog Tryz.give25:={
 enters:=fun args w=>Tryz.call67 args w
 flatVal:=by decide
 calls:=fun N σ w W hw args args' hm hr=>calls_give (F:=1000000) (told:=fun _ _ _=>none) Tryz.fits Tryz.mixed Tryz.told0 (n:=99) (k:=12) (ds:=Tryz.give25.ds) (by rfl) (by decide) (by decide +kernel) hw hm hr }
def Tryz.give26:GMemo:=⟨67,12,[.agg [.sl 3 3 [zi 0,zi 0,zi 0,zi 2,zi 0,zi 4,zi 1,zi 1,zi 0],.sl 3 3 [zi 0,zi 1,zi 1,.sl 1 1 [zi 1],zi 1,zi 2,zi 2,.sl 1 1 [zi 6],zi 0,zi 2,zi 1,.sl 1 1 [zi 8]],.sl 3 3 [zi 1,zi 2,zi 3]],zi 6,zi 4],.bool true⟩
theorem Tryz.give26_ok:GMemoOk Tryz.prog Tryz.give26:={
 enters:=fun args w=>Tryz.call67 args w
 flatVal:=by decide
 calls:=fun N σ w W hw args args' hm hr=>calls_give (F:=1000000) (told:=fun _ _ _=>none) Tryz.fits Tryz.mixed Tryz.told0 (n:=99) (k:=12) (ds:=Tryz.give26.ds) (by rfl) (by decide) (by decide +kernel) hw hm hr }
def Tryz.give27:GMemo:=⟨67,12,[.agg [.sl 3 3 [zi 0,zi 0,zi 0,zi 2,zi 0,zi 4,zi 1,zi 1,zi 0],.sl 3 3 [zi 0,zi 1,zi 1,.sl 1 1 [zi 1],zi 1,zi 2,zi 2,.sl 1 1 [zi 6],zi 0,zi 2,zi 1,.sl 1 1 [zi 8]],.sl 3 3 [zi 1,zi 2,zi 3]],zi 6,zi 6],.bool true⟩
theorem Tryz.give27_ok:GMemoOk Tryz.prog Tryz.give27:={
 enters:=fun args w=>Tryz.call67 args w
 flatVal:=by decide
 calls:=fun N σ w W hw args args' hm hr=>calls_give (F:=1000000) (told:=fun _ _ _=>none) Tryz.fits Tryz.mixed Tryz.told0 (n:=99) (k:=12) (ds:=Tryz.give27.ds) (by rfl) (by decide) (by decide +kernel) hw hm hr }
def Tryz.give28:GMemo:=⟨67,12,[.agg [.sl 3 3 [zi 0,zi 0,zi 0,zi 2,zi 0,zi 4,zi 1,zi 1,zi 0],.sl 3 3 [zi 0,zi 1,zi 1,.sl 1 1 [zi 1],zi 1,zi 2,zi 2,.sl 1 1 [zi 6],zi 0,zi 2,zi 1,.sl 1 1 [zi 8]],.sl 3 3 [zi 1,zi 2,zi 3]],zi 7,zi 2],.bool true⟩
theorem Tryz.give28_ok:GMemoOk Tryz.prog Tryz.give28:={
 enters:=fun args w=>Tryz.call67 args w
 flatVal:=by decide
 calls:=fun N σ w W hw args args' hm hr=>calls_give (F:=1000000) (told:=fun _ _ _=>none) Tryz.fits Tryz.mixed Tryz.told0 (n:=99) (k:=12) (ds:=Tryz.give28.ds) (by rfl) (by decide) (by decide +kernel) hw hm hr }
def Tryz.give29:GMemo:=⟨67,12,[.agg [.sl 3 3 [zi 0,zi 0,zi 0,zi 2,zi 0,zi 4,zi 1,zi 1,zi 0],.sl 3 3 [zi 0,zi 1,zi 1,.sl 1 1 [zi 1],zi 1,zi 2,zi 2,.sl 1 1 [zi 6],zi 0,zi 2,zi 1,.sl 1 1 [zi 8]],.sl 3 3 [zi 1,zi 2,zi 3]],zi 7,zi 4],.bool true⟩
theorem Tryz.give29_ok:GMemoOk Tryz.prog Tryz.give29:={
 enters:=fun args w=>Tryz.call67 args w
 flatVal:=by decide
 calls:=fun N σ w W hw args args' hm hr=>calls_give (F:=1000000) (told:=fun _ _ _=>none) Tryz.fits Tryz.mixed Tryz.told0 (n:=99) (k:=12) (ds:=Tryz.give29.ds) (by rfl) (by decide) (by decide +kernel) hw hm hr }
def Tryz.give30:GMemo:=⟨67,12,[.agg [.sl 3 3 [zi 0,zi 0,zi 0,zi 2,zi 0,zi 4,zi 1,zi 1,zi 0],.sl 3 3 [zi 0,zi 1,zi 1,.sl 1 1 [zi 1],zi 1,zi 2,zi 2,.sl 1 1 [zi 6],zi 0,zi 2,zi 1,.sl 1 1 [zi 8]],.sl 3 3 [zi 1,zi 2,zi 3]],zi 7,zi 6],.bool true⟩
theorem Tryz.give30_ok:GMemoOk Tryz.prog Tryz.give30:={
 enters:=fun args w=>Tryz.call67 args w
 flatVal:=by decide
 calls:=fun N σ w W hw args args' hm hr=>calls_give (F:=1000000) (told:=fun _ _ _=>none) Tryz.fits Tryz.mixed Tryz.told0 (n:=99) (k:=12) (ds:=Tryz.give30.ds) (by rfl) (by decide) (by decide +kernel) hw hm hr }
def Tryz.give31:GMemo:=⟨103,12,[.agg [.sl 3 3 [zi 0,zi 0,zi 0,zi 2,zi 0,zi 4,zi 1,zi 1,zi 0],.sl 3 3 [zi 0,zi 1,zi 1,.sl 1 1 [zi 1],zi 1,zi 2,zi 2,.sl 1 1 [zi 6],zi 0,zi 2,zi 1,.sl 1 1 [zi 8]],.sl 3 3 [zi 1,zi 2,zi 3]],.sl 2 3 [zi 5,zi 1,zi 7,zi 1,zi 0,zi 1,zi 10,zi 3,zi 6,zi 2,zi 7,zi 2,zi 1,zi 2,zi 0,zi 0,zi 8,zi 3,zi 7,zi 0,zi 0,zi 1,zi 10,zi 0]],.bool true⟩
theorem Tryz.give31_ok:GMemoOk Tryz.prog Tryz.give31:={
 enters:=fun args w=>Tryz.call103 args w
 flatVal:=by decide
 calls:=fun N σ w W hw args args' hm hr=>calls_give (F:=1000000) (told:=fun _ _ _=>none) Tryz.fits Tryz.mixed Tryz.told0 (n:=99) (k:=12) (ds:=Tryz.give31.ds) (by rfl) (by decide) (by decide +kernel) hw hm hr }
def Tryz.give32:GMemo:=⟨111,12,[.agg [.sl 3 3 [zi 0,zi 0,zi 0,zi 2,zi 0,zi 4,zi 1,zi 1,zi 0],.sl 3 3 [zi 0,zi 1,zi 1,.sl 1 1 [zi 1],zi 1,zi 2,zi 2,.sl 1 1 [zi 6],zi 0,zi 2,zi 1,.sl 1 1 [zi 8]],.sl 3 3 [zi 1,zi 2,zi 3],zi 3,zi 1],.agg [zi 0,zi 1,zi 1,.sl 1 1 [zi 1]]],.bool true⟩
theorem Tryz.give32_ok:GMemoOk Tryz.prog Tryz.give32:={
 enters:=fun args w=>Tryz.call111 args w
 flatVal:=by decide
 calls:=fun N σ w W hw args args' hm hr=>calls_give (F:=1000000) (told:=fun _ _ _=>none) Tryz.fits Tryz.mixed Tryz.told0 (n:=99) (k:=12) (ds:=Tryz.give32.ds) (by rfl) (by decide) (by decide +kernel) hw hm hr }
def Tryz.give33:GMemo:=⟨111,12,[.agg [.sl 3 3 [zi 0,zi 0,zi 0,zi 2,zi 0,zi 4,zi 1,zi 1,zi 0],.sl 3 3 [zi 0,zi 1,zi 1,.sl 1 1 [zi 1],zi 1,zi 2,zi 2,.sl 1 1 [zi 6],zi 0,zi 2,zi 1,.sl 1 1 [zi 8]],.sl 3 3 [zi 1,zi 2,zi 3],zi 3,zi 1],.agg [zi 0,zi 2,zi 1,.sl 1 1 [zi 8]]],.bool false⟩
theorem Tryz.give33_ok:GMemoOk Tryz.prog Tryz.give33:={
 enters:=fun args w=>Tryz.call111 args w
 flatVal:=by decide
 calls:=fun N σ w W hw args args' hm hr=>calls_give (F:=1000000) (told:=fun _ _ _=>none) Tryz.fits Tryz.mixed Tryz.told0 (n:=99) (k:=12) (ds:=Tryz.give33.ds) (by rfl) (by decide) (by decide +kernel) hw hm hr }
def Tryz.give34:GMemo:=⟨111,12,[.agg [.sl 3 3 [zi 0,zi 0,zi 0,zi 2,zi 0,zi 4,zi 1,zi 1,zi 0],.sl 3 3 [zi 0,zi 1,zi 1,.sl 1 1 [zi 1],zi 1,zi 2,zi 2,.sl 1 1 [zi 6],zi 0,zi 2,zi 1,.sl 1 1 [zi 8]],.sl 3 3 [zi 1,zi 2,zi 3],zi 3,zi 3],.agg [zi 1,zi 2,zi 2,.sl 1 1 [zi 6]]],.bool true⟩
theorem Tryz.give34_ok:GMemoOk Tryz.prog Tryz.give34:={
 enters:=fun args w=>Tryz.call111 args w
 flatVal:=by decide
 calls:=fun N σ w W hw args args' hm hr=>calls_give (F:=1000000) (told:=fun _ _ _=>none) Tryz.fits Tryz.mixed Tryz.told0 (n:=99) (k:=12) (ds:=Tryz.give34.ds) (by rfl) (by decide) (by decide +kernel) hw hm hr }
def Tryz.gives:List GMemo:=[Tryz.give0,Tryz.give1,Tryz.give2,Tryz.give3,Tryz.give4,Tryz.give5,Tryz.give6,Tryz.give7,Tryz.give8,Tryz.give9,Tryz.give10,Tryz.give11,Tryz.give12,Tryz.give13,Tryz.give14,Tryz.give15,Tryz.give16,Tryz.give17,Tryz.give18,Tryz.give19,Tryz.give20,Tryz.give21,Tryz.give22,Tryz.give23,Tryz.give24,Tryz.give25,Tryz.give26,Tryz.give27,Tryz.give28,Tryz.give29,Tryz.give30,Tryz.give31,Tryz.give32,Tryz.give33,Tryz.give34]
theorem Tryz.gives_ok:GMemosOk Tryz.prog Tryz.gives:=.cons Tryz.give0_ok (.cons Tryz.give1_ok (.cons Tryz.give2_ok (.cons Tryz.give3_ok (.cons Tryz.give4_ok (.cons Tryz.give5_ok (.cons Tryz.give6_ok (.cons Tryz.give7_ok (.cons Tryz.give8_ok (.cons Tryz.give9_ok (.cons Tryz.give10_ok (.cons Tryz.give11_ok (.cons Tryz.give12_ok (.cons Tryz.give13_ok (.cons Tryz.give14_ok (.cons Tryz.give15_ok (.cons Tryz.give16_ok (.cons Tryz.give17_ok (.cons Tryz.give18_ok (.cons Tryz.give19_ok (.cons Tryz.give20_ok (.cons Tryz.give21_ok (.cons Tryz.give22_ok (.cons Tryz.give23_ok (.cons Tryz.give24_ok (.cons Tryz.give25_ok (.cons Tryz.give26_ok (.cons Tryz.give27_ok (.cons Tryz.give28_ok (.cons Tryz.give29_ok (.cons Tryz.give30_ok (.cons Tryz.give31_ok (.cons Tryz.give32_ok (.cons Tryz.give33_ok (.cons Tryz.give34_ok (.nil)))))))))))))))))))))))))))))))))))
end Go.Proofs
