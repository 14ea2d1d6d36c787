/- The stripped code of the papers' functions on loans. -/
import Derived.Test.YtdbeiefgokocnaaGreatTa
import Derived.Test.YtdbeiefgokocnaaGreatNa
import Derived.Test.YtdbeiefgokocnaaGreatNb
set_option linter.unusedVariables false
set_option linter.unusedSimpArgs false
/- Functions' code, as the machine reads it. -/
namespace Go.Proofs
open Go Go.RowKit Go.Sim
set_option maxRecDepth 100000
def Tryz.s45 : SC :=
 (.seq
  (.ops false [
    ⟨⟨(some 4), .assign (.const (.int .i64 0)), 3, "", ⟨[]⟩, none⟩, none, false⟩])
  (.seq
   (.ops false [
     ⟨⟨(some 6), .move (.tmp 0), 3, "", ⟨[]⟩, none⟩, none, false⟩,
     ⟨⟨(some 7), .move (.tmp 1), 3, "", ⟨[]⟩, none⟩, none, false⟩,
     ⟨⟨(some 8), .binOp .quo 3 (.tmp 6) (.tmp 7) 3, 3, "", ⟨[]⟩, none⟩, none, false⟩,
     ⟨⟨(some 5), .assign (.tmp 8), 3, "", ⟨[]⟩, none⟩, none, false⟩])
   (.seq
    (.seq
     (.ops false [
       ⟨⟨(some 9), .move (.tmp 5), 3, "", ⟨[]⟩, none⟩, none, false⟩,
       ⟨⟨(some 10), .move (.tmp 1), 3, "", ⟨[]⟩, none⟩, none, false⟩,
       ⟨⟨(some 11), .binOp .mul 3 (.tmp 9) (.tmp 10) 3, 3, "", ⟨[]⟩, none⟩, none, false⟩,
       ⟨⟨(some 12), .move (.tmp 0), 3, "", ⟨[]⟩, none⟩, none, false⟩,
       ⟨⟨(some 13), .binOp .gtr 3 (.tmp 11) (.tmp 12) 3, 4, "", ⟨[]⟩, none⟩, none, false⟩])
     (.cond (.tmp 13)
      (.ops false [
        ⟨⟨(some 14), .move (.tmp 5), 3, "", ⟨[]⟩, none⟩, none, false⟩,
        ⟨⟨(some 15), .binOp .sub 3 (.tmp 14) (.const (.int .i64 1)) 3, 3, "", ⟨[]⟩, none⟩, none, false⟩,
        ⟨⟨(some 5), .assign (.tmp 15), 3, "", ⟨[]⟩, none⟩, none, false⟩])
      .skip))
    (.seq
     (.ops false [
       ⟨⟨(some 16), .move (.tmp 5), 3, "", ⟨[]⟩, none⟩, none, false⟩,
       ⟨⟨(some 4), .assign (.tmp 16), 3, "", ⟨[]⟩, none⟩, none, false⟩])
     .ret))))
def Tryz.s26 : SC :=
 (.seq
  (.ops false [
    ⟨⟨(some 2), .assign (.const (.int .i64 0)), 3, "", ⟨[]⟩, none⟩, none, false⟩])
  (.seq
   (.ops true [
     ⟨⟨(some 3), .move (.tmp 0), 47, "", ⟨[]⟩, none⟩, none, true⟩,
     ⟨⟨(some 4), .nilCheck (.tmp 3), 0, "", ⟨[]⟩, none⟩, none, true⟩,
     ⟨⟨(some 5), .fieldAddr 93 (.tmp 4) 5, 0, "", ⟨[]⟩, none⟩, none, true⟩,
     ⟨⟨(some 6), .load 3 (.tmp 5), 3, "", ⟨[]⟩, none⟩, none, true⟩,
     ⟨⟨(some 7), .move (.tmp 0), 47, "", ⟨[]⟩, none⟩, none, true⟩,
     ⟨⟨(some 8), .nilCheck (.tmp 7), 0, "", ⟨[]⟩, none⟩, none, true⟩,
     ⟨⟨(some 9), .fieldAddr 93 (.tmp 8) 0, 0, "", ⟨[]⟩, none⟩, none, true⟩,
     ⟨⟨(some 10), .fieldAddr 28 (.tmp 9) 0, 0, "", ⟨[]⟩, none⟩, none, true⟩,
     ⟨⟨(some 11), .fieldAddr 23 (.tmp 10) 0, 0, "", ⟨[]⟩, none⟩, none, true⟩,
     ⟨⟨(some 12), .load 3 (.tmp 11), 3, "", ⟨[]⟩, none⟩, none, true⟩,
     ⟨⟨(some 13), .binOp .mul 3 (.tmp 6) (.tmp 12) 3, 3, "", ⟨[]⟩, none⟩, none, true⟩,
     ⟨⟨(some 15), .move (.tmp 0), 47, "", ⟨[]⟩, none⟩, none, true⟩,
     ⟨⟨(some 16), .nilCheck (.tmp 15), 0, "", ⟨[]⟩, none⟩, none, true⟩,
     ⟨⟨(some 17), .fieldAddr 93 (.tmp 16) 0, 0, "", ⟨[]⟩, none⟩, none, true⟩,
     ⟨⟨(some 18), .fieldAddr 28 (.tmp 17) 4, 0, "", ⟨[]⟩, none⟩, none, true⟩,
     ⟨⟨(some 19), .load 3 (.tmp 18), 3, "", ⟨[]⟩, none⟩, none, true⟩,
     ⟨⟨(some 20), .move (.tmp 0), 47, "", ⟨[]⟩, none⟩, none, true⟩,
     ⟨⟨(some 21), .nilCheck (.tmp 20), 0, "", ⟨[]⟩, none⟩, none, true⟩,
     ⟨⟨(some 22), .fieldAddr 93 (.tmp 21) 0, 0, "", ⟨[]⟩, none⟩, none, true⟩,
     ⟨⟨(some 23), .fieldAddr 28 (.tmp 22) 0, 0, "", ⟨[]⟩, none⟩, none, true⟩,
     ⟨⟨(some 24), .fieldAddr 23 (.tmp 23) 1, 0, "", ⟨[]⟩, none⟩, none, true⟩,
     ⟨⟨(some 25), .load 3 (.tmp 24), 3, "", ⟨[]⟩, none⟩, none, true⟩,
     ⟨⟨(some 26), .binOp .mul 3 (.tmp 19) (.tmp 25) 3, 3, "", ⟨[]⟩, none⟩, none, true⟩,
     ⟨⟨(some 14), .call ⟨.value (.func 45), ⟨[(.tmp 13), (.const (.int .i64 1000000))]⟩, ⟨[3, 3]⟩⟩, 3, "", ⟨[]⟩, none⟩, none, true⟩,
     ⟨⟨(some 27), .call ⟨.value (.func 45), ⟨[(.tmp 26), (.const (.int .i64 64))]⟩, ⟨[3, 3]⟩⟩, 3, "", ⟨[]⟩, none⟩, none, false⟩,
     ⟨⟨(some 28), .call ⟨.builtin .min, ⟨[(.tmp 14), (.tmp 27)]⟩, ⟨[3, 3]⟩⟩, 3, "", ⟨[]⟩, none⟩, none, true⟩,
     ⟨⟨(some 2), .assign (.tmp 28), 3, "", ⟨[]⟩, none⟩, none, true⟩])
   .ret))
def Tryz.s44 : SC :=
 (.seq
  (.ops false [
    ⟨⟨(some 2), .assign (.const (.int .i64 0)), 3, "", ⟨[]⟩, none⟩, none, false⟩])
  (.seq
   (.ops true [
     ⟨⟨(some 3), .move (.tmp 0), 47, "", ⟨[]⟩, none⟩, none, true⟩,
     ⟨⟨(some 4), .nilCheck (.tmp 3), 0, "", ⟨[]⟩, none⟩, none, true⟩,
     ⟨⟨(some 5), .fieldAddr 93 (.tmp 4) 4, 0, "", ⟨[]⟩, none⟩, none, true⟩,
     ⟨⟨(some 6), .load 3 (.tmp 5), 3, "", ⟨[]⟩, none⟩, none, true⟩,
     ⟨⟨(some 7), .move (.tmp 0), 47, "", ⟨[]⟩, none⟩, none, true⟩,
     ⟨⟨(some 8), .nilCheck (.tmp 7), 0, "", ⟨[]⟩, none⟩, none, true⟩,
     ⟨⟨(some 9), .fieldAddr 93 (.tmp 8) 0, 0, "", ⟨[]⟩, none⟩, none, true⟩,
     ⟨⟨(some 10), .fieldAddr 28 (.tmp 9) 1, 0, "", ⟨[]⟩, none⟩, none, true⟩,
     ⟨⟨(some 11), .fieldAddr 25 (.tmp 10) 0, 0, "", ⟨[]⟩, none⟩, none, true⟩,
     ⟨⟨(some 12), .load 3 (.tmp 11), 3, "", ⟨[]⟩, none⟩, none, true⟩,
     ⟨⟨(some 13), .binOp .mul 3 (.tmp 6) (.tmp 12) 3, 3, "", ⟨[]⟩, none⟩, none, true⟩,
     ⟨⟨(some 15), .move (.tmp 0), 47, "", ⟨[]⟩, none⟩, none, true⟩,
     ⟨⟨(some 16), .nilCheck (.tmp 15), 0, "", ⟨[]⟩, none⟩, none, true⟩,
     ⟨⟨(some 17), .fieldAddr 93 (.tmp 16) 6, 0, "", ⟨[]⟩, none⟩, none, true⟩,
     ⟨⟨(some 18), .load 3 (.tmp 17), 3, "", ⟨[]⟩, none⟩, none, true⟩,
     ⟨⟨(some 19), .move (.tmp 0), 47, "", ⟨[]⟩, none⟩, none, true⟩,
     ⟨⟨(some 20), .nilCheck (.tmp 19), 0, "", ⟨[]⟩, none⟩, none, true⟩,
     ⟨⟨(some 21), .fieldAddr 93 (.tmp 20) 0, 0, "", ⟨[]⟩, none⟩, none, true⟩,
     ⟨⟨(some 22), .fieldAddr 28 (.tmp 21) 1, 0, "", ⟨[]⟩, none⟩, none, true⟩,
     ⟨⟨(some 23), .fieldAddr 25 (.tmp 22) 2, 0, "", ⟨[]⟩, none⟩, none, true⟩,
     ⟨⟨(some 24), .load 3 (.tmp 23), 3, "", ⟨[]⟩, none⟩, none, true⟩,
     ⟨⟨(some 25), .binOp .mul 3 (.tmp 18) (.tmp 24) 3, 3, "", ⟨[]⟩, none⟩, none, true⟩,
     ⟨⟨(some 27), .move (.tmp 0), 47, "", ⟨[]⟩, none⟩, none, true⟩,
     ⟨⟨(some 14), .call ⟨.value (.func 45), ⟨[(.tmp 13), (.const (.int .i64 1000000))]⟩, ⟨[3, 3]⟩⟩, 3, "", ⟨[]⟩, none⟩, none, true⟩,
     ⟨⟨(some 26), .binOp .add 3 (.tmp 14) (.tmp 25) 3, 3, "", ⟨[]⟩, none⟩, none, true⟩,
     ⟨⟨(some 28), .call ⟨.value (.func 26), ⟨[(.tmp 27)]⟩, ⟨[47]⟩⟩, 3, "", ⟨[]⟩, none⟩, none, true⟩,
     ⟨⟨(some 29), .call ⟨.builtin .min, ⟨[(.tmp 26), (.tmp 28)]⟩, ⟨[3, 3]⟩⟩, 3, "", ⟨[]⟩, none⟩, none, true⟩,
     ⟨⟨(some 2), .assign (.tmp 29), 3, "", ⟨[]⟩, none⟩, none, true⟩])
   .ret))
def Tryz.s24 : SC :=
 (.seq
  (.ops false [
    ⟨⟨(some 2), .alloc 37, 0, "", ⟨[]⟩, none⟩, none, false⟩])
  (.seq
   (.ops false [
     ⟨⟨(some 4), .move (.tmp 0), 47, "", ⟨[]⟩, none⟩, none, false⟩,
     ⟨⟨(some 5), .nilCheck (.tmp 4), 0, "", ⟨[]⟩, none⟩, none, false⟩,
     ⟨⟨(some 6), .fieldAddr 93 (.tmp 5) 1, 0, "", ⟨[]⟩, none⟩, none, false⟩,
     ⟨⟨(some 7), .load 37 (.tmp 6), 37, "", ⟨[]⟩, none⟩, none, false⟩,
     ⟨⟨(some 3), .alloc 37, 0, "", ⟨[]⟩, none⟩, none, false⟩,
     ⟨⟨none, .store 37 (.tmp 3) (.tmp 7), 0, "", ⟨[]⟩, none⟩, none, false⟩])
   (.seq
    (.ops false [
      ⟨⟨(some 8), .move (.tmp 0), 47, "", ⟨[]⟩, none⟩, none, false⟩,
      ⟨⟨(some 9), .call ⟨.value (.func 44), ⟨[(.tmp 8)]⟩, ⟨[47]⟩⟩, 3, "", ⟨[]⟩, none⟩, none, false⟩,
      ⟨⟨(some 10), .fieldAddr 37 (.tmp 3) 1, 0, "", ⟨[]⟩, none⟩, none, false⟩,
      ⟨⟨none, .store 3 (.tmp 10) (.tmp 9), 0, "", ⟨[]⟩, none⟩, none, false⟩])
    (.seq
     (.ops false [
       ⟨⟨(some 11), .load 37 (.tmp 3), 37, "", ⟨[]⟩, none⟩, none, false⟩,
       ⟨⟨none, .store 37 (.tmp 2) (.tmp 11), 0, "", ⟨[]⟩, none⟩, none, false⟩])
     .ret))))
def Tryz.s41 : SC :=
 (.seq
  (.ops false [
    ⟨⟨(some 1), .box 28 (.tmp 0), 0, "", ⟨[]⟩, none⟩, none, false⟩,
    ⟨⟨(some 2), .assign (.const (.pointer none)), 47, "", ⟨[]⟩, none⟩, none, false⟩])
  (.seq
   (.ops false [
     ⟨⟨(some 3), .load 28 (.tmp 1), 28, "", ⟨[]⟩, none⟩, none, false⟩,
     ⟨⟨(some 4), .fieldAddr 28 (.tmp 1) 4, 0, "", ⟨[]⟩, none⟩, none, false⟩,
     ⟨⟨(some 5), .load 3 (.tmp 4), 3, "", ⟨[]⟩, none⟩, none, false⟩,
     ⟨⟨(some 6), .build 37 ⟨[(0, (.tmp 5)), (4, (.const (.bool true)))]⟩, 37, "", ⟨[]⟩, none⟩, none, false⟩,
     ⟨⟨(some 7), .fieldAddr 28 (.tmp 1) 3, 0, "", ⟨[]⟩, none⟩, none, false⟩,
     ⟨⟨(some 8), .load 3 (.tmp 7), 3, "", ⟨[]⟩, none⟩, none, false⟩,
     ⟨⟨(some 9), .build 93 ⟨[(0, (.tmp 3)), (1, (.tmp 6)), (2, (.tmp 8))]⟩, 93, "", ⟨[]⟩, none⟩, none, false⟩,
     ⟨⟨(some 10), .box 93 (.tmp 9), 47, "", ⟨[]⟩, none⟩, none, false⟩,
     ⟨⟨(some 2), .assign (.tmp 10), 47, "", ⟨[]⟩, none⟩, none, false⟩])
   .ret))
def Tryz.s43 : SC :=
 (.block 0
  (.loop
   (.seq
    (.seq
     (.ops false [
       ⟨⟨(some 5), .move (.tmp 0), 47, "", ⟨[]⟩, none⟩, none, false⟩,
       ⟨⟨(some 6), .nilCheck (.tmp 5), 0, "", ⟨[]⟩, none⟩, none, false⟩,
       ⟨⟨(some 7), .fieldAddr 93 (.tmp 6) 2, 0, "", ⟨[]⟩, none⟩, none, false⟩,
       ⟨⟨(some 8), .load 3 (.tmp 7), 3, "", ⟨[]⟩, none⟩, none, false⟩,
       ⟨⟨(some 9), .move (.tmp 1), 3, "", ⟨[]⟩, none⟩, none, false⟩,
       ⟨⟨(some 10), .binOp .lss 3 (.tmp 8) (.tmp 9) 3, 4, "", ⟨[]⟩, none⟩, none, false⟩])
     (.cond (.tmp 10)
      .skip
      (.exit 0)))
    (.block 1
     (.seq
      (.ops false [
        ⟨⟨(some 11), .move (.tmp 0), 47, "", ⟨[]⟩, none⟩, none, false⟩,
        ⟨⟨(some 12), .nilCheck (.tmp 11), 0, "", ⟨[]⟩, none⟩, none, false⟩,
        ⟨⟨(some 13), .fieldAddr 93 (.tmp 12) 2, 0, "", ⟨[]⟩, none⟩, none, false⟩,
        ⟨⟨(some 14), .load 3 (.tmp 13), 3, "", ⟨[]⟩, none⟩, none, false⟩,
        ⟨⟨(some 15), .binOp .add 3 (.tmp 14) (.const (.int .i64 1)) 3, 3, "", ⟨[]⟩, none⟩, none, false⟩,
        ⟨⟨(some 16), .nilCheck (.tmp 11), 0, "", ⟨[]⟩, none⟩, none, false⟩,
        ⟨⟨(some 17), .fieldAddr 93 (.tmp 16) 2, 0, "", ⟨[]⟩, none⟩, none, false⟩,
        ⟨⟨none, .store 3 (.tmp 17) (.tmp 15), 0, "", ⟨[]⟩, none⟩, none, false⟩])
      (.seq
       (.seq
        (.ops true [
          ⟨⟨(some 18), .move (.tmp 0), 47, "", ⟨[]⟩, none⟩, none, true⟩,
          ⟨⟨(some 19), .nilCheck (.tmp 18), 0, "", ⟨[]⟩, none⟩, none, true⟩,
          ⟨⟨(some 20), .fieldAddr 93 (.tmp 19) 1, 0, "", ⟨[]⟩, none⟩, none, true⟩,
          ⟨⟨(some 21), .fieldAddr 37 (.tmp 20) 4, 0, "", ⟨[]⟩, none⟩, none, true⟩,
          ⟨⟨(some 22), .load 4 (.tmp 21), 4, "", ⟨[]⟩, none⟩, none, true⟩,
          ⟨⟨(some 23), .unOp .not 4 (.tmp 22), 4, "", ⟨[]⟩, none⟩, none, true⟩,
          ⟨⟨(some 24), .move (.tmp 23), 4, "", ⟨[]⟩, none⟩, none, true⟩,
          ⟨⟨(some 25), .move (.tmp 0), 47, "", ⟨[]⟩, none⟩, some ((some 24), false), true⟩,
          ⟨⟨(some 26), .nilCheck (.tmp 25), 0, "", ⟨[]⟩, none⟩, some ((some 24), false), true⟩,
          ⟨⟨(some 27), .fieldAddr 93 (.tmp 26) 2, 0, "", ⟨[]⟩, none⟩, some ((some 24), false), true⟩,
          ⟨⟨(some 28), .load 3 (.tmp 27), 3, "", ⟨[]⟩, none⟩, some ((some 24), false), true⟩,
          ⟨⟨(some 29), .move (.tmp 0), 47, "", ⟨[]⟩, none⟩, some ((some 24), false), true⟩,
          ⟨⟨(some 30), .nilCheck (.tmp 29), 0, "", ⟨[]⟩, none⟩, some ((some 24), false), true⟩,
          ⟨⟨(some 31), .fieldAddr 93 (.tmp 30) 7, 0, "", ⟨[]⟩, none⟩, some ((some 24), false), true⟩,
          ⟨⟨(some 32), .load 3 (.tmp 31), 3, "", ⟨[]⟩, none⟩, some ((some 24), false), true⟩,
          ⟨⟨(some 33), .binOp .leq 3 (.tmp 28) (.tmp 32) 3, 4, "", ⟨[]⟩, none⟩, some ((some 24), false), true⟩,
          ⟨⟨(some 34), .pick (.tmp 24) (.const (.bool true)) (.tmp 33), 4, "", ⟨[]⟩, none⟩, none, true⟩,
          ⟨⟨(some 35), .move (.tmp 34), 4, "", ⟨[]⟩, none⟩, none, true⟩,
          ⟨⟨(some 36), .move (.tmp 0), 47, "", ⟨[]⟩, none⟩, some ((some 35), false), true⟩,
          ⟨⟨(some 37), .nilCheck (.tmp 36), 0, "", ⟨[]⟩, none⟩, some ((some 35), false), true⟩,
          ⟨⟨(some 38), .fieldAddr 93 (.tmp 37) 0, 0, "", ⟨[]⟩, none⟩, some ((some 35), false), true⟩,
          ⟨⟨(some 39), .fieldAddr 28 (.tmp 38) 2, 0, "", ⟨[]⟩, none⟩, some ((some 35), false), true⟩,
          ⟨⟨(some 40), .load 26 (.tmp 39), 26, "", ⟨[]⟩, none⟩, some ((some 35), false), true⟩,
          ⟨⟨(some 41), .move (.tmp 0), 47, "", ⟨[]⟩, none⟩, some ((some 35), false), true⟩,
          ⟨⟨(some 42), .nilCheck (.tmp 41), 0, "", ⟨[]⟩, none⟩, some ((some 35), false), true⟩,
          ⟨⟨(some 43), .fieldAddr 93 (.tmp 42) 2, 0, "", ⟨[]⟩, none⟩, some ((some 35), false), true⟩,
          ⟨⟨(some 44), .load 3 (.tmp 43), 3, "", ⟨[]⟩, none⟩, some ((some 35), false), true⟩,
          ⟨⟨(some 45), .call ⟨.value (.func 62), ⟨[(.tmp 40), (.tmp 44)]⟩, ⟨[26, 3]⟩⟩, 3, "", ⟨[]⟩, none⟩, some ((some 35), false), false⟩,
          ⟨⟨(some 46), .binOp .geq 3 (.tmp 45) (.const (.int .i64 0)) 3, 4, "", ⟨[]⟩, none⟩, some ((some 35), false), true⟩,
          ⟨⟨(some 47), .pick (.tmp 35) (.const (.bool true)) (.tmp 46), 4, "", ⟨[]⟩, none⟩, none, true⟩])
        (.cond (.tmp 47)
         (.exit 1)
         .skip))
       (.seq
        (.ops false [
          ⟨⟨(some 48), .move (.tmp 0), 47, "", ⟨[]⟩, none⟩, none, false⟩,
          ⟨⟨(some 49), .nilCheck (.tmp 48), 0, "", ⟨[]⟩, none⟩, none, false⟩,
          ⟨⟨(some 50), .fieldAddr 93 (.tmp 49) 3, 0, "", ⟨[]⟩, none⟩, none, false⟩,
          ⟨⟨(some 51), .load 3 (.tmp 50), 3, "", ⟨[]⟩, none⟩, none, false⟩,
          ⟨⟨(some 52), .binOp .add 3 (.tmp 51) (.const (.int .i64 1)) 3, 3, "", ⟨[]⟩, none⟩, none, false⟩,
          ⟨⟨(some 53), .nilCheck (.tmp 48), 0, "", ⟨[]⟩, none⟩, none, false⟩,
          ⟨⟨(some 54), .fieldAddr 93 (.tmp 53) 3, 0, "", ⟨[]⟩, none⟩, none, false⟩,
          ⟨⟨none, .store 3 (.tmp 54) (.tmp 52), 0, "", ⟨[]⟩, none⟩, none, false⟩])
        (.seq
         (.ops false [
           ⟨⟨(some 55), .move (.tmp 0), 47, "", ⟨[]⟩, none⟩, none, false⟩,
           ⟨⟨(some 56), .nilCheck (.tmp 55), 0, "", ⟨[]⟩, none⟩, none, false⟩,
           ⟨⟨(some 57), .fieldAddr 93 (.tmp 56) 1, 0, "", ⟨[]⟩, none⟩, none, false⟩,
           ⟨⟨(some 58), .load 37 (.tmp 57), 37, "", ⟨[]⟩, none⟩, none, false⟩,
           ⟨⟨(some 4), .alloc 37, 0, "", ⟨[]⟩, none⟩, none, false⟩,
           ⟨⟨none, .store 37 (.tmp 4) (.tmp 58), 0, "", ⟨[]⟩, none⟩, none, false⟩])
         (.seq
          (.ops false [
            ⟨⟨(some 59), .fieldAddr 37 (.tmp 4) 3, 0, "", ⟨[]⟩, none⟩, none, false⟩,
            ⟨⟨(some 60), .load 3 (.tmp 59), 3, "", ⟨[]⟩, none⟩, none, false⟩,
            ⟨⟨(some 61), .binOp .add 3 (.tmp 60) (.const (.int .i64 1)) 3, 3, "", ⟨[]⟩, none⟩, none, false⟩,
            ⟨⟨(some 62), .fieldAddr 37 (.tmp 4) 3, 0, "", ⟨[]⟩, none⟩, none, false⟩,
            ⟨⟨none, .store 3 (.tmp 62) (.tmp 61), 0, "", ⟨[]⟩, none⟩, none, false⟩])
          (.seq
           (.ops false [
             ⟨⟨(some 63), .move (.tmp 0), 47, "", ⟨[]⟩, none⟩, none, false⟩,
             ⟨⟨(some 64), .load 37 (.tmp 4), 37, "", ⟨[]⟩, none⟩, none, false⟩,
             ⟨⟨(some 65), .nilCheck (.tmp 63), 0, "", ⟨[]⟩, none⟩, none, false⟩,
             ⟨⟨(some 66), .fieldAddr 93 (.tmp 65) 1, 0, "", ⟨[]⟩, none⟩, none, false⟩,
             ⟨⟨none, .store 37 (.tmp 66) (.tmp 64), 0, "", ⟨[]⟩, none⟩, none, false⟩])
           (.seq
            (.ops true [
              ⟨⟨(some 67), .move (.tmp 0), 47, "", ⟨[]⟩, none⟩, none, true⟩,
              ⟨⟨(some 68), .nilCheck (.tmp 67), 0, "", ⟨[]⟩, none⟩, none, true⟩,
              ⟨⟨(some 69), .fieldAddr 93 (.tmp 68) 5, 0, "", ⟨[]⟩, none⟩, none, true⟩,
              ⟨⟨(some 70), .load 3 (.tmp 69), 3, "", ⟨[]⟩, none⟩, none, true⟩,
              ⟨⟨(some 71), .move (.tmp 0), 47, "", ⟨[]⟩, none⟩, none, true⟩,
              ⟨⟨(some 72), .nilCheck (.tmp 71), 0, "", ⟨[]⟩, none⟩, none, true⟩,
              ⟨⟨(some 73), .fieldAddr 93 (.tmp 72) 1, 0, "", ⟨[]⟩, none⟩, none, true⟩,
              ⟨⟨(some 74), .fieldAddr 37 (.tmp 73) 0, 0, "", ⟨[]⟩, none⟩, none, true⟩,
              ⟨⟨(some 75), .load 3 (.tmp 74), 3, "", ⟨[]⟩, none⟩, none, true⟩,
              ⟨⟨(some 76), .binOp .add 3 (.tmp 70) (.tmp 75) 3, 3, "", ⟨[]⟩, none⟩, none, true⟩,
              ⟨⟨(some 77), .nilCheck (.tmp 67), 0, "", ⟨[]⟩, none⟩, none, true⟩,
              ⟨⟨(some 78), .fieldAddr 93 (.tmp 77) 5, 0, "", ⟨[]⟩, none⟩, none, true⟩,
              ⟨⟨none, .store 3 (.tmp 78) (.tmp 76), 0, "", ⟨[]⟩, none⟩, none, false⟩])
            (.seq
             (.ops true [
               ⟨⟨(some 79), .move (.tmp 0), 47, "", ⟨[]⟩, none⟩, none, true⟩,
               ⟨⟨(some 80), .nilCheck (.tmp 79), 0, "", ⟨[]⟩, none⟩, none, true⟩,
               ⟨⟨(some 81), .fieldAddr 93 (.tmp 80) 3, 0, "", ⟨[]⟩, none⟩, none, true⟩,
               ⟨⟨(some 82), .load 3 (.tmp 81), 3, "", ⟨[]⟩, none⟩, none, true⟩,
               ⟨⟨(some 83), .move (.tmp 0), 47, "", ⟨[]⟩, none⟩, none, true⟩,
               ⟨⟨(some 84), .nilCheck (.tmp 83), 0, "", ⟨[]⟩, none⟩, none, true⟩,
               ⟨⟨(some 85), .fieldAddr 93 (.tmp 84) 0, 0, "", ⟨[]⟩, none⟩, none, true⟩,
               ⟨⟨(some 86), .fieldAddr 28 (.tmp 85) 1, 0, "", ⟨[]⟩, none⟩, none, true⟩,
               ⟨⟨(some 87), .fieldAddr 25 (.tmp 86) 1, 0, "", ⟨[]⟩, none⟩, none, true⟩,
               ⟨⟨(some 88), .load 3 (.tmp 87), 3, "", ⟨[]⟩, none⟩, none, true⟩,
               ⟨⟨(some 89), .binOp .gtr 3 (.tmp 82) (.tmp 88) 3, 4, "", ⟨[]⟩, none⟩, none, true⟩])
             (.cond (.tmp 89)
              (.ops true [
                ⟨⟨(some 90), .move (.tmp 0), 47, "", ⟨[]⟩, none⟩, none, true⟩,
                ⟨⟨(some 91), .nilCheck (.tmp 90), 0, "", ⟨[]⟩, none⟩, none, true⟩,
                ⟨⟨(some 92), .fieldAddr 93 (.tmp 91) 4, 0, "", ⟨[]⟩, none⟩, none, true⟩,
                ⟨⟨(some 93), .load 3 (.tmp 92), 3, "", ⟨[]⟩, none⟩, none, true⟩,
                ⟨⟨(some 94), .move (.tmp 0), 47, "", ⟨[]⟩, none⟩, none, true⟩,
                ⟨⟨(some 95), .nilCheck (.tmp 94), 0, "", ⟨[]⟩, none⟩, none, true⟩,
                ⟨⟨(some 96), .fieldAddr 93 (.tmp 95) 1, 0, "", ⟨[]⟩, none⟩, none, true⟩,
                ⟨⟨(some 97), .fieldAddr 37 (.tmp 96) 0, 0, "", ⟨[]⟩, none⟩, none, true⟩,
                ⟨⟨(some 98), .load 3 (.tmp 97), 3, "", ⟨[]⟩, none⟩, none, true⟩,
                ⟨⟨(some 99), .binOp .add 3 (.tmp 93) (.tmp 98) 3, 3, "", ⟨[]⟩, none⟩, none, true⟩,
                ⟨⟨(some 100), .nilCheck (.tmp 90), 0, "", ⟨[]⟩, none⟩, none, true⟩,
                ⟨⟨(some 101), .fieldAddr 93 (.tmp 100) 4, 0, "", ⟨[]⟩, none⟩, none, true⟩,
                ⟨⟨none, .store 3 (.tmp 101) (.tmp 99), 0, "", ⟨[]⟩, none⟩, none, false⟩])
              .skip)))))))))))))
def Tryz.s40 : SC :=
 (.seq
  (.ops false [
    ⟨⟨(some 2), .box 28 (.tmp 0), 0, "", ⟨[]⟩, none⟩, none, false⟩,
    ⟨⟨(some 4), .assign (.const (.bool false)), 4, "", ⟨[]⟩, none⟩, none, false⟩])
  (.seq
   (.ops false [
     ⟨⟨(some 8), .fieldAddr 28 (.tmp 2) 3, 0, "", ⟨[]⟩, none⟩, none, false⟩,
     ⟨⟨(some 9), .load 3 (.tmp 8), 3, "", ⟨[]⟩, none⟩, none, false⟩,
     ⟨⟨(some 5), .assign (.tmp 9), 3, "", ⟨[]⟩, none⟩, none, false⟩])
   (.seq
    (.seq
     (.ops false [
       ⟨⟨(some 6), .assign (.const (.int .i64 0)), 3, "", ⟨[]⟩, none⟩, none, false⟩])
     (.block 0
      (.loop
       (.seq
        (.seq
         (.ops false [
           ⟨⟨(some 10), .move (.tmp 6), 3, "", ⟨[]⟩, none⟩, none, false⟩,
           ⟨⟨(some 11), .move (.tmp 1), 29, "", ⟨[]⟩, none⟩, none, false⟩,
           ⟨⟨(some 12), .call ⟨.builtin .len, ⟨[(.tmp 11)]⟩, ⟨[29]⟩⟩, 3, "", ⟨[]⟩, none⟩, none, false⟩,
           ⟨⟨(some 13), .binOp .lss 3 (.tmp 10) (.tmp 12) 3, 4, "", ⟨[]⟩, none⟩, none, false⟩])
         (.cond (.tmp 13)
          .skip
          (.exit 0)))
        (.seq
         (.block 1
          (.seq
           (.ops false [
             ⟨⟨(some 16), .move (.tmp 1), 29, "", ⟨[]⟩, none⟩, none, false⟩,
             ⟨⟨(some 17), .move (.tmp 6), 3, "", ⟨[]⟩, none⟩, none, false⟩,
             ⟨⟨(some 18), .indexAddr 29 (.tmp 16) (.tmp 17), 0, "", ⟨[]⟩, none⟩, none, false⟩,
             ⟨⟨(some 19), .load 85 (.tmp 18), 85, "", ⟨[]⟩, none⟩, none, false⟩,
             ⟨⟨(some 7), .alloc 85, 0, "", ⟨[]⟩, none⟩, none, false⟩,
             ⟨⟨none, .store 85 (.tmp 7) (.tmp 19), 0, "", ⟨[]⟩, none⟩, none, false⟩])
           (.seq
            (.seq
             (.ops false [
               ⟨⟨(some 20), .move (.tmp 5), 3, "", ⟨[]⟩, none⟩, none, false⟩,
               ⟨⟨(some 21), .fieldAddr 85 (.tmp 7) 0, 0, "", ⟨[]⟩, none⟩, none, false⟩,
               ⟨⟨(some 22), .load 3 (.tmp 21), 3, "", ⟨[]⟩, none⟩, none, false⟩,
               ⟨⟨(some 23), .call ⟨.value (.func 21), ⟨[(.tmp 20), (.tmp 22), (.const (.int .i64 36500))]⟩, ⟨[3, 3, 3]⟩⟩, 4, "", ⟨[]⟩, none⟩, none, false⟩,
               ⟨⟨(some 24), .unOp .not 4 (.tmp 23), 4, "", ⟨[]⟩, none⟩, none, false⟩,
               ⟨⟨(some 25), .move (.tmp 24), 4, "", ⟨[]⟩, none⟩, none, false⟩,
               ⟨⟨(some 26), .move (.tmp 6), 3, "", ⟨[]⟩, none⟩, some ((some 25), false), false⟩,
               ⟨⟨(some 27), .binOp .gtr 3 (.tmp 26) (.const (.int .i64 0)) 3, 4, "", ⟨[]⟩, none⟩, some ((some 25), false), false⟩,
               ⟨⟨(some 28), .move (.tmp 27), 4, "", ⟨[]⟩, none⟩, some ((some 25), false), false⟩,
               ⟨⟨(some 29), .move (.tmp 1), 29, "", ⟨[]⟩, none⟩, some ((some 28), true), false⟩,
               ⟨⟨(some 30), .move (.tmp 6), 3, "", ⟨[]⟩, none⟩, some ((some 28), true), false⟩,
               ⟨⟨(some 31), .binOp .sub 3 (.tmp 30) (.const (.int .i64 1)) 3, 3, "", ⟨[]⟩, none⟩, some ((some 28), true), false⟩,
               ⟨⟨(some 32), .indexAddr 29 (.tmp 29) (.tmp 31), 0, "", ⟨[]⟩, none⟩, some ((some 28), true), false⟩,
               ⟨⟨(some 33), .fieldAddr 85 (.tmp 32) 1, 0, "", ⟨[]⟩, none⟩, some ((some 28), true), false⟩,
               ⟨⟨(some 34), .load 3 (.tmp 33), 3, "", ⟨[]⟩, none⟩, some ((some 28), true), false⟩,
               ⟨⟨(some 35), .binOp .eql 3 (.tmp 34) (.const (.int .i64 4)) 3, 4, "", ⟨[]⟩, none⟩, some ((some 28), true), false⟩,
               ⟨⟨(some 36), .pick (.tmp 28) (.tmp 35) (.const (.bool false)), 4, "", ⟨[]⟩, none⟩, some ((some 25), false), false⟩,
               ⟨⟨(some 37), .pick (.tmp 25) (.const (.bool true)) (.tmp 36), 4, "", ⟨[]⟩, none⟩, none, false⟩])
             (.cond (.tmp 37)
              (.seq
               (.ops false [
                 ⟨⟨(some 4), .assign (.const (.bool false)), 4, "", ⟨[]⟩, none⟩, none, false⟩])
               .ret)
              .skip))
            (.seq
             (.ops false [
               ⟨⟨(some 38), .fieldAddr 85 (.tmp 7) 0, 0, "", ⟨[]⟩, none⟩, none, false⟩,
               ⟨⟨(some 39), .load 3 (.tmp 38), 3, "", ⟨[]⟩, none⟩, none, false⟩,
               ⟨⟨(some 5), .assign (.tmp 39), 3, "", ⟨[]⟩, none⟩, none, false⟩])
             (.seq
              (.ops false [
                ⟨⟨(some 40), .fieldAddr 85 (.tmp 7) 1, 0, "", ⟨[]⟩, none⟩, none, false⟩,
                ⟨⟨(some 41), .load 3 (.tmp 40), 3, "", ⟨[]⟩, none⟩, none, false⟩])
              (.block 2
               (.seq
                (.ops false [
                  ⟨⟨(some 43), .binOp .eql 3 (.tmp 41) (.const (.int .i64 1)) 3, 4, "", ⟨[]⟩, none⟩, none, false⟩,
                  ⟨⟨(some 42), .assign (.tmp 43), 4, "", ⟨[]⟩, none⟩, none, false⟩])
                (.cond (.tmp 42)
                 (.seq
                  (.ops false [
                    ⟨⟨(some 44), .fieldAddr 85 (.tmp 7) 2, 0, "", ⟨[]⟩, none⟩, none, false⟩,
                    ⟨⟨(some 45), .load 3 (.tmp 44), 3, "", ⟨[]⟩, none⟩, none, false⟩,
                    ⟨⟨(some 46), .call ⟨.value (.func 21), ⟨[(.const (.int .i64 1)), (.tmp 45), (.const (.int .i64 1073741824))]⟩, ⟨[3, 3, 3]⟩⟩, 4, "", ⟨[]⟩, none⟩, none, false⟩,
                    ⟨⟨(some 47), .unOp .not 4 (.tmp 46), 4, "", ⟨[]⟩, none⟩, none, false⟩])
                  (.cond (.tmp 47)
                   (.seq
                    (.ops false [
                      ⟨⟨(some 4), .assign (.const (.bool false)), 4, "", ⟨[]⟩, none⟩, none, false⟩])
                    .ret)
                   .skip))
                 (.seq
                  (.ops false [
                    ⟨⟨(some 49), .binOp .eql 3 (.tmp 41) (.const (.int .i64 3)) 3, 4, "", ⟨[]⟩, none⟩, none, false⟩,
                    ⟨⟨(some 48), .assign (.tmp 49), 4, "", ⟨[]⟩, none⟩, none, false⟩])
                  (.cond (.tmp 48)
                   (.seq
                    (.ops false [
                      ⟨⟨(some 50), .fieldAddr 85 (.tmp 7) 2, 0, "", ⟨[]⟩, none⟩, none, false⟩,
                      ⟨⟨(some 51), .load 3 (.tmp 50), 3, "", ⟨[]⟩, none⟩, none, false⟩,
                      ⟨⟨(some 52), .call ⟨.value (.func 21), ⟨[(.const (.int .i64 1)), (.tmp 51), (.const (.int .i64 366))]⟩, ⟨[3, 3, 3]⟩⟩, 4, "", ⟨[]⟩, none⟩, none, false⟩,
                      ⟨⟨(some 53), .unOp .not 4 (.tmp 52), 4, "", ⟨[]⟩, none⟩, none, false⟩])
                    (.cond (.tmp 53)
                     (.seq
                      (.ops false [
                        ⟨⟨(some 4), .assign (.const (.bool false)), 4, "", ⟨[]⟩, none⟩, none, false⟩])
                      .ret)
                     .skip))
                   (.seq
                    (.seq
                     (.ops false [
                       ⟨⟨(some 55), .binOp .eql 3 (.tmp 41) (.const (.int .i64 2)) 3, 4, "", ⟨[]⟩, none⟩, none, false⟩,
                       ⟨⟨(some 54), .assign (.tmp 55), 4, "", ⟨[]⟩, none⟩, none, false⟩])
                     (.cond (.tmp 54)
                      .skip
                      (.ops false [
                        ⟨⟨(some 56), .binOp .eql 3 (.tmp 41) (.const (.int .i64 4)) 3, 4, "", ⟨[]⟩, none⟩, none, false⟩,
                        ⟨⟨(some 54), .assign (.tmp 56), 4, "", ⟨[]⟩, none⟩, none, false⟩])))
                    (.cond (.tmp 54)
                     (.seq
                      (.ops false [
                        ⟨⟨(some 57), .fieldAddr 85 (.tmp 7) 2, 0, "", ⟨[]⟩, none⟩, none, false⟩,
                        ⟨⟨(some 58), .load 3 (.tmp 57), 3, "", ⟨[]⟩, none⟩, none, false⟩,
                        ⟨⟨(some 59), .binOp .neq 3 (.tmp 58) (.const (.int .i64 0)) 3, 4, "", ⟨[]⟩, none⟩, none, false⟩])
                      (.cond (.tmp 59)
                       (.seq
                        (.ops false [
                          ⟨⟨(some 4), .assign (.const (.bool false)), 4, "", ⟨[]⟩, none⟩, none, false⟩])
                        .ret)
                       .skip))
                     (.seq
                      (.ops false [
                        ⟨⟨(some 4), .assign (.const (.bool false)), 4, "", ⟨[]⟩, none⟩, none, false⟩])
                      .ret)))))))))))))
         (.ops false [
           ⟨⟨(some 14), .move (.tmp 6), 3, "", ⟨[]⟩, none⟩, none, false⟩,
           ⟨⟨(some 15), .binOp .add 3 (.tmp 14) (.const (.int .i64 1)) 3, 3, "", ⟨[]⟩, none⟩, none, false⟩,
           ⟨⟨(some 6), .assign (.tmp 15), 3, "", ⟨[]⟩, none⟩, none, false⟩]))))))
    (.seq
     (.ops false [
       ⟨⟨(some 60), .move (.tmp 1), 29, "", ⟨[]⟩, none⟩, none, false⟩,
       ⟨⟨(some 61), .call ⟨.builtin .len, ⟨[(.tmp 60)]⟩, ⟨[29]⟩⟩, 3, "", ⟨[]⟩, none⟩, none, false⟩,
       ⟨⟨(some 62), .binOp .leq 3 (.tmp 61) (.const (.int .i64 32)) 3, 4, "", ⟨[]⟩, none⟩, none, false⟩,
       ⟨⟨(some 4), .assign (.tmp 62), 4, "", ⟨[]⟩, none⟩, none, false⟩])
     .ret))))
def Tryz.s15 : SC :=
 (.seq
  (.ops false [
    ⟨⟨(some 2), .box 28 (.tmp 0), 0, "", ⟨[]⟩, none⟩, none, false⟩,
    ⟨⟨(some 4), .assign (.const (.pointer none)), 47, "", ⟨[]⟩, none⟩, none, false⟩,
    ⟨⟨(some 5), .assign (.const (.slice none 0 0)), 30, "", ⟨[]⟩, none⟩, none, false⟩,
    ⟨⟨(some 6), .assign (.const (.int .i64 0)), 3, "", ⟨[]⟩, none⟩, none, false⟩,
    ⟨⟨(some 7), .assign (.const (.int .i64 0)), 31, "", ⟨[]⟩, none⟩, none, false⟩])
  (.seq
   (.seq
    (.ops false [
      ⟨⟨(some 13), .load 28 (.tmp 2), 28, "", ⟨[]⟩, none⟩, none, false⟩,
      ⟨⟨(some 14), .call ⟨.value (.func 8), ⟨[(.tmp 13)]⟩, ⟨[28]⟩⟩, 31, "", ⟨[]⟩, none⟩, none, false⟩,
      ⟨⟨(some 8), .assign (.tmp 14), 31, "", ⟨[]⟩, none⟩, none, false⟩])
    (.seq
     (.ops false [
       ⟨⟨(some 15), .move (.tmp 8), 31, "", ⟨[]⟩, none⟩, none, false⟩,
       ⟨⟨(some 16), .binOp .neq 31 (.tmp 15) (.const (.int .i64 0)) 31, 4, "", ⟨[]⟩, none⟩, none, false⟩])
     (.cond (.tmp 16)
      (.seq
       (.ops false [
         ⟨⟨(some 17), .move (.tmp 8), 31, "", ⟨[]⟩, none⟩, none, false⟩,
         ⟨⟨(some 4), .assign (.const (.pointer none)), 47, "", ⟨[]⟩, none⟩, none, false⟩,
         ⟨⟨(some 5), .assign (.const (.slice none 0 0)), 30, "", ⟨[]⟩, none⟩, none, false⟩,
         ⟨⟨(some 6), .assign (.const (.int .i64 0)), 3, "", ⟨[]⟩, none⟩, none, false⟩,
         ⟨⟨(some 7), .assign (.tmp 17), 31, "", ⟨[]⟩, none⟩, none, false⟩])
       .ret)
      .skip)))
   (.seq
    (.seq
     (.ops false [
       ⟨⟨(some 18), .load 28 (.tmp 2), 28, "", ⟨[]⟩, none⟩, none, false⟩,
       ⟨⟨(some 19), .move (.tmp 1), 29, "", ⟨[]⟩, none⟩, none, false⟩,
       ⟨⟨(some 20), .call ⟨.value (.func 40), ⟨[(.tmp 18), (.tmp 19)]⟩, ⟨[28, 29]⟩⟩, 4, "", ⟨[]⟩, none⟩, none, false⟩,
       ⟨⟨(some 21), .unOp .not 4 (.tmp 20), 4, "", ⟨[]⟩, none⟩, none, false⟩])
     (.cond (.tmp 21)
      (.seq
       (.ops false [
         ⟨⟨(some 4), .assign (.const (.pointer none)), 47, "", ⟨[]⟩, none⟩, none, false⟩,
         ⟨⟨(some 5), .assign (.const (.slice none 0 0)), 30, "", ⟨[]⟩, none⟩, none, false⟩,
         ⟨⟨(some 6), .assign (.const (.int .i64 0)), 3, "", ⟨[]⟩, none⟩, none, false⟩,
         ⟨⟨(some 7), .assign (.const (.int .i64 24)), 31, "", ⟨[]⟩, none⟩, none, false⟩])
       .ret)
      .skip))
    (.seq
     (.ops false [
       ⟨⟨(some 22), .load 28 (.tmp 2), 28, "", ⟨[]⟩, none⟩, none, false⟩,
       ⟨⟨(some 23), .call ⟨.value (.func 41), ⟨[(.tmp 22)]⟩, ⟨[28]⟩⟩, 47, "", ⟨[]⟩, none⟩, none, false⟩,
       ⟨⟨(some 9), .assign (.tmp 23), 47, "", ⟨[]⟩, none⟩, none, false⟩])
     (.seq
      (.ops false [
        ⟨⟨(some 10), .assign (.const (.slice none 0 0)), 30, "", ⟨[]⟩, none⟩, none, false⟩])
      (.seq
       (.seq
        (.ops false [
          ⟨⟨(some 11), .assign (.const (.int .i64 0)), 3, "", ⟨[]⟩, none⟩, none, false⟩])
        (.block 0
         (.loop
          (.seq
           (.seq
            (.ops false [
              ⟨⟨(some 24), .move (.tmp 11), 3, "", ⟨[]⟩, none⟩, none, false⟩,
              ⟨⟨(some 25), .move (.tmp 1), 29, "", ⟨[]⟩, none⟩, none, false⟩,
              ⟨⟨(some 26), .call ⟨.builtin .len, ⟨[(.tmp 25)]⟩, ⟨[29]⟩⟩, 3, "", ⟨[]⟩, none⟩, none, false⟩,
              ⟨⟨(some 27), .binOp .lss 3 (.tmp 24) (.tmp 26) 3, 4, "", ⟨[]⟩, none⟩, none, false⟩])
            (.cond (.tmp 27)
             .skip
             (.exit 0)))
           (.seq
            (.block 1
             (.seq
              (.seq
               (.ops false [
                 ⟨⟨(some 30), .move (.tmp 9), 47, "", ⟨[]⟩, none⟩, none, false⟩,
                 ⟨⟨(some 31), .move (.tmp 1), 29, "", ⟨[]⟩, none⟩, none, false⟩,
                 ⟨⟨(some 32), .move (.tmp 11), 3, "", ⟨[]⟩, none⟩, none, false⟩,
                 ⟨⟨(some 33), .indexAddr 29 (.tmp 31) (.tmp 32), 0, "", ⟨[]⟩, none⟩, none, false⟩,
                 ⟨⟨(some 34), .load 85 (.tmp 33), 85, "", ⟨[]⟩, none⟩, none, false⟩,
                 ⟨⟨(some 35), .call ⟨.value (.func 42), ⟨[(.tmp 30), (.tmp 34)]⟩, ⟨[47, 85]⟩⟩, 31, "", ⟨[]⟩, none⟩, none, false⟩,
                 ⟨⟨(some 12), .assign (.tmp 35), 31, "", ⟨[]⟩, none⟩, none, false⟩])
               (.seq
                (.ops false [
                  ⟨⟨(some 36), .move (.tmp 12), 31, "", ⟨[]⟩, none⟩, none, false⟩,
                  ⟨⟨(some 37), .binOp .neq 31 (.tmp 36) (.const (.int .i64 0)) 31, 4, "", ⟨[]⟩, none⟩, none, false⟩])
                (.cond (.tmp 37)
                 (.seq
                  (.ops false [
                    ⟨⟨(some 38), .move (.tmp 11), 3, "", ⟨[]⟩, none⟩, none, false⟩,
                    ⟨⟨(some 39), .move (.tmp 12), 31, "", ⟨[]⟩, none⟩, none, false⟩,
                    ⟨⟨(some 4), .assign (.const (.pointer none)), 47, "", ⟨[]⟩, none⟩, none, false⟩,
                    ⟨⟨(some 5), .assign (.const (.slice none 0 0)), 30, "", ⟨[]⟩, none⟩, none, false⟩,
                    ⟨⟨(some 6), .assign (.tmp 38), 3, "", ⟨[]⟩, none⟩, none, false⟩,
                    ⟨⟨(some 7), .assign (.tmp 39), 31, "", ⟨[]⟩, none⟩, none, false⟩])
                  .ret)
                 .skip)))
              (.ops false [
                ⟨⟨(some 40), .move (.tmp 10), 30, "", ⟨[]⟩, none⟩, none, false⟩,
                ⟨⟨(some 41), .move (.tmp 9), 47, "", ⟨[]⟩, none⟩, none, false⟩,
                ⟨⟨(some 42), .call ⟨.value (.func 24), ⟨[(.tmp 41)]⟩, ⟨[47]⟩⟩, 37, "", ⟨[]⟩, none⟩, none, false⟩,
                ⟨⟨(some 43), .buildSlice 30 1 ⟨[(0, (.tmp 42))]⟩, 30, "", ⟨[]⟩, none⟩, none, false⟩,
                ⟨⟨(some 44), .call ⟨.builtin .append, ⟨[(.tmp 40), (.tmp 43)]⟩, ⟨[30, 30]⟩⟩, 30, "", ⟨[]⟩, none⟩, none, false⟩,
                ⟨⟨(some 10), .assign (.tmp 44), 30, "", ⟨[]⟩, none⟩, none, false⟩])))
            (.ops false [
              ⟨⟨(some 28), .move (.tmp 11), 3, "", ⟨[]⟩, none⟩, none, false⟩,
              ⟨⟨(some 29), .binOp .add 3 (.tmp 28) (.const (.int .i64 1)) 3, 3, "", ⟨[]⟩, none⟩, none, false⟩,
              ⟨⟨(some 11), .assign (.tmp 29), 3, "", ⟨[]⟩, none⟩, none, false⟩]))))))
       (.seq
        (.ops false [
          ⟨⟨(some 45), .move (.tmp 9), 47, "", ⟨[]⟩, none⟩, none, false⟩,
          ⟨⟨(some 46), .move (.tmp 10), 30, "", ⟨[]⟩, none⟩, none, false⟩,
          ⟨⟨(some 47), .move (.tmp 1), 29, "", ⟨[]⟩, none⟩, none, false⟩,
          ⟨⟨(some 48), .call ⟨.builtin .len, ⟨[(.tmp 47)]⟩, ⟨[29]⟩⟩, 3, "", ⟨[]⟩, none⟩, none, false⟩,
          ⟨⟨(some 4), .assign (.tmp 45), 47, "", ⟨[]⟩, none⟩, none, false⟩,
          ⟨⟨(some 5), .assign (.tmp 46), 30, "", ⟨[]⟩, none⟩, none, false⟩,
          ⟨⟨(some 6), .assign (.tmp 48), 3, "", ⟨[]⟩, none⟩, none, false⟩,
          ⟨⟨(some 7), .assign (.const (.int .i64 0)), 31, "", ⟨[]⟩, none⟩, none, false⟩])
        .ret)))))))
def Tryz.s23 : SC :=
 (.seq
  (.ops false [
    ⟨⟨(some 3), .box 28 (.tmp 0), 0, "", ⟨[]⟩, none⟩, none, false⟩,
    ⟨⟨(some 6), .assign (.const (.pointer none)), 47, "", ⟨[]⟩, none⟩, none, false⟩,
    ⟨⟨(some 7), .assign (.const (.int .i64 0)), 31, "", ⟨[]⟩, none⟩, none, false⟩])
  (.seq
   (.ops false [
     ⟨⟨(some 13), .load 28 (.tmp 3), 28, "", ⟨[]⟩, none⟩, none, false⟩,
     ⟨⟨(some 14), .move (.tmp 1), 29, "", ⟨[]⟩, none⟩, none, false⟩,
     ⟨⟨(some 15), .call ⟨.value (.func 15), ⟨[(.tmp 13), (.tmp 14)]⟩, ⟨[28, 29]⟩⟩, 48, "", ⟨[]⟩, none⟩, none, false⟩,
     ⟨⟨(some 12), .move (.tmp 15), 48, "", ⟨[]⟩, none⟩, none, false⟩,
     ⟨⟨(some 16), .extract (.tmp 12) 0, 47, "", ⟨[]⟩, none⟩, none, false⟩,
     ⟨⟨(some 17), .extract (.tmp 12) 1, 30, "", ⟨[]⟩, none⟩, none, false⟩,
     ⟨⟨(some 18), .extract (.tmp 12) 2, 3, "", ⟨[]⟩, none⟩, none, false⟩,
     ⟨⟨(some 19), .extract (.tmp 12) 3, 31, "", ⟨[]⟩, none⟩, none, false⟩,
     ⟨⟨(some 8), .assign (.tmp 16), 47, "", ⟨[]⟩, none⟩, none, false⟩,
     ⟨⟨(some 9), .assign (.tmp 17), 30, "", ⟨[]⟩, none⟩, none, false⟩,
     ⟨⟨(some 10), .assign (.tmp 18), 3, "", ⟨[]⟩, none⟩, none, false⟩,
     ⟨⟨(some 11), .assign (.tmp 19), 31, "", ⟨[]⟩, none⟩, none, false⟩])
   (.seq
    (.seq
     (.ops false [
       ⟨⟨(some 20), .move (.tmp 11), 31, "", ⟨[]⟩, none⟩, none, false⟩,
       ⟨⟨(some 21), .binOp .neq 31 (.tmp 20) (.const (.int .i64 0)) 31, 4, "", ⟨[]⟩, none⟩, none, false⟩])
     (.cond (.tmp 21)
      (.seq
       (.ops false [
         ⟨⟨(some 22), .move (.tmp 11), 31, "", ⟨[]⟩, none⟩, none, false⟩,
         ⟨⟨(some 6), .assign (.const (.pointer none)), 47, "", ⟨[]⟩, none⟩, none, false⟩,
         ⟨⟨(some 7), .assign (.tmp 22), 31, "", ⟨[]⟩, none⟩, none, false⟩])
       .ret)
      .skip))
    (.seq
     (.seq
      (.ops false [
        ⟨⟨(some 23), .move (.tmp 8), 47, "", ⟨[]⟩, none⟩, none, false⟩,
        ⟨⟨(some 24), .nilCheck (.tmp 23), 0, "", ⟨[]⟩, none⟩, none, false⟩,
        ⟨⟨(some 25), .fieldAddr 93 (.tmp 24) 2, 0, "", ⟨[]⟩, none⟩, none, false⟩,
        ⟨⟨(some 26), .load 3 (.tmp 25), 3, "", ⟨[]⟩, none⟩, none, false⟩,
        ⟨⟨(some 27), .move (.tmp 2), 3, "", ⟨[]⟩, none⟩, none, false⟩,
        ⟨⟨(some 28), .call ⟨.value (.func 21), ⟨[(.tmp 26), (.tmp 27), (.const (.int .i64 36500))]⟩, ⟨[3, 3, 3]⟩⟩, 4, "", ⟨[]⟩, none⟩, none, false⟩,
        ⟨⟨(some 29), .unOp .not 4 (.tmp 28), 4, "", ⟨[]⟩, none⟩, none, false⟩])
      (.cond (.tmp 29)
       (.seq
        (.ops false [
          ⟨⟨(some 6), .assign (.const (.pointer none)), 47, "", ⟨[]⟩, none⟩, none, false⟩,
          ⟨⟨(some 7), .assign (.const (.int .i64 7)), 31, "", ⟨[]⟩, none⟩, none, false⟩])
        .ret)
       .skip))
     (.seq
      (.ops false [
        ⟨⟨(some 30), .move (.tmp 8), 47, "", ⟨[]⟩, none⟩, none, false⟩,
        ⟨⟨(some 31), .move (.tmp 2), 3, "", ⟨[]⟩, none⟩, none, false⟩,
        ⟨⟨(some 32), .call ⟨.value (.func 43), ⟨[(.tmp 30), (.tmp 31)]⟩, ⟨[47, 3]⟩⟩, 0, "", ⟨[]⟩, none⟩, none, false⟩])
      (.seq
       (.ops false [
         ⟨⟨(some 33), .move (.tmp 8), 47, "", ⟨[]⟩, none⟩, none, false⟩,
         ⟨⟨(some 6), .assign (.tmp 33), 47, "", ⟨[]⟩, none⟩, none, false⟩,
         ⟨⟨(some 7), .assign (.const (.int .i64 0)), 31, "", ⟨[]⟩, none⟩, none, false⟩])
       .ret))))))
def Tryz.s10 : SC :=
 (.seq
  (.ops false [
    ⟨⟨(some 3), .box 28 (.tmp 0), 0, "", ⟨[]⟩, none⟩, none, false⟩,
    ⟨⟨(some 6), .alloc 37, 0, "", ⟨[]⟩, none⟩, none, false⟩,
    ⟨⟨(some 7), .assign (.const (.int .i64 0)), 31, "", ⟨[]⟩, none⟩, none, false⟩])
  (.seq
   (.ops false [
     ⟨⟨(some 11), .load 28 (.tmp 3), 28, "", ⟨[]⟩, none⟩, none, false⟩,
     ⟨⟨(some 12), .move (.tmp 1), 29, "", ⟨[]⟩, none⟩, none, false⟩,
     ⟨⟨(some 13), .move (.tmp 2), 3, "", ⟨[]⟩, none⟩, none, false⟩,
     ⟨⟨(some 14), .call ⟨.value (.func 23), ⟨[(.tmp 11), (.tmp 12), (.tmp 13)]⟩, ⟨[28, 29, 3]⟩⟩, 61, "", ⟨[]⟩, none⟩, none, false⟩,
     ⟨⟨(some 10), .move (.tmp 14), 61, "", ⟨[]⟩, none⟩, none, false⟩,
     ⟨⟨(some 15), .extract (.tmp 10) 0, 47, "", ⟨[]⟩, none⟩, none, false⟩,
     ⟨⟨(some 16), .extract (.tmp 10) 1, 31, "", ⟨[]⟩, none⟩, none, false⟩,
     ⟨⟨(some 8), .assign (.tmp 15), 47, "", ⟨[]⟩, none⟩, none, false⟩,
     ⟨⟨(some 9), .assign (.tmp 16), 31, "", ⟨[]⟩, none⟩, none, false⟩])
   (.seq
    (.seq
     (.ops false [
       ⟨⟨(some 17), .move (.tmp 9), 31, "", ⟨[]⟩, none⟩, none, false⟩,
       ⟨⟨(some 18), .binOp .neq 31 (.tmp 17) (.const (.int .i64 0)) 31, 4, "", ⟨[]⟩, none⟩, none, false⟩])
     (.cond (.tmp 18)
      (.seq
       (.ops false [
         ⟨⟨(some 19), .build 37 ⟨[]⟩, 37, "", ⟨[]⟩, none⟩, none, false⟩,
         ⟨⟨(some 20), .move (.tmp 9), 31, "", ⟨[]⟩, none⟩, none, false⟩,
         ⟨⟨none, .store 37 (.tmp 6) (.tmp 19), 0, "", ⟨[]⟩, none⟩, none, false⟩,
         ⟨⟨(some 7), .assign (.tmp 20), 31, "", ⟨[]⟩, none⟩, none, false⟩])
       .ret)
      .skip))
    (.seq
     (.ops false [
       ⟨⟨(some 21), .move (.tmp 8), 47, "", ⟨[]⟩, none⟩, none, false⟩,
       ⟨⟨(some 22), .call ⟨.value (.func 24), ⟨[(.tmp 21)]⟩, ⟨[47]⟩⟩, 37, "", ⟨[]⟩, none⟩, none, false⟩,
       ⟨⟨none, .store 37 (.tmp 6) (.tmp 22), 0, "", ⟨[]⟩, none⟩, none, false⟩,
       ⟨⟨(some 7), .assign (.const (.int .i64 0)), 31, "", ⟨[]⟩, none⟩, none, false⟩])
     .ret))))
def Tryz.s5 : SC :=
 (.seq
  (.ops false [
    ⟨⟨(some 2), .box 28 (.tmp 0), 0, "", ⟨[]⟩, none⟩, none, false⟩,
    ⟨⟨(some 4), .assign (.const (.slice none 0 0)), 30, "", ⟨[]⟩, none⟩, none, false⟩,
    ⟨⟨(some 5), .assign (.const (.int .i64 0)), 3, "", ⟨[]⟩, none⟩, none, false⟩,
    ⟨⟨(some 6), .assign (.const (.int .i64 0)), 31, "", ⟨[]⟩, none⟩, none, false⟩])
  (.seq
   (.ops false [
     ⟨⟨(some 12), .load 28 (.tmp 2), 28, "", ⟨[]⟩, none⟩, none, false⟩,
     ⟨⟨(some 13), .move (.tmp 1), 29, "", ⟨[]⟩, none⟩, none, false⟩,
     ⟨⟨(some 14), .call ⟨.value (.func 15), ⟨[(.tmp 12), (.tmp 13)]⟩, ⟨[28, 29]⟩⟩, 48, "", ⟨[]⟩, none⟩, none, false⟩,
     ⟨⟨(some 11), .move (.tmp 14), 48, "", ⟨[]⟩, none⟩, none, false⟩,
     ⟨⟨(some 15), .extract (.tmp 11) 0, 47, "", ⟨[]⟩, none⟩, none, false⟩,
     ⟨⟨(some 16), .extract (.tmp 11) 1, 30, "", ⟨[]⟩, none⟩, none, false⟩,
     ⟨⟨(some 17), .extract (.tmp 11) 2, 3, "", ⟨[]⟩, none⟩, none, false⟩,
     ⟨⟨(some 18), .extract (.tmp 11) 3, 31, "", ⟨[]⟩, none⟩, none, false⟩,
     ⟨⟨(some 7), .assign (.tmp 15), 47, "", ⟨[]⟩, none⟩, none, false⟩,
     ⟨⟨(some 8), .assign (.tmp 16), 30, "", ⟨[]⟩, none⟩, none, false⟩,
     ⟨⟨(some 9), .assign (.tmp 17), 3, "", ⟨[]⟩, none⟩, none, false⟩,
     ⟨⟨(some 10), .assign (.tmp 18), 31, "", ⟨[]⟩, none⟩, none, false⟩])
   (.seq
    (.ops false [
      ⟨⟨(some 19), .move (.tmp 8), 30, "", ⟨[]⟩, none⟩, none, false⟩,
      ⟨⟨(some 20), .move (.tmp 9), 3, "", ⟨[]⟩, none⟩, none, false⟩,
      ⟨⟨(some 21), .move (.tmp 10), 31, "", ⟨[]⟩, none⟩, none, false⟩,
      ⟨⟨(some 4), .assign (.tmp 19), 30, "", ⟨[]⟩, none⟩, none, false⟩,
      ⟨⟨(some 5), .assign (.tmp 20), 3, "", ⟨[]⟩, none⟩, none, false⟩,
      ⟨⟨(some 6), .assign (.tmp 21), 31, "", ⟨[]⟩, none⟩, none, false⟩])
    .ret)))
def Tryz.s12 : SC :=
 (.seq
  (.ops false [
    ⟨⟨(some 3), .box 28 (.tmp 0), 0, "", ⟨[]⟩, none⟩, none, false⟩,
    ⟨⟨(some 6), .assign (.const (.int .i64 0)), 3, "", ⟨[]⟩, none⟩, none, false⟩,
    ⟨⟨(some 7), .assign (.const (.int .i64 0)), 31, "", ⟨[]⟩, none⟩, none, false⟩])
  (.seq
   (.ops false [
     ⟨⟨(some 11), .load 28 (.tmp 3), 28, "", ⟨[]⟩, none⟩, none, false⟩,
     ⟨⟨(some 12), .move (.tmp 1), 29, "", ⟨[]⟩, none⟩, none, false⟩,
     ⟨⟨(some 13), .move (.tmp 2), 3, "", ⟨[]⟩, none⟩, none, false⟩,
     ⟨⟨(some 14), .call ⟨.value (.func 23), ⟨[(.tmp 11), (.tmp 12), (.tmp 13)]⟩, ⟨[28, 29, 3]⟩⟩, 61, "", ⟨[]⟩, none⟩, none, false⟩,
     ⟨⟨(some 10), .move (.tmp 14), 61, "", ⟨[]⟩, none⟩, none, false⟩,
     ⟨⟨(some 15), .extract (.tmp 10) 0, 47, "", ⟨[]⟩, none⟩, none, false⟩,
     ⟨⟨(some 16), .extract (.tmp 10) 1, 31, "", ⟨[]⟩, none⟩, none, false⟩,
     ⟨⟨(some 8), .assign (.tmp 15), 47, "", ⟨[]⟩, none⟩, none, false⟩,
     ⟨⟨(some 9), .assign (.tmp 16), 31, "", ⟨[]⟩, none⟩, none, false⟩])
   (.seq
    (.seq
     (.ops false [
       ⟨⟨(some 17), .move (.tmp 9), 31, "", ⟨[]⟩, none⟩, none, false⟩,
       ⟨⟨(some 18), .binOp .neq 31 (.tmp 17) (.const (.int .i64 0)) 31, 4, "", ⟨[]⟩, none⟩, none, false⟩])
     (.cond (.tmp 18)
      (.seq
       (.ops false [
         ⟨⟨(some 19), .move (.tmp 9), 31, "", ⟨[]⟩, none⟩, none, false⟩,
         ⟨⟨(some 6), .assign (.const (.int .i64 0)), 3, "", ⟨[]⟩, none⟩, none, false⟩,
         ⟨⟨(some 7), .assign (.tmp 19), 31, "", ⟨[]⟩, none⟩, none, false⟩])
       .ret)
      .skip))
    (.seq
     (.ops false [
       ⟨⟨(some 20), .move (.tmp 8), 47, "", ⟨[]⟩, none⟩, none, false⟩,
       ⟨⟨(some 21), .call ⟨.value (.func 26), ⟨[(.tmp 20)]⟩, ⟨[47]⟩⟩, 3, "", ⟨[]⟩, none⟩, none, false⟩,
       ⟨⟨(some 6), .assign (.tmp 21), 3, "", ⟨[]⟩, none⟩, none, false⟩,
       ⟨⟨(some 7), .assign (.const (.int .i64 0)), 31, "", ⟨[]⟩, none⟩, none, false⟩])
     .ret))))
def Tryz.s6 : SC :=
 (.seq
  (.ops false [
    ⟨⟨(some 4), .assign (.const (.bool false)), 4, "", ⟨[]⟩, none⟩, none, false⟩])
  (.seq
   (.ops false [
     ⟨⟨(some 7), .move (.tmp 0), 30, "", ⟨[]⟩, none⟩, none, false⟩,
     ⟨⟨(some 8), .call ⟨.builtin .len, ⟨[(.tmp 7)]⟩, ⟨[30]⟩⟩, 3, "", ⟨[]⟩, none⟩, none, false⟩,
     ⟨⟨(some 9), .move (.tmp 1), 30, "", ⟨[]⟩, none⟩, none, false⟩,
     ⟨⟨(some 10), .call ⟨.builtin .len, ⟨[(.tmp 9)]⟩, ⟨[30]⟩⟩, 3, "", ⟨[]⟩, none⟩, none, false⟩,
     ⟨⟨(some 11), .binOp .eql 3 (.tmp 8) (.tmp 10) 3, 4, "", ⟨[]⟩, none⟩, none, false⟩,
     ⟨⟨(some 5), .assign (.tmp 11), 4, "", ⟨[]⟩, none⟩, none, false⟩])
   (.seq
    (.seq
     (.ops false [
       ⟨⟨(some 6), .assign (.const (.int .i64 0)), 3, "", ⟨[]⟩, none⟩, none, false⟩])
     (.block 0
      (.loop
       (.seq
        (.seq
         (.ops false [
           ⟨⟨(some 12), .move (.tmp 5), 4, "", ⟨[]⟩, none⟩, none, false⟩,
           ⟨⟨(some 13), .move (.tmp 12), 4, "", ⟨[]⟩, none⟩, none, false⟩,
           ⟨⟨(some 14), .move (.tmp 6), 3, "", ⟨[]⟩, none⟩, some ((some 13), true), false⟩,
           ⟨⟨(some 15), .move (.tmp 0), 30, "", ⟨[]⟩, none⟩, some ((some 13), true), false⟩,
           ⟨⟨(some 16), .call ⟨.builtin .len, ⟨[(.tmp 15)]⟩, ⟨[30]⟩⟩, 3, "", ⟨[]⟩, none⟩, some ((some 13), true), false⟩,
           ⟨⟨(some 17), .binOp .lss 3 (.tmp 14) (.tmp 16) 3, 4, "", ⟨[]⟩, none⟩, some ((some 13), true), false⟩,
           ⟨⟨(some 18), .pick (.tmp 13) (.tmp 17) (.const (.bool false)), 4, "", ⟨[]⟩, none⟩, none, false⟩])
         (.cond (.tmp 18)
          .skip
          (.exit 0)))
        (.seq
         (.block 1
          (.ops true [
            ⟨⟨(some 21), .move (.tmp 0), 30, "", ⟨[]⟩, none⟩, none, true⟩,
            ⟨⟨(some 22), .move (.tmp 6), 3, "", ⟨[]⟩, none⟩, none, true⟩,
            ⟨⟨(some 23), .indexAddr 30 (.tmp 21) (.tmp 22), 0, "", ⟨[]⟩, none⟩, none, true⟩,
            ⟨⟨(some 24), .load 37 (.tmp 23), 37, "", ⟨[]⟩, none⟩, none, true⟩,
            ⟨⟨(some 25), .move (.tmp 1), 30, "", ⟨[]⟩, none⟩, none, true⟩,
            ⟨⟨(some 26), .move (.tmp 6), 3, "", ⟨[]⟩, none⟩, none, true⟩,
            ⟨⟨(some 27), .indexAddr 30 (.tmp 25) (.tmp 26), 0, "", ⟨[]⟩, none⟩, none, true⟩,
            ⟨⟨(some 28), .load 37 (.tmp 27), 37, "", ⟨[]⟩, none⟩, none, true⟩,
            ⟨⟨(some 29), .binOp .eql 37 (.tmp 24) (.tmp 28) 37, 4, "", ⟨[]⟩, none⟩, none, true⟩,
            ⟨⟨(some 5), .assign (.tmp 29), 4, "", ⟨[]⟩, none⟩, none, true⟩]))
         (.ops false [
           ⟨⟨(some 19), .move (.tmp 6), 3, "", ⟨[]⟩, none⟩, none, false⟩,
           ⟨⟨(some 20), .binOp .add 3 (.tmp 19) (.const (.int .i64 1)) 3, 3, "", ⟨[]⟩, none⟩, none, false⟩,
           ⟨⟨(some 6), .assign (.tmp 20), 3, "", ⟨[]⟩, none⟩, none, false⟩]))))))
    (.seq
     (.ops false [
       ⟨⟨(some 30), .move (.tmp 5), 4, "", ⟨[]⟩, none⟩, none, false⟩,
       ⟨⟨(some 4), .assign (.tmp 30), 4, "", ⟨[]⟩, none⟩, none, false⟩])
     .ret))))
def Tryz.s3 : SC :=
 (.seq
  (.ops false [
    ⟨⟨(some 3), .box 28 (.tmp 0), 0, "", ⟨[]⟩, none⟩, none, false⟩,
    ⟨⟨(some 6), .assign (.const (.bool false)), 4, "", ⟨[]⟩, none⟩, none, false⟩])
  (.seq
   (.ops false [
     ⟨⟨(some 16), .load 28 (.tmp 3), 28, "", ⟨[]⟩, none⟩, none, false⟩,
     ⟨⟨(some 17), .move (.tmp 1), 29, "", ⟨[]⟩, none⟩, none, false⟩,
     ⟨⟨(some 18), .call ⟨.value (.func 4), ⟨[(.tmp 16), (.tmp 17)]⟩, ⟨[28, 29]⟩⟩, 32, "", ⟨[]⟩, none⟩, none, false⟩,
     ⟨⟨(some 15), .move (.tmp 18), 32, "", ⟨[]⟩, none⟩, none, false⟩,
     ⟨⟨(some 19), .extract (.tmp 15) 0, 30, "", ⟨[]⟩, none⟩, none, false⟩,
     ⟨⟨(some 20), .extract (.tmp 15) 1, 3, "", ⟨[]⟩, none⟩, none, false⟩,
     ⟨⟨(some 21), .extract (.tmp 15) 2, 31, "", ⟨[]⟩, none⟩, none, false⟩,
     ⟨⟨(some 7), .assign (.tmp 19), 30, "", ⟨[]⟩, none⟩, none, false⟩,
     ⟨⟨(some 8), .assign (.tmp 20), 3, "", ⟨[]⟩, none⟩, none, false⟩,
     ⟨⟨(some 9), .assign (.tmp 21), 31, "", ⟨[]⟩, none⟩, none, false⟩])
   (.seq
    (.ops false [
      ⟨⟨(some 23), .load 28 (.tmp 3), 28, "", ⟨[]⟩, none⟩, none, false⟩,
      ⟨⟨(some 24), .move (.tmp 1), 29, "", ⟨[]⟩, none⟩, none, false⟩,
      ⟨⟨(some 25), .call ⟨.value (.func 5), ⟨[(.tmp 23), (.tmp 24)]⟩, ⟨[28, 29]⟩⟩, 32, "", ⟨[]⟩, none⟩, none, false⟩,
      ⟨⟨(some 22), .move (.tmp 25), 32, "", ⟨[]⟩, none⟩, none, false⟩,
      ⟨⟨(some 26), .extract (.tmp 22) 0, 30, "", ⟨[]⟩, none⟩, none, false⟩,
      ⟨⟨(some 27), .extract (.tmp 22) 1, 3, "", ⟨[]⟩, none⟩, none, false⟩,
      ⟨⟨(some 28), .extract (.tmp 22) 2, 31, "", ⟨[]⟩, none⟩, none, false⟩,
      ⟨⟨(some 10), .assign (.tmp 26), 30, "", ⟨[]⟩, none⟩, none, false⟩,
      ⟨⟨(some 11), .assign (.tmp 27), 3, "", ⟨[]⟩, none⟩, none, false⟩,
      ⟨⟨(some 12), .assign (.tmp 28), 31, "", ⟨[]⟩, none⟩, none, false⟩])
    (.seq
     (.seq
      (.ops true [
        ⟨⟨(some 29), .move (.tmp 7), 30, "", ⟨[]⟩, none⟩, none, true⟩,
        ⟨⟨(some 30), .move (.tmp 10), 30, "", ⟨[]⟩, none⟩, none, true⟩,
        ⟨⟨(some 31), .call ⟨.value (.func 6), ⟨[(.tmp 29), (.tmp 30)]⟩, ⟨[30, 30]⟩⟩, 4, "", ⟨[]⟩, none⟩, none, false⟩,
        ⟨⟨(some 32), .unOp .not 4 (.tmp 31), 4, "", ⟨[]⟩, none⟩, none, true⟩,
        ⟨⟨(some 33), .move (.tmp 32), 4, "", ⟨[]⟩, none⟩, none, true⟩,
        ⟨⟨(some 34), .move (.tmp 8), 3, "", ⟨[]⟩, none⟩, some ((some 33), false), true⟩,
        ⟨⟨(some 35), .move (.tmp 11), 3, "", ⟨[]⟩, none⟩, some ((some 33), false), true⟩,
        ⟨⟨(some 36), .binOp .neq 3 (.tmp 34) (.tmp 35) 3, 4, "", ⟨[]⟩, none⟩, some ((some 33), false), true⟩,
        ⟨⟨(some 37), .pick (.tmp 33) (.const (.bool true)) (.tmp 36), 4, "", ⟨[]⟩, none⟩, none, true⟩,
        ⟨⟨(some 38), .move (.tmp 37), 4, "", ⟨[]⟩, none⟩, none, true⟩,
        ⟨⟨(some 39), .move (.tmp 9), 31, "", ⟨[]⟩, none⟩, some ((some 38), false), true⟩,
        ⟨⟨(some 40), .move (.tmp 12), 31, "", ⟨[]⟩, none⟩, some ((some 38), false), true⟩,
        ⟨⟨(some 41), .binOp .neq 31 (.tmp 39) (.tmp 40) 31, 4, "", ⟨[]⟩, none⟩, some ((some 38), false), true⟩,
        ⟨⟨(some 42), .pick (.tmp 38) (.const (.bool true)) (.tmp 41), 4, "", ⟨[]⟩, none⟩, none, true⟩,
        ⟨⟨(some 43), .move (.tmp 42), 4, "", ⟨[]⟩, none⟩, none, true⟩,
        ⟨⟨(some 44), .load 28 (.tmp 3), 28, "", ⟨[]⟩, none⟩, some ((some 43), false), true⟩,
        ⟨⟨(some 46), .load 28 (.tmp 3), 28, "", ⟨[]⟩, none⟩, some ((some 43), false), true⟩,
        ⟨⟨(some 45), .call ⟨.value (.func 7), ⟨[(.tmp 44)]⟩, ⟨[28]⟩⟩, 31, "", ⟨[]⟩, none⟩, some ((some 43), false), true⟩,
        ⟨⟨(some 47), .call ⟨.value (.func 8), ⟨[(.tmp 46)]⟩, ⟨[28]⟩⟩, 31, "", ⟨[]⟩, none⟩, some ((some 43), false), false⟩,
        ⟨⟨(some 48), .binOp .neq 31 (.tmp 45) (.tmp 47) 31, 4, "", ⟨[]⟩, none⟩, some ((some 43), false), true⟩,
        ⟨⟨(some 49), .pick (.tmp 43) (.const (.bool true)) (.tmp 48), 4, "", ⟨[]⟩, none⟩, none, true⟩])
      (.cond (.tmp 49)
       (.seq
        (.ops false [
          ⟨⟨(some 6), .assign (.const (.bool false)), 4, "", ⟨[]⟩, none⟩, none, false⟩])
        .ret)
       .skip))
     (.seq
      (.ops false [
        ⟨⟨(some 51), .load 28 (.tmp 3), 28, "", ⟨[]⟩, none⟩, none, false⟩,
        ⟨⟨(some 52), .move (.tmp 1), 29, "", ⟨[]⟩, none⟩, none, false⟩,
        ⟨⟨(some 53), .move (.tmp 2), 3, "", ⟨[]⟩, none⟩, none, false⟩,
        ⟨⟨(some 54), .call ⟨.value (.func 9), ⟨[(.tmp 51), (.tmp 52), (.tmp 53)]⟩, ⟨[28, 29, 3]⟩⟩, 38, "", ⟨[]⟩, none⟩, none, false⟩,
        ⟨⟨(some 50), .move (.tmp 54), 38, "", ⟨[]⟩, none⟩, none, false⟩,
        ⟨⟨(some 55), .extract (.tmp 50) 0, 37, "", ⟨[]⟩, none⟩, none, false⟩,
        ⟨⟨(some 56), .extract (.tmp 50) 1, 31, "", ⟨[]⟩, none⟩, none, false⟩,
        ⟨⟨(some 13), .alloc 37, 0, "", ⟨[]⟩, none⟩, none, false⟩,
        ⟨⟨none, .store 37 (.tmp 13) (.tmp 55), 0, "", ⟨[]⟩, none⟩, none, false⟩,
        ⟨⟨(some 9), .assign (.tmp 56), 31, "", ⟨[]⟩, none⟩, none, false⟩])
      (.seq
       (.ops false [
         ⟨⟨(some 58), .load 28 (.tmp 3), 28, "", ⟨[]⟩, none⟩, none, false⟩,
         ⟨⟨(some 59), .move (.tmp 1), 29, "", ⟨[]⟩, none⟩, none, false⟩,
         ⟨⟨(some 60), .move (.tmp 2), 3, "", ⟨[]⟩, none⟩, none, false⟩,
         ⟨⟨(some 61), .call ⟨.value (.func 10), ⟨[(.tmp 58), (.tmp 59), (.tmp 60)]⟩, ⟨[28, 29, 3]⟩⟩, 38, "", ⟨[]⟩, none⟩, none, false⟩,
         ⟨⟨(some 57), .move (.tmp 61), 38, "", ⟨[]⟩, none⟩, none, false⟩,
         ⟨⟨(some 62), .extract (.tmp 57) 0, 37, "", ⟨[]⟩, none⟩, none, false⟩,
         ⟨⟨(some 63), .extract (.tmp 57) 1, 31, "", ⟨[]⟩, none⟩, none, false⟩,
         ⟨⟨(some 14), .alloc 37, 0, "", ⟨[]⟩, none⟩, none, false⟩,
         ⟨⟨none, .store 37 (.tmp 14) (.tmp 62), 0, "", ⟨[]⟩, none⟩, none, false⟩,
         ⟨⟨(some 12), .assign (.tmp 63), 31, "", ⟨[]⟩, none⟩, none, false⟩])
       (.seq
        (.seq
         (.ops false [
           ⟨⟨(some 64), .load 37 (.tmp 13), 37, "", ⟨[]⟩, none⟩, none, false⟩,
           ⟨⟨(some 65), .load 37 (.tmp 14), 37, "", ⟨[]⟩, none⟩, none, false⟩,
           ⟨⟨(some 66), .binOp .neq 37 (.tmp 64) (.tmp 65) 37, 4, "", ⟨[]⟩, none⟩, none, false⟩,
           ⟨⟨(some 67), .move (.tmp 66), 4, "", ⟨[]⟩, none⟩, none, false⟩,
           ⟨⟨(some 68), .move (.tmp 9), 31, "", ⟨[]⟩, none⟩, some ((some 67), false), false⟩,
           ⟨⟨(some 69), .move (.tmp 12), 31, "", ⟨[]⟩, none⟩, some ((some 67), false), false⟩,
           ⟨⟨(some 70), .binOp .neq 31 (.tmp 68) (.tmp 69) 31, 4, "", ⟨[]⟩, none⟩, some ((some 67), false), false⟩,
           ⟨⟨(some 71), .pick (.tmp 67) (.const (.bool true)) (.tmp 70), 4, "", ⟨[]⟩, none⟩, none, false⟩])
         (.cond (.tmp 71)
          (.seq
           (.ops false [
             ⟨⟨(some 6), .assign (.const (.bool false)), 4, "", ⟨[]⟩, none⟩, none, false⟩])
           .ret)
          .skip))
        (.seq
         (.ops false [
           ⟨⟨(some 73), .load 28 (.tmp 3), 28, "", ⟨[]⟩, none⟩, none, false⟩,
           ⟨⟨(some 74), .move (.tmp 1), 29, "", ⟨[]⟩, none⟩, none, false⟩,
           ⟨⟨(some 75), .move (.tmp 2), 3, "", ⟨[]⟩, none⟩, none, false⟩,
           ⟨⟨(some 76), .call ⟨.value (.func 11), ⟨[(.tmp 73), (.tmp 74), (.tmp 75)]⟩, ⟨[28, 29, 3]⟩⟩, 40, "", ⟨[]⟩, none⟩, none, false⟩,
           ⟨⟨(some 72), .move (.tmp 76), 40, "", ⟨[]⟩, none⟩, none, false⟩,
           ⟨⟨(some 77), .extract (.tmp 72) 0, 3, "", ⟨[]⟩, none⟩, none, false⟩,
           ⟨⟨(some 78), .extract (.tmp 72) 1, 31, "", ⟨[]⟩, none⟩, none, false⟩,
           ⟨⟨(some 8), .assign (.tmp 77), 3, "", ⟨[]⟩, none⟩, none, false⟩,
           ⟨⟨(some 9), .assign (.tmp 78), 31, "", ⟨[]⟩, none⟩, none, false⟩])
         (.seq
          (.ops false [
            ⟨⟨(some 80), .load 28 (.tmp 3), 28, "", ⟨[]⟩, none⟩, none, false⟩,
            ⟨⟨(some 81), .move (.tmp 1), 29, "", ⟨[]⟩, none⟩, none, false⟩,
            ⟨⟨(some 82), .move (.tmp 2), 3, "", ⟨[]⟩, none⟩, none, false⟩,
            ⟨⟨(some 83), .call ⟨.value (.func 12), ⟨[(.tmp 80), (.tmp 81), (.tmp 82)]⟩, ⟨[28, 29, 3]⟩⟩, 40, "", ⟨[]⟩, none⟩, none, false⟩,
            ⟨⟨(some 79), .move (.tmp 83), 40, "", ⟨[]⟩, none⟩, none, false⟩,
            ⟨⟨(some 84), .extract (.tmp 79) 0, 3, "", ⟨[]⟩, none⟩, none, false⟩,
            ⟨⟨(some 85), .extract (.tmp 79) 1, 31, "", ⟨[]⟩, none⟩, none, false⟩,
            ⟨⟨(some 11), .assign (.tmp 84), 3, "", ⟨[]⟩, none⟩, none, false⟩,
            ⟨⟨(some 12), .assign (.tmp 85), 31, "", ⟨[]⟩, none⟩, none, false⟩])
          (.seq
           (.ops false [
             ⟨⟨(some 86), .move (.tmp 8), 3, "", ⟨[]⟩, none⟩, none, false⟩,
             ⟨⟨(some 87), .move (.tmp 11), 3, "", ⟨[]⟩, none⟩, none, false⟩,
             ⟨⟨(some 88), .binOp .eql 3 (.tmp 86) (.tmp 87) 3, 4, "", ⟨[]⟩, none⟩, none, false⟩,
             ⟨⟨(some 89), .move (.tmp 88), 4, "", ⟨[]⟩, none⟩, none, false⟩,
             ⟨⟨(some 90), .move (.tmp 9), 31, "", ⟨[]⟩, none⟩, some ((some 89), true), false⟩,
             ⟨⟨(some 91), .move (.tmp 12), 31, "", ⟨[]⟩, none⟩, some ((some 89), true), false⟩,
             ⟨⟨(some 92), .binOp .eql 31 (.tmp 90) (.tmp 91) 31, 4, "", ⟨[]⟩, none⟩, some ((some 89), true), false⟩,
             ⟨⟨(some 93), .pick (.tmp 89) (.tmp 92) (.const (.bool false)), 4, "", ⟨[]⟩, none⟩, none, false⟩,
             ⟨⟨(some 94), .move (.tmp 93), 4, "", ⟨[]⟩, none⟩, none, false⟩,
             ⟨⟨(some 95), .call ⟨.value (.func 13), ⟨[]⟩, ⟨[]⟩⟩, 4, "", ⟨[]⟩, none⟩, some ((some 94), true), false⟩,
             ⟨⟨(some 96), .pick (.tmp 94) (.tmp 95) (.const (.bool false)), 4, "", ⟨[]⟩, none⟩, none, false⟩,
             ⟨⟨(some 6), .assign (.tmp 96), 4, "", ⟨[]⟩, none⟩, none, false⟩])
           .ret))))))))))
def Tryz.s8 : SC :=
 (.seq
  (.ops false [
    ⟨⟨(some 1), .box 28 (.tmp 0), 0, "", ⟨[]⟩, none⟩, none, false⟩,
    ⟨⟨(some 2), .assign (.const (.int .i64 0)), 31, "", ⟨[]⟩, none⟩, none, false⟩])
  (.seq
   (.ops false [
     ⟨⟨(some 6), .fieldAddr 28 (.tmp 1) 1, 0, "", ⟨[]⟩, none⟩, none, false⟩,
     ⟨⟨(some 7), .load 25 (.tmp 6), 25, "", ⟨[]⟩, none⟩, none, false⟩,
     ⟨⟨(some 3), .alloc 25, 0, "", ⟨[]⟩, none⟩, none, false⟩,
     ⟨⟨none, .store 25 (.tmp 3) (.tmp 7), 0, "", ⟨[]⟩, none⟩, none, false⟩])
   (.seq
    (.ops false [
      ⟨⟨(some 8), .fieldAddr 28 (.tmp 1) 0, 0, "", ⟨[]⟩, none⟩, none, false⟩,
      ⟨⟨(some 9), .fieldAddr 23 (.tmp 8) 0, 0, "", ⟨[]⟩, none⟩, none, false⟩,
      ⟨⟨(some 10), .load 3 (.tmp 9), 3, "", ⟨[]⟩, none⟩, none, false⟩,
      ⟨⟨(some 11), .call ⟨.value (.func 21), ⟨[(.const (.int .i64 0)), (.tmp 10), (.const (.int .i64 10000))]⟩, ⟨[3, 3, 3]⟩⟩, 4, "", ⟨[]⟩, none⟩, none, false⟩,
      ⟨⟨(some 12), .move (.tmp 11), 4, "", ⟨[]⟩, none⟩, none, false⟩,
      ⟨⟨(some 13), .fieldAddr 28 (.tmp 1) 0, 0, "", ⟨[]⟩, none⟩, some ((some 12), true), false⟩,
      ⟨⟨(some 14), .fieldAddr 23 (.tmp 13) 1, 0, "", ⟨[]⟩, none⟩, some ((some 12), true), false⟩,
      ⟨⟨(some 15), .load 3 (.tmp 14), 3, "", ⟨[]⟩, none⟩, some ((some 12), true), false⟩,
      ⟨⟨(some 16), .call ⟨.value (.func 21), ⟨[(.const (.int .i64 0)), (.tmp 15), (.const (.int .i64 64))]⟩, ⟨[3, 3, 3]⟩⟩, 4, "", ⟨[]⟩, none⟩, some ((some 12), true), false⟩,
      ⟨⟨(some 17), .pick (.tmp 12) (.tmp 16) (.const (.bool false)), 4, "", ⟨[]⟩, none⟩, none, false⟩,
      ⟨⟨(some 18), .move (.tmp 17), 4, "", ⟨[]⟩, none⟩, none, false⟩,
      ⟨⟨(some 19), .fieldAddr 25 (.tmp 3) 0, 0, "", ⟨[]⟩, none⟩, some ((some 18), true), false⟩,
      ⟨⟨(some 20), .load 3 (.tmp 19), 3, "", ⟨[]⟩, none⟩, some ((some 18), true), false⟩,
      ⟨⟨(some 21), .call ⟨.value (.func 21), ⟨[(.const (.int .i64 0)), (.tmp 20), (.const (.int .i64 10000))]⟩, ⟨[3, 3, 3]⟩⟩, 4, "", ⟨[]⟩, none⟩, some ((some 18), true), false⟩,
      ⟨⟨(some 22), .pick (.tmp 18) (.tmp 21) (.const (.bool false)), 4, "", ⟨[]⟩, none⟩, none, false⟩,
      ⟨⟨(some 23), .move (.tmp 22), 4, "", ⟨[]⟩, none⟩, none, false⟩,
      ⟨⟨(some 24), .fieldAddr 25 (.tmp 3) 1, 0, "", ⟨[]⟩, none⟩, some ((some 23), true), false⟩,
      ⟨⟨(some 25), .load 3 (.tmp 24), 3, "", ⟨[]⟩, none⟩, some ((some 23), true), false⟩,
      ⟨⟨(some 26), .call ⟨.value (.func 21), ⟨[(.const (.int .i64 0)), (.tmp 25), (.const (.int .i64 31))]⟩, ⟨[3, 3, 3]⟩⟩, 4, "", ⟨[]⟩, none⟩, some ((some 23), true), false⟩,
      ⟨⟨(some 27), .pick (.tmp 23) (.tmp 26) (.const (.bool false)), 4, "", ⟨[]⟩, none⟩, none, false⟩,
      ⟨⟨(some 28), .move (.tmp 27), 4, "", ⟨[]⟩, none⟩, none, false⟩,
      ⟨⟨(some 29), .fieldAddr 25 (.tmp 3) 2, 0, "", ⟨[]⟩, none⟩, some ((some 28), true), false⟩,
      ⟨⟨(some 30), .load 3 (.tmp 29), 3, "", ⟨[]⟩, none⟩, some ((some 28), true), false⟩,
      ⟨⟨(some 31), .call ⟨.value (.func 21), ⟨[(.const (.int .i64 0)), (.tmp 30), (.const (.int .i64 10000))]⟩, ⟨[3, 3, 3]⟩⟩, 4, "", ⟨[]⟩, none⟩, some ((some 28), true), false⟩,
      ⟨⟨(some 32), .pick (.tmp 28) (.tmp 31) (.const (.bool false)), 4, "", ⟨[]⟩, none⟩, none, false⟩,
      ⟨⟨(some 33), .move (.tmp 32), 4, "", ⟨[]⟩, none⟩, none, false⟩,
      ⟨⟨(some 34), .fieldAddr 25 (.tmp 3) 3, 0, "", ⟨[]⟩, none⟩, some ((some 33), true), false⟩,
      ⟨⟨(some 35), .load 3 (.tmp 34), 3, "", ⟨[]⟩, none⟩, some ((some 33), true), false⟩,
      ⟨⟨(some 36), .call ⟨.value (.func 21), ⟨[(.const (.int .i64 1)), (.tmp 35), (.const (.int .i64 366))]⟩, ⟨[3, 3, 3]⟩⟩, 4, "", ⟨[]⟩, none⟩, some ((some 33), true), false⟩,
      ⟨⟨(some 37), .pick (.tmp 33) (.tmp 36) (.const (.bool false)), 4, "", ⟨[]⟩, none⟩, none, false⟩,
      ⟨⟨(some 38), .move (.tmp 37), 4, "", ⟨[]⟩, none⟩, none, false⟩,
      ⟨⟨(some 39), .fieldAddr 25 (.tmp 3) 4, 0, "", ⟨[]⟩, none⟩, some ((some 38), true), false⟩,
      ⟨⟨(some 40), .load 3 (.tmp 39), 3, "", ⟨[]⟩, none⟩, some ((some 38), true), false⟩,
      ⟨⟨(some 41), .call ⟨.value (.func 21), ⟨[(.const (.int .i64 0)), (.tmp 40), (.const (.int .i64 60))]⟩, ⟨[3, 3, 3]⟩⟩, 4, "", ⟨[]⟩, none⟩, some ((some 38), true), false⟩,
      ⟨⟨(some 42), .pick (.tmp 38) (.tmp 41) (.const (.bool false)), 4, "", ⟨[]⟩, none⟩, none, false⟩,
      ⟨⟨(some 4), .assign (.tmp 42), 4, "", ⟨[]⟩, none⟩, none, false⟩])
    (.seq
     (.ops false [
       ⟨⟨(some 43), .move (.tmp 4), 4, "", ⟨[]⟩, none⟩, none, false⟩,
       ⟨⟨(some 44), .move (.tmp 43), 4, "", ⟨[]⟩, none⟩, none, false⟩,
       ⟨⟨(some 45), .fieldAddr 28 (.tmp 1) 2, 0, "", ⟨[]⟩, none⟩, some ((some 44), true), false⟩,
       ⟨⟨(some 46), .load 26 (.tmp 45), 26, "", ⟨[]⟩, none⟩, some ((some 44), true), false⟩,
       ⟨⟨(some 47), .call ⟨.builtin .len, ⟨[(.tmp 46)]⟩, ⟨[26]⟩⟩, 3, "", ⟨[]⟩, none⟩, some ((some 44), true), false⟩,
       ⟨⟨(some 48), .binOp .leq 3 (.tmp 47) (.const (.int .i64 64)) 3, 4, "", ⟨[]⟩, none⟩, some ((some 44), true), false⟩,
       ⟨⟨(some 49), .pick (.tmp 44) (.tmp 48) (.const (.bool false)), 4, "", ⟨[]⟩, none⟩, none, false⟩,
       ⟨⟨(some 50), .move (.tmp 49), 4, "", ⟨[]⟩, none⟩, none, false⟩,
       ⟨⟨(some 51), .fieldAddr 28 (.tmp 1) 3, 0, "", ⟨[]⟩, none⟩, some ((some 50), true), false⟩,
       ⟨⟨(some 52), .load 3 (.tmp 51), 3, "", ⟨[]⟩, none⟩, some ((some 50), true), false⟩,
       ⟨⟨(some 53), .call ⟨.value (.func 21), ⟨[(.const (.int .i64 0)), (.tmp 52), (.const (.int .i64 36500))]⟩, ⟨[3, 3, 3]⟩⟩, 4, "", ⟨[]⟩, none⟩, some ((some 50), true), false⟩,
       ⟨⟨(some 54), .pick (.tmp 50) (.tmp 53) (.const (.bool false)), 4, "", ⟨[]⟩, none⟩, none, false⟩,
       ⟨⟨(some 55), .move (.tmp 54), 4, "", ⟨[]⟩, none⟩, none, false⟩,
       ⟨⟨(some 56), .fieldAddr 28 (.tmp 1) 4, 0, "", ⟨[]⟩, none⟩, some ((some 55), true), false⟩,
       ⟨⟨(some 57), .load 3 (.tmp 56), 3, "", ⟨[]⟩, none⟩, some ((some 55), true), false⟩,
       ⟨⟨(some 58), .call ⟨.value (.func 21), ⟨[(.const (.int .i64 1)), (.tmp 57), (.const (.int .i64 1073741824))]⟩, ⟨[3, 3, 3]⟩⟩, 4, "", ⟨[]⟩, none⟩, some ((some 55), true), false⟩,
       ⟨⟨(some 59), .pick (.tmp 55) (.tmp 58) (.const (.bool false)), 4, "", ⟨[]⟩, none⟩, none, false⟩,
       ⟨⟨(some 4), .assign (.tmp 59), 4, "", ⟨[]⟩, none⟩, none, false⟩])
     (.seq
      (.seq
       (.ops false [
         ⟨⟨(some 5), .assign (.const (.int .i64 0)), 3, "", ⟨[]⟩, none⟩, none, false⟩])
       (.block 0
        (.loop
         (.seq
          (.seq
           (.ops false [
             ⟨⟨(some 60), .move (.tmp 5), 3, "", ⟨[]⟩, none⟩, none, false⟩,
             ⟨⟨(some 61), .fieldAddr 28 (.tmp 1) 2, 0, "", ⟨[]⟩, none⟩, none, false⟩,
             ⟨⟨(some 62), .load 26 (.tmp 61), 26, "", ⟨[]⟩, none⟩, none, false⟩,
             ⟨⟨(some 63), .call ⟨.builtin .len, ⟨[(.tmp 62)]⟩, ⟨[26]⟩⟩, 3, "", ⟨[]⟩, none⟩, none, false⟩,
             ⟨⟨(some 64), .binOp .lss 3 (.tmp 60) (.tmp 63) 3, 4, "", ⟨[]⟩, none⟩, none, false⟩])
           (.cond (.tmp 64)
            .skip
            (.exit 0)))
          (.seq
           (.block 1
            (.ops true [
              ⟨⟨(some 67), .move (.tmp 4), 4, "", ⟨[]⟩, none⟩, none, true⟩,
              ⟨⟨(some 68), .move (.tmp 67), 4, "", ⟨[]⟩, none⟩, none, true⟩,
              ⟨⟨(some 69), .fieldAddr 28 (.tmp 1) 2, 0, "", ⟨[]⟩, none⟩, some ((some 68), true), true⟩,
              ⟨⟨(some 70), .load 26 (.tmp 69), 26, "", ⟨[]⟩, none⟩, some ((some 68), true), true⟩,
              ⟨⟨(some 71), .move (.tmp 5), 3, "", ⟨[]⟩, none⟩, some ((some 68), true), true⟩,
              ⟨⟨(some 72), .indexAddr 26 (.tmp 70) (.tmp 71), 0, "", ⟨[]⟩, none⟩, some ((some 68), true), true⟩,
              ⟨⟨(some 73), .load 3 (.tmp 72), 3, "", ⟨[]⟩, none⟩, some ((some 68), true), true⟩,
              ⟨⟨(some 74), .call ⟨.value (.func 21), ⟨[(.const (.int .i64 0)), (.tmp 73), (.const (.int .i64 36500))]⟩, ⟨[3, 3, 3]⟩⟩, 4, "", ⟨[]⟩, none⟩, some ((some 68), true), false⟩,
              ⟨⟨(some 75), .pick (.tmp 68) (.tmp 74) (.const (.bool false)), 4, "", ⟨[]⟩, none⟩, none, true⟩,
              ⟨⟨(some 76), .move (.tmp 75), 4, "", ⟨[]⟩, none⟩, none, true⟩,
              ⟨⟨(some 77), .move (.tmp 5), 3, "", ⟨[]⟩, none⟩, some ((some 76), true), true⟩,
              ⟨⟨(some 78), .binOp .eql 3 (.tmp 77) (.const (.int .i64 0)) 3, 4, "", ⟨[]⟩, none⟩, some ((some 76), true), true⟩,
              ⟨⟨(some 79), .move (.tmp 78), 4, "", ⟨[]⟩, none⟩, some ((some 76), true), true⟩,
              ⟨⟨(some 80), .fieldAddr 28 (.tmp 1) 2, 0, "", ⟨[]⟩, none⟩, some ((some 79), false), true⟩,
              ⟨⟨(some 81), .load 26 (.tmp 80), 26, "", ⟨[]⟩, none⟩, some ((some 79), false), true⟩,
              ⟨⟨(some 82), .move (.tmp 5), 3, "", ⟨[]⟩, none⟩, some ((some 79), false), true⟩,
              ⟨⟨(some 83), .binOp .sub 3 (.tmp 82) (.const (.int .i64 1)) 3, 3, "", ⟨[]⟩, none⟩, some ((some 79), false), true⟩,
              ⟨⟨(some 84), .indexAddr 26 (.tmp 81) (.tmp 83), 0, "", ⟨[]⟩, none⟩, some ((some 79), false), true⟩,
              ⟨⟨(some 85), .load 3 (.tmp 84), 3, "", ⟨[]⟩, none⟩, some ((some 79), false), true⟩,
              ⟨⟨(some 86), .fieldAddr 28 (.tmp 1) 2, 0, "", ⟨[]⟩, none⟩, some ((some 79), false), true⟩,
              ⟨⟨(some 87), .load 26 (.tmp 86), 26, "", ⟨[]⟩, none⟩, some ((some 79), false), true⟩,
              ⟨⟨(some 88), .move (.tmp 5), 3, "", ⟨[]⟩, none⟩, some ((some 79), false), true⟩,
              ⟨⟨(some 89), .indexAddr 26 (.tmp 87) (.tmp 88), 0, "", ⟨[]⟩, none⟩, some ((some 79), false), true⟩,
              ⟨⟨(some 90), .load 3 (.tmp 89), 3, "", ⟨[]⟩, none⟩, some ((some 79), false), true⟩,
              ⟨⟨(some 91), .binOp .lss 3 (.tmp 85) (.tmp 90) 3, 4, "", ⟨[]⟩, none⟩, some ((some 79), false), true⟩,
              ⟨⟨(some 92), .pick (.tmp 79) (.const (.bool true)) (.tmp 91), 4, "", ⟨[]⟩, none⟩, some ((some 76), true), true⟩,
              ⟨⟨(some 93), .pick (.tmp 76) (.tmp 92) (.const (.bool false)), 4, "", ⟨[]⟩, none⟩, none, true⟩,
              ⟨⟨(some 4), .assign (.tmp 93), 4, "", ⟨[]⟩, none⟩, none, true⟩]))
           (.ops false [
             ⟨⟨(some 65), .move (.tmp 5), 3, "", ⟨[]⟩, none⟩, none, false⟩,
             ⟨⟨(some 66), .binOp .add 3 (.tmp 65) (.const (.int .i64 1)) 3, 3, "", ⟨[]⟩, none⟩, none, false⟩,
             ⟨⟨(some 5), .assign (.tmp 66), 3, "", ⟨[]⟩, none⟩, none, false⟩]))))))
      (.seq
       (.seq
        (.ops false [
          ⟨⟨(some 94), .move (.tmp 4), 4, "", ⟨[]⟩, none⟩, none, false⟩,
          ⟨⟨(some 95), .unOp .not 4 (.tmp 94), 4, "", ⟨[]⟩, none⟩, none, false⟩])
        (.cond (.tmp 95)
         (.seq
          (.ops false [
            ⟨⟨(some 2), .assign (.const (.int .i64 23)), 31, "", ⟨[]⟩, none⟩, none, false⟩])
          .ret)
         .skip))
       (.seq
        (.ops false [
          ⟨⟨(some 2), .assign (.const (.int .i64 0)), 31, "", ⟨[]⟩, none⟩, none, false⟩])
        .ret)))))))
theorem Tryz.s45_eq : Tryz.f45.body.map sOf = some Tryz.s45 := by kernel_rfl
theorem Tryz.s26_eq : Tryz.f26.body.map sOf = some Tryz.s26 := by kernel_rfl
theorem Tryz.s44_eq : Tryz.f44.body.map sOf = some Tryz.s44 := by kernel_rfl
theorem Tryz.s24_eq : Tryz.f24.body.map sOf = some Tryz.s24 := by kernel_rfl
theorem Tryz.s41_eq : Tryz.f41.body.map sOf = some Tryz.s41 := by kernel_rfl
theorem Tryz.s43_eq : Tryz.f43.body.map sOf = some Tryz.s43 := by kernel_rfl
theorem Tryz.s40_eq : Tryz.f40.body.map sOf = some Tryz.s40 := by kernel_rfl
theorem Tryz.s15_eq : Tryz.f15.body.map sOf = some Tryz.s15 := by kernel_rfl
theorem Tryz.s23_eq : Tryz.f23.body.map sOf = some Tryz.s23 := by kernel_rfl
theorem Tryz.s10_eq : Tryz.f10.body.map sOf = some Tryz.s10 := by kernel_rfl
theorem Tryz.s5_eq : Tryz.f5.body.map sOf = some Tryz.s5 := by kernel_rfl
theorem Tryz.s12_eq : Tryz.f12.body.map sOf = some Tryz.s12 := by kernel_rfl
theorem Tryz.s6_eq : Tryz.f6.body.map sOf = some Tryz.s6 := by kernel_rfl
theorem Tryz.s3_eq : Tryz.f3.body.map sOf = some Tryz.s3 := by kernel_rfl
theorem Tryz.s8_eq : Tryz.f8.body.map sOf = some Tryz.s8 := by kernel_rfl
end Go.Proofs

/- The code of an act, as the chapter has it. -/
namespace Go.Proofs
open Go Go.RowKit Go.Sim
set_option maxRecDepth 100000
noncomputable def Tryz.r42 : Array Oper := match Tryz.f42.body with
  | some c => regionAt 12 c
  | none => #[]
noncomputable def Tryz.s42 : SC :=
 (.seq
  (.ops false [
    ⟨⟨(some 3), .box 85 (.tmp 1), 0, "", ⟨[]⟩, none⟩, none, false⟩,
    ⟨⟨(some 4), .assign (.const (.int .i64 0)), 31, "", ⟨[]⟩, none⟩, none, false⟩])
  (.seq
   (.ops false [
     ⟨⟨(some 8), .move (.tmp 0), 47, "", ⟨[]⟩, none⟩, none, false⟩,
     ⟨⟨(some 9), .fieldAddr 85 (.tmp 3) 0, 0, "", ⟨[]⟩, none⟩, none, false⟩,
     ⟨⟨(some 10), .load 3 (.tmp 9), 3, "", ⟨[]⟩, none⟩, none, false⟩,
     ⟨⟨(some 11), .call ⟨.value (.func 43), ⟨[(.tmp 8), (.tmp 10)]⟩, ⟨[47, 3]⟩⟩, 0, "", ⟨[]⟩, none⟩, none, false⟩])
   (.seq
    (.seq
     (.ops true [
       ⟨⟨(some 12), .move (.tmp 0), 47, "", ⟨[]⟩, none⟩, none, true⟩,
       ⟨⟨(some 13), .nilCheck (.tmp 12), 0, "", ⟨[]⟩, none⟩, none, true⟩,
       ⟨⟨(some 14), .fieldAddr 93 (.tmp 13) 1, 0, "", ⟨[]⟩, none⟩, none, true⟩,
       ⟨⟨(some 15), .fieldAddr 37 (.tmp 14) 3, 0, "", ⟨[]⟩, none⟩, none, true⟩,
       ⟨⟨(some 16), .load 3 (.tmp 15), 3, "", ⟨[]⟩, none⟩, none, true⟩,
       ⟨⟨(some 17), .move (.tmp 0), 47, "", ⟨[]⟩, none⟩, none, true⟩,
       ⟨⟨(some 18), .nilCheck (.tmp 17), 0, "", ⟨[]⟩, none⟩, none, true⟩,
       ⟨⟨(some 19), .fieldAddr 93 (.tmp 18) 0, 0, "", ⟨[]⟩, none⟩, none, true⟩,
       ⟨⟨(some 20), .fieldAddr 28 (.tmp 19) 1, 0, "", ⟨[]⟩, none⟩, none, true⟩,
       ⟨⟨(some 21), .fieldAddr 25 (.tmp 20) 3, 0, "", ⟨[]⟩, none⟩, none, true⟩,
       ⟨⟨(some 22), .load 3 (.tmp 21), 3, "", ⟨[]⟩, none⟩, none, true⟩,
       ⟨⟨(some 23), .move (.tmp 0), 47, "", ⟨[]⟩, none⟩, none, true⟩,
       ⟨⟨(some 24), .nilCheck (.tmp 23), 0, "", ⟨[]⟩, none⟩, none, true⟩,
       ⟨⟨(some 25), .fieldAddr 93 (.tmp 24) 0, 0, "", ⟨[]⟩, none⟩, none, true⟩,
       ⟨⟨(some 26), .fieldAddr 28 (.tmp 25) 1, 0, "", ⟨[]⟩, none⟩, none, true⟩,
       ⟨⟨(some 27), .fieldAddr 25 (.tmp 26) 4, 0, "", ⟨[]⟩, none⟩, none, true⟩,
       ⟨⟨(some 28), .load 3 (.tmp 27), 3, "", ⟨[]⟩, none⟩, none, true⟩,
       ⟨⟨(some 29), .binOp .add 3 (.tmp 22) (.tmp 28) 3, 3, "", ⟨[]⟩, none⟩, none, true⟩,
       ⟨⟨(some 30), .binOp .gtr 3 (.tmp 16) (.tmp 29) 3, 4, "", ⟨[]⟩, none⟩, none, true⟩])
     (.cond (.tmp 30)
      (.seq
       (.ops false [
         ⟨⟨(some 4), .assign (.const (.int .i64 25)), 31, "", ⟨[]⟩, none⟩, none, false⟩])
       .ret)
      .skip))
    (.seq
     (.ops false [
       ⟨⟨(some 31), .move (.tmp 0), 47, "", ⟨[]⟩, none⟩, none, false⟩,
       ⟨⟨(some 32), .nilCheck (.tmp 31), 0, "", ⟨[]⟩, none⟩, none, false⟩,
       ⟨⟨(some 33), .fieldAddr 93 (.tmp 32) 1, 0, "", ⟨[]⟩, none⟩, none, false⟩,
       ⟨⟨(some 34), .load 37 (.tmp 33), 37, "", ⟨[]⟩, none⟩, none, false⟩,
       ⟨⟨(some 5), .alloc 37, 0, "", ⟨[]⟩, none⟩, none, false⟩,
       ⟨⟨none, .store 37 (.tmp 5) (.tmp 34), 0, "", ⟨[]⟩, none⟩, none, false⟩])
     (.seq
      (.ops true [
        ⟨⟨(some 35), .move (.tmp 0), 47, "", ⟨[]⟩, none⟩, none, true⟩,
        ⟨⟨(some 37), .fieldAddr 37 (.tmp 5) 2, 0, "", ⟨[]⟩, none⟩, none, true⟩,
        ⟨⟨(some 38), .load 3 (.tmp 37), 3, "", ⟨[]⟩, none⟩, none, true⟩,
        ⟨⟨(some 36), .call ⟨.value (.func 44), ⟨[(.tmp 35)]⟩, ⟨[47]⟩⟩, 3, "", ⟨[]⟩, none⟩, none, true⟩,
        ⟨⟨(some 39), .binOp .sub 3 (.tmp 36) (.tmp 38) 3, 3, "", ⟨[]⟩, none⟩, none, true⟩,
        ⟨⟨(some 6), .assign (.tmp 39), 3, "", ⟨[]⟩, none⟩, none, true⟩])
      (.seq
       (.seq
        (.ops false [
          ⟨⟨(some 40), .fieldAddr 85 (.tmp 3) 1, 0, "", ⟨[]⟩, none⟩, none, false⟩,
          ⟨⟨(some 41), .load 3 (.tmp 40), 3, "", ⟨[]⟩, none⟩, none, false⟩])
        (.block 0
         (.seq
          (.ops false [
            ⟨⟨(some 48), .binOp .eql 3 (.tmp 41) (.const (.int .i64 1)) 3, 4, "", ⟨[]⟩, none⟩, none, false⟩,
            ⟨⟨(some 47), .assign (.tmp 48), 4, "", ⟨[]⟩, none⟩, none, false⟩])
          (.cond (.tmp 47)
           (.seq
            (.seq
             (.ops false [
               ⟨⟨(some 49), .fieldAddr 85 (.tmp 3) 2, 0, "", ⟨[]⟩, none⟩, none, false⟩,
               ⟨⟨(some 50), .load 3 (.tmp 49), 3, "", ⟨[]⟩, none⟩, none, false⟩,
               ⟨⟨(some 51), .move (.tmp 6), 3, "", ⟨[]⟩, none⟩, none, false⟩,
               ⟨⟨(some 52), .fieldAddr 37 (.tmp 5) 0, 0, "", ⟨[]⟩, none⟩, none, false⟩,
               ⟨⟨(some 53), .load 3 (.tmp 52), 3, "", ⟨[]⟩, none⟩, none, false⟩,
               ⟨⟨(some 54), .binOp .add 3 (.tmp 51) (.tmp 53) 3, 3, "", ⟨[]⟩, none⟩, none, false⟩,
               ⟨⟨(some 55), .binOp .geq 3 (.tmp 50) (.tmp 54) 3, 4, "", ⟨[]⟩, none⟩, none, false⟩])
             (.cond (.tmp 55)
              (.seq
               (.ops false [
                 ⟨⟨(some 4), .assign (.const (.int .i64 6)), 31, "", ⟨[]⟩, none⟩, none, false⟩])
               .ret)
              .skip))
            (.seq
             (.ops false [
               ⟨⟨(some 56), .fieldAddr 85 (.tmp 3) 2, 0, "", ⟨[]⟩, none⟩, none, false⟩,
               ⟨⟨(some 57), .load 3 (.tmp 56), 3, "", ⟨[]⟩, none⟩, none, false⟩,
               ⟨⟨(some 58), .move (.tmp 6), 3, "", ⟨[]⟩, none⟩, none, false⟩,
               ⟨⟨(some 59), .call ⟨.builtin .min, ⟨[(.tmp 57), (.tmp 58)]⟩, ⟨[3, 3]⟩⟩, 3, "", ⟨[]⟩, none⟩, none, false⟩,
               ⟨⟨(some 7), .assign (.tmp 59), 3, "", ⟨[]⟩, none⟩, none, false⟩])
             (.raw (.region 12 Tryz.r42 true))))
           (.seq
            (.ops false [
              ⟨⟨(some 74), .binOp .eql 3 (.tmp 41) (.const (.int .i64 2)) 3, 4, "", ⟨[]⟩, none⟩, none, false⟩,
              ⟨⟨(some 73), .assign (.tmp 74), 4, "", ⟨[]⟩, none⟩, none, false⟩])
            (.cond (.tmp 73)
             (.seq
              (.ops false [
                ⟨⟨(some 75), .move (.tmp 0), 47, "", ⟨[]⟩, none⟩, none, false⟩,
                ⟨⟨(some 76), .nilCheck (.tmp 75), 0, "", ⟨[]⟩, none⟩, none, false⟩,
                ⟨⟨(some 77), .fieldAddr 93 (.tmp 76) 6, 0, "", ⟨[]⟩, none⟩, none, false⟩,
                ⟨⟨(some 78), .load 3 (.tmp 77), 3, "", ⟨[]⟩, none⟩, none, false⟩,
                ⟨⟨(some 79), .binOp .add 3 (.tmp 78) (.const (.int .i64 1)) 3, 3, "", ⟨[]⟩, none⟩, none, false⟩,
                ⟨⟨(some 80), .nilCheck (.tmp 75), 0, "", ⟨[]⟩, none⟩, none, false⟩,
                ⟨⟨(some 81), .fieldAddr 93 (.tmp 80) 6, 0, "", ⟨[]⟩, none⟩, none, false⟩,
                ⟨⟨none, .store 3 (.tmp 81) (.tmp 79), 0, "", ⟨[]⟩, none⟩, none, false⟩])
              (.ops false [
                ⟨⟨(some 82), .move (.tmp 0), 47, "", ⟨[]⟩, none⟩, none, false⟩,
                ⟨⟨(some 83), .call ⟨.value (.func 44), ⟨[(.tmp 82)]⟩, ⟨[47]⟩⟩, 3, "", ⟨[]⟩, none⟩, none, false⟩,
                ⟨⟨(some 84), .fieldAddr 37 (.tmp 5) 2, 0, "", ⟨[]⟩, none⟩, none, false⟩,
                ⟨⟨none, .store 3 (.tmp 84) (.tmp 83), 0, "", ⟨[]⟩, none⟩, none, false⟩,
                ⟨⟨(some 85), .fieldAddr 37 (.tmp 5) 3, 0, "", ⟨[]⟩, none⟩, none, false⟩,
                ⟨⟨none, .store 3 (.tmp 85) (.const (.int .i64 0)), 0, "", ⟨[]⟩, none⟩, none, false⟩]))
             (.seq
              (.ops false [
                ⟨⟨(some 87), .binOp .eql 3 (.tmp 41) (.const (.int .i64 3)) 3, 4, "", ⟨[]⟩, none⟩, none, false⟩,
                ⟨⟨(some 86), .assign (.tmp 87), 4, "", ⟨[]⟩, none⟩, none, false⟩])
              (.cond (.tmp 86)
               (.seq
                (.seq
                 (.ops true [
                   ⟨⟨(some 88), .move (.tmp 0), 47, "", ⟨[]⟩, none⟩, none, true⟩,
                   ⟨⟨(some 89), .nilCheck (.tmp 88), 0, "", ⟨[]⟩, none⟩, none, true⟩,
                   ⟨⟨(some 90), .fieldAddr 93 (.tmp 89) 7, 0, "", ⟨[]⟩, none⟩, none, true⟩,
                   ⟨⟨(some 91), .load 3 (.tmp 90), 3, "", ⟨[]⟩, none⟩, none, true⟩,
                   ⟨⟨(some 92), .move (.tmp 0), 47, "", ⟨[]⟩, none⟩, none, true⟩,
                   ⟨⟨(some 93), .nilCheck (.tmp 92), 0, "", ⟨[]⟩, none⟩, none, true⟩,
                   ⟨⟨(some 94), .fieldAddr 93 (.tmp 93) 2, 0, "", ⟨[]⟩, none⟩, none, true⟩,
                   ⟨⟨(some 95), .load 3 (.tmp 94), 3, "", ⟨[]⟩, none⟩, none, true⟩,
                   ⟨⟨(some 96), .binOp .gtr 3 (.tmp 91) (.tmp 95) 3, 4, "", ⟨[]⟩, none⟩, none, true⟩])
                 (.cond (.tmp 96)
                  (.seq
                   (.ops false [
                     ⟨⟨(some 4), .assign (.const (.int .i64 26)), 31, "", ⟨[]⟩, none⟩, none, false⟩])
                   .ret)
                  .skip))
                (.ops true [
                  ⟨⟨(some 97), .move (.tmp 0), 47, "", ⟨[]⟩, none⟩, none, true⟩,
                  ⟨⟨(some 98), .move (.tmp 0), 47, "", ⟨[]⟩, none⟩, none, true⟩,
                  ⟨⟨(some 99), .nilCheck (.tmp 98), 0, "", ⟨[]⟩, none⟩, none, true⟩,
                  ⟨⟨(some 100), .fieldAddr 93 (.tmp 99) 2, 0, "", ⟨[]⟩, none⟩, none, true⟩,
                  ⟨⟨(some 101), .load 3 (.tmp 100), 3, "", ⟨[]⟩, none⟩, none, true⟩,
                  ⟨⟨(some 102), .fieldAddr 85 (.tmp 3) 2, 0, "", ⟨[]⟩, none⟩, none, true⟩,
                  ⟨⟨(some 103), .load 3 (.tmp 102), 3, "", ⟨[]⟩, none⟩, none, true⟩,
                  ⟨⟨(some 104), .binOp .add 3 (.tmp 101) (.tmp 103) 3, 3, "", ⟨[]⟩, none⟩, none, true⟩,
                  ⟨⟨(some 105), .nilCheck (.tmp 97), 0, "", ⟨[]⟩, none⟩, none, true⟩,
                  ⟨⟨(some 106), .fieldAddr 93 (.tmp 105) 7, 0, "", ⟨[]⟩, none⟩, none, true⟩,
                  ⟨⟨none, .store 3 (.tmp 106) (.tmp 104), 0, "", ⟨[]⟩, none⟩, none, false⟩]))
               (.ops false [
                 ⟨⟨(some 42), .move (.tmp 0), 47, "", ⟨[]⟩, none⟩, none, false⟩,
                 ⟨⟨(some 43), .call ⟨.value (.func 44), ⟨[(.tmp 42)]⟩, ⟨[47]⟩⟩, 3, "", ⟨[]⟩, none⟩, none, false⟩,
                 ⟨⟨(some 44), .fieldAddr 37 (.tmp 5) 2, 0, "", ⟨[]⟩, none⟩, none, false⟩,
                 ⟨⟨none, .store 3 (.tmp 44) (.tmp 43), 0, "", ⟨[]⟩, none⟩, none, false⟩,
                 ⟨⟨(some 45), .fieldAddr 37 (.tmp 5) 0, 0, "", ⟨[]⟩, none⟩, none, false⟩,
                 ⟨⟨none, .store 3 (.tmp 45) (.const (.int .i64 0)), 0, "", ⟨[]⟩, none⟩, none, false⟩,
                 ⟨⟨(some 46), .fieldAddr 37 (.tmp 5) 4, 0, "", ⟨[]⟩, none⟩, none, false⟩,
                 ⟨⟨none, .store 4 (.tmp 46) (.const (.bool false)), 0, "", ⟨[]⟩, none⟩, none, false⟩])))))))))
       (.seq
        (.ops false [
          ⟨⟨(some 107), .move (.tmp 0), 47, "", ⟨[]⟩, none⟩, none, false⟩,
          ⟨⟨(some 108), .load 37 (.tmp 5), 37, "", ⟨[]⟩, none⟩, none, false⟩,
          ⟨⟨(some 109), .nilCheck (.tmp 107), 0, "", ⟨[]⟩, none⟩, none, false⟩,
          ⟨⟨(some 110), .fieldAddr 93 (.tmp 109) 1, 0, "", ⟨[]⟩, none⟩, none, false⟩,
          ⟨⟨none, .store 37 (.tmp 110) (.tmp 108), 0, "", ⟨[]⟩, none⟩, none, false⟩])
        (.seq
         (.ops false [
           ⟨⟨(some 4), .assign (.const (.int .i64 0)), 31, "", ⟨[]⟩, none⟩, none, false⟩])
         .ret))))))))
noncomputable def Tryz.x42 : List XOp := [
  ⟨⟨⟨(some 60), .fieldAddr 37 (.tmp 5) 2, 0, "", ⟨[]⟩, none⟩, none, false⟩, 0, 0, false, none⟩,
  ⟨⟨⟨(some 61), .load 3 (.tmp 60), 3, "", ⟨[]⟩, none⟩, none, false⟩, 1, 0, false, some (3, (.tmp 60))⟩,
  ⟨⟨⟨(some 62), .move (.tmp 7), 3, "", ⟨[]⟩, none⟩, none, false⟩, 2, 0, false, none⟩,
  ⟨⟨⟨(some 63), .binOp .add 3 (.tmp 61) (.tmp 62) 3, 3, "", ⟨[]⟩, none⟩, none, false⟩, 3, 0, false, none⟩,
  ⟨⟨⟨(some 64), .fieldAddr 37 (.tmp 5) 0, 0, "", ⟨[]⟩, none⟩, none, false⟩, 4, 0, false, none⟩,
  ⟨⟨⟨(some 65), .load 3 (.tmp 64), 3, "", ⟨[]⟩, none⟩, none, false⟩, 5, 0, false, some (3, (.tmp 64))⟩,
  ⟨⟨⟨(some 66), .fieldAddr 85 (.tmp 3) 2, 0, "", ⟨[]⟩, none⟩, none, false⟩, 6, 0, false, none⟩,
  ⟨⟨⟨(some 67), .load 3 (.tmp 66), 3, "", ⟨[]⟩, none⟩, none, false⟩, 7, 0, false, some (3, (.tmp 66))⟩,
  ⟨⟨⟨(some 68), .move (.tmp 7), 3, "", ⟨[]⟩, none⟩, none, false⟩, 8, 0, false, none⟩,
  ⟨⟨⟨(some 69), .binOp .sub 3 (.tmp 67) (.tmp 68) 3, 3, "", ⟨[]⟩, none⟩, none, false⟩, 9, 0, false, none⟩,
  ⟨⟨⟨(some 70), .binOp .sub 3 (.tmp 65) (.tmp 69) 3, 3, "", ⟨[]⟩, none⟩, none, false⟩, 10, 0, false, none⟩,
  ⟨⟨⟨(some 71), .fieldAddr 37 (.tmp 5) 2, 0, "", ⟨[]⟩, none⟩, none, false⟩, 11, 0, false, none⟩,
  ⟨⟨⟨none, .store 3 (.tmp 71) (.tmp 63), 0, "", ⟨[]⟩, none⟩, none, false⟩, 12, 2111, true, none⟩,
  ⟨⟨⟨(some 72), .fieldAddr 37 (.tmp 5) 0, 0, "", ⟨[]⟩, none⟩, none, false⟩, 13, 0, false, none⟩,
  ⟨⟨⟨none, .store 3 (.tmp 72) (.tmp 70), 0, "", ⟨[]⟩, none⟩, none, false⟩, 14, 16383, true, none⟩]
theorem Tryz.s42_eq : Tryz.f42.body.map (sOfX [12]) = some Tryz.s42 := by kernel_rfl
theorem Tryz.x42_eq : xRegion Tryz.r42 = some Tryz.x42 := by kernel_rfl
theorem Tryz.x42_kinds : xkinds Tryz.x42 = true := by kernel_rfl
end Go.Proofs
