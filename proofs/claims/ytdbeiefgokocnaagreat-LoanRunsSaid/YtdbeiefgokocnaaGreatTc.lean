/- The stripped code of the functions of loans. -/
import Derived.Test.YtdbeiefgokocnaaGreatTa
import Derived.Test.YtdbeiefgokocnaaGreatNa
set_option linter.unusedVariables false
set_option linter.unusedSimpArgs false
/- Functions' code, as the machine reads it. -/
namespace Go.Proofs
open Go Go.RowKit Go.Sim
set_option maxRecDepth 100000
def Tryz.s55 : SC :=
 (.seq
  (.ops false [
    ⟨⟨(some 6), .assign (.const (.int .i64 0)), 3, "", ⟨[]⟩, none⟩, none, false⟩])
  (.seq
   (.ops false [
     ⟨⟨(some 10), .move (.tmp 2), 3, "", ⟨[]⟩, none⟩, none, false⟩,
     ⟨⟨(some 11), .move (.tmp 1), 3, "", ⟨[]⟩, none⟩, none, false⟩,
     ⟨⟨(some 12), .binOp .sub 3 (.tmp 10) (.tmp 11) 3, 3, "", ⟨[]⟩, none⟩, none, false⟩,
     ⟨⟨(some 13), .call ⟨.builtin .max, ⟨[(.const (.int .i64 0)), (.tmp 12)]⟩, ⟨[3, 3]⟩⟩, 3, "", ⟨[]⟩, none⟩, none, false⟩,
     ⟨⟨(some 7), .assign (.tmp 13), 3, "", ⟨[]⟩, none⟩, none, false⟩])
   (.seq
    (.seq
     (.ops false [
       ⟨⟨(some 14), .move (.tmp 0), 26, "", ⟨[]⟩, none⟩, none, false⟩,
       ⟨⟨(some 15), .call ⟨.builtin .len, ⟨[(.tmp 14)]⟩, ⟨[26]⟩⟩, 3, "", ⟨[]⟩, none⟩, none, false⟩,
       ⟨⟨(some 16), .move (.const (.int .i64 0)), 3, "", ⟨[]⟩, none⟩, none, false⟩])
     (.block 0
      (.loop
       (.seq
        (.ops false [
          ⟨⟨(some 17), .binOp .lss 3 (.tmp 16) (.tmp 15) 3, 0, "", ⟨[]⟩, none⟩, none, false⟩])
        (.seq
         (.cond (.tmp 17)
          .skip
          (.exit 0))
         (.seq
          (.block 1
           (.seq
            (.ops false [
              ⟨⟨(some 18), .indexAddr 26 (.tmp 14) (.tmp 16), 0, "", ⟨[]⟩, none⟩, none, false⟩,
              ⟨⟨(some 19), .load 3 (.tmp 18), 3, "", ⟨[]⟩, none⟩, none, false⟩,
              ⟨⟨(some 9), .assign (.tmp 19), 3, "", ⟨[]⟩, none⟩, none, false⟩])
            (.seq
             (.ops false [
               ⟨⟨(some 20), .move (.tmp 1), 3, "", ⟨[]⟩, none⟩, none, false⟩,
               ⟨⟨(some 21), .move (.tmp 9), 3, "", ⟨[]⟩, none⟩, none, false⟩,
               ⟨⟨(some 22), .binOp .lss 3 (.tmp 20) (.tmp 21) 3, 4, "", ⟨[]⟩, none⟩, none, false⟩,
               ⟨⟨(some 23), .move (.tmp 22), 4, "", ⟨[]⟩, none⟩, none, false⟩,
               ⟨⟨(some 24), .move (.tmp 9), 3, "", ⟨[]⟩, none⟩, some ((some 23), true), false⟩,
               ⟨⟨(some 25), .move (.tmp 2), 3, "", ⟨[]⟩, none⟩, some ((some 23), true), false⟩,
               ⟨⟨(some 26), .binOp .leq 3 (.tmp 24) (.tmp 25) 3, 4, "", ⟨[]⟩, none⟩, some ((some 23), true), false⟩,
               ⟨⟨(some 27), .pick (.tmp 23) (.tmp 26) (.const (.bool false)), 4, "", ⟨[]⟩, none⟩, none, false⟩])
             (.cond (.tmp 27)
              (.ops false [
                ⟨⟨(some 28), .move (.tmp 7), 3, "", ⟨[]⟩, none⟩, none, false⟩,
                ⟨⟨(some 29), .binOp .sub 3 (.tmp 28) (.const (.int .i64 1)) 3, 3, "", ⟨[]⟩, none⟩, none, false⟩,
                ⟨⟨(some 7), .assign (.tmp 29), 3, "", ⟨[]⟩, none⟩, none, false⟩])
              .skip))))
          (.ops false [
            ⟨⟨(some 30), .binOp .add 3 (.tmp 16) (.const (.int .i64 1)) 3, 3, "", ⟨[]⟩, none⟩, none, false⟩,
            ⟨⟨(some 16), .move (.tmp 30), 3, "", ⟨[]⟩, none⟩, none, false⟩])))))))
    (.seq
     (.ops false [
       ⟨⟨(some 31), .move (.tmp 7), 3, "", ⟨[]⟩, none⟩, none, false⟩,
       ⟨⟨(some 6), .assign (.tmp 31), 3, "", ⟨[]⟩, none⟩, none, false⟩])
     .ret))))
def Tryz.s56 : SC :=
 (.seq
  (.ops false [
    ⟨⟨(some 3), .box 58 (.tmp 1), 0, "", ⟨[]⟩, none⟩, none, false⟩])
  (.seq
   (.seq
    (.ops true [
      ⟨⟨(some 4), .move (.tmp 0), 44, "", ⟨[]⟩, none⟩, none, true⟩,
      ⟨⟨(some 5), .nilCheck (.tmp 4), 0, "", ⟨[]⟩, none⟩, none, true⟩,
      ⟨⟨(some 6), .fieldAddr 60 (.tmp 5) 2, 0, "", ⟨[]⟩, none⟩, none, true⟩,
      ⟨⟨(some 7), .load 58 (.tmp 6), 58, "", ⟨[]⟩, none⟩, none, true⟩,
      ⟨⟨(some 8), .load 58 (.tmp 3), 58, "", ⟨[]⟩, none⟩, none, true⟩,
      ⟨⟨(some 9), .binOp .eql 58 (.tmp 7) (.tmp 8) 58, 4, "", ⟨[]⟩, none⟩, none, true⟩])
    (.cond (.tmp 9)
     .ret
     .skip))
   (.ops true [
     ⟨⟨(some 10), .move (.tmp 0), 44, "", ⟨[]⟩, none⟩, none, true⟩,
     ⟨⟨(some 11), .move (.tmp 0), 44, "", ⟨[]⟩, none⟩, none, true⟩,
     ⟨⟨(some 12), .nilCheck (.tmp 11), 0, "", ⟨[]⟩, none⟩, none, true⟩,
     ⟨⟨(some 13), .fieldAddr 60 (.tmp 12) 2, 0, "", ⟨[]⟩, none⟩, none, true⟩,
     ⟨⟨(some 14), .fieldAddr 58 (.tmp 13) 2, 0, "", ⟨[]⟩, none⟩, none, true⟩,
     ⟨⟨(some 15), .load 3 (.tmp 14), 3, "", ⟨[]⟩, none⟩, none, true⟩,
     ⟨⟨(some 16), .move (.tmp 0), 44, "", ⟨[]⟩, none⟩, none, true⟩,
     ⟨⟨(some 17), .nilCheck (.tmp 16), 0, "", ⟨[]⟩, none⟩, none, true⟩,
     ⟨⟨(some 18), .fieldAddr 60 (.tmp 17) 1, 0, "", ⟨[]⟩, none⟩, none, true⟩,
     ⟨⟨(some 19), .fieldAddr 28 (.tmp 18) 1, 0, "", ⟨[]⟩, none⟩, none, true⟩,
     ⟨⟨(some 20), .fieldAddr 25 (.tmp 19) 0, 0, "", ⟨[]⟩, none⟩, none, true⟩,
     ⟨⟨(some 21), .load 3 (.tmp 20), 3, "", ⟨[]⟩, none⟩, none, true⟩,
     ⟨⟨(some 22), .binOp .mul 3 (.tmp 15) (.tmp 21) 3, 3, "", ⟨[]⟩, none⟩, none, true⟩,
     ⟨⟨(some 23), .binOp .quo 3 (.tmp 22) (.const (.int .i64 1000000)) 3, 3, "", ⟨[]⟩, none⟩, none, true⟩,
     ⟨⟨(some 24), .move (.tmp 0), 44, "", ⟨[]⟩, none⟩, none, true⟩,
     ⟨⟨(some 25), .nilCheck (.tmp 24), 0, "", ⟨[]⟩, none⟩, none, true⟩,
     ⟨⟨(some 26), .fieldAddr 60 (.tmp 25) 2, 0, "", ⟨[]⟩, none⟩, none, true⟩,
     ⟨⟨(some 27), .fieldAddr 58 (.tmp 26) 3, 0, "", ⟨[]⟩, none⟩, none, true⟩,
     ⟨⟨(some 28), .load 3 (.tmp 27), 3, "", ⟨[]⟩, none⟩, none, true⟩,
     ⟨⟨(some 29), .binOp .add 3 (.tmp 23) (.tmp 28) 3, 3, "", ⟨[]⟩, none⟩, none, true⟩,
     ⟨⟨(some 30), .move (.tmp 0), 44, "", ⟨[]⟩, none⟩, none, true⟩,
     ⟨⟨(some 31), .call ⟨.value (.func 25), ⟨[(.tmp 30)]⟩, ⟨[44]⟩⟩, 3, "", ⟨[]⟩, none⟩, none, true⟩,
     ⟨⟨(some 32), .call ⟨.builtin .min, ⟨[(.tmp 29), (.tmp 31)]⟩, ⟨[3, 3]⟩⟩, 3, "", ⟨[]⟩, none⟩, none, true⟩,
     ⟨⟨(some 33), .nilCheck (.tmp 10), 0, "", ⟨[]⟩, none⟩, none, true⟩,
     ⟨⟨(some 34), .fieldAddr 60 (.tmp 33) 0, 0, "", ⟨[]⟩, none⟩, none, true⟩,
     ⟨⟨(some 35), .fieldAddr 37 (.tmp 34) 1, 0, "", ⟨[]⟩, none⟩, none, true⟩,
     ⟨⟨none, .store 3 (.tmp 35) (.tmp 32), 0, "", ⟨[]⟩, none⟩, none, false⟩])))
def Tryz.s25 : SC :=
 (.seq
  (.ops false [
    ⟨⟨(some 2), .assign (.const (.int .i64 0)), 3, "", ⟨[]⟩, none⟩, none, false⟩])
  (.seq
   (.ops false [
     ⟨⟨(some 4), .move (.tmp 0), 44, "", ⟨[]⟩, none⟩, none, false⟩,
     ⟨⟨(some 5), .nilCheck (.tmp 4), 0, "", ⟨[]⟩, none⟩, none, false⟩,
     ⟨⟨(some 6), .fieldAddr 60 (.tmp 5) 1, 0, "", ⟨[]⟩, none⟩, none, false⟩,
     ⟨⟨(some 7), .fieldAddr 28 (.tmp 6) 0, 0, "", ⟨[]⟩, none⟩, none, false⟩,
     ⟨⟨(some 8), .load 23 (.tmp 7), 23, "", ⟨[]⟩, none⟩, none, false⟩,
     ⟨⟨(some 3), .alloc 23, 0, "", ⟨[]⟩, none⟩, none, false⟩,
     ⟨⟨none, .store 23 (.tmp 3) (.tmp 8), 0, "", ⟨[]⟩, none⟩, none, false⟩])
   (.seq
    (.ops true [
      ⟨⟨(some 9), .move (.tmp 0), 44, "", ⟨[]⟩, none⟩, none, true⟩,
      ⟨⟨(some 10), .nilCheck (.tmp 9), 0, "", ⟨[]⟩, none⟩, none, true⟩,
      ⟨⟨(some 11), .fieldAddr 60 (.tmp 10) 2, 0, "", ⟨[]⟩, none⟩, none, true⟩,
      ⟨⟨(some 12), .fieldAddr 58 (.tmp 11) 1, 0, "", ⟨[]⟩, none⟩, none, true⟩,
      ⟨⟨(some 13), .load 3 (.tmp 12), 3, "", ⟨[]⟩, none⟩, none, true⟩,
      ⟨⟨(some 14), .fieldAddr 23 (.tmp 3) 0, 0, "", ⟨[]⟩, none⟩, none, true⟩,
      ⟨⟨(some 15), .load 3 (.tmp 14), 3, "", ⟨[]⟩, none⟩, none, true⟩,
      ⟨⟨(some 16), .binOp .mul 3 (.tmp 13) (.tmp 15) 3, 3, "", ⟨[]⟩, none⟩, none, true⟩,
      ⟨⟨(some 17), .binOp .quo 3 (.tmp 16) (.const (.int .i64 1000000)) 3, 3, "", ⟨[]⟩, none⟩, none, true⟩,
      ⟨⟨(some 18), .move (.tmp 0), 44, "", ⟨[]⟩, none⟩, none, true⟩,
      ⟨⟨(some 19), .nilCheck (.tmp 18), 0, "", ⟨[]⟩, none⟩, none, true⟩,
      ⟨⟨(some 20), .fieldAddr 60 (.tmp 19) 1, 0, "", ⟨[]⟩, none⟩, none, true⟩,
      ⟨⟨(some 21), .fieldAddr 28 (.tmp 20) 4, 0, "", ⟨[]⟩, none⟩, none, true⟩,
      ⟨⟨(some 22), .load 3 (.tmp 21), 3, "", ⟨[]⟩, none⟩, none, true⟩,
      ⟨⟨(some 23), .fieldAddr 23 (.tmp 3) 1, 0, "", ⟨[]⟩, none⟩, none, true⟩,
      ⟨⟨(some 24), .load 3 (.tmp 23), 3, "", ⟨[]⟩, none⟩, none, true⟩,
      ⟨⟨(some 25), .binOp .mul 3 (.tmp 22) (.tmp 24) 3, 3, "", ⟨[]⟩, none⟩, none, true⟩,
      ⟨⟨(some 26), .binOp .quo 3 (.tmp 25) (.const (.int .i64 64)) 3, 3, "", ⟨[]⟩, none⟩, none, true⟩,
      ⟨⟨(some 27), .call ⟨.builtin .min, ⟨[(.tmp 17), (.tmp 26)]⟩, ⟨[3, 3]⟩⟩, 3, "", ⟨[]⟩, none⟩, none, true⟩,
      ⟨⟨(some 2), .assign (.tmp 27), 3, "", ⟨[]⟩, none⟩, none, true⟩])
    .ret)))
def Tryz.s38 : SC :=
 (.seq
  (.ops true [
    ⟨⟨(some 8), .move (.tmp 0), 44, "", ⟨[]⟩, none⟩, none, true⟩,
    ⟨⟨(some 9), .nilCheck (.tmp 8), 0, "", ⟨[]⟩, none⟩, none, true⟩,
    ⟨⟨(some 10), .fieldAddr 60 (.tmp 9) 3, 0, "", ⟨[]⟩, none⟩, none, true⟩,
    ⟨⟨(some 11), .load 3 (.tmp 10), 3, "", ⟨[]⟩, none⟩, none, true⟩,
    ⟨⟨(some 12), .move (.tmp 0), 44, "", ⟨[]⟩, none⟩, none, true⟩,
    ⟨⟨(some 13), .nilCheck (.tmp 12), 0, "", ⟨[]⟩, none⟩, none, true⟩,
    ⟨⟨(some 14), .fieldAddr 60 (.tmp 13) 4, 0, "", ⟨[]⟩, none⟩, none, true⟩,
    ⟨⟨(some 15), .load 3 (.tmp 14), 3, "", ⟨[]⟩, none⟩, none, true⟩,
    ⟨⟨(some 16), .call ⟨.builtin .max, ⟨[(.tmp 11), (.tmp 15)]⟩, ⟨[3, 3]⟩⟩, 3, "", ⟨[]⟩, none⟩, none, true⟩,
    ⟨⟨(some 4), .assign (.tmp 16), 3, "", ⟨[]⟩, none⟩, none, true⟩])
  (.seq
   (.ops false [
     ⟨⟨(some 17), .move (.tmp 0), 44, "", ⟨[]⟩, none⟩, none, false⟩,
     ⟨⟨(some 18), .move (.tmp 1), 3, "", ⟨[]⟩, none⟩, none, false⟩,
     ⟨⟨(some 19), .nilCheck (.tmp 17), 0, "", ⟨[]⟩, none⟩, none, false⟩,
     ⟨⟨(some 20), .fieldAddr 60 (.tmp 19) 3, 0, "", ⟨[]⟩, none⟩, none, false⟩,
     ⟨⟨none, .store 3 (.tmp 20) (.tmp 18), 0, "", ⟨[]⟩, none⟩, none, false⟩])
   (.seq
    (.seq
     (.ops false [
       ⟨⟨(some 21), .move (.tmp 0), 44, "", ⟨[]⟩, none⟩, none, false⟩,
       ⟨⟨(some 22), .nilCheck (.tmp 21), 0, "", ⟨[]⟩, none⟩, none, false⟩,
       ⟨⟨(some 23), .fieldAddr 60 (.tmp 22) 0, 0, "", ⟨[]⟩, none⟩, none, false⟩,
       ⟨⟨(some 24), .fieldAddr 37 (.tmp 23) 4, 0, "", ⟨[]⟩, none⟩, none, false⟩,
       ⟨⟨(some 25), .load 4 (.tmp 24), 4, "", ⟨[]⟩, none⟩, none, false⟩,
       ⟨⟨(some 26), .unOp .not 4 (.tmp 25), 4, "", ⟨[]⟩, none⟩, none, false⟩])
     (.cond (.tmp 26)
      .ret
      .skip))
    (.seq
     (.ops false [
       ⟨⟨(some 27), .move (.tmp 0), 44, "", ⟨[]⟩, none⟩, none, false⟩,
       ⟨⟨(some 28), .nilCheck (.tmp 27), 0, "", ⟨[]⟩, none⟩, none, false⟩,
       ⟨⟨(some 29), .fieldAddr 60 (.tmp 28) 2, 0, "", ⟨[]⟩, none⟩, none, false⟩,
       ⟨⟨(some 30), .load 58 (.tmp 29), 58, "", ⟨[]⟩, none⟩, none, false⟩,
       ⟨⟨(some 5), .alloc 58, 0, "", ⟨[]⟩, none⟩, none, false⟩,
       ⟨⟨none, .store 58 (.tmp 5) (.tmp 30), 0, "", ⟨[]⟩, none⟩, none, false⟩])
     (.seq
      (.ops false [
        ⟨⟨(some 31), .move (.tmp 0), 44, "", ⟨[]⟩, none⟩, none, false⟩,
        ⟨⟨(some 32), .nilCheck (.tmp 31), 0, "", ⟨[]⟩, none⟩, none, false⟩,
        ⟨⟨(some 33), .fieldAddr 60 (.tmp 32) 1, 0, "", ⟨[]⟩, none⟩, none, false⟩,
        ⟨⟨(some 34), .fieldAddr 28 (.tmp 33) 2, 0, "", ⟨[]⟩, none⟩, none, false⟩,
        ⟨⟨(some 35), .load 26 (.tmp 34), 26, "", ⟨[]⟩, none⟩, none, false⟩,
        ⟨⟨(some 36), .move (.tmp 4), 3, "", ⟨[]⟩, none⟩, none, false⟩,
        ⟨⟨(some 37), .move (.tmp 1), 3, "", ⟨[]⟩, none⟩, none, false⟩,
        ⟨⟨(some 38), .call ⟨.value (.func 55), ⟨[(.tmp 35), (.tmp 36), (.tmp 37)]⟩, ⟨[26, 3, 3]⟩⟩, 3, "", ⟨[]⟩, none⟩, none, false⟩,
        ⟨⟨(some 6), .assign (.tmp 38), 3, "", ⟨[]⟩, none⟩, none, false⟩])
      (.seq
       (.ops true [
         ⟨⟨(some 39), .move (.tmp 0), 44, "", ⟨[]⟩, none⟩, none, true⟩,
         ⟨⟨(some 40), .nilCheck (.tmp 39), 0, "", ⟨[]⟩, none⟩, none, true⟩,
         ⟨⟨(some 41), .fieldAddr 60 (.tmp 40) 1, 0, "", ⟨[]⟩, none⟩, none, true⟩,
         ⟨⟨(some 42), .fieldAddr 28 (.tmp 41) 1, 0, "", ⟨[]⟩, none⟩, none, true⟩,
         ⟨⟨(some 43), .fieldAddr 25 (.tmp 42) 1, 0, "", ⟨[]⟩, none⟩, none, true⟩,
         ⟨⟨(some 44), .load 3 (.tmp 43), 3, "", ⟨[]⟩, none⟩, none, true⟩,
         ⟨⟨(some 45), .move (.tmp 0), 44, "", ⟨[]⟩, none⟩, none, true⟩,
         ⟨⟨(some 46), .nilCheck (.tmp 45), 0, "", ⟨[]⟩, none⟩, none, true⟩,
         ⟨⟨(some 47), .fieldAddr 60 (.tmp 46) 2, 0, "", ⟨[]⟩, none⟩, none, true⟩,
         ⟨⟨(some 48), .fieldAddr 58 (.tmp 47) 0, 0, "", ⟨[]⟩, none⟩, none, true⟩,
         ⟨⟨(some 49), .load 3 (.tmp 48), 3, "", ⟨[]⟩, none⟩, none, true⟩,
         ⟨⟨(some 50), .binOp .sub 3 (.tmp 44) (.tmp 49) 3, 3, "", ⟨[]⟩, none⟩, none, true⟩,
         ⟨⟨(some 51), .call ⟨.builtin .max, ⟨[(.const (.int .i64 0)), (.tmp 50)]⟩, ⟨[3, 3]⟩⟩, 3, "", ⟨[]⟩, none⟩, none, true⟩,
         ⟨⟨(some 7), .assign (.tmp 51), 3, "", ⟨[]⟩, none⟩, none, true⟩])
       (.seq
        (.ops false [
          ⟨⟨(some 52), .move (.tmp 0), 44, "", ⟨[]⟩, none⟩, none, false⟩,
          ⟨⟨(some 53), .nilCheck (.tmp 52), 0, "", ⟨[]⟩, none⟩, none, false⟩,
          ⟨⟨(some 54), .fieldAddr 60 (.tmp 53) 2, 0, "", ⟨[]⟩, none⟩, none, false⟩,
          ⟨⟨(some 55), .fieldAddr 58 (.tmp 54) 0, 0, "", ⟨[]⟩, none⟩, none, false⟩,
          ⟨⟨(some 56), .load 3 (.tmp 55), 3, "", ⟨[]⟩, none⟩, none, false⟩,
          ⟨⟨(some 57), .move (.tmp 6), 3, "", ⟨[]⟩, none⟩, none, false⟩,
          ⟨⟨(some 58), .binOp .add 3 (.tmp 56) (.tmp 57) 3, 3, "", ⟨[]⟩, none⟩, none, false⟩,
          ⟨⟨(some 59), .nilCheck (.tmp 52), 0, "", ⟨[]⟩, none⟩, none, false⟩,
          ⟨⟨(some 60), .fieldAddr 60 (.tmp 59) 2, 0, "", ⟨[]⟩, none⟩, none, false⟩,
          ⟨⟨(some 61), .fieldAddr 58 (.tmp 60) 0, 0, "", ⟨[]⟩, none⟩, none, false⟩,
          ⟨⟨none, .store 3 (.tmp 61) (.tmp 58), 0, "", ⟨[]⟩, none⟩, none, false⟩])
        (.seq
         (.ops true [
           ⟨⟨(some 62), .move (.tmp 0), 44, "", ⟨[]⟩, none⟩, none, true⟩,
           ⟨⟨(some 63), .nilCheck (.tmp 62), 0, "", ⟨[]⟩, none⟩, none, true⟩,
           ⟨⟨(some 64), .fieldAddr 60 (.tmp 63) 2, 0, "", ⟨[]⟩, none⟩, none, true⟩,
           ⟨⟨(some 65), .fieldAddr 58 (.tmp 64) 1, 0, "", ⟨[]⟩, none⟩, none, true⟩,
           ⟨⟨(some 66), .load 3 (.tmp 65), 3, "", ⟨[]⟩, none⟩, none, true⟩,
           ⟨⟨(some 67), .move (.tmp 6), 3, "", ⟨[]⟩, none⟩, none, true⟩,
           ⟨⟨(some 68), .move (.tmp 0), 44, "", ⟨[]⟩, none⟩, none, true⟩,
           ⟨⟨(some 69), .nilCheck (.tmp 68), 0, "", ⟨[]⟩, none⟩, none, true⟩,
           ⟨⟨(some 70), .fieldAddr 60 (.tmp 69) 0, 0, "", ⟨[]⟩, none⟩, none, true⟩,
           ⟨⟨(some 71), .fieldAddr 37 (.tmp 70) 0, 0, "", ⟨[]⟩, none⟩, none, true⟩,
           ⟨⟨(some 72), .load 3 (.tmp 71), 3, "", ⟨[]⟩, none⟩, none, true⟩,
           ⟨⟨(some 73), .binOp .mul 3 (.tmp 67) (.tmp 72) 3, 3, "", ⟨[]⟩, none⟩, none, true⟩,
           ⟨⟨(some 74), .binOp .add 3 (.tmp 66) (.tmp 73) 3, 3, "", ⟨[]⟩, none⟩, none, true⟩,
           ⟨⟨(some 75), .nilCheck (.tmp 62), 0, "", ⟨[]⟩, none⟩, none, true⟩,
           ⟨⟨(some 76), .fieldAddr 60 (.tmp 75) 2, 0, "", ⟨[]⟩, none⟩, none, true⟩,
           ⟨⟨(some 77), .fieldAddr 58 (.tmp 76) 1, 0, "", ⟨[]⟩, none⟩, none, true⟩,
           ⟨⟨none, .store 3 (.tmp 77) (.tmp 74), 0, "", ⟨[]⟩, none⟩, none, false⟩])
         (.seq
          (.ops true [
            ⟨⟨(some 78), .move (.tmp 0), 44, "", ⟨[]⟩, none⟩, none, true⟩,
            ⟨⟨(some 79), .nilCheck (.tmp 78), 0, "", ⟨[]⟩, none⟩, none, true⟩,
            ⟨⟨(some 80), .fieldAddr 60 (.tmp 79) 2, 0, "", ⟨[]⟩, none⟩, none, true⟩,
            ⟨⟨(some 81), .fieldAddr 58 (.tmp 80) 2, 0, "", ⟨[]⟩, none⟩, none, true⟩,
            ⟨⟨(some 82), .load 3 (.tmp 81), 3, "", ⟨[]⟩, none⟩, none, true⟩,
            ⟨⟨(some 83), .move (.tmp 6), 3, "", ⟨[]⟩, none⟩, none, true⟩,
            ⟨⟨(some 84), .move (.tmp 7), 3, "", ⟨[]⟩, none⟩, none, true⟩,
            ⟨⟨(some 85), .binOp .sub 3 (.tmp 83) (.tmp 84) 3, 3, "", ⟨[]⟩, none⟩, none, true⟩,
            ⟨⟨(some 86), .call ⟨.builtin .max, ⟨[(.const (.int .i64 0)), (.tmp 85)]⟩, ⟨[3, 3]⟩⟩, 3, "", ⟨[]⟩, none⟩, none, true⟩,
            ⟨⟨(some 87), .move (.tmp 0), 44, "", ⟨[]⟩, none⟩, none, true⟩,
            ⟨⟨(some 88), .nilCheck (.tmp 87), 0, "", ⟨[]⟩, none⟩, none, true⟩,
            ⟨⟨(some 89), .fieldAddr 60 (.tmp 88) 0, 0, "", ⟨[]⟩, none⟩, none, true⟩,
            ⟨⟨(some 90), .fieldAddr 37 (.tmp 89) 0, 0, "", ⟨[]⟩, none⟩, none, true⟩,
            ⟨⟨(some 91), .load 3 (.tmp 90), 3, "", ⟨[]⟩, none⟩, none, true⟩,
            ⟨⟨(some 92), .binOp .mul 3 (.tmp 86) (.tmp 91) 3, 3, "", ⟨[]⟩, none⟩, none, true⟩,
            ⟨⟨(some 93), .binOp .add 3 (.tmp 82) (.tmp 92) 3, 3, "", ⟨[]⟩, none⟩, none, true⟩,
            ⟨⟨(some 94), .nilCheck (.tmp 78), 0, "", ⟨[]⟩, none⟩, none, true⟩,
            ⟨⟨(some 95), .fieldAddr 60 (.tmp 94) 2, 0, "", ⟨[]⟩, none⟩, none, true⟩,
            ⟨⟨(some 96), .fieldAddr 58 (.tmp 95) 2, 0, "", ⟨[]⟩, none⟩, none, true⟩,
            ⟨⟨none, .store 3 (.tmp 96) (.tmp 93), 0, "", ⟨[]⟩, none⟩, none, false⟩])
          (.seq
           (.ops false [
             ⟨⟨(some 97), .move (.tmp 0), 44, "", ⟨[]⟩, none⟩, none, false⟩,
             ⟨⟨(some 98), .nilCheck (.tmp 97), 0, "", ⟨[]⟩, none⟩, none, false⟩,
             ⟨⟨(some 99), .fieldAddr 60 (.tmp 98) 0, 0, "", ⟨[]⟩, none⟩, none, false⟩,
             ⟨⟨(some 100), .fieldAddr 37 (.tmp 99) 3, 0, "", ⟨[]⟩, none⟩, none, false⟩,
             ⟨⟨(some 101), .load 3 (.tmp 100), 3, "", ⟨[]⟩, none⟩, none, false⟩,
             ⟨⟨(some 102), .move (.tmp 6), 3, "", ⟨[]⟩, none⟩, none, false⟩,
             ⟨⟨(some 103), .binOp .add 3 (.tmp 101) (.tmp 102) 3, 3, "", ⟨[]⟩, none⟩, none, false⟩,
             ⟨⟨(some 104), .nilCheck (.tmp 97), 0, "", ⟨[]⟩, none⟩, none, false⟩,
             ⟨⟨(some 105), .fieldAddr 60 (.tmp 104) 0, 0, "", ⟨[]⟩, none⟩, none, false⟩,
             ⟨⟨(some 106), .fieldAddr 37 (.tmp 105) 3, 0, "", ⟨[]⟩, none⟩, none, false⟩,
             ⟨⟨none, .store 3 (.tmp 106) (.tmp 103), 0, "", ⟨[]⟩, none⟩, none, false⟩])
           (.ops false [
             ⟨⟨(some 107), .move (.tmp 0), 44, "", ⟨[]⟩, none⟩, none, false⟩,
             ⟨⟨(some 108), .load 58 (.tmp 5), 58, "", ⟨[]⟩, none⟩, none, false⟩,
             ⟨⟨(some 109), .call ⟨.value (.func 56), ⟨[(.tmp 107), (.tmp 108)]⟩, ⟨[44, 58]⟩⟩, 0, "", ⟨[]⟩, none⟩, none, false⟩])))))))))))
def Tryz.s58 : SC :=
 (.seq
  (.ops false [
    ⟨⟨(some 4), .assign (.const (.int .i64 0)), 31, "", ⟨[]⟩, none⟩, none, false⟩])
  (.seq
   (.ops true [
     ⟨⟨(some 6), .move (.tmp 0), 44, "", ⟨[]⟩, none⟩, none, true⟩,
     ⟨⟨(some 7), .nilCheck (.tmp 6), 0, "", ⟨[]⟩, none⟩, none, true⟩,
     ⟨⟨(some 8), .fieldAddr 60 (.tmp 7) 0, 0, "", ⟨[]⟩, none⟩, none, true⟩,
     ⟨⟨(some 9), .fieldAddr 37 (.tmp 8) 1, 0, "", ⟨[]⟩, none⟩, none, true⟩,
     ⟨⟨(some 10), .load 3 (.tmp 9), 3, "", ⟨[]⟩, none⟩, none, true⟩,
     ⟨⟨(some 11), .move (.tmp 0), 44, "", ⟨[]⟩, none⟩, none, true⟩,
     ⟨⟨(some 12), .nilCheck (.tmp 11), 0, "", ⟨[]⟩, none⟩, none, true⟩,
     ⟨⟨(some 13), .fieldAddr 60 (.tmp 12) 0, 0, "", ⟨[]⟩, none⟩, none, true⟩,
     ⟨⟨(some 14), .fieldAddr 37 (.tmp 13) 2, 0, "", ⟨[]⟩, none⟩, none, true⟩,
     ⟨⟨(some 15), .load 3 (.tmp 14), 3, "", ⟨[]⟩, none⟩, none, true⟩,
     ⟨⟨(some 16), .binOp .sub 3 (.tmp 10) (.tmp 15) 3, 3, "", ⟨[]⟩, none⟩, none, true⟩,
     ⟨⟨(some 5), .assign (.tmp 16), 3, "", ⟨[]⟩, none⟩, none, true⟩])
   (.seq
    (.seq
     (.ops false [
       ⟨⟨(some 17), .move (.tmp 1), 3, "", ⟨[]⟩, none⟩, none, false⟩,
       ⟨⟨(some 18), .move (.tmp 5), 3, "", ⟨[]⟩, none⟩, none, false⟩,
       ⟨⟨(some 19), .move (.tmp 0), 44, "", ⟨[]⟩, none⟩, none, false⟩,
       ⟨⟨(some 20), .nilCheck (.tmp 19), 0, "", ⟨[]⟩, none⟩, none, false⟩,
       ⟨⟨(some 21), .fieldAddr 60 (.tmp 20) 0, 0, "", ⟨[]⟩, none⟩, none, false⟩,
       ⟨⟨(some 22), .fieldAddr 37 (.tmp 21) 0, 0, "", ⟨[]⟩, none⟩, none, false⟩,
       ⟨⟨(some 23), .load 3 (.tmp 22), 3, "", ⟨[]⟩, none⟩, none, false⟩,
       ⟨⟨(some 24), .binOp .add 3 (.tmp 18) (.tmp 23) 3, 3, "", ⟨[]⟩, none⟩, none, false⟩,
       ⟨⟨(some 25), .binOp .geq 3 (.tmp 17) (.tmp 24) 3, 4, "", ⟨[]⟩, none⟩, none, false⟩])
     (.cond (.tmp 25)
      (.seq
       (.ops false [
         ⟨⟨(some 4), .assign (.const (.int .i64 6)), 31, "", ⟨[]⟩, none⟩, none, false⟩])
       .ret)
      .skip))
    (.seq
     (.ops false [
       ⟨⟨(some 26), .move (.tmp 0), 44, "", ⟨[]⟩, none⟩, none, false⟩,
       ⟨⟨(some 27), .nilCheck (.tmp 26), 0, "", ⟨[]⟩, none⟩, none, false⟩,
       ⟨⟨(some 28), .fieldAddr 60 (.tmp 27) 0, 0, "", ⟨[]⟩, none⟩, none, false⟩,
       ⟨⟨(some 29), .fieldAddr 37 (.tmp 28) 2, 0, "", ⟨[]⟩, none⟩, none, false⟩,
       ⟨⟨(some 30), .load 3 (.tmp 29), 3, "", ⟨[]⟩, none⟩, none, false⟩,
       ⟨⟨(some 31), .move (.tmp 1), 3, "", ⟨[]⟩, none⟩, none, false⟩,
       ⟨⟨(some 32), .move (.tmp 5), 3, "", ⟨[]⟩, none⟩, none, false⟩,
       ⟨⟨(some 33), .call ⟨.builtin .min, ⟨[(.tmp 31), (.tmp 32)]⟩, ⟨[3, 3]⟩⟩, 3, "", ⟨[]⟩, none⟩, none, false⟩,
       ⟨⟨(some 34), .binOp .add 3 (.tmp 30) (.tmp 33) 3, 3, "", ⟨[]⟩, none⟩, none, false⟩,
       ⟨⟨(some 35), .nilCheck (.tmp 26), 0, "", ⟨[]⟩, none⟩, none, false⟩,
       ⟨⟨(some 36), .fieldAddr 60 (.tmp 35) 0, 0, "", ⟨[]⟩, none⟩, none, false⟩,
       ⟨⟨(some 37), .fieldAddr 37 (.tmp 36) 2, 0, "", ⟨[]⟩, none⟩, none, false⟩,
       ⟨⟨none, .store 3 (.tmp 37) (.tmp 34), 0, "", ⟨[]⟩, none⟩, none, false⟩])
     (.seq
      (.ops false [
        ⟨⟨(some 38), .move (.tmp 0), 44, "", ⟨[]⟩, none⟩, none, false⟩,
        ⟨⟨(some 39), .nilCheck (.tmp 38), 0, "", ⟨[]⟩, none⟩, none, false⟩,
        ⟨⟨(some 40), .fieldAddr 60 (.tmp 39) 0, 0, "", ⟨[]⟩, none⟩, none, false⟩,
        ⟨⟨(some 41), .fieldAddr 37 (.tmp 40) 0, 0, "", ⟨[]⟩, none⟩, none, false⟩,
        ⟨⟨(some 42), .load 3 (.tmp 41), 3, "", ⟨[]⟩, none⟩, none, false⟩,
        ⟨⟨(some 43), .move (.tmp 1), 3, "", ⟨[]⟩, none⟩, none, false⟩,
        ⟨⟨(some 44), .move (.tmp 5), 3, "", ⟨[]⟩, none⟩, none, false⟩,
        ⟨⟨(some 45), .binOp .sub 3 (.tmp 43) (.tmp 44) 3, 3, "", ⟨[]⟩, none⟩, none, false⟩,
        ⟨⟨(some 46), .call ⟨.builtin .max, ⟨[(.const (.int .i64 0)), (.tmp 45)]⟩, ⟨[3, 3]⟩⟩, 3, "", ⟨[]⟩, none⟩, none, false⟩,
        ⟨⟨(some 47), .binOp .sub 3 (.tmp 42) (.tmp 46) 3, 3, "", ⟨[]⟩, none⟩, none, false⟩,
        ⟨⟨(some 48), .nilCheck (.tmp 38), 0, "", ⟨[]⟩, none⟩, none, false⟩,
        ⟨⟨(some 49), .fieldAddr 60 (.tmp 48) 0, 0, "", ⟨[]⟩, none⟩, none, false⟩,
        ⟨⟨(some 50), .fieldAddr 37 (.tmp 49) 0, 0, "", ⟨[]⟩, none⟩, none, false⟩,
        ⟨⟨none, .store 3 (.tmp 50) (.tmp 47), 0, "", ⟨[]⟩, none⟩, none, false⟩])
      (.seq
       (.ops false [
         ⟨⟨(some 4), .assign (.const (.int .i64 0)), 31, "", ⟨[]⟩, none⟩, none, false⟩])
       .ret))))))
def Tryz.s59 : SC :=
 (.seq
  (.ops false [
    ⟨⟨(some 4), .assign (.const (.int .i64 0)), 31, "", ⟨[]⟩, none⟩, none, false⟩])
  (.seq
   (.ops false [
     ⟨⟨(some 6), .move (.tmp 0), 44, "", ⟨[]⟩, none⟩, none, false⟩,
     ⟨⟨(some 7), .nilCheck (.tmp 6), 0, "", ⟨[]⟩, none⟩, none, false⟩,
     ⟨⟨(some 8), .fieldAddr 60 (.tmp 7) 2, 0, "", ⟨[]⟩, none⟩, none, false⟩,
     ⟨⟨(some 9), .load 58 (.tmp 8), 58, "", ⟨[]⟩, none⟩, none, false⟩,
     ⟨⟨(some 5), .alloc 58, 0, "", ⟨[]⟩, none⟩, none, false⟩,
     ⟨⟨none, .store 58 (.tmp 5) (.tmp 9), 0, "", ⟨[]⟩, none⟩, none, false⟩])
   (.seq
    (.ops true [
      ⟨⟨(some 10), .move (.tmp 0), 44, "", ⟨[]⟩, none⟩, none, true⟩,
      ⟨⟨(some 11), .nilCheck (.tmp 10), 0, "", ⟨[]⟩, none⟩, none, true⟩,
      ⟨⟨(some 12), .fieldAddr 60 (.tmp 11) 2, 0, "", ⟨[]⟩, none⟩, none, true⟩,
      ⟨⟨(some 13), .fieldAddr 58 (.tmp 12) 3, 0, "", ⟨[]⟩, none⟩, none, true⟩,
      ⟨⟨(some 14), .load 3 (.tmp 13), 3, "", ⟨[]⟩, none⟩, none, true⟩,
      ⟨⟨(some 15), .move (.tmp 0), 44, "", ⟨[]⟩, none⟩, none, true⟩,
      ⟨⟨(some 16), .nilCheck (.tmp 15), 0, "", ⟨[]⟩, none⟩, none, true⟩,
      ⟨⟨(some 17), .fieldAddr 60 (.tmp 16) 1, 0, "", ⟨[]⟩, none⟩, none, true⟩,
      ⟨⟨(some 18), .fieldAddr 28 (.tmp 17) 1, 0, "", ⟨[]⟩, none⟩, none, true⟩,
      ⟨⟨(some 19), .fieldAddr 25 (.tmp 18) 2, 0, "", ⟨[]⟩, none⟩, none, true⟩,
      ⟨⟨(some 20), .load 3 (.tmp 19), 3, "", ⟨[]⟩, none⟩, none, true⟩,
      ⟨⟨(some 21), .binOp .add 3 (.tmp 14) (.tmp 20) 3, 3, "", ⟨[]⟩, none⟩, none, true⟩,
      ⟨⟨(some 22), .nilCheck (.tmp 10), 0, "", ⟨[]⟩, none⟩, none, true⟩,
      ⟨⟨(some 23), .fieldAddr 60 (.tmp 22) 2, 0, "", ⟨[]⟩, none⟩, none, true⟩,
      ⟨⟨(some 24), .fieldAddr 58 (.tmp 23) 3, 0, "", ⟨[]⟩, none⟩, none, true⟩,
      ⟨⟨none, .store 3 (.tmp 24) (.tmp 21), 0, "", ⟨[]⟩, none⟩, none, false⟩])
    (.seq
     (.ops false [
       ⟨⟨(some 25), .move (.tmp 0), 44, "", ⟨[]⟩, none⟩, none, false⟩,
       ⟨⟨(some 26), .load 58 (.tmp 5), 58, "", ⟨[]⟩, none⟩, none, false⟩,
       ⟨⟨(some 27), .call ⟨.value (.func 56), ⟨[(.tmp 25), (.tmp 26)]⟩, ⟨[44, 58]⟩⟩, 0, "", ⟨[]⟩, none⟩, none, false⟩])
     (.seq
      (.ops false [
        ⟨⟨(some 28), .move (.tmp 0), 44, "", ⟨[]⟩, none⟩, none, false⟩,
        ⟨⟨(some 29), .move (.tmp 0), 44, "", ⟨[]⟩, none⟩, none, false⟩,
        ⟨⟨(some 30), .nilCheck (.tmp 29), 0, "", ⟨[]⟩, none⟩, none, false⟩,
        ⟨⟨(some 31), .fieldAddr 60 (.tmp 30) 0, 0, "", ⟨[]⟩, none⟩, none, false⟩,
        ⟨⟨(some 32), .fieldAddr 37 (.tmp 31) 1, 0, "", ⟨[]⟩, none⟩, none, false⟩,
        ⟨⟨(some 33), .load 3 (.tmp 32), 3, "", ⟨[]⟩, none⟩, none, false⟩,
        ⟨⟨(some 34), .nilCheck (.tmp 28), 0, "", ⟨[]⟩, none⟩, none, false⟩,
        ⟨⟨(some 35), .fieldAddr 60 (.tmp 34) 0, 0, "", ⟨[]⟩, none⟩, none, false⟩,
        ⟨⟨(some 36), .fieldAddr 37 (.tmp 35) 2, 0, "", ⟨[]⟩, none⟩, none, false⟩,
        ⟨⟨none, .store 3 (.tmp 36) (.tmp 33), 0, "", ⟨[]⟩, none⟩, none, false⟩])
      (.seq
       (.ops false [
         ⟨⟨(some 37), .move (.tmp 0), 44, "", ⟨[]⟩, none⟩, none, false⟩,
         ⟨⟨(some 38), .nilCheck (.tmp 37), 0, "", ⟨[]⟩, none⟩, none, false⟩,
         ⟨⟨(some 39), .fieldAddr 60 (.tmp 38) 0, 0, "", ⟨[]⟩, none⟩, none, false⟩,
         ⟨⟨(some 40), .fieldAddr 37 (.tmp 39) 3, 0, "", ⟨[]⟩, none⟩, none, false⟩,
         ⟨⟨none, .store 3 (.tmp 40) (.const (.int .i64 0)), 0, "", ⟨[]⟩, none⟩, none, false⟩])
       (.seq
        (.ops false [
          ⟨⟨(some 4), .assign (.const (.int .i64 0)), 31, "", ⟨[]⟩, none⟩, none, false⟩])
        .ret)))))))
def Tryz.s60 : SC :=
 (.seq
  (.ops false [
    ⟨⟨(some 4), .assign (.const (.int .i64 0)), 31, "", ⟨[]⟩, none⟩, none, false⟩])
  (.seq
   (.seq
    (.ops true [
      ⟨⟨(some 5), .move (.tmp 0), 44, "", ⟨[]⟩, none⟩, none, true⟩,
      ⟨⟨(some 6), .nilCheck (.tmp 5), 0, "", ⟨[]⟩, none⟩, none, true⟩,
      ⟨⟨(some 7), .fieldAddr 60 (.tmp 6) 4, 0, "", ⟨[]⟩, none⟩, none, true⟩,
      ⟨⟨(some 8), .load 3 (.tmp 7), 3, "", ⟨[]⟩, none⟩, none, true⟩,
      ⟨⟨(some 9), .move (.tmp 0), 44, "", ⟨[]⟩, none⟩, none, true⟩,
      ⟨⟨(some 10), .nilCheck (.tmp 9), 0, "", ⟨[]⟩, none⟩, none, true⟩,
      ⟨⟨(some 11), .fieldAddr 60 (.tmp 10) 3, 0, "", ⟨[]⟩, none⟩, none, true⟩,
      ⟨⟨(some 12), .load 3 (.tmp 11), 3, "", ⟨[]⟩, none⟩, none, true⟩,
      ⟨⟨(some 13), .binOp .gtr 3 (.tmp 8) (.tmp 12) 3, 4, "", ⟨[]⟩, none⟩, none, true⟩])
    (.cond (.tmp 13)
     (.seq
      (.ops false [
        ⟨⟨(some 4), .assign (.const (.int .i64 26)), 31, "", ⟨[]⟩, none⟩, none, false⟩])
      .ret)
     .skip))
   (.seq
    (.ops false [
      ⟨⟨(some 14), .move (.tmp 0), 44, "", ⟨[]⟩, none⟩, none, false⟩,
      ⟨⟨(some 15), .move (.tmp 0), 44, "", ⟨[]⟩, none⟩, none, false⟩,
      ⟨⟨(some 16), .nilCheck (.tmp 15), 0, "", ⟨[]⟩, none⟩, none, false⟩,
      ⟨⟨(some 17), .fieldAddr 60 (.tmp 16) 3, 0, "", ⟨[]⟩, none⟩, none, false⟩,
      ⟨⟨(some 18), .load 3 (.tmp 17), 3, "", ⟨[]⟩, none⟩, none, false⟩,
      ⟨⟨(some 19), .move (.tmp 1), 3, "", ⟨[]⟩, none⟩, none, false⟩,
      ⟨⟨(some 20), .binOp .add 3 (.tmp 18) (.tmp 19) 3, 3, "", ⟨[]⟩, none⟩, none, false⟩,
      ⟨⟨(some 21), .nilCheck (.tmp 14), 0, "", ⟨[]⟩, none⟩, none, false⟩,
      ⟨⟨(some 22), .fieldAddr 60 (.tmp 21) 4, 0, "", ⟨[]⟩, none⟩, none, false⟩,
      ⟨⟨none, .store 3 (.tmp 22) (.tmp 20), 0, "", ⟨[]⟩, none⟩, none, false⟩])
    (.seq
     (.ops false [
       ⟨⟨(some 4), .assign (.const (.int .i64 0)), 31, "", ⟨[]⟩, none⟩, none, false⟩])
     .ret))))
def Tryz.s61 : SC :=
 (.seq
  (.ops false [
    ⟨⟨(some 4), .assign (.const (.int .i64 0)), 31, "", ⟨[]⟩, none⟩, none, false⟩])
  (.seq
   (.ops false [
     ⟨⟨(some 5), .move (.tmp 0), 44, "", ⟨[]⟩, none⟩, none, false⟩,
     ⟨⟨(some 6), .move (.tmp 0), 44, "", ⟨[]⟩, none⟩, none, false⟩,
     ⟨⟨(some 7), .nilCheck (.tmp 6), 0, "", ⟨[]⟩, none⟩, none, false⟩,
     ⟨⟨(some 8), .fieldAddr 60 (.tmp 7) 0, 0, "", ⟨[]⟩, none⟩, none, false⟩,
     ⟨⟨(some 9), .fieldAddr 37 (.tmp 8) 1, 0, "", ⟨[]⟩, none⟩, none, false⟩,
     ⟨⟨(some 10), .load 3 (.tmp 9), 3, "", ⟨[]⟩, none⟩, none, false⟩,
     ⟨⟨(some 11), .nilCheck (.tmp 5), 0, "", ⟨[]⟩, none⟩, none, false⟩,
     ⟨⟨(some 12), .fieldAddr 60 (.tmp 11) 0, 0, "", ⟨[]⟩, none⟩, none, false⟩,
     ⟨⟨(some 13), .fieldAddr 37 (.tmp 12) 2, 0, "", ⟨[]⟩, none⟩, none, false⟩,
     ⟨⟨none, .store 3 (.tmp 13) (.tmp 10), 0, "", ⟨[]⟩, none⟩, none, false⟩])
   (.seq
    (.ops false [
      ⟨⟨(some 14), .move (.tmp 0), 44, "", ⟨[]⟩, none⟩, none, false⟩,
      ⟨⟨(some 15), .nilCheck (.tmp 14), 0, "", ⟨[]⟩, none⟩, none, false⟩,
      ⟨⟨(some 16), .fieldAddr 60 (.tmp 15) 0, 0, "", ⟨[]⟩, none⟩, none, false⟩,
      ⟨⟨(some 17), .fieldAddr 37 (.tmp 16) 0, 0, "", ⟨[]⟩, none⟩, none, false⟩,
      ⟨⟨none, .store 3 (.tmp 17) (.const (.int .i64 0)), 0, "", ⟨[]⟩, none⟩, none, false⟩])
    (.seq
     (.ops false [
       ⟨⟨(some 18), .move (.tmp 0), 44, "", ⟨[]⟩, none⟩, none, false⟩,
       ⟨⟨(some 19), .nilCheck (.tmp 18), 0, "", ⟨[]⟩, none⟩, none, false⟩,
       ⟨⟨(some 20), .fieldAddr 60 (.tmp 19) 0, 0, "", ⟨[]⟩, none⟩, none, false⟩,
       ⟨⟨(some 21), .fieldAddr 37 (.tmp 20) 4, 0, "", ⟨[]⟩, none⟩, none, false⟩,
       ⟨⟨none, .store 4 (.tmp 21) (.const (.bool false)), 0, "", ⟨[]⟩, none⟩, none, false⟩])
     (.seq
      (.ops false [
        ⟨⟨(some 4), .assign (.const (.int .i64 0)), 31, "", ⟨[]⟩, none⟩, none, false⟩])
      .ret)))))
def Tryz.s39 : SC :=
 (.seq
  (.ops false [
    ⟨⟨(some 3), .box 85 (.tmp 1), 0, "", ⟨[]⟩, none⟩, none, false⟩,
    ⟨⟨(some 4), .assign (.const (.int .i64 0)), 31, "", ⟨[]⟩, none⟩, none, false⟩])
  (.seq
   (.seq
    (.ops true [
      ⟨⟨(some 6), .move (.tmp 0), 44, "", ⟨[]⟩, none⟩, none, true⟩,
      ⟨⟨(some 7), .nilCheck (.tmp 6), 0, "", ⟨[]⟩, none⟩, none, true⟩,
      ⟨⟨(some 8), .fieldAddr 60 (.tmp 7) 0, 0, "", ⟨[]⟩, none⟩, none, true⟩,
      ⟨⟨(some 9), .fieldAddr 37 (.tmp 8) 3, 0, "", ⟨[]⟩, none⟩, none, true⟩,
      ⟨⟨(some 10), .load 3 (.tmp 9), 3, "", ⟨[]⟩, none⟩, none, true⟩,
      ⟨⟨(some 11), .move (.tmp 0), 44, "", ⟨[]⟩, none⟩, none, true⟩,
      ⟨⟨(some 12), .nilCheck (.tmp 11), 0, "", ⟨[]⟩, none⟩, none, true⟩,
      ⟨⟨(some 13), .fieldAddr 60 (.tmp 12) 1, 0, "", ⟨[]⟩, none⟩, none, true⟩,
      ⟨⟨(some 14), .fieldAddr 28 (.tmp 13) 1, 0, "", ⟨[]⟩, none⟩, none, true⟩,
      ⟨⟨(some 15), .load 25 (.tmp 14), 25, "", ⟨[]⟩, none⟩, none, true⟩,
      ⟨⟨(some 16), .call ⟨.value (.func 57), ⟨[(.tmp 15)]⟩, ⟨[25]⟩⟩, 3, "", ⟨[]⟩, none⟩, none, true⟩,
      ⟨⟨(some 17), .binOp .gtr 3 (.tmp 10) (.tmp 16) 3, 4, "", ⟨[]⟩, none⟩, none, true⟩])
    (.cond (.tmp 17)
     (.seq
      (.ops false [
        ⟨⟨(some 4), .assign (.const (.int .i64 25)), 31, "", ⟨[]⟩, none⟩, none, false⟩])
      .ret)
     .skip))
   (.seq
    (.ops false [
      ⟨⟨(some 18), .build 113 ⟨[(1, (.func 58)), (2, (.func 59)), (3, (.func 60)), (4, (.func 61))]⟩, 113, "", ⟨[]⟩, none⟩, none, false⟩,
      ⟨⟨(some 5), .alloc 113, 0, "", ⟨[]⟩, none⟩, none, false⟩,
      ⟨⟨none, .store 113 (.tmp 5) (.tmp 18), 0, "", ⟨[]⟩, none⟩, none, false⟩])
    (.seq
     (.ops true [
       ⟨⟨(some 19), .fieldAddr 85 (.tmp 3) 1, 0, "", ⟨[]⟩, none⟩, none, true⟩,
       ⟨⟨(some 20), .load 3 (.tmp 19), 3, "", ⟨[]⟩, none⟩, none, true⟩,
       ⟨⟨(some 21), .indexAddr 113 (.tmp 5) (.tmp 20), 0, "", ⟨[]⟩, none⟩, none, true⟩,
       ⟨⟨(some 22), .load 111 (.tmp 21), 111, "", ⟨[]⟩, none⟩, none, true⟩,
       ⟨⟨(some 23), .move (.tmp 0), 44, "", ⟨[]⟩, none⟩, none, true⟩,
       ⟨⟨(some 24), .fieldAddr 85 (.tmp 3) 2, 0, "", ⟨[]⟩, none⟩, none, true⟩,
       ⟨⟨(some 25), .load 3 (.tmp 24), 3, "", ⟨[]⟩, none⟩, none, true⟩,
       ⟨⟨(some 26), .call ⟨.value (.tmp 22), ⟨[(.tmp 23), (.tmp 25)]⟩, ⟨[44, 3]⟩⟩, 31, "", ⟨[]⟩, none⟩, none, false⟩,
       ⟨⟨(some 4), .assign (.tmp 26), 31, "", ⟨[]⟩, none⟩, none, true⟩])
     .ret))))
theorem Tryz.s55_eq : Tryz.f55.body.map sOf = some Tryz.s55 := by kernel_rfl
theorem Tryz.s56_eq : Tryz.f56.body.map sOf = some Tryz.s56 := by kernel_rfl
theorem Tryz.s25_eq : Tryz.f25.body.map sOf = some Tryz.s25 := by kernel_rfl
theorem Tryz.s38_eq : Tryz.f38.body.map sOf = some Tryz.s38 := by kernel_rfl
theorem Tryz.s58_eq : Tryz.f58.body.map sOf = some Tryz.s58 := by kernel_rfl
theorem Tryz.s59_eq : Tryz.f59.body.map sOf = some Tryz.s59 := by kernel_rfl
theorem Tryz.s60_eq : Tryz.f60.body.map sOf = some Tryz.s60 := by kernel_rfl
theorem Tryz.s61_eq : Tryz.f61.body.map sOf = some Tryz.s61 := by kernel_rfl
theorem Tryz.s39_eq : Tryz.f39.body.map sOf = some Tryz.s39 := by kernel_rfl
end Go.Proofs

/- Functions' code, as the machine reads it. -/
namespace Go.Proofs
open Go Go.RowKit Go.Sim
set_option maxRecDepth 100000
def Tryz.s53 : SC :=
 (.seq
  (.ops false [
    ⟨⟨(some 1), .box 85 (.tmp 0), 0, "", ⟨[]⟩, none⟩, none, false⟩,
    ⟨⟨(some 2), .assign (.const .nilIface), 105, "", ⟨[]⟩, none⟩, none, false⟩])
  (.seq
   (.seq
    (.ops false [
      ⟨⟨(some 3), .fieldAddr 85 (.tmp 1) 1, 0, "", ⟨[]⟩, none⟩, none, false⟩,
      ⟨⟨(some 4), .load 3 (.tmp 3), 3, "", ⟨[]⟩, none⟩, none, false⟩])
    (.block 0
     (.seq
      (.ops false [
        ⟨⟨(some 6), .binOp .eql 3 (.tmp 4) (.const (.int .i64 1)) 3, 4, "", ⟨[]⟩, none⟩, none, false⟩,
        ⟨⟨(some 5), .assign (.tmp 6), 4, "", ⟨[]⟩, none⟩, none, false⟩])
      (.cond (.tmp 5)
       (.seq
        (.ops false [
          ⟨⟨(some 7), .load 85 (.tmp 1), 85, "", ⟨[]⟩, none⟩, none, false⟩,
          ⟨⟨(some 8), .makeInterface 124 (.tmp 7), 105, "", ⟨[]⟩, none⟩, none, false⟩,
          ⟨⟨(some 2), .assign (.tmp 8), 105, "", ⟨[]⟩, none⟩, none, false⟩])
        .ret)
       (.seq
        (.ops false [
          ⟨⟨(some 10), .binOp .eql 3 (.tmp 4) (.const (.int .i64 2)) 3, 4, "", ⟨[]⟩, none⟩, none, false⟩,
          ⟨⟨(some 9), .assign (.tmp 10), 4, "", ⟨[]⟩, none⟩, none, false⟩])
        (.cond (.tmp 9)
         (.seq
          (.ops false [
            ⟨⟨(some 11), .load 85 (.tmp 1), 85, "", ⟨[]⟩, none⟩, none, false⟩,
            ⟨⟨(some 12), .makeInterface 125 (.tmp 11), 105, "", ⟨[]⟩, none⟩, none, false⟩,
            ⟨⟨(some 2), .assign (.tmp 12), 105, "", ⟨[]⟩, none⟩, none, false⟩])
          .ret)
         (.seq
          (.ops false [
            ⟨⟨(some 14), .binOp .eql 3 (.tmp 4) (.const (.int .i64 3)) 3, 4, "", ⟨[]⟩, none⟩, none, false⟩,
            ⟨⟨(some 13), .assign (.tmp 14), 4, "", ⟨[]⟩, none⟩, none, false⟩])
          (.cond (.tmp 13)
           (.seq
            (.ops false [
              ⟨⟨(some 15), .load 85 (.tmp 1), 85, "", ⟨[]⟩, none⟩, none, false⟩,
              ⟨⟨(some 16), .makeInterface 126 (.tmp 15), 105, "", ⟨[]⟩, none⟩, none, false⟩,
              ⟨⟨(some 2), .assign (.tmp 16), 105, "", ⟨[]⟩, none⟩, none, false⟩])
            .ret)
           (.seq
            (.ops false [
              ⟨⟨(some 18), .binOp .eql 3 (.tmp 4) (.const (.int .i64 4)) 3, 4, "", ⟨[]⟩, none⟩, none, false⟩,
              ⟨⟨(some 17), .assign (.tmp 18), 4, "", ⟨[]⟩, none⟩, none, false⟩])
            (.cond (.tmp 17)
             (.seq
              (.ops false [
                ⟨⟨(some 19), .load 85 (.tmp 1), 85, "", ⟨[]⟩, none⟩, none, false⟩,
                ⟨⟨(some 20), .makeInterface 107 (.tmp 19), 105, "", ⟨[]⟩, none⟩, none, false⟩,
                ⟨⟨(some 2), .assign (.tmp 20), 105, "", ⟨[]⟩, none⟩, none, false⟩])
              .ret)
             .skip))))))))))
   (.seq
    (.ops false [
      ⟨⟨(some 2), .assign (.const .nilIface), 105, "", ⟨[]⟩, none⟩, none, false⟩])
    .ret)))
def Tryz.s54 : SC :=
 (.seq
  (.ops false [
    ⟨⟨(some 1), .box 107 (.tmp 0), 0, "", ⟨[]⟩, none⟩, none, false⟩,
    ⟨⟨(some 2), .assign (.const (.bool false)), 4, "", ⟨[]⟩, none⟩, none, false⟩])
  (.seq
   (.ops false [
     ⟨⟨(some 3), .fieldAddr 107 (.tmp 1) 2, 0, "", ⟨[]⟩, none⟩, none, false⟩,
     ⟨⟨(some 4), .load 3 (.tmp 3), 3, "", ⟨[]⟩, none⟩, none, false⟩,
     ⟨⟨(some 5), .binOp .eql 3 (.tmp 4) (.const (.int .i64 0)) 3, 4, "", ⟨[]⟩, none⟩, none, false⟩,
     ⟨⟨(some 2), .assign (.tmp 5), 4, "", ⟨[]⟩, none⟩, none, false⟩])
   .ret))
def Tryz.s115 : SC :=
 (.seq
  (.ops false [
    ⟨⟨(some 1), .box 124 (.tmp 0), 0, "", ⟨[]⟩, none⟩, none, false⟩,
    ⟨⟨(some 2), .assign (.const (.bool false)), 4, "", ⟨[]⟩, none⟩, none, false⟩])
  (.seq
   (.ops false [
     ⟨⟨(some 3), .fieldAddr 124 (.tmp 1) 2, 0, "", ⟨[]⟩, none⟩, none, false⟩,
     ⟨⟨(some 4), .load 3 (.tmp 3), 3, "", ⟨[]⟩, none⟩, none, false⟩,
     ⟨⟨(some 5), .call ⟨.value (.func 20), ⟨[(.tmp 4), (.const (.int .i64 1)), (.const (.int .i64 1073741824))]⟩, ⟨[3, 3, 3]⟩⟩, 4, "", ⟨[]⟩, none⟩, none, false⟩,
     ⟨⟨(some 2), .assign (.tmp 5), 4, "", ⟨[]⟩, none⟩, none, false⟩])
   .ret))
def Tryz.s116 : SC :=
 (.seq
  (.ops false [
    ⟨⟨(some 1), .box 125 (.tmp 0), 0, "", ⟨[]⟩, none⟩, none, false⟩,
    ⟨⟨(some 2), .assign (.const (.bool false)), 4, "", ⟨[]⟩, none⟩, none, false⟩])
  (.seq
   (.ops false [
     ⟨⟨(some 3), .fieldAddr 125 (.tmp 1) 2, 0, "", ⟨[]⟩, none⟩, none, false⟩,
     ⟨⟨(some 4), .load 3 (.tmp 3), 3, "", ⟨[]⟩, none⟩, none, false⟩,
     ⟨⟨(some 5), .binOp .eql 3 (.tmp 4) (.const (.int .i64 0)) 3, 4, "", ⟨[]⟩, none⟩, none, false⟩,
     ⟨⟨(some 2), .assign (.tmp 5), 4, "", ⟨[]⟩, none⟩, none, false⟩])
   .ret))
def Tryz.s117 : SC :=
 (.seq
  (.ops false [
    ⟨⟨(some 1), .box 126 (.tmp 0), 0, "", ⟨[]⟩, none⟩, none, false⟩,
    ⟨⟨(some 2), .assign (.const (.bool false)), 4, "", ⟨[]⟩, none⟩, none, false⟩])
  (.seq
   (.ops false [
     ⟨⟨(some 3), .fieldAddr 126 (.tmp 1) 2, 0, "", ⟨[]⟩, none⟩, none, false⟩,
     ⟨⟨(some 4), .load 3 (.tmp 3), 3, "", ⟨[]⟩, none⟩, none, false⟩,
     ⟨⟨(some 5), .call ⟨.value (.func 20), ⟨[(.tmp 4), (.const (.int .i64 1)), (.const (.int .i64 366))]⟩, ⟨[3, 3, 3]⟩⟩, 4, "", ⟨[]⟩, none⟩, none, false⟩,
     ⟨⟨(some 2), .assign (.tmp 5), 4, "", ⟨[]⟩, none⟩, none, false⟩])
   .ret))
def Tryz.s36 : SC :=
 (.seq
  (.ops false [
    ⟨⟨(some 2), .box 28 (.tmp 0), 0, "", ⟨[]⟩, none⟩, none, false⟩,
    ⟨⟨(some 4), .assign (.const (.bool false)), 4, "", ⟨[]⟩, none⟩, none, false⟩])
  (.seq
   (.seq
    (.ops false [
      ⟨⟨(some 12), .move (.tmp 1), 29, "", ⟨[]⟩, none⟩, none, false⟩,
      ⟨⟨(some 13), .call ⟨.builtin .len, ⟨[(.tmp 12)]⟩, ⟨[29]⟩⟩, 3, "", ⟨[]⟩, none⟩, none, false⟩,
      ⟨⟨(some 14), .binOp .gtr 3 (.tmp 13) (.const (.int .i64 32)) 3, 4, "", ⟨[]⟩, none⟩, none, false⟩])
    (.cond (.tmp 14)
     (.seq
      (.ops false [
        ⟨⟨(some 4), .assign (.const (.bool false)), 4, "", ⟨[]⟩, none⟩, none, false⟩])
      .ret)
     .skip))
   (.seq
    (.ops false [
      ⟨⟨(some 15), .fieldAddr 28 (.tmp 2) 3, 0, "", ⟨[]⟩, none⟩, none, false⟩,
      ⟨⟨(some 16), .load 3 (.tmp 15), 3, "", ⟨[]⟩, none⟩, none, false⟩,
      ⟨⟨(some 5), .assign (.tmp 16), 3, "", ⟨[]⟩, none⟩, none, false⟩])
    (.seq
     (.seq
      (.ops false [
        ⟨⟨(some 17), .move (.tmp 1), 29, "", ⟨[]⟩, none⟩, none, false⟩,
        ⟨⟨(some 18), .call ⟨.builtin .len, ⟨[(.tmp 17)]⟩, ⟨[29]⟩⟩, 3, "", ⟨[]⟩, none⟩, none, false⟩,
        ⟨⟨(some 19), .move (.const (.int .i64 0)), 3, "", ⟨[]⟩, none⟩, none, false⟩])
      (.block 0
       (.loop
        (.seq
         (.ops false [
           ⟨⟨(some 20), .binOp .lss 3 (.tmp 19) (.tmp 18) 3, 0, "", ⟨[]⟩, none⟩, none, false⟩])
         (.seq
          (.cond (.tmp 20)
           .skip
           (.exit 0))
          (.seq
           (.block 1
            (.seq
             (.ops false [
               ⟨⟨(some 21), .move (.tmp 19), 3, "", ⟨[]⟩, none⟩, none, false⟩,
               ⟨⟨(some 22), .indexAddr 29 (.tmp 17) (.tmp 19), 0, "", ⟨[]⟩, none⟩, none, false⟩,
               ⟨⟨(some 23), .load 85 (.tmp 22), 85, "", ⟨[]⟩, none⟩, none, false⟩,
               ⟨⟨(some 7), .alloc 85, 0, "", ⟨[]⟩, none⟩, none, false⟩,
               ⟨⟨(some 6), .assign (.tmp 21), 3, "", ⟨[]⟩, none⟩, none, false⟩,
               ⟨⟨none, .store 85 (.tmp 7) (.tmp 23), 0, "", ⟨[]⟩, none⟩, none, false⟩])
             (.seq
              (.seq
               (.ops false [
                 ⟨⟨(some 24), .fieldAddr 85 (.tmp 7) 0, 0, "", ⟨[]⟩, none⟩, none, false⟩,
                 ⟨⟨(some 25), .load 3 (.tmp 24), 3, "", ⟨[]⟩, none⟩, none, false⟩,
                 ⟨⟨(some 26), .move (.tmp 5), 3, "", ⟨[]⟩, none⟩, none, false⟩,
                 ⟨⟨(some 27), .call ⟨.value (.func 20), ⟨[(.tmp 25), (.tmp 26), (.const (.int .i64 36500))]⟩, ⟨[3, 3, 3]⟩⟩, 4, "", ⟨[]⟩, none⟩, none, false⟩,
                 ⟨⟨(some 28), .unOp .not 4 (.tmp 27), 4, "", ⟨[]⟩, none⟩, none, false⟩])
               (.cond (.tmp 28)
                (.seq
                 (.ops false [
                   ⟨⟨(some 4), .assign (.const (.bool false)), 4, "", ⟨[]⟩, none⟩, none, false⟩])
                 .ret)
                .skip))
              (.seq
               (.ops false [
                 ⟨⟨(some 29), .fieldAddr 85 (.tmp 7) 0, 0, "", ⟨[]⟩, none⟩, none, false⟩,
                 ⟨⟨(some 30), .load 3 (.tmp 29), 3, "", ⟨[]⟩, none⟩, none, false⟩,
                 ⟨⟨(some 5), .assign (.tmp 30), 3, "", ⟨[]⟩, none⟩, none, false⟩])
               (.seq
                (.ops false [
                  ⟨⟨(some 31), .move (.tmp 1), 29, "", ⟨[]⟩, none⟩, none, false⟩,
                  ⟨⟨(some 32), .call ⟨.builtin .len, ⟨[(.tmp 31)]⟩, ⟨[29]⟩⟩, 3, "", ⟨[]⟩, none⟩, none, false⟩,
                  ⟨⟨(some 33), .binOp .sub 3 (.tmp 32) (.const (.int .i64 1)) 3, 3, "", ⟨[]⟩, none⟩, none, false⟩,
                  ⟨⟨(some 34), .move (.tmp 6), 3, "", ⟨[]⟩, none⟩, none, false⟩,
                  ⟨⟨(some 35), .binOp .sub 3 (.tmp 33) (.tmp 34) 3, 3, "", ⟨[]⟩, none⟩, none, false⟩,
                  ⟨⟨(some 8), .assign (.tmp 35), 3, "", ⟨[]⟩, none⟩, none, false⟩])
                (.seq
                 (.ops false [
                   ⟨⟨(some 36), .load 85 (.tmp 7), 85, "", ⟨[]⟩, none⟩, none, false⟩,
                   ⟨⟨(some 37), .call ⟨.value (.func 53), ⟨[(.tmp 36)]⟩, ⟨[85]⟩⟩, 105, "", ⟨[]⟩, none⟩, none, false⟩])
                 (.block 2
                  (.seq
                   (.ops false [
                     ⟨⟨(some 41), .binOp .eql 105 (.tmp 37) (.const .nilIface) 105, 4, "", ⟨[]⟩, none⟩, none, false⟩])
                   (.cond (.tmp 41)
                    (.seq
                     (.ops false [
                       ⟨⟨(some 9), .assign (.tmp 37), 105, "", ⟨[]⟩, none⟩, none, false⟩])
                     (.seq
                      (.ops false [
                        ⟨⟨(some 4), .assign (.const (.bool false)), 4, "", ⟨[]⟩, none⟩, none, false⟩])
                      .ret))
                    (.seq
                     (.ops false [
                       ⟨⟨(some 42), .typeAssert (.tmp 37) 105 107 true, 0, "", ⟨[]⟩, none⟩, none, false⟩,
                       ⟨⟨(some 43), .extract (.tmp 42) 1, 4, "", ⟨[]⟩, none⟩, none, false⟩,
                       ⟨⟨(some 44), .extract (.tmp 42) 0, 107, "", ⟨[]⟩, none⟩, none, false⟩])
                     (.cond (.tmp 43)
                      (.seq
                       (.ops false [
                         ⟨⟨(some 10), .alloc 107, 0, "", ⟨[]⟩, none⟩, none, false⟩,
                         ⟨⟨none, .store 107 (.tmp 10) (.tmp 44), 0, "", ⟨[]⟩, none⟩, none, false⟩])
                       (.seq
                        (.ops false [
                          ⟨⟨(some 45), .move (.tmp 8), 3, "", ⟨[]⟩, none⟩, none, false⟩,
                          ⟨⟨(some 46), .binOp .gtr 3 (.tmp 45) (.const (.int .i64 0)) 3, 4, "", ⟨[]⟩, none⟩, none, false⟩,
                          ⟨⟨(some 47), .move (.tmp 46), 4, "", ⟨[]⟩, none⟩, none, false⟩,
                          ⟨⟨(some 48), .load 107 (.tmp 10), 107, "", ⟨[]⟩, none⟩, some ((some 47), false), false⟩,
                          ⟨⟨(some 49), .call ⟨.value (.func 54), ⟨[(.tmp 48)]⟩, ⟨[107]⟩⟩, 4, "", ⟨[]⟩, none⟩, some ((some 47), false), false⟩,
                          ⟨⟨(some 50), .unOp .not 4 (.tmp 49), 4, "", ⟨[]⟩, none⟩, some ((some 47), false), false⟩,
                          ⟨⟨(some 51), .pick (.tmp 47) (.const (.bool true)) (.tmp 50), 4, "", ⟨[]⟩, none⟩, none, false⟩])
                        (.cond (.tmp 51)
                         (.seq
                          (.ops false [
                            ⟨⟨(some 4), .assign (.const (.bool false)), 4, "", ⟨[]⟩, none⟩, none, false⟩])
                          .ret)
                         .skip)))
                      (.seq
                       (.ops false [
                         ⟨⟨(some 11), .assign (.tmp 37), 105, "", ⟨[]⟩, none⟩, none, false⟩])
                       (.seq
                        (.ops false [
                          ⟨⟨(some 38), .move (.tmp 11), 105, "", ⟨[]⟩, none⟩, none, false⟩,
                          ⟨⟨(some 39), .call ⟨.invoke (.tmp 38) "lombard/loan.fits", ⟨[]⟩, ⟨[]⟩⟩, 4, "", ⟨[]⟩, none⟩, none, false⟩,
                          ⟨⟨(some 40), .unOp .not 4 (.tmp 39), 4, "", ⟨[]⟩, none⟩, none, false⟩])
                        (.cond (.tmp 40)
                         (.seq
                          (.ops false [
                            ⟨⟨(some 4), .assign (.const (.bool false)), 4, "", ⟨[]⟩, none⟩, none, false⟩])
                          .ret)
                         .skip))))))))))))))
           (.ops false [
             ⟨⟨(some 52), .binOp .add 3 (.tmp 19) (.const (.int .i64 1)) 3, 3, "", ⟨[]⟩, none⟩, none, false⟩,
             ⟨⟨(some 19), .move (.tmp 52), 3, "", ⟨[]⟩, none⟩, none, false⟩])))))))
     (.seq
      (.ops false [
        ⟨⟨(some 4), .assign (.const (.bool true)), 4, "", ⟨[]⟩, none⟩, none, false⟩])
      .ret)))))
def Tryz.s37 : SC :=
 (.seq
  (.ops false [
    ⟨⟨(some 1), .box 28 (.tmp 0), 0, "", ⟨[]⟩, none⟩, none, false⟩,
    ⟨⟨(some 2), .assign (.const (.pointer none)), 44, "", ⟨[]⟩, none⟩, none, false⟩])
  (.seq
   (.ops false [
     ⟨⟨(some 3), .fieldAddr 28 (.tmp 1) 4, 0, "", ⟨[]⟩, none⟩, none, false⟩,
     ⟨⟨(some 4), .load 3 (.tmp 3), 3, "", ⟨[]⟩, none⟩, none, false⟩,
     ⟨⟨(some 5), .build 37 ⟨[(0, (.tmp 4)), (4, (.const (.bool true)))]⟩, 37, "", ⟨[]⟩, none⟩, none, false⟩,
     ⟨⟨(some 6), .load 28 (.tmp 1), 28, "", ⟨[]⟩, none⟩, none, false⟩,
     ⟨⟨(some 7), .fieldAddr 28 (.tmp 1) 3, 0, "", ⟨[]⟩, none⟩, none, false⟩,
     ⟨⟨(some 8), .load 3 (.tmp 7), 3, "", ⟨[]⟩, none⟩, none, false⟩,
     ⟨⟨(some 9), .fieldAddr 28 (.tmp 1) 3, 0, "", ⟨[]⟩, none⟩, none, false⟩,
     ⟨⟨(some 10), .load 3 (.tmp 9), 3, "", ⟨[]⟩, none⟩, none, false⟩,
     ⟨⟨(some 11), .build 60 ⟨[(0, (.tmp 5)), (1, (.tmp 6)), (3, (.tmp 8)), (4, (.tmp 10))]⟩, 60, "", ⟨[]⟩, none⟩, none, false⟩,
     ⟨⟨(some 12), .box 60 (.tmp 11), 44, "", ⟨[]⟩, none⟩, none, false⟩,
     ⟨⟨(some 2), .assign (.tmp 12), 44, "", ⟨[]⟩, none⟩, none, false⟩])
   .ret))
def Tryz.s14 : SC :=
 (.seq
  (.ops false [
    ⟨⟨(some 2), .box 28 (.tmp 0), 0, "", ⟨[]⟩, none⟩, none, false⟩,
    ⟨⟨(some 4), .assign (.const (.pointer none)), 44, "", ⟨[]⟩, none⟩, none, false⟩,
    ⟨⟨(some 5), .assign (.const (.slice none 0 0)), 30, "", ⟨[]⟩, none⟩, none, false⟩,
    ⟨⟨(some 6), .assign (.const (.int .i64 0)), 3, "", ⟨[]⟩, none⟩, none, false⟩,
    ⟨⟨(some 7), .assign (.const (.int .i64 0)), 31, "", ⟨[]⟩, none⟩, none, false⟩])
  (.seq
   (.seq
    (.ops false [
      ⟨⟨(some 9), .load 28 (.tmp 2), 28, "", ⟨[]⟩, none⟩, none, false⟩,
      ⟨⟨(some 10), .call ⟨.value (.func 7), ⟨[(.tmp 9)]⟩, ⟨[28]⟩⟩, 31, "", ⟨[]⟩, none⟩, none, false⟩,
      ⟨⟨(some 8), .assign (.tmp 10), 31, "", ⟨[]⟩, none⟩, none, false⟩])
    (.seq
     (.ops false [
       ⟨⟨(some 11), .move (.tmp 8), 31, "", ⟨[]⟩, none⟩, none, false⟩,
       ⟨⟨(some 12), .binOp .neq 31 (.tmp 11) (.const (.int .i64 0)) 31, 4, "", ⟨[]⟩, none⟩, none, false⟩])
     (.cond (.tmp 12)
      (.seq
       (.ops false [
         ⟨⟨(some 13), .move (.tmp 8), 31, "", ⟨[]⟩, none⟩, none, false⟩,
         ⟨⟨(some 4), .assign (.const (.pointer none)), 44, "", ⟨[]⟩, none⟩, none, false⟩,
         ⟨⟨(some 5), .assign (.const (.slice none 0 0)), 30, "", ⟨[]⟩, none⟩, none, false⟩,
         ⟨⟨(some 6), .assign (.const (.int .i64 0)), 3, "", ⟨[]⟩, none⟩, none, false⟩,
         ⟨⟨(some 7), .assign (.tmp 13), 31, "", ⟨[]⟩, none⟩, none, false⟩])
       .ret)
      .skip)))
   (.seq
    (.seq
     (.ops false [
       ⟨⟨(some 14), .load 28 (.tmp 2), 28, "", ⟨[]⟩, none⟩, none, false⟩,
       ⟨⟨(some 15), .move (.tmp 1), 29, "", ⟨[]⟩, none⟩, none, false⟩,
       ⟨⟨(some 16), .call ⟨.value (.func 36), ⟨[(.tmp 14), (.tmp 15)]⟩, ⟨[28, 29]⟩⟩, 4, "", ⟨[]⟩, none⟩, none, false⟩,
       ⟨⟨(some 17), .unOp .not 4 (.tmp 16), 4, "", ⟨[]⟩, none⟩, none, false⟩])
     (.cond (.tmp 17)
      (.seq
       (.ops false [
         ⟨⟨(some 4), .assign (.const (.pointer none)), 44, "", ⟨[]⟩, none⟩, none, false⟩,
         ⟨⟨(some 5), .assign (.const (.slice none 0 0)), 30, "", ⟨[]⟩, none⟩, none, false⟩,
         ⟨⟨(some 6), .assign (.const (.int .i64 0)), 3, "", ⟨[]⟩, none⟩, none, false⟩,
         ⟨⟨(some 7), .assign (.const (.int .i64 24)), 31, "", ⟨[]⟩, none⟩, none, false⟩])
       .ret)
      .skip))
    (.seq
     (.ops false [
       ⟨⟨(some 18), .load 28 (.tmp 2), 28, "", ⟨[]⟩, none⟩, none, false⟩,
       ⟨⟨(some 19), .call ⟨.value (.func 37), ⟨[(.tmp 18)]⟩, ⟨[28]⟩⟩, 44, "", ⟨[]⟩, none⟩, none, false⟩,
       ⟨⟨(some 4), .assign (.tmp 19), 44, "", ⟨[]⟩, none⟩, none, false⟩])
     (.seq
      .skip
      (.seq
       (.block 0
        (.loop
         (.seq
          (.seq
           (.ops false [
             ⟨⟨(some 20), .move (.tmp 6), 3, "", ⟨[]⟩, none⟩, none, false⟩,
             ⟨⟨(some 21), .move (.tmp 1), 29, "", ⟨[]⟩, none⟩, none, false⟩,
             ⟨⟨(some 22), .call ⟨.builtin .len, ⟨[(.tmp 21)]⟩, ⟨[29]⟩⟩, 3, "", ⟨[]⟩, none⟩, none, false⟩,
             ⟨⟨(some 23), .binOp .lss 3 (.tmp 20) (.tmp 22) 3, 4, "", ⟨[]⟩, none⟩, none, false⟩])
           (.cond (.tmp 23)
            .skip
            (.exit 0)))
          (.seq
           (.block 1
            (.seq
             (.ops false [
               ⟨⟨(some 26), .move (.tmp 4), 44, "", ⟨[]⟩, none⟩, none, false⟩,
               ⟨⟨(some 27), .move (.tmp 1), 29, "", ⟨[]⟩, none⟩, none, false⟩,
               ⟨⟨(some 28), .move (.tmp 6), 3, "", ⟨[]⟩, none⟩, none, false⟩,
               ⟨⟨(some 29), .indexAddr 29 (.tmp 27) (.tmp 28), 0, "", ⟨[]⟩, none⟩, none, false⟩,
               ⟨⟨(some 30), .fieldAddr 85 (.tmp 29) 0, 0, "", ⟨[]⟩, none⟩, none, false⟩,
               ⟨⟨(some 31), .load 3 (.tmp 30), 3, "", ⟨[]⟩, none⟩, none, false⟩,
               ⟨⟨(some 32), .call ⟨.value (.func 38), ⟨[(.tmp 26), (.tmp 31)]⟩, ⟨[44, 3]⟩⟩, 0, "", ⟨[]⟩, none⟩, none, false⟩])
             (.seq
              (.ops false [
                ⟨⟨(some 33), .move (.tmp 4), 44, "", ⟨[]⟩, none⟩, none, false⟩,
                ⟨⟨(some 34), .move (.tmp 1), 29, "", ⟨[]⟩, none⟩, none, false⟩,
                ⟨⟨(some 35), .move (.tmp 6), 3, "", ⟨[]⟩, none⟩, none, false⟩,
                ⟨⟨(some 36), .indexAddr 29 (.tmp 34) (.tmp 35), 0, "", ⟨[]⟩, none⟩, none, false⟩,
                ⟨⟨(some 37), .load 85 (.tmp 36), 85, "", ⟨[]⟩, none⟩, none, false⟩,
                ⟨⟨(some 38), .call ⟨.value (.func 39), ⟨[(.tmp 33), (.tmp 37)]⟩, ⟨[44, 85]⟩⟩, 31, "", ⟨[]⟩, none⟩, none, false⟩,
                ⟨⟨(some 7), .assign (.tmp 38), 31, "", ⟨[]⟩, none⟩, none, false⟩])
              (.seq
               (.ops false [
                 ⟨⟨(some 39), .move (.tmp 7), 31, "", ⟨[]⟩, none⟩, none, false⟩])
               (.block 2
                (.seq
                 (.ops false [
                   ⟨⟨(some 41), .binOp .eql 31 (.tmp 39) (.const (.int .i64 0)) 31, 4, "", ⟨[]⟩, none⟩, none, false⟩,
                   ⟨⟨(some 40), .assign (.tmp 41), 4, "", ⟨[]⟩, none⟩, none, false⟩])
                 (.cond (.tmp 40)
                  (.ops false [
                    ⟨⟨(some 42), .move (.tmp 5), 30, "", ⟨[]⟩, none⟩, none, false⟩,
                    ⟨⟨(some 43), .move (.tmp 4), 44, "", ⟨[]⟩, none⟩, none, false⟩,
                    ⟨⟨(some 44), .nilCheck (.tmp 43), 0, "", ⟨[]⟩, none⟩, none, false⟩,
                    ⟨⟨(some 45), .fieldAddr 60 (.tmp 44) 0, 0, "", ⟨[]⟩, none⟩, none, false⟩,
                    ⟨⟨(some 46), .load 37 (.tmp 45), 37, "", ⟨[]⟩, none⟩, none, false⟩,
                    ⟨⟨(some 47), .buildSlice 30 1 ⟨[(0, (.tmp 46))]⟩, 30, "", ⟨[]⟩, none⟩, none, false⟩,
                    ⟨⟨(some 48), .call ⟨.builtin .append, ⟨[(.tmp 42), (.tmp 47)]⟩, ⟨[30, 30]⟩⟩, 30, "", ⟨[]⟩, none⟩, none, false⟩,
                    ⟨⟨(some 5), .assign (.tmp 48), 30, "", ⟨[]⟩, none⟩, none, false⟩])
                  (.exit 0))))))))
           (.ops false [
             ⟨⟨(some 24), .move (.tmp 6), 3, "", ⟨[]⟩, none⟩, none, false⟩,
             ⟨⟨(some 25), .binOp .add 3 (.tmp 24) (.const (.int .i64 1)) 3, 3, "", ⟨[]⟩, none⟩, none, false⟩,
             ⟨⟨(some 6), .assign (.tmp 25), 3, "", ⟨[]⟩, none⟩, none, false⟩])))))
       (.seq
        (.seq
         (.ops false [
           ⟨⟨(some 49), .move (.tmp 7), 31, "", ⟨[]⟩, none⟩, none, false⟩,
           ⟨⟨(some 50), .binOp .neq 31 (.tmp 49) (.const (.int .i64 0)) 31, 4, "", ⟨[]⟩, none⟩, none, false⟩])
         (.cond (.tmp 50)
          (.seq
           (.ops false [
             ⟨⟨(some 51), .move (.tmp 6), 3, "", ⟨[]⟩, none⟩, none, false⟩,
             ⟨⟨(some 52), .move (.tmp 7), 31, "", ⟨[]⟩, none⟩, none, false⟩,
             ⟨⟨(some 4), .assign (.const (.pointer none)), 44, "", ⟨[]⟩, none⟩, none, false⟩,
             ⟨⟨(some 5), .assign (.const (.slice none 0 0)), 30, "", ⟨[]⟩, none⟩, none, false⟩,
             ⟨⟨(some 6), .assign (.tmp 51), 3, "", ⟨[]⟩, none⟩, none, false⟩,
             ⟨⟨(some 7), .assign (.tmp 52), 31, "", ⟨[]⟩, none⟩, none, false⟩])
           .ret)
          .skip))
        (.seq
         (.ops false [
           ⟨⟨(some 53), .move (.tmp 4), 44, "", ⟨[]⟩, none⟩, none, false⟩,
           ⟨⟨(some 54), .move (.tmp 5), 30, "", ⟨[]⟩, none⟩, none, false⟩,
           ⟨⟨(some 55), .move (.tmp 6), 3, "", ⟨[]⟩, none⟩, none, false⟩,
           ⟨⟨(some 4), .assign (.tmp 53), 44, "", ⟨[]⟩, none⟩, none, false⟩,
           ⟨⟨(some 5), .assign (.tmp 54), 30, "", ⟨[]⟩, none⟩, none, false⟩,
           ⟨⟨(some 6), .assign (.tmp 55), 3, "", ⟨[]⟩, none⟩, none, false⟩,
           ⟨⟨(some 7), .assign (.const (.int .i64 0)), 31, "", ⟨[]⟩, none⟩, none, false⟩])
         .ret))))))))
def Tryz.s22 : SC :=
 (.seq
  (.ops false [
    ⟨⟨(some 3), .box 28 (.tmp 0), 0, "", ⟨[]⟩, none⟩, none, false⟩,
    ⟨⟨(some 6), .assign (.const (.pointer none)), 44, "", ⟨[]⟩, none⟩, none, false⟩,
    ⟨⟨(some 7), .assign (.const (.int .i64 0)), 31, "", ⟨[]⟩, none⟩, none, false⟩])
  (.seq
   (.ops false [
     ⟨⟨(some 13), .load 28 (.tmp 3), 28, "", ⟨[]⟩, none⟩, none, false⟩,
     ⟨⟨(some 14), .move (.tmp 1), 29, "", ⟨[]⟩, none⟩, none, false⟩,
     ⟨⟨(some 15), .call ⟨.value (.func 14), ⟨[(.tmp 13), (.tmp 14)]⟩, ⟨[28, 29]⟩⟩, 45, "", ⟨[]⟩, none⟩, none, false⟩,
     ⟨⟨(some 12), .move (.tmp 15), 45, "", ⟨[]⟩, none⟩, none, false⟩,
     ⟨⟨(some 16), .extract (.tmp 12) 0, 44, "", ⟨[]⟩, none⟩, none, false⟩,
     ⟨⟨(some 17), .extract (.tmp 12) 1, 30, "", ⟨[]⟩, none⟩, none, false⟩,
     ⟨⟨(some 18), .extract (.tmp 12) 2, 3, "", ⟨[]⟩, none⟩, none, false⟩,
     ⟨⟨(some 19), .extract (.tmp 12) 3, 31, "", ⟨[]⟩, none⟩, none, false⟩,
     ⟨⟨(some 8), .assign (.tmp 16), 44, "", ⟨[]⟩, none⟩, none, false⟩,
     ⟨⟨(some 9), .assign (.tmp 17), 30, "", ⟨[]⟩, none⟩, none, false⟩,
     ⟨⟨(some 10), .assign (.tmp 18), 3, "", ⟨[]⟩, none⟩, none, false⟩,
     ⟨⟨(some 11), .assign (.tmp 19), 31, "", ⟨[]⟩, none⟩, none, false⟩])
   (.seq
    (.seq
     (.ops false [
       ⟨⟨(some 20), .move (.tmp 11), 31, "", ⟨[]⟩, none⟩, none, false⟩,
       ⟨⟨(some 21), .binOp .neq 31 (.tmp 20) (.const (.int .i64 0)) 31, 4, "", ⟨[]⟩, none⟩, none, false⟩])
     (.cond (.tmp 21)
      (.seq
       (.ops false [
         ⟨⟨(some 22), .move (.tmp 11), 31, "", ⟨[]⟩, none⟩, none, false⟩,
         ⟨⟨(some 6), .assign (.const (.pointer none)), 44, "", ⟨[]⟩, none⟩, none, false⟩,
         ⟨⟨(some 7), .assign (.tmp 22), 31, "", ⟨[]⟩, none⟩, none, false⟩])
       .ret)
      .skip))
    (.seq
     (.seq
      (.ops false [
        ⟨⟨(some 23), .move (.tmp 2), 3, "", ⟨[]⟩, none⟩, none, false⟩,
        ⟨⟨(some 24), .move (.tmp 8), 44, "", ⟨[]⟩, none⟩, none, false⟩,
        ⟨⟨(some 25), .nilCheck (.tmp 24), 0, "", ⟨[]⟩, none⟩, none, false⟩,
        ⟨⟨(some 26), .fieldAddr 60 (.tmp 25) 3, 0, "", ⟨[]⟩, none⟩, none, false⟩,
        ⟨⟨(some 27), .load 3 (.tmp 26), 3, "", ⟨[]⟩, none⟩, none, false⟩,
        ⟨⟨(some 28), .call ⟨.value (.func 20), ⟨[(.tmp 23), (.tmp 27), (.const (.int .i64 36500))]⟩, ⟨[3, 3, 3]⟩⟩, 4, "", ⟨[]⟩, none⟩, none, false⟩,
        ⟨⟨(some 29), .unOp .not 4 (.tmp 28), 4, "", ⟨[]⟩, none⟩, none, false⟩])
      (.cond (.tmp 29)
       (.seq
        (.ops false [
          ⟨⟨(some 6), .assign (.const (.pointer none)), 44, "", ⟨[]⟩, none⟩, none, false⟩,
          ⟨⟨(some 7), .assign (.const (.int .i64 7)), 31, "", ⟨[]⟩, none⟩, none, false⟩])
        .ret)
       .skip))
     (.seq
      (.ops false [
        ⟨⟨(some 30), .move (.tmp 8), 44, "", ⟨[]⟩, none⟩, none, false⟩,
        ⟨⟨(some 31), .move (.tmp 2), 3, "", ⟨[]⟩, none⟩, none, false⟩,
        ⟨⟨(some 32), .call ⟨.value (.func 38), ⟨[(.tmp 30), (.tmp 31)]⟩, ⟨[44, 3]⟩⟩, 0, "", ⟨[]⟩, none⟩, none, false⟩])
      (.seq
       (.ops false [
         ⟨⟨(some 33), .move (.tmp 8), 44, "", ⟨[]⟩, none⟩, none, false⟩,
         ⟨⟨(some 6), .assign (.tmp 33), 44, "", ⟨[]⟩, none⟩, none, false⟩,
         ⟨⟨(some 7), .assign (.const (.int .i64 0)), 31, "", ⟨[]⟩, none⟩, none, false⟩])
       .ret))))))
def Tryz.s9 : SC :=
 (.seq
  (.ops false [
    ⟨⟨(some 3), .box 28 (.tmp 0), 0, "", ⟨[]⟩, none⟩, none, false⟩,
    ⟨⟨(some 6), .alloc 37, 0, "", ⟨[]⟩, none⟩, none, false⟩,
    ⟨⟨(some 7), .assign (.const (.int .i64 0)), 31, "", ⟨[]⟩, none⟩, none, false⟩])
  (.seq
   (.ops false [
     ⟨⟨(some 11), .load 28 (.tmp 3), 28, "", ⟨[]⟩, none⟩, none, false⟩,
     ⟨⟨(some 12), .move (.tmp 1), 29, "", ⟨[]⟩, none⟩, none, false⟩,
     ⟨⟨(some 13), .move (.tmp 2), 3, "", ⟨[]⟩, none⟩, none, false⟩,
     ⟨⟨(some 14), .call ⟨.value (.func 22), ⟨[(.tmp 11), (.tmp 12), (.tmp 13)]⟩, ⟨[28, 29, 3]⟩⟩, 55, "", ⟨[]⟩, none⟩, none, false⟩,
     ⟨⟨(some 10), .move (.tmp 14), 55, "", ⟨[]⟩, none⟩, none, false⟩,
     ⟨⟨(some 15), .extract (.tmp 10) 0, 44, "", ⟨[]⟩, none⟩, none, false⟩,
     ⟨⟨(some 16), .extract (.tmp 10) 1, 31, "", ⟨[]⟩, none⟩, none, false⟩,
     ⟨⟨(some 8), .assign (.tmp 15), 44, "", ⟨[]⟩, none⟩, none, false⟩,
     ⟨⟨(some 9), .assign (.tmp 16), 31, "", ⟨[]⟩, none⟩, none, false⟩])
   (.seq
    (.seq
     (.ops false [
       ⟨⟨(some 17), .move (.tmp 9), 31, "", ⟨[]⟩, none⟩, none, false⟩,
       ⟨⟨(some 18), .binOp .neq 31 (.tmp 17) (.const (.int .i64 0)) 31, 4, "", ⟨[]⟩, none⟩, none, false⟩])
     (.cond (.tmp 18)
      (.seq
       (.ops false [
         ⟨⟨(some 19), .build 37 ⟨[]⟩, 37, "", ⟨[]⟩, none⟩, none, false⟩,
         ⟨⟨(some 20), .move (.tmp 9), 31, "", ⟨[]⟩, none⟩, none, false⟩,
         ⟨⟨none, .store 37 (.tmp 6) (.tmp 19), 0, "", ⟨[]⟩, none⟩, none, false⟩,
         ⟨⟨(some 7), .assign (.tmp 20), 31, "", ⟨[]⟩, none⟩, none, false⟩])
       .ret)
      .skip))
    (.seq
     (.ops false [
       ⟨⟨(some 21), .move (.tmp 8), 44, "", ⟨[]⟩, none⟩, none, false⟩,
       ⟨⟨(some 22), .nilCheck (.tmp 21), 0, "", ⟨[]⟩, none⟩, none, false⟩,
       ⟨⟨(some 23), .fieldAddr 60 (.tmp 22) 0, 0, "", ⟨[]⟩, none⟩, none, false⟩,
       ⟨⟨(some 24), .load 37 (.tmp 23), 37, "", ⟨[]⟩, none⟩, none, false⟩,
       ⟨⟨none, .store 37 (.tmp 6) (.tmp 24), 0, "", ⟨[]⟩, none⟩, none, false⟩,
       ⟨⟨(some 7), .assign (.const (.int .i64 0)), 31, "", ⟨[]⟩, none⟩, none, false⟩])
     .ret))))
def Tryz.s4 : SC :=
 (.seq
  (.ops false [
    ⟨⟨(some 2), .box 28 (.tmp 0), 0, "", ⟨[]⟩, none⟩, none, false⟩,
    ⟨⟨(some 4), .assign (.const (.slice none 0 0)), 30, "", ⟨[]⟩, none⟩, none, false⟩,
    ⟨⟨(some 5), .assign (.const (.int .i64 0)), 3, "", ⟨[]⟩, none⟩, none, false⟩,
    ⟨⟨(some 6), .assign (.const (.int .i64 0)), 31, "", ⟨[]⟩, none⟩, none, false⟩])
  (.seq
   (.ops false [
     ⟨⟨(some 8), .load 28 (.tmp 2), 28, "", ⟨[]⟩, none⟩, none, false⟩,
     ⟨⟨(some 9), .move (.tmp 1), 29, "", ⟨[]⟩, none⟩, none, false⟩,
     ⟨⟨(some 10), .call ⟨.value (.func 14), ⟨[(.tmp 8), (.tmp 9)]⟩, ⟨[28, 29]⟩⟩, 45, "", ⟨[]⟩, none⟩, none, false⟩,
     ⟨⟨(some 7), .move (.tmp 10), 45, "", ⟨[]⟩, none⟩, none, false⟩,
     ⟨⟨(some 11), .extract (.tmp 7) 0, 44, "", ⟨[]⟩, none⟩, none, false⟩,
     ⟨⟨(some 12), .extract (.tmp 7) 1, 30, "", ⟨[]⟩, none⟩, none, false⟩,
     ⟨⟨(some 13), .extract (.tmp 7) 2, 3, "", ⟨[]⟩, none⟩, none, false⟩,
     ⟨⟨(some 14), .extract (.tmp 7) 3, 31, "", ⟨[]⟩, none⟩, none, false⟩,
     ⟨⟨(some 4), .assign (.tmp 12), 30, "", ⟨[]⟩, none⟩, none, false⟩,
     ⟨⟨(some 5), .assign (.tmp 13), 3, "", ⟨[]⟩, none⟩, none, false⟩,
     ⟨⟨(some 6), .assign (.tmp 14), 31, "", ⟨[]⟩, none⟩, none, false⟩])
   (.seq
    (.ops false [
      ⟨⟨(some 15), .move (.tmp 4), 30, "", ⟨[]⟩, none⟩, none, false⟩,
      ⟨⟨(some 16), .move (.tmp 5), 3, "", ⟨[]⟩, none⟩, none, false⟩,
      ⟨⟨(some 17), .move (.tmp 6), 31, "", ⟨[]⟩, none⟩, none, false⟩,
      ⟨⟨(some 4), .assign (.tmp 15), 30, "", ⟨[]⟩, none⟩, none, false⟩,
      ⟨⟨(some 5), .assign (.tmp 16), 3, "", ⟨[]⟩, none⟩, none, false⟩,
      ⟨⟨(some 6), .assign (.tmp 17), 31, "", ⟨[]⟩, none⟩, none, false⟩])
    .ret)))
def Tryz.s11 : SC :=
 (.seq
  (.ops false [
    ⟨⟨(some 3), .box 28 (.tmp 0), 0, "", ⟨[]⟩, none⟩, none, false⟩,
    ⟨⟨(some 6), .assign (.const (.int .i64 0)), 3, "", ⟨[]⟩, none⟩, none, false⟩,
    ⟨⟨(some 7), .assign (.const (.int .i64 0)), 31, "", ⟨[]⟩, none⟩, none, false⟩])
  (.seq
   (.ops false [
     ⟨⟨(some 11), .load 28 (.tmp 3), 28, "", ⟨[]⟩, none⟩, none, false⟩,
     ⟨⟨(some 12), .move (.tmp 1), 29, "", ⟨[]⟩, none⟩, none, false⟩,
     ⟨⟨(some 13), .move (.tmp 2), 3, "", ⟨[]⟩, none⟩, none, false⟩,
     ⟨⟨(some 14), .call ⟨.value (.func 22), ⟨[(.tmp 11), (.tmp 12), (.tmp 13)]⟩, ⟨[28, 29, 3]⟩⟩, 55, "", ⟨[]⟩, none⟩, none, false⟩,
     ⟨⟨(some 10), .move (.tmp 14), 55, "", ⟨[]⟩, none⟩, none, false⟩,
     ⟨⟨(some 15), .extract (.tmp 10) 0, 44, "", ⟨[]⟩, none⟩, none, false⟩,
     ⟨⟨(some 16), .extract (.tmp 10) 1, 31, "", ⟨[]⟩, none⟩, none, false⟩,
     ⟨⟨(some 8), .assign (.tmp 15), 44, "", ⟨[]⟩, none⟩, none, false⟩,
     ⟨⟨(some 9), .assign (.tmp 16), 31, "", ⟨[]⟩, none⟩, none, false⟩])
   (.seq
    (.seq
     (.ops false [
       ⟨⟨(some 17), .move (.tmp 9), 31, "", ⟨[]⟩, none⟩, none, false⟩,
       ⟨⟨(some 18), .binOp .neq 31 (.tmp 17) (.const (.int .i64 0)) 31, 4, "", ⟨[]⟩, none⟩, none, false⟩])
     (.cond (.tmp 18)
      (.seq
       (.ops false [
         ⟨⟨(some 19), .move (.tmp 9), 31, "", ⟨[]⟩, none⟩, none, false⟩,
         ⟨⟨(some 6), .assign (.const (.int .i64 0)), 3, "", ⟨[]⟩, none⟩, none, false⟩,
         ⟨⟨(some 7), .assign (.tmp 19), 31, "", ⟨[]⟩, none⟩, none, false⟩])
       .ret)
      .skip))
    (.seq
     (.ops false [
       ⟨⟨(some 20), .move (.tmp 8), 44, "", ⟨[]⟩, none⟩, none, false⟩,
       ⟨⟨(some 21), .call ⟨.value (.func 25), ⟨[(.tmp 20)]⟩, ⟨[44]⟩⟩, 3, "", ⟨[]⟩, none⟩, none, false⟩,
       ⟨⟨(some 6), .assign (.tmp 21), 3, "", ⟨[]⟩, none⟩, none, false⟩,
       ⟨⟨(some 7), .assign (.const (.int .i64 0)), 31, "", ⟨[]⟩, none⟩, none, false⟩])
     .ret))))
theorem Tryz.s53_eq : Tryz.f53.body.map sOf = some Tryz.s53 := by kernel_rfl
theorem Tryz.s54_eq : Tryz.f54.body.map sOf = some Tryz.s54 := by kernel_rfl
theorem Tryz.s115_eq : Tryz.f115.body.map sOf = some Tryz.s115 := by kernel_rfl
theorem Tryz.s116_eq : Tryz.f116.body.map sOf = some Tryz.s116 := by kernel_rfl
theorem Tryz.s117_eq : Tryz.f117.body.map sOf = some Tryz.s117 := by kernel_rfl
theorem Tryz.s36_eq : Tryz.f36.body.map sOf = some Tryz.s36 := by kernel_rfl
theorem Tryz.s37_eq : Tryz.f37.body.map sOf = some Tryz.s37 := by kernel_rfl
theorem Tryz.s14_eq : Tryz.f14.body.map sOf = some Tryz.s14 := by kernel_rfl
theorem Tryz.s22_eq : Tryz.f22.body.map sOf = some Tryz.s22 := by kernel_rfl
theorem Tryz.s9_eq : Tryz.f9.body.map sOf = some Tryz.s9 := by kernel_rfl
theorem Tryz.s4_eq : Tryz.f4.body.map sOf = some Tryz.s4 := by kernel_rfl
theorem Tryz.s11_eq : Tryz.f11.body.map sOf = some Tryz.s11 := by kernel_rfl
end Go.Proofs
