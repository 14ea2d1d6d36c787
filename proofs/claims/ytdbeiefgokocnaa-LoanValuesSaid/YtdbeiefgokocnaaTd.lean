/- The stripped code of the functions of markets. -/
import Derived.Test.YtdbeiefgokocnaaTa
import Derived.Test.YtdbeiefgokocnaaNb
import Derived.Test.YtdbeiefgokocnaaNa
set_option linter.unusedVariables false
set_option linter.unusedSimpArgs false
/- Functions' code, as the machine reads it. -/
namespace Go.Proofs
open Go Go.RowKit Go.Sim
set_option maxRecDepth 100000
def Try.s17 : SC :=
 (.seq
  (.ops false [
    ⟨⟨(some 1), .box 25 (.tmp 0), 0, "", ⟨[]⟩, none⟩, none, false⟩,
    ⟨⟨(some 2), .assign (.const (.int .i64 0)), 30, "", ⟨[]⟩, none⟩, none, false⟩])
  (.seq
   (.seq
    (.ops false [
      ⟨⟨(some 5), .fieldAddr 25 (.tmp 1) 1, 0, "", ⟨[]⟩, none⟩, none, false⟩,
      ⟨⟨(some 6), .load 23 (.tmp 5), 23, "", ⟨[]⟩, none⟩, none, false⟩,
      ⟨⟨(some 7), .call ⟨.value (.func 49), ⟨[(.tmp 6)]⟩, ⟨[23]⟩⟩, 4, "", ⟨[]⟩, none⟩, none, false⟩,
      ⟨⟨(some 8), .unOp .not 4 (.tmp 7), 4, "", ⟨[]⟩, none⟩, none, false⟩,
      ⟨⟨(some 9), .move (.tmp 8), 4, "", ⟨[]⟩, none⟩, none, false⟩,
      ⟨⟨(some 10), .fieldAddr 25 (.tmp 1) 2, 0, "", ⟨[]⟩, none⟩, some ((some 9), false), false⟩,
      ⟨⟨(some 11), .load 3 (.tmp 10), 3, "", ⟨[]⟩, none⟩, some ((some 9), false), false⟩,
      ⟨⟨(some 12), .call ⟨.value (.func 50), ⟨[(.tmp 11), (.const (.int .i64 0)), (.const (.int .i64 100000))]⟩, ⟨[3, 3, 3]⟩⟩, 4, "", ⟨[]⟩, none⟩, some ((some 9), false), false⟩,
      ⟨⟨(some 13), .unOp .not 4 (.tmp 12), 4, "", ⟨[]⟩, none⟩, some ((some 9), false), false⟩,
      ⟨⟨(some 14), .pick (.tmp 9) (.const (.bool true)) (.tmp 13), 4, "", ⟨[]⟩, none⟩, none, false⟩,
      ⟨⟨(some 15), .move (.tmp 14), 4, "", ⟨[]⟩, none⟩, none, false⟩,
      ⟨⟨(some 16), .fieldAddr 25 (.tmp 1) 3, 0, "", ⟨[]⟩, none⟩, some ((some 15), false), false⟩,
      ⟨⟨(some 17), .load 3 (.tmp 16), 3, "", ⟨[]⟩, none⟩, some ((some 15), false), false⟩,
      ⟨⟨(some 18), .call ⟨.value (.func 51), ⟨[(.tmp 17)]⟩, ⟨[3]⟩⟩, 4, "", ⟨[]⟩, none⟩, some ((some 15), false), false⟩,
      ⟨⟨(some 19), .unOp .not 4 (.tmp 18), 4, "", ⟨[]⟩, none⟩, some ((some 15), false), false⟩,
      ⟨⟨(some 20), .pick (.tmp 15) (.const (.bool true)) (.tmp 19), 4, "", ⟨[]⟩, none⟩, none, false⟩,
      ⟨⟨(some 21), .move (.tmp 20), 4, "", ⟨[]⟩, none⟩, none, false⟩,
      ⟨⟨(some 22), .fieldAddr 25 (.tmp 1) 4, 0, "", ⟨[]⟩, none⟩, some ((some 21), false), false⟩,
      ⟨⟨(some 23), .load 3 (.tmp 22), 3, "", ⟨[]⟩, none⟩, some ((some 21), false), false⟩,
      ⟨⟨(some 24), .call ⟨.value (.func 50), ⟨[(.tmp 23), (.const (.int .i64 1)), (.const (.int .i64 16))]⟩, ⟨[3, 3, 3]⟩⟩, 4, "", ⟨[]⟩, none⟩, some ((some 21), false), false⟩,
      ⟨⟨(some 25), .unOp .not 4 (.tmp 24), 4, "", ⟨[]⟩, none⟩, some ((some 21), false), false⟩,
      ⟨⟨(some 26), .pick (.tmp 21) (.const (.bool true)) (.tmp 25), 4, "", ⟨[]⟩, none⟩, none, false⟩,
      ⟨⟨(some 27), .move (.tmp 26), 4, "", ⟨[]⟩, none⟩, none, false⟩,
      ⟨⟨(some 28), .fieldAddr 25 (.tmp 1) 0, 0, "", ⟨[]⟩, none⟩, some ((some 27), false), false⟩,
      ⟨⟨(some 29), .load 22 (.tmp 28), 22, "", ⟨[]⟩, none⟩, some ((some 27), false), false⟩,
      ⟨⟨(some 30), .call ⟨.builtin .len, ⟨[(.tmp 29)]⟩, ⟨[22]⟩⟩, 3, "", ⟨[]⟩, none⟩, some ((some 27), false), false⟩,
      ⟨⟨(some 31), .binOp .gtr 3 (.tmp 30) (.const (.int .i64 64)) 3, 4, "", ⟨[]⟩, none⟩, some ((some 27), false), false⟩,
      ⟨⟨(some 32), .pick (.tmp 27) (.const (.bool true)) (.tmp 31), 4, "", ⟨[]⟩, none⟩, none, false⟩])
    (.cond (.tmp 32)
     (.seq
      (.ops false [
        ⟨⟨(some 2), .assign (.const (.int .i64 20)), 30, "", ⟨[]⟩, none⟩, none, false⟩])
      .ret)
     .skip))
   (.seq
    (.seq
     (.ops false [
       ⟨⟨(some 33), .fieldAddr 25 (.tmp 1) 0, 0, "", ⟨[]⟩, none⟩, none, false⟩,
       ⟨⟨(some 34), .load 22 (.tmp 33), 22, "", ⟨[]⟩, none⟩, none, false⟩,
       ⟨⟨(some 35), .call ⟨.builtin .len, ⟨[(.tmp 34)]⟩, ⟨[22]⟩⟩, 3, "", ⟨[]⟩, none⟩, none, false⟩,
       ⟨⟨(some 36), .move (.const (.int .i64 0)), 3, "", ⟨[]⟩, none⟩, none, false⟩])
     (.block 0
      (.loop
       (.seq
        (.ops false [
          ⟨⟨(some 37), .binOp .lss 3 (.tmp 36) (.tmp 35) 3, 0, "", ⟨[]⟩, none⟩, none, false⟩])
        (.seq
         (.cond (.tmp 37)
          .skip
          (.exit 0))
         (.seq
          (.block 1
           (.seq
            (.ops false [
              ⟨⟨(some 38), .indexAddr 22 (.tmp 34) (.tmp 36), 0, "", ⟨[]⟩, none⟩, none, false⟩,
              ⟨⟨(some 39), .load 66 (.tmp 38), 66, "", ⟨[]⟩, none⟩, none, false⟩,
              ⟨⟨(some 4), .alloc 66, 0, "", ⟨[]⟩, none⟩, none, false⟩,
              ⟨⟨none, .store 66 (.tmp 4) (.tmp 39), 0, "", ⟨[]⟩, none⟩, none, false⟩])
            (.seq
             (.ops false [
               ⟨⟨(some 40), .load 25 (.tmp 1), 25, "", ⟨[]⟩, none⟩, none, false⟩,
               ⟨⟨(some 41), .load 66 (.tmp 4), 66, "", ⟨[]⟩, none⟩, none, false⟩,
               ⟨⟨(some 42), .call ⟨.value (.func 52), ⟨[(.tmp 40), (.tmp 41)]⟩, ⟨[25, 66]⟩⟩, 4, "", ⟨[]⟩, none⟩, none, false⟩,
               ⟨⟨(some 43), .unOp .not 4 (.tmp 42), 4, "", ⟨[]⟩, none⟩, none, false⟩])
             (.cond (.tmp 43)
              (.seq
               (.ops false [
                 ⟨⟨(some 2), .assign (.const (.int .i64 20)), 30, "", ⟨[]⟩, none⟩, none, false⟩])
               .ret)
              .skip))))
          (.ops false [
            ⟨⟨(some 44), .binOp .add 3 (.tmp 36) (.const (.int .i64 1)) 3, 3, "", ⟨[]⟩, none⟩, none, false⟩,
            ⟨⟨(some 36), .move (.tmp 44), 3, "", ⟨[]⟩, none⟩, none, false⟩])))))))
    (.seq
     (.ops false [
       ⟨⟨(some 2), .assign (.const (.int .i64 0)), 30, "", ⟨[]⟩, none⟩, none, false⟩])
     .ret))))
def Try.s49 : SC :=
 (.seq
  (.ops false [
    ⟨⟨(some 2), .assign (.const (.bool false)), 4, "", ⟨[]⟩, none⟩, none, false⟩])
  (.seq
   (.seq
    (.ops false [
      ⟨⟨(some 5), .move (.tmp 0), 23, "", ⟨[]⟩, none⟩, none, false⟩,
      ⟨⟨(some 6), .call ⟨.builtin .len, ⟨[(.tmp 5)]⟩, ⟨[23]⟩⟩, 3, "", ⟨[]⟩, none⟩, none, false⟩,
      ⟨⟨(some 7), .binOp .lss 3 (.tmp 6) (.const (.int .i64 1)) 3, 4, "", ⟨[]⟩, none⟩, none, false⟩,
      ⟨⟨(some 8), .move (.tmp 7), 4, "", ⟨[]⟩, none⟩, none, false⟩,
      ⟨⟨(some 9), .move (.tmp 0), 23, "", ⟨[]⟩, none⟩, some ((some 8), false), false⟩,
      ⟨⟨(some 10), .call ⟨.builtin .len, ⟨[(.tmp 9)]⟩, ⟨[23]⟩⟩, 3, "", ⟨[]⟩, none⟩, some ((some 8), false), false⟩,
      ⟨⟨(some 11), .binOp .gtr 3 (.tmp 10) (.const (.int .i64 8)) 3, 4, "", ⟨[]⟩, none⟩, some ((some 8), false), false⟩,
      ⟨⟨(some 12), .pick (.tmp 8) (.const (.bool true)) (.tmp 11), 4, "", ⟨[]⟩, none⟩, none, false⟩])
    (.cond (.tmp 12)
     (.seq
      (.ops false [
        ⟨⟨(some 2), .assign (.const (.bool false)), 4, "", ⟨[]⟩, none⟩, none, false⟩])
      .ret)
     .skip))
   (.seq
    (.seq
     (.ops false [
       ⟨⟨(some 13), .move (.tmp 0), 23, "", ⟨[]⟩, none⟩, none, false⟩,
       ⟨⟨(some 14), .call ⟨.builtin .len, ⟨[(.tmp 13)]⟩, ⟨[23]⟩⟩, 3, "", ⟨[]⟩, none⟩, none, false⟩,
       ⟨⟨(some 15), .move (.const (.int .i64 0)), 3, "", ⟨[]⟩, none⟩, none, false⟩])
     (.block 0
      (.loop
       (.seq
        (.ops false [
          ⟨⟨(some 16), .binOp .lss 3 (.tmp 15) (.tmp 14) 3, 0, "", ⟨[]⟩, none⟩, none, false⟩])
        (.seq
         (.cond (.tmp 16)
          .skip
          (.exit 0))
         (.seq
          (.block 1
           (.seq
            (.ops false [
              ⟨⟨(some 17), .indexAddr 23 (.tmp 13) (.tmp 15), 0, "", ⟨[]⟩, none⟩, none, false⟩,
              ⟨⟨(some 18), .load 3 (.tmp 17), 3, "", ⟨[]⟩, none⟩, none, false⟩,
              ⟨⟨(some 4), .assign (.tmp 18), 3, "", ⟨[]⟩, none⟩, none, false⟩])
            (.seq
             (.ops false [
               ⟨⟨(some 19), .move (.tmp 4), 3, "", ⟨[]⟩, none⟩, none, false⟩,
               ⟨⟨(some 20), .call ⟨.value (.func 50), ⟨[(.tmp 19), (.const (.int .i64 0)), (.const (.int .i64 64))]⟩, ⟨[3, 3, 3]⟩⟩, 4, "", ⟨[]⟩, none⟩, none, false⟩,
               ⟨⟨(some 21), .unOp .not 4 (.tmp 20), 4, "", ⟨[]⟩, none⟩, none, false⟩])
             (.cond (.tmp 21)
              (.seq
               (.ops false [
                 ⟨⟨(some 2), .assign (.const (.bool false)), 4, "", ⟨[]⟩, none⟩, none, false⟩])
               .ret)
              .skip))))
          (.ops false [
            ⟨⟨(some 22), .binOp .add 3 (.tmp 15) (.const (.int .i64 1)) 3, 3, "", ⟨[]⟩, none⟩, none, false⟩,
            ⟨⟨(some 15), .move (.tmp 22), 3, "", ⟨[]⟩, none⟩, none, false⟩])))))))
    (.seq
     (.ops false [
       ⟨⟨(some 2), .assign (.const (.bool true)), 4, "", ⟨[]⟩, none⟩, none, false⟩])
     .ret))))
def Try.s52 : SC :=
 (.seq
  (.ops false [
    ⟨⟨(some 2), .box 25 (.tmp 0), 0, "", ⟨[]⟩, none⟩, none, false⟩,
    ⟨⟨(some 3), .box 66 (.tmp 1), 0, "", ⟨[]⟩, none⟩, none, false⟩,
    ⟨⟨(some 4), .assign (.const (.bool false)), 4, "", ⟨[]⟩, none⟩, none, false⟩])
  (.seq
   (.ops false [
     ⟨⟨(some 5), .load 25 (.tmp 2), 25, "", ⟨[]⟩, none⟩, none, false⟩,
     ⟨⟨(some 6), .fieldAddr 66 (.tmp 3) 0, 0, "", ⟨[]⟩, none⟩, none, false⟩,
     ⟨⟨(some 7), .load 3 (.tmp 6), 3, "", ⟨[]⟩, none⟩, none, false⟩,
     ⟨⟨(some 8), .call ⟨.value (.func 46), ⟨[(.tmp 5), (.tmp 7)]⟩, ⟨[25, 3]⟩⟩, 4, "", ⟨[]⟩, none⟩, none, false⟩,
     ⟨⟨(some 9), .move (.tmp 8), 4, "", ⟨[]⟩, none⟩, none, false⟩,
     ⟨⟨(some 10), .fieldAddr 66 (.tmp 3) 1, 0, "", ⟨[]⟩, none⟩, some ((some 9), true), false⟩,
     ⟨⟨(some 11), .load 3 (.tmp 10), 3, "", ⟨[]⟩, none⟩, some ((some 9), true), false⟩,
     ⟨⟨(some 12), .fieldAddr 25 (.tmp 2) 3, 0, "", ⟨[]⟩, none⟩, some ((some 9), true), false⟩,
     ⟨⟨(some 13), .load 3 (.tmp 12), 3, "", ⟨[]⟩, none⟩, some ((some 9), true), false⟩,
     ⟨⟨(some 14), .call ⟨.value (.func 50), ⟨[(.tmp 11), (.const (.int .i64 0)), (.tmp 13)]⟩, ⟨[3, 3, 3]⟩⟩, 4, "", ⟨[]⟩, none⟩, some ((some 9), true), false⟩,
     ⟨⟨(some 15), .pick (.tmp 9) (.tmp 14) (.const (.bool false)), 4, "", ⟨[]⟩, none⟩, none, false⟩,
     ⟨⟨(some 16), .move (.tmp 15), 4, "", ⟨[]⟩, none⟩, none, false⟩,
     ⟨⟨(some 17), .fieldAddr 66 (.tmp 3) 2, 0, "", ⟨[]⟩, none⟩, some ((some 16), true), false⟩,
     ⟨⟨(some 18), .load 3 (.tmp 17), 3, "", ⟨[]⟩, none⟩, some ((some 16), true), false⟩,
     ⟨⟨(some 19), .call ⟨.value (.func 50), ⟨[(.tmp 18), (.const (.int .i64 0)), (.const (.int .i64 1000))]⟩, ⟨[3, 3, 3]⟩⟩, 4, "", ⟨[]⟩, none⟩, some ((some 16), true), false⟩,
     ⟨⟨(some 20), .pick (.tmp 16) (.tmp 19) (.const (.bool false)), 4, "", ⟨[]⟩, none⟩, none, false⟩,
     ⟨⟨(some 21), .move (.tmp 20), 4, "", ⟨[]⟩, none⟩, none, false⟩,
     ⟨⟨(some 22), .fieldAddr 66 (.tmp 3) 3, 0, "", ⟨[]⟩, none⟩, some ((some 21), true), false⟩,
     ⟨⟨(some 23), .load 3 (.tmp 22), 3, "", ⟨[]⟩, none⟩, some ((some 21), true), false⟩,
     ⟨⟨(some 24), .call ⟨.value (.func 50), ⟨[(.tmp 23), (.const (.int .i64 0)), (.const (.int .i64 100000))]⟩, ⟨[3, 3, 3]⟩⟩, 4, "", ⟨[]⟩, none⟩, some ((some 21), true), false⟩,
     ⟨⟨(some 25), .pick (.tmp 21) (.tmp 24) (.const (.bool false)), 4, "", ⟨[]⟩, none⟩, none, false⟩,
     ⟨⟨(some 26), .move (.tmp 25), 4, "", ⟨[]⟩, none⟩, none, false⟩,
     ⟨⟨(some 27), .fieldAddr 66 (.tmp 3) 4, 0, "", ⟨[]⟩, none⟩, some ((some 26), true), false⟩,
     ⟨⟨(some 28), .load 3 (.tmp 27), 3, "", ⟨[]⟩, none⟩, some ((some 26), true), false⟩,
     ⟨⟨(some 29), .call ⟨.value (.func 50), ⟨[(.tmp 28), (.const (.int .i64 0)), (.const (.int .i64 1073741824))]⟩, ⟨[3, 3, 3]⟩⟩, 4, "", ⟨[]⟩, none⟩, some ((some 26), true), false⟩,
     ⟨⟨(some 30), .pick (.tmp 26) (.tmp 29) (.const (.bool false)), 4, "", ⟨[]⟩, none⟩, none, false⟩,
     ⟨⟨(some 4), .assign (.tmp 30), 4, "", ⟨[]⟩, none⟩, none, false⟩])
   .ret))
def Try.s46 : SC :=
 (.seq
  (.ops false [
    ⟨⟨(some 2), .box 25 (.tmp 0), 0, "", ⟨[]⟩, none⟩, none, false⟩,
    ⟨⟨(some 4), .assign (.const (.bool false)), 4, "", ⟨[]⟩, none⟩, none, false⟩])
  (.seq
   (.ops false [
     ⟨⟨(some 5), .move (.tmp 1), 3, "", ⟨[]⟩, none⟩, none, false⟩,
     ⟨⟨(some 6), .fieldAddr 25 (.tmp 2) 1, 0, "", ⟨[]⟩, none⟩, none, false⟩,
     ⟨⟨(some 7), .load 23 (.tmp 6), 23, "", ⟨[]⟩, none⟩, none, false⟩,
     ⟨⟨(some 8), .call ⟨.builtin .len, ⟨[(.tmp 7)]⟩, ⟨[23]⟩⟩, 3, "", ⟨[]⟩, none⟩, none, false⟩,
     ⟨⟨(some 9), .binOp .sub 3 (.tmp 8) (.const (.int .i64 1)) 3, 3, "", ⟨[]⟩, none⟩, none, false⟩,
     ⟨⟨(some 10), .call ⟨.value (.func 50), ⟨[(.tmp 5), (.const (.int .i64 0)), (.tmp 9)]⟩, ⟨[3, 3, 3]⟩⟩, 4, "", ⟨[]⟩, none⟩, none, false⟩,
     ⟨⟨(some 4), .assign (.tmp 10), 4, "", ⟨[]⟩, none⟩, none, false⟩])
   .ret))
def Try.s19 : SC :=
 (.seq
  (.ops false [
    ⟨⟨(some 2), .box 25 (.tmp 0), 0, "", ⟨[]⟩, none⟩, none, false⟩,
    ⟨⟨(some 3), .box 29 (.tmp 1), 0, "", ⟨[]⟩, none⟩, none, false⟩,
    ⟨⟨(some 4), .alloc 27, 0, "", ⟨[]⟩, none⟩, none, false⟩,
    ⟨⟨(some 5), .assign (.const (.int .i64 0)), 30, "", ⟨[]⟩, none⟩, none, false⟩])
  (.seq
   (.seq
    (.ops false [
      ⟨⟨(some 10), .load 25 (.tmp 2), 25, "", ⟨[]⟩, none⟩, none, false⟩,
      ⟨⟨(some 11), .call ⟨.value (.func 17), ⟨[(.tmp 10)]⟩, ⟨[25]⟩⟩, 30, "", ⟨[]⟩, none⟩, none, false⟩,
      ⟨⟨(some 6), .assign (.tmp 11), 30, "", ⟨[]⟩, none⟩, none, false⟩])
    (.seq
     (.ops false [
       ⟨⟨(some 12), .move (.tmp 6), 30, "", ⟨[]⟩, none⟩, none, false⟩,
       ⟨⟨(some 13), .binOp .neq 30 (.tmp 12) (.const (.int .i64 0)) 30, 4, "", ⟨[]⟩, none⟩, none, false⟩])
     (.cond (.tmp 13)
      (.seq
       (.ops false [
         ⟨⟨(some 14), .build 27 ⟨[]⟩, 27, "", ⟨[]⟩, none⟩, none, false⟩,
         ⟨⟨(some 15), .move (.tmp 6), 30, "", ⟨[]⟩, none⟩, none, false⟩,
         ⟨⟨none, .store 27 (.tmp 4) (.tmp 14), 0, "", ⟨[]⟩, none⟩, none, false⟩,
         ⟨⟨(some 5), .assign (.tmp 15), 30, "", ⟨[]⟩, none⟩, none, false⟩])
       .ret)
      .skip)))
   (.seq
    (.seq
     (.ops false [
       ⟨⟨(some 16), .load 25 (.tmp 2), 25, "", ⟨[]⟩, none⟩, none, false⟩,
       ⟨⟨(some 17), .fieldAddr 29 (.tmp 3) 0, 0, "", ⟨[]⟩, none⟩, none, false⟩,
       ⟨⟨(some 18), .load 3 (.tmp 17), 3, "", ⟨[]⟩, none⟩, none, false⟩,
       ⟨⟨(some 19), .call ⟨.value (.func 46), ⟨[(.tmp 16), (.tmp 18)]⟩, ⟨[25, 3]⟩⟩, 4, "", ⟨[]⟩, none⟩, none, false⟩,
       ⟨⟨(some 20), .unOp .not 4 (.tmp 19), 4, "", ⟨[]⟩, none⟩, none, false⟩,
       ⟨⟨(some 21), .move (.tmp 20), 4, "", ⟨[]⟩, none⟩, none, false⟩,
       ⟨⟨(some 22), .fieldAddr 29 (.tmp 3) 1, 0, "", ⟨[]⟩, none⟩, some ((some 21), false), false⟩,
       ⟨⟨(some 23), .load 27 (.tmp 22), 27, "", ⟨[]⟩, none⟩, some ((some 21), false), false⟩,
       ⟨⟨(some 24), .call ⟨.value (.func 53), ⟨[(.tmp 23), (.const (.int .i64 1000))]⟩, ⟨[27, 3]⟩⟩, 4, "", ⟨[]⟩, none⟩, some ((some 21), false), false⟩,
       ⟨⟨(some 25), .unOp .not 4 (.tmp 24), 4, "", ⟨[]⟩, none⟩, some ((some 21), false), false⟩,
       ⟨⟨(some 26), .pick (.tmp 21) (.const (.bool true)) (.tmp 25), 4, "", ⟨[]⟩, none⟩, none, false⟩])
     (.cond (.tmp 26)
      (.seq
       (.ops false [
         ⟨⟨(some 27), .build 27 ⟨[]⟩, 27, "", ⟨[]⟩, none⟩, none, false⟩,
         ⟨⟨none, .store 27 (.tmp 4) (.tmp 27), 0, "", ⟨[]⟩, none⟩, none, false⟩,
         ⟨⟨(some 5), .assign (.const (.int .i64 21)), 30, "", ⟨[]⟩, none⟩, none, false⟩])
       .ret)
      .skip))
    (.seq
     (.ops false [
       ⟨⟨(some 28), .load 25 (.tmp 2), 25, "", ⟨[]⟩, none⟩, none, false⟩,
       ⟨⟨(some 29), .fieldAddr 29 (.tmp 3) 0, 0, "", ⟨[]⟩, none⟩, none, false⟩,
       ⟨⟨(some 30), .load 3 (.tmp 29), 3, "", ⟨[]⟩, none⟩, none, false⟩,
       ⟨⟨(some 31), .call ⟨.value (.func 47), ⟨[(.tmp 28), (.tmp 30)]⟩, ⟨[25, 3]⟩⟩, 23, "", ⟨[]⟩, none⟩, none, false⟩,
       ⟨⟨(some 7), .assign (.tmp 31), 23, "", ⟨[]⟩, none⟩, none, false⟩])
     (.seq
      (.seq
       (.ops false [
         ⟨⟨(some 32), .move (.tmp 7), 23, "", ⟨[]⟩, none⟩, none, false⟩,
         ⟨⟨(some 33), .call ⟨.builtin .len, ⟨[(.tmp 32)]⟩, ⟨[23]⟩⟩, 3, "", ⟨[]⟩, none⟩, none, false⟩,
         ⟨⟨(some 34), .fieldAddr 25 (.tmp 2) 4, 0, "", ⟨[]⟩, none⟩, none, false⟩,
         ⟨⟨(some 35), .load 3 (.tmp 34), 3, "", ⟨[]⟩, none⟩, none, false⟩,
         ⟨⟨(some 36), .binOp .lss 3 (.tmp 33) (.tmp 35) 3, 4, "", ⟨[]⟩, none⟩, none, false⟩])
       (.cond (.tmp 36)
        (.seq
         (.ops false [
           ⟨⟨(some 37), .build 27 ⟨[]⟩, 27, "", ⟨[]⟩, none⟩, none, false⟩,
           ⟨⟨none, .store 27 (.tmp 4) (.tmp 37), 0, "", ⟨[]⟩, none⟩, none, false⟩,
           ⟨⟨(some 5), .assign (.const (.int .i64 4)), 30, "", ⟨[]⟩, none⟩, none, false⟩])
         .ret)
        .skip))
      (.seq
       (.ops false [
         ⟨⟨(some 38), .move (.tmp 7), 23, "", ⟨[]⟩, none⟩, none, false⟩,
         ⟨⟨(some 39), .call ⟨.builtin .len, ⟨[(.tmp 38)]⟩, ⟨[23]⟩⟩, 3, "", ⟨[]⟩, none⟩, none, false⟩,
         ⟨⟨(some 40), .binOp .sub 3 (.tmp 39) (.const (.int .i64 1)) 3, 3, "", ⟨[]⟩, none⟩, none, false⟩,
         ⟨⟨(some 8), .assign (.tmp 40), 3, "", ⟨[]⟩, none⟩, none, false⟩])
       (.seq
        (.ops false [
          ⟨⟨(some 41), .move (.tmp 8), 3, "", ⟨[]⟩, none⟩, none, false⟩,
          ⟨⟨(some 42), .binOp .quo 3 (.tmp 41) (.const (.int .i64 4)) 3, 3, "", ⟨[]⟩, none⟩, none, false⟩,
          ⟨⟨(some 9), .assign (.tmp 42), 3, "", ⟨[]⟩, none⟩, none, false⟩])
        (.seq
         (.ops true [
           ⟨⟨(some 43), .move (.tmp 7), 23, "", ⟨[]⟩, none⟩, none, true⟩,
           ⟨⟨(some 44), .move (.tmp 9), 3, "", ⟨[]⟩, none⟩, none, true⟩,
           ⟨⟨(some 45), .indexAddr 23 (.tmp 43) (.tmp 44), 0, "", ⟨[]⟩, none⟩, none, true⟩,
           ⟨⟨(some 46), .load 3 (.tmp 45), 3, "", ⟨[]⟩, none⟩, none, true⟩,
           ⟨⟨(some 47), .fieldAddr 25 (.tmp 2) 2, 0, "", ⟨[]⟩, none⟩, none, true⟩,
           ⟨⟨(some 48), .load 3 (.tmp 47), 3, "", ⟨[]⟩, none⟩, none, true⟩,
           ⟨⟨(some 49), .fieldAddr 29 (.tmp 3) 1, 0, "", ⟨[]⟩, none⟩, none, true⟩,
           ⟨⟨(some 50), .fieldAddr 27 (.tmp 49) 0, 0, "", ⟨[]⟩, none⟩, none, true⟩,
           ⟨⟨(some 51), .load 3 (.tmp 50), 3, "", ⟨[]⟩, none⟩, none, true⟩,
           ⟨⟨(some 52), .binOp .mul 3 (.tmp 48) (.tmp 51) 3, 3, "", ⟨[]⟩, none⟩, none, true⟩,
           ⟨⟨(some 53), .binOp .add 3 (.tmp 46) (.tmp 52) 3, 3, "", ⟨[]⟩, none⟩, none, true⟩,
           ⟨⟨(some 54), .move (.tmp 7), 23, "", ⟨[]⟩, none⟩, none, true⟩,
           ⟨⟨(some 55), .move (.tmp 8), 3, "", ⟨[]⟩, none⟩, none, true⟩,
           ⟨⟨(some 56), .move (.tmp 9), 3, "", ⟨[]⟩, none⟩, none, true⟩,
           ⟨⟨(some 57), .binOp .sub 3 (.tmp 55) (.tmp 56) 3, 3, "", ⟨[]⟩, none⟩, none, true⟩,
           ⟨⟨(some 58), .indexAddr 23 (.tmp 54) (.tmp 57), 0, "", ⟨[]⟩, none⟩, none, true⟩,
           ⟨⟨(some 59), .load 3 (.tmp 58), 3, "", ⟨[]⟩, none⟩, none, true⟩,
           ⟨⟨(some 60), .fieldAddr 25 (.tmp 2) 2, 0, "", ⟨[]⟩, none⟩, none, true⟩,
           ⟨⟨(some 61), .load 3 (.tmp 60), 3, "", ⟨[]⟩, none⟩, none, true⟩,
           ⟨⟨(some 62), .fieldAddr 29 (.tmp 3) 1, 0, "", ⟨[]⟩, none⟩, none, true⟩,
           ⟨⟨(some 63), .fieldAddr 27 (.tmp 62) 1, 0, "", ⟨[]⟩, none⟩, none, true⟩,
           ⟨⟨(some 64), .load 3 (.tmp 63), 3, "", ⟨[]⟩, none⟩, none, true⟩,
           ⟨⟨(some 65), .binOp .mul 3 (.tmp 61) (.tmp 64) 3, 3, "", ⟨[]⟩, none⟩, none, true⟩,
           ⟨⟨(some 66), .binOp .add 3 (.tmp 59) (.tmp 65) 3, 3, "", ⟨[]⟩, none⟩, none, true⟩,
           ⟨⟨(some 67), .build 27 ⟨[(0, (.tmp 53)), (1, (.tmp 66))]⟩, 27, "", ⟨[]⟩, none⟩, none, true⟩,
           ⟨⟨none, .store 27 (.tmp 4) (.tmp 67), 0, "", ⟨[]⟩, none⟩, none, false⟩,
           ⟨⟨(some 5), .assign (.const (.int .i64 0)), 30, "", ⟨[]⟩, none⟩, none, true⟩])
         .ret))))))))
def Try.s67 : SC :=
 (.seq
  (.ops false [
    ⟨⟨(some 2), .box 25 (.tmp 0), 0, "", ⟨[]⟩, none⟩, none, false⟩,
    ⟨⟨(some 3), .box 3 (.tmp 1), 0, "", ⟨[]⟩, none⟩, none, false⟩,
    ⟨⟨(some 4), .assign (.const .nilFunc), 125, "", ⟨[]⟩, none⟩, none, false⟩])
  (.seq
   (.ops false [
     ⟨⟨(some 5), .makeFunc (.func 77) ⟨[]⟩ ⟨[(.tmp 2), (.tmp 3)]⟩, 124, "", ⟨[]⟩, none⟩, none, false⟩,
     ⟨⟨(some 4), .assign (.tmp 5), 125, "", ⟨[]⟩, none⟩, none, false⟩])
   .ret))
def Try.s77 : SC :=
 (.seq
  (.ops false [
    ⟨⟨(some 6), .fieldAddr 25 (.tmp 1) 0, 0, "", ⟨[]⟩, none⟩, none, false⟩,
    ⟨⟨(some 7), .load 22 (.tmp 6), 22, "", ⟨[]⟩, none⟩, none, false⟩,
    ⟨⟨(some 8), .call ⟨.builtin .len, ⟨[(.tmp 7)]⟩, ⟨[22]⟩⟩, 3, "", ⟨[]⟩, none⟩, none, false⟩,
    ⟨⟨(some 9), .move (.const (.int .i64 0)), 3, "", ⟨[]⟩, none⟩, none, false⟩])
  (.block 0
   (.loop
    (.seq
     (.ops false [
       ⟨⟨(some 10), .binOp .lss 3 (.tmp 9) (.tmp 8) 3, 0, "", ⟨[]⟩, none⟩, none, false⟩])
     (.seq
      (.cond (.tmp 10)
       .skip
       (.exit 0))
      (.seq
       (.block 1
        (.seq
         (.ops false [
           ⟨⟨(some 11), .indexAddr 22 (.tmp 7) (.tmp 9), 0, "", ⟨[]⟩, none⟩, none, false⟩,
           ⟨⟨(some 12), .load 66 (.tmp 11), 66, "", ⟨[]⟩, none⟩, none, false⟩,
           ⟨⟨(some 5), .alloc 66, 0, "", ⟨[]⟩, none⟩, none, false⟩,
           ⟨⟨none, .store 66 (.tmp 5) (.tmp 12), 0, "", ⟨[]⟩, none⟩, none, false⟩])
         (.seq
          (.ops false [
            ⟨⟨(some 13), .fieldAddr 66 (.tmp 5) 0, 0, "", ⟨[]⟩, none⟩, none, false⟩,
            ⟨⟨(some 14), .load 3 (.tmp 13), 3, "", ⟨[]⟩, none⟩, none, false⟩,
            ⟨⟨(some 15), .load 3 (.tmp 2), 3, "", ⟨[]⟩, none⟩, none, false⟩,
            ⟨⟨(some 16), .binOp .eql 3 (.tmp 14) (.tmp 15) 3, 4, "", ⟨[]⟩, none⟩, none, false⟩,
            ⟨⟨(some 17), .move (.tmp 16), 4, "", ⟨[]⟩, none⟩, none, false⟩,
            ⟨⟨(some 18), .move (.tmp 0), 136, "", ⟨[]⟩, none⟩, some ((some 17), true), false⟩,
            ⟨⟨(some 19), .load 66 (.tmp 5), 66, "", ⟨[]⟩, none⟩, some ((some 17), true), false⟩,
            ⟨⟨(some 20), .call ⟨.value (.tmp 18), ⟨[(.tmp 19)]⟩, ⟨[66]⟩⟩, 4, "", ⟨[]⟩, none⟩, some ((some 17), true), false⟩,
            ⟨⟨(some 21), .unOp .not 4 (.tmp 20), 4, "", ⟨[]⟩, none⟩, some ((some 17), true), false⟩,
            ⟨⟨(some 22), .pick (.tmp 17) (.tmp 21) (.const (.bool false)), 4, "", ⟨[]⟩, none⟩, none, false⟩])
          (.cond (.tmp 22)
           .ret
           .skip))))
       (.ops false [
         ⟨⟨(some 23), .binOp .add 3 (.tmp 9) (.const (.int .i64 1)) 3, 3, "", ⟨[]⟩, none⟩, none, false⟩,
         ⟨⟨(some 9), .move (.tmp 23), 3, "", ⟨[]⟩, none⟩, none, false⟩])))))))
def Try.s66 : SC :=
 (.seq
  (.ops false [
    ⟨⟨(some 2), .box 123 (.tmp 0), 0, "", ⟨[]⟩, none⟩, none, false⟩,
    ⟨⟨(some 3), .box 66 (.tmp 1), 0, "", ⟨[]⟩, none⟩, none, false⟩,
    ⟨⟨(some 4), .assign (.const (.int .i64 0)), 3, "", ⟨[]⟩, none⟩, none, false⟩])
  (.seq
   (.ops false [
     ⟨⟨(some 6), .fieldAddr 66 (.tmp 3) 4, 0, "", ⟨[]⟩, none⟩, none, false⟩,
     ⟨⟨(some 7), .load 3 (.tmp 6), 3, "", ⟨[]⟩, none⟩, none, false⟩,
     ⟨⟨(some 8), .fieldAddr 66 (.tmp 3) 2, 0, "", ⟨[]⟩, none⟩, none, false⟩,
     ⟨⟨(some 9), .load 3 (.tmp 8), 3, "", ⟨[]⟩, none⟩, none, false⟩,
     ⟨⟨(some 10), .fieldAddr 66 (.tmp 3) 3, 0, "", ⟨[]⟩, none⟩, none, false⟩,
     ⟨⟨(some 11), .load 3 (.tmp 10), 3, "", ⟨[]⟩, none⟩, none, false⟩,
     ⟨⟨(some 12), .binOp .mul 3 (.tmp 9) (.tmp 11) 3, 3, "", ⟨[]⟩, none⟩, none, false⟩,
     ⟨⟨(some 13), .binOp .sub 3 (.tmp 7) (.tmp 12) 3, 3, "", ⟨[]⟩, none⟩, none, false⟩,
     ⟨⟨(some 14), .call ⟨.builtin .max, ⟨[(.const (.int .i64 0)), (.tmp 13)]⟩, ⟨[3, 3]⟩⟩, 3, "", ⟨[]⟩, none⟩, none, false⟩,
     ⟨⟨(some 5), .assign (.tmp 14), 3, "", ⟨[]⟩, none⟩, none, false⟩])
   (.seq
    (.seq
     (.ops false [
       ⟨⟨(some 15), .fieldAddr 123 (.tmp 2) 1, 0, "", ⟨[]⟩, none⟩, none, false⟩,
       ⟨⟨(some 16), .load 3 (.tmp 15), 3, "", ⟨[]⟩, none⟩, none, false⟩,
       ⟨⟨(some 17), .fieldAddr 66 (.tmp 3) 1, 0, "", ⟨[]⟩, none⟩, none, false⟩,
       ⟨⟨(some 18), .load 3 (.tmp 17), 3, "", ⟨[]⟩, none⟩, none, false⟩,
       ⟨⟨(some 19), .binOp .sub 3 (.tmp 16) (.tmp 18) 3, 3, "", ⟨[]⟩, none⟩, none, false⟩,
       ⟨⟨(some 20), .binOp .quo 3 (.tmp 19) (.const (.int .i64 365)) 3, 3, "", ⟨[]⟩, none⟩, none, false⟩,
       ⟨⟨(some 21), .move (.const (.int .i64 0)), 3, "", ⟨[]⟩, none⟩, none, false⟩])
     (.block 0
      (.loop
       (.seq
        (.ops false [
          ⟨⟨(some 22), .binOp .lss 3 (.tmp 21) (.tmp 20) 3, 4, "", ⟨[]⟩, none⟩, none, false⟩])
        (.seq
         (.cond (.tmp 22)
          .skip
          (.exit 0))
         (.seq
          (.block 1
           (.ops false [
             ⟨⟨(some 23), .move (.tmp 5), 3, "", ⟨[]⟩, none⟩, none, false⟩,
             ⟨⟨(some 24), .fieldAddr 123 (.tmp 2) 0, 0, "", ⟨[]⟩, none⟩, none, false⟩,
             ⟨⟨(some 25), .load 3 (.tmp 24), 3, "", ⟨[]⟩, none⟩, none, false⟩,
             ⟨⟨(some 26), .binOp .mul 3 (.tmp 23) (.tmp 25) 3, 3, "", ⟨[]⟩, none⟩, none, false⟩,
             ⟨⟨(some 27), .binOp .quo 3 (.tmp 26) (.const (.int .i64 64)) 3, 3, "", ⟨[]⟩, none⟩, none, false⟩,
             ⟨⟨(some 5), .assign (.tmp 27), 3, "", ⟨[]⟩, none⟩, none, false⟩]))
          (.ops false [
            ⟨⟨(some 28), .binOp .add 3 (.tmp 21) (.const (.int .i64 1)) 3, 3, "", ⟨[]⟩, none⟩, none, false⟩,
            ⟨⟨(some 21), .move (.tmp 28), 3, "", ⟨[]⟩, none⟩, none, false⟩])))))))
    (.seq
     (.ops false [
       ⟨⟨(some 29), .move (.tmp 5), 3, "", ⟨[]⟩, none⟩, none, false⟩,
       ⟨⟨(some 4), .assign (.tmp 29), 3, "", ⟨[]⟩, none⟩, none, false⟩])
     .ret))))
noncomputable def Try.s47 : SC :=
 (.seq
  (.ops false [
    ⟨⟨(some 2), .box 25 (.tmp 0), 0, "", ⟨[]⟩, none⟩, none, false⟩,
    ⟨⟨(some 4), .assign (.const (.slice none 0 0)), 23, "", ⟨[]⟩, none⟩, none, false⟩])
  (.seq
   (.ops true [
     ⟨⟨(some 8), .fieldAddr 25 (.tmp 2) 1, 0, "", ⟨[]⟩, none⟩, none, true⟩,
     ⟨⟨(some 9), .load 23 (.tmp 8), 23, "", ⟨[]⟩, none⟩, none, true⟩,
     ⟨⟨(some 10), .move (.tmp 1), 3, "", ⟨[]⟩, none⟩, none, true⟩,
     ⟨⟨(some 11), .indexAddr 23 (.tmp 9) (.tmp 10), 0, "", ⟨[]⟩, none⟩, none, true⟩,
     ⟨⟨(some 12), .load 3 (.tmp 11), 3, "", ⟨[]⟩, none⟩, none, true⟩,
     ⟨⟨(some 13), .fieldAddr 25 (.tmp 2) 3, 0, "", ⟨[]⟩, none⟩, none, true⟩,
     ⟨⟨(some 14), .load 3 (.tmp 13), 3, "", ⟨[]⟩, none⟩, none, true⟩,
     ⟨⟨(some 15), .build 123 ⟨[(0, (.tmp 12)), (1, (.tmp 14))]⟩, 123, "", ⟨[]⟩, none⟩, none, true⟩,
     ⟨⟨(some 16), .makeFunc (.func 66) ⟨[(.tmp 15)]⟩ ⟨[]⟩, 121, "", ⟨[]⟩, none⟩, none, true⟩,
     ⟨⟨(some 5), .alloc 121, 0, "", ⟨[]⟩, none⟩, none, true⟩,
     ⟨⟨none, .store 121 (.tmp 5) (.tmp 16), 0, "", ⟨[]⟩, none⟩, none, false⟩])
   (.seq
    (.ops false [
      ⟨⟨(some 6), .alloc 23, 0, "", ⟨[]⟩, none⟩, none, false⟩])
    (.seq
     (.seq
      (.ops false [
        ⟨⟨(some 17), .load 25 (.tmp 2), 25, "", ⟨[]⟩, none⟩, none, false⟩,
        ⟨⟨(some 18), .move (.tmp 1), 3, "", ⟨[]⟩, none⟩, none, false⟩,
        ⟨⟨(some 19), .call ⟨.value (.func 67), ⟨[(.tmp 17), (.tmp 18)]⟩, ⟨[25, 3]⟩⟩, 125, "", ⟨[]⟩, none⟩, none, false⟩])
      (.block 0
       (.raw (.rangeFunc (.tmp 19) ⟨[20]⟩ (codeA Try.f47) (codeB Try.f47)))))
     (.seq
      (.ops false [
        ⟨⟨(some 27), .load 23 (.tmp 6), 23, "", ⟨[]⟩, none⟩, none, false⟩,
        ⟨⟨(some 28), .makeInterface 23 (.tmp 27), 20, "", ⟨[]⟩, none⟩, none, false⟩,
        ⟨⟨(some 29), .makeFunc (.func 69) ⟨[]⟩ ⟨[(.tmp 6)]⟩, 128, "", ⟨[]⟩, none⟩, none, false⟩,
        ⟨⟨(some 30), .call ⟨.value (.func 68), ⟨[(.tmp 28), (.tmp 29)]⟩, ⟨[20, 128]⟩⟩, 0, "", ⟨[]⟩, none⟩, none, false⟩])
      (.seq
       (.ops false [
         ⟨⟨(some 31), .load 23 (.tmp 6), 23, "", ⟨[]⟩, none⟩, none, false⟩,
         ⟨⟨(some 4), .assign (.tmp 31), 23, "", ⟨[]⟩, none⟩, none, false⟩])
       .ret))))))
noncomputable def Try.ra47 : SC :=
 (.ops false [
   ⟨⟨(some 7), .alloc 66, 0, "", ⟨[]⟩, none⟩, none, false⟩,
   ⟨⟨none, .store 66 (.tmp 7) (.tmp 20), 0, "", ⟨[]⟩, none⟩, none, false⟩])
noncomputable def Try.rb47 : SC :=
 (.block 1
  (.ops true [
    ⟨⟨(some 21), .load 23 (.tmp 6), 23, "", ⟨[]⟩, none⟩, none, true⟩,
    ⟨⟨(some 22), .load 121 (.tmp 5), 121, "", ⟨[]⟩, none⟩, none, true⟩,
    ⟨⟨(some 23), .load 66 (.tmp 7), 66, "", ⟨[]⟩, none⟩, none, true⟩,
    ⟨⟨(some 24), .call ⟨.value (.tmp 22), ⟨[(.tmp 23)]⟩, ⟨[66]⟩⟩, 3, "", ⟨[]⟩, none⟩, none, true⟩,
    ⟨⟨(some 25), .buildSlice 23 1 ⟨[(0, (.tmp 24))]⟩, 23, "", ⟨[]⟩, none⟩, none, true⟩,
    ⟨⟨(some 26), .call ⟨.builtin .append, ⟨[(.tmp 21), (.tmp 25)]⟩, ⟨[23, 23]⟩⟩, 23, "", ⟨[]⟩, none⟩, none, false⟩,
    ⟨⟨none, .store 23 (.tmp 6) (.tmp 26), 0, "", ⟨[]⟩, none⟩, none, false⟩]))
def Try.s18 : SC :=
 (.seq
  (.ops false [
    ⟨⟨(some 1), .box 25 (.tmp 0), 0, "", ⟨[]⟩, none⟩, none, false⟩,
    ⟨⟨(some 2), .assign (.const (.int .i64 0)), 30, "", ⟨[]⟩, none⟩, none, false⟩])
  (.seq
   (.ops false [
     ⟨⟨(some 7), .fieldAddr 25 (.tmp 1) 1, 0, "", ⟨[]⟩, none⟩, none, false⟩,
     ⟨⟨(some 8), .load 23 (.tmp 7), 23, "", ⟨[]⟩, none⟩, none, false⟩,
     ⟨⟨(some 9), .call ⟨.builtin .len, ⟨[(.tmp 8)]⟩, ⟨[23]⟩⟩, 3, "", ⟨[]⟩, none⟩, none, false⟩,
     ⟨⟨(some 10), .call ⟨.value (.func 32), ⟨[(.const (.int .i64 1)), (.tmp 9), (.const (.int .i64 8))]⟩, ⟨[3, 3, 3]⟩⟩, 4, "", ⟨[]⟩, none⟩, none, false⟩,
     ⟨⟨(some 11), .move (.tmp 10), 4, "", ⟨[]⟩, none⟩, none, false⟩,
     ⟨⟨(some 12), .fieldAddr 25 (.tmp 1) 2, 0, "", ⟨[]⟩, none⟩, some ((some 11), true), false⟩,
     ⟨⟨(some 13), .load 3 (.tmp 12), 3, "", ⟨[]⟩, none⟩, some ((some 11), true), false⟩,
     ⟨⟨(some 14), .call ⟨.value (.func 32), ⟨[(.const (.int .i64 0)), (.tmp 13), (.const (.int .i64 100000))]⟩, ⟨[3, 3, 3]⟩⟩, 4, "", ⟨[]⟩, none⟩, some ((some 11), true), false⟩,
     ⟨⟨(some 15), .pick (.tmp 11) (.tmp 14) (.const (.bool false)), 4, "", ⟨[]⟩, none⟩, none, false⟩,
     ⟨⟨(some 16), .move (.tmp 15), 4, "", ⟨[]⟩, none⟩, none, false⟩,
     ⟨⟨(some 17), .fieldAddr 25 (.tmp 1) 3, 0, "", ⟨[]⟩, none⟩, some ((some 16), true), false⟩,
     ⟨⟨(some 18), .load 3 (.tmp 17), 3, "", ⟨[]⟩, none⟩, some ((some 16), true), false⟩,
     ⟨⟨(some 19), .call ⟨.value (.func 32), ⟨[(.const (.int .i64 0)), (.tmp 18), (.const (.int .i64 36500))]⟩, ⟨[3, 3, 3]⟩⟩, 4, "", ⟨[]⟩, none⟩, some ((some 16), true), false⟩,
     ⟨⟨(some 20), .pick (.tmp 16) (.tmp 19) (.const (.bool false)), 4, "", ⟨[]⟩, none⟩, none, false⟩,
     ⟨⟨(some 21), .move (.tmp 20), 4, "", ⟨[]⟩, none⟩, none, false⟩,
     ⟨⟨(some 22), .fieldAddr 25 (.tmp 1) 4, 0, "", ⟨[]⟩, none⟩, some ((some 21), true), false⟩,
     ⟨⟨(some 23), .load 3 (.tmp 22), 3, "", ⟨[]⟩, none⟩, some ((some 21), true), false⟩,
     ⟨⟨(some 24), .call ⟨.value (.func 32), ⟨[(.const (.int .i64 1)), (.tmp 23), (.const (.int .i64 16))]⟩, ⟨[3, 3, 3]⟩⟩, 4, "", ⟨[]⟩, none⟩, some ((some 21), true), false⟩,
     ⟨⟨(some 25), .pick (.tmp 21) (.tmp 24) (.const (.bool false)), 4, "", ⟨[]⟩, none⟩, none, false⟩,
     ⟨⟨(some 26), .move (.tmp 25), 4, "", ⟨[]⟩, none⟩, none, false⟩,
     ⟨⟨(some 27), .fieldAddr 25 (.tmp 1) 0, 0, "", ⟨[]⟩, none⟩, some ((some 26), true), false⟩,
     ⟨⟨(some 28), .load 22 (.tmp 27), 22, "", ⟨[]⟩, none⟩, some ((some 26), true), false⟩,
     ⟨⟨(some 29), .call ⟨.builtin .len, ⟨[(.tmp 28)]⟩, ⟨[22]⟩⟩, 3, "", ⟨[]⟩, none⟩, some ((some 26), true), false⟩,
     ⟨⟨(some 30), .binOp .leq 3 (.tmp 29) (.const (.int .i64 64)) 3, 4, "", ⟨[]⟩, none⟩, some ((some 26), true), false⟩,
     ⟨⟨(some 31), .pick (.tmp 26) (.tmp 30) (.const (.bool false)), 4, "", ⟨[]⟩, none⟩, none, false⟩,
     ⟨⟨(some 3), .assign (.tmp 31), 4, "", ⟨[]⟩, none⟩, none, false⟩])
   (.seq
    (.seq
     (.ops false [
       ⟨⟨(some 4), .assign (.const (.int .i64 0)), 3, "", ⟨[]⟩, none⟩, none, false⟩])
     (.block 0
      (.loop
       (.seq
        (.seq
         (.ops false [
           ⟨⟨(some 32), .move (.tmp 4), 3, "", ⟨[]⟩, none⟩, none, false⟩,
           ⟨⟨(some 33), .fieldAddr 25 (.tmp 1) 1, 0, "", ⟨[]⟩, none⟩, none, false⟩,
           ⟨⟨(some 34), .load 23 (.tmp 33), 23, "", ⟨[]⟩, none⟩, none, false⟩,
           ⟨⟨(some 35), .call ⟨.builtin .len, ⟨[(.tmp 34)]⟩, ⟨[23]⟩⟩, 3, "", ⟨[]⟩, none⟩, none, false⟩,
           ⟨⟨(some 36), .binOp .lss 3 (.tmp 32) (.tmp 35) 3, 4, "", ⟨[]⟩, none⟩, none, false⟩])
         (.cond (.tmp 36)
          .skip
          (.exit 0)))
        (.seq
         (.block 1
          (.ops false [
            ⟨⟨(some 39), .move (.tmp 3), 4, "", ⟨[]⟩, none⟩, none, false⟩,
            ⟨⟨(some 40), .move (.tmp 39), 4, "", ⟨[]⟩, none⟩, none, false⟩,
            ⟨⟨(some 41), .fieldAddr 25 (.tmp 1) 1, 0, "", ⟨[]⟩, none⟩, some ((some 40), true), false⟩,
            ⟨⟨(some 42), .load 23 (.tmp 41), 23, "", ⟨[]⟩, none⟩, some ((some 40), true), false⟩,
            ⟨⟨(some 43), .move (.tmp 4), 3, "", ⟨[]⟩, none⟩, some ((some 40), true), false⟩,
            ⟨⟨(some 44), .indexAddr 23 (.tmp 42) (.tmp 43), 0, "", ⟨[]⟩, none⟩, some ((some 40), true), false⟩,
            ⟨⟨(some 45), .load 3 (.tmp 44), 3, "", ⟨[]⟩, none⟩, some ((some 40), true), false⟩,
            ⟨⟨(some 46), .call ⟨.value (.func 32), ⟨[(.const (.int .i64 0)), (.tmp 45), (.const (.int .i64 64))]⟩, ⟨[3, 3, 3]⟩⟩, 4, "", ⟨[]⟩, none⟩, some ((some 40), true), false⟩,
            ⟨⟨(some 47), .pick (.tmp 40) (.tmp 46) (.const (.bool false)), 4, "", ⟨[]⟩, none⟩, none, false⟩,
            ⟨⟨(some 3), .assign (.tmp 47), 4, "", ⟨[]⟩, none⟩, none, false⟩]))
         (.ops false [
           ⟨⟨(some 37), .move (.tmp 4), 3, "", ⟨[]⟩, none⟩, none, false⟩,
           ⟨⟨(some 38), .binOp .add 3 (.tmp 37) (.const (.int .i64 1)) 3, 3, "", ⟨[]⟩, none⟩, none, false⟩,
           ⟨⟨(some 4), .assign (.tmp 38), 3, "", ⟨[]⟩, none⟩, none, false⟩]))))))
    (.seq
     (.seq
      (.ops false [
        ⟨⟨(some 5), .assign (.const (.int .i64 0)), 3, "", ⟨[]⟩, none⟩, none, false⟩])
      (.block 2
       (.loop
        (.seq
         (.seq
          (.ops false [
            ⟨⟨(some 48), .move (.tmp 5), 3, "", ⟨[]⟩, none⟩, none, false⟩,
            ⟨⟨(some 49), .fieldAddr 25 (.tmp 1) 0, 0, "", ⟨[]⟩, none⟩, none, false⟩,
            ⟨⟨(some 50), .load 22 (.tmp 49), 22, "", ⟨[]⟩, none⟩, none, false⟩,
            ⟨⟨(some 51), .call ⟨.builtin .len, ⟨[(.tmp 50)]⟩, ⟨[22]⟩⟩, 3, "", ⟨[]⟩, none⟩, none, false⟩,
            ⟨⟨(some 52), .binOp .lss 3 (.tmp 48) (.tmp 51) 3, 4, "", ⟨[]⟩, none⟩, none, false⟩])
          (.cond (.tmp 52)
           .skip
           (.exit 2)))
         (.seq
          (.block 3
           (.seq
            (.ops false [
              ⟨⟨(some 55), .fieldAddr 25 (.tmp 1) 0, 0, "", ⟨[]⟩, none⟩, none, false⟩,
              ⟨⟨(some 56), .load 22 (.tmp 55), 22, "", ⟨[]⟩, none⟩, none, false⟩,
              ⟨⟨(some 57), .move (.tmp 5), 3, "", ⟨[]⟩, none⟩, none, false⟩,
              ⟨⟨(some 58), .indexAddr 22 (.tmp 56) (.tmp 57), 0, "", ⟨[]⟩, none⟩, none, false⟩,
              ⟨⟨(some 59), .load 66 (.tmp 58), 66, "", ⟨[]⟩, none⟩, none, false⟩,
              ⟨⟨(some 6), .alloc 66, 0, "", ⟨[]⟩, none⟩, none, false⟩,
              ⟨⟨none, .store 66 (.tmp 6) (.tmp 59), 0, "", ⟨[]⟩, none⟩, none, false⟩])
            (.ops false [
              ⟨⟨(some 60), .move (.tmp 3), 4, "", ⟨[]⟩, none⟩, none, false⟩,
              ⟨⟨(some 61), .move (.tmp 60), 4, "", ⟨[]⟩, none⟩, none, false⟩,
              ⟨⟨(some 62), .fieldAddr 66 (.tmp 6) 0, 0, "", ⟨[]⟩, none⟩, some ((some 61), true), false⟩,
              ⟨⟨(some 63), .load 3 (.tmp 62), 3, "", ⟨[]⟩, none⟩, some ((some 61), true), false⟩,
              ⟨⟨(some 64), .fieldAddr 25 (.tmp 1) 1, 0, "", ⟨[]⟩, none⟩, some ((some 61), true), false⟩,
              ⟨⟨(some 65), .load 23 (.tmp 64), 23, "", ⟨[]⟩, none⟩, some ((some 61), true), false⟩,
              ⟨⟨(some 66), .call ⟨.builtin .len, ⟨[(.tmp 65)]⟩, ⟨[23]⟩⟩, 3, "", ⟨[]⟩, none⟩, some ((some 61), true), false⟩,
              ⟨⟨(some 67), .binOp .sub 3 (.tmp 66) (.const (.int .i64 1)) 3, 3, "", ⟨[]⟩, none⟩, some ((some 61), true), false⟩,
              ⟨⟨(some 68), .call ⟨.value (.func 32), ⟨[(.const (.int .i64 0)), (.tmp 63), (.tmp 67)]⟩, ⟨[3, 3, 3]⟩⟩, 4, "", ⟨[]⟩, none⟩, some ((some 61), true), false⟩,
              ⟨⟨(some 69), .pick (.tmp 61) (.tmp 68) (.const (.bool false)), 4, "", ⟨[]⟩, none⟩, none, false⟩,
              ⟨⟨(some 70), .move (.tmp 69), 4, "", ⟨[]⟩, none⟩, none, false⟩,
              ⟨⟨(some 71), .fieldAddr 66 (.tmp 6) 1, 0, "", ⟨[]⟩, none⟩, some ((some 70), true), false⟩,
              ⟨⟨(some 72), .load 3 (.tmp 71), 3, "", ⟨[]⟩, none⟩, some ((some 70), true), false⟩,
              ⟨⟨(some 73), .fieldAddr 25 (.tmp 1) 3, 0, "", ⟨[]⟩, none⟩, some ((some 70), true), false⟩,
              ⟨⟨(some 74), .load 3 (.tmp 73), 3, "", ⟨[]⟩, none⟩, some ((some 70), true), false⟩,
              ⟨⟨(some 75), .call ⟨.value (.func 32), ⟨[(.const (.int .i64 0)), (.tmp 72), (.tmp 74)]⟩, ⟨[3, 3, 3]⟩⟩, 4, "", ⟨[]⟩, none⟩, some ((some 70), true), false⟩,
              ⟨⟨(some 76), .pick (.tmp 70) (.tmp 75) (.const (.bool false)), 4, "", ⟨[]⟩, none⟩, none, false⟩,
              ⟨⟨(some 77), .move (.tmp 76), 4, "", ⟨[]⟩, none⟩, none, false⟩,
              ⟨⟨(some 78), .fieldAddr 66 (.tmp 6) 2, 0, "", ⟨[]⟩, none⟩, some ((some 77), true), false⟩,
              ⟨⟨(some 79), .load 3 (.tmp 78), 3, "", ⟨[]⟩, none⟩, some ((some 77), true), false⟩,
              ⟨⟨(some 80), .call ⟨.value (.func 32), ⟨[(.const (.int .i64 0)), (.tmp 79), (.const (.int .i64 1000))]⟩, ⟨[3, 3, 3]⟩⟩, 4, "", ⟨[]⟩, none⟩, some ((some 77), true), false⟩,
              ⟨⟨(some 81), .pick (.tmp 77) (.tmp 80) (.const (.bool false)), 4, "", ⟨[]⟩, none⟩, none, false⟩,
              ⟨⟨(some 82), .move (.tmp 81), 4, "", ⟨[]⟩, none⟩, none, false⟩,
              ⟨⟨(some 83), .fieldAddr 66 (.tmp 6) 3, 0, "", ⟨[]⟩, none⟩, some ((some 82), true), false⟩,
              ⟨⟨(some 84), .load 3 (.tmp 83), 3, "", ⟨[]⟩, none⟩, some ((some 82), true), false⟩,
              ⟨⟨(some 85), .call ⟨.value (.func 32), ⟨[(.const (.int .i64 0)), (.tmp 84), (.const (.int .i64 100000))]⟩, ⟨[3, 3, 3]⟩⟩, 4, "", ⟨[]⟩, none⟩, some ((some 82), true), false⟩,
              ⟨⟨(some 86), .pick (.tmp 82) (.tmp 85) (.const (.bool false)), 4, "", ⟨[]⟩, none⟩, none, false⟩,
              ⟨⟨(some 87), .move (.tmp 86), 4, "", ⟨[]⟩, none⟩, none, false⟩,
              ⟨⟨(some 88), .fieldAddr 66 (.tmp 6) 4, 0, "", ⟨[]⟩, none⟩, some ((some 87), true), false⟩,
              ⟨⟨(some 89), .load 3 (.tmp 88), 3, "", ⟨[]⟩, none⟩, some ((some 87), true), false⟩,
              ⟨⟨(some 90), .call ⟨.value (.func 32), ⟨[(.const (.int .i64 0)), (.tmp 89), (.const (.int .i64 1073741824))]⟩, ⟨[3, 3, 3]⟩⟩, 4, "", ⟨[]⟩, none⟩, some ((some 87), true), false⟩,
              ⟨⟨(some 91), .pick (.tmp 87) (.tmp 90) (.const (.bool false)), 4, "", ⟨[]⟩, none⟩, none, false⟩,
              ⟨⟨(some 3), .assign (.tmp 91), 4, "", ⟨[]⟩, none⟩, none, false⟩])))
          (.ops false [
            ⟨⟨(some 53), .move (.tmp 5), 3, "", ⟨[]⟩, none⟩, none, false⟩,
            ⟨⟨(some 54), .binOp .add 3 (.tmp 53) (.const (.int .i64 1)) 3, 3, "", ⟨[]⟩, none⟩, none, false⟩,
            ⟨⟨(some 5), .assign (.tmp 54), 3, "", ⟨[]⟩, none⟩, none, false⟩]))))))
     (.seq
      (.seq
       (.ops false [
         ⟨⟨(some 92), .move (.tmp 3), 4, "", ⟨[]⟩, none⟩, none, false⟩,
         ⟨⟨(some 93), .unOp .not 4 (.tmp 92), 4, "", ⟨[]⟩, none⟩, none, false⟩])
       (.cond (.tmp 93)
        (.seq
         (.ops false [
           ⟨⟨(some 2), .assign (.const (.int .i64 20)), 30, "", ⟨[]⟩, none⟩, none, false⟩])
         .ret)
        .skip))
      (.seq
       (.ops false [
         ⟨⟨(some 2), .assign (.const (.int .i64 0)), 30, "", ⟨[]⟩, none⟩, none, false⟩])
       .ret))))))
def Try.s15 : SC :=
 (.seq
  (.ops false [
    ⟨⟨(some 2), .box 25 (.tmp 0), 0, "", ⟨[]⟩, none⟩, none, false⟩,
    ⟨⟨(some 4), .assign (.const (.slice none 0 0)), 23, "", ⟨[]⟩, none⟩, none, false⟩,
    ⟨⟨(some 5), .assign (.const (.int .i64 0)), 30, "", ⟨[]⟩, none⟩, none, false⟩])
  (.seq
   (.seq
    (.ops false [
      ⟨⟨(some 7), .load 25 (.tmp 2), 25, "", ⟨[]⟩, none⟩, none, false⟩,
      ⟨⟨(some 8), .call ⟨.value (.func 18), ⟨[(.tmp 7)]⟩, ⟨[25]⟩⟩, 30, "", ⟨[]⟩, none⟩, none, false⟩,
      ⟨⟨(some 6), .assign (.tmp 8), 30, "", ⟨[]⟩, none⟩, none, false⟩])
    (.seq
     (.ops false [
       ⟨⟨(some 9), .move (.tmp 6), 30, "", ⟨[]⟩, none⟩, none, false⟩,
       ⟨⟨(some 10), .binOp .neq 30 (.tmp 9) (.const (.int .i64 0)) 30, 4, "", ⟨[]⟩, none⟩, none, false⟩])
     (.cond (.tmp 10)
      (.seq
       (.ops false [
         ⟨⟨(some 11), .move (.tmp 6), 30, "", ⟨[]⟩, none⟩, none, false⟩,
         ⟨⟨(some 4), .assign (.const (.slice none 0 0)), 23, "", ⟨[]⟩, none⟩, none, false⟩,
         ⟨⟨(some 5), .assign (.tmp 11), 30, "", ⟨[]⟩, none⟩, none, false⟩])
       .ret)
      .skip)))
   (.seq
    (.seq
     (.ops false [
       ⟨⟨(some 12), .move (.tmp 1), 3, "", ⟨[]⟩, none⟩, none, false⟩,
       ⟨⟨(some 13), .fieldAddr 25 (.tmp 2) 1, 0, "", ⟨[]⟩, none⟩, none, false⟩,
       ⟨⟨(some 14), .load 23 (.tmp 13), 23, "", ⟨[]⟩, none⟩, none, false⟩,
       ⟨⟨(some 15), .call ⟨.builtin .len, ⟨[(.tmp 14)]⟩, ⟨[23]⟩⟩, 3, "", ⟨[]⟩, none⟩, none, false⟩,
       ⟨⟨(some 16), .binOp .sub 3 (.tmp 15) (.const (.int .i64 1)) 3, 3, "", ⟨[]⟩, none⟩, none, false⟩,
       ⟨⟨(some 17), .call ⟨.value (.func 32), ⟨[(.const (.int .i64 0)), (.tmp 12), (.tmp 16)]⟩, ⟨[3, 3, 3]⟩⟩, 4, "", ⟨[]⟩, none⟩, none, false⟩,
       ⟨⟨(some 18), .unOp .not 4 (.tmp 17), 4, "", ⟨[]⟩, none⟩, none, false⟩])
     (.cond (.tmp 18)
      (.seq
       (.ops false [
         ⟨⟨(some 4), .assign (.const (.slice none 0 0)), 23, "", ⟨[]⟩, none⟩, none, false⟩,
         ⟨⟨(some 5), .assign (.const (.int .i64 7)), 30, "", ⟨[]⟩, none⟩, none, false⟩])
       .ret)
      .skip))
    (.seq
     (.ops false [
       ⟨⟨(some 19), .load 25 (.tmp 2), 25, "", ⟨[]⟩, none⟩, none, false⟩,
       ⟨⟨(some 20), .move (.tmp 1), 3, "", ⟨[]⟩, none⟩, none, false⟩,
       ⟨⟨(some 21), .call ⟨.value (.func 48), ⟨[(.tmp 19), (.tmp 20)]⟩, ⟨[25, 3]⟩⟩, 23, "", ⟨[]⟩, none⟩, none, false⟩,
       ⟨⟨(some 4), .assign (.tmp 21), 23, "", ⟨[]⟩, none⟩, none, false⟩,
       ⟨⟨(some 5), .assign (.const (.int .i64 0)), 30, "", ⟨[]⟩, none⟩, none, false⟩])
     .ret))))
def Try.s20 : SC :=
 (.seq
  (.ops false [
    ⟨⟨(some 2), .box 25 (.tmp 0), 0, "", ⟨[]⟩, none⟩, none, false⟩,
    ⟨⟨(some 3), .box 29 (.tmp 1), 0, "", ⟨[]⟩, none⟩, none, false⟩,
    ⟨⟨(some 4), .alloc 27, 0, "", ⟨[]⟩, none⟩, none, false⟩,
    ⟨⟨(some 5), .assign (.const (.int .i64 0)), 30, "", ⟨[]⟩, none⟩, none, false⟩])
  (.seq
   (.seq
    (.ops false [
      ⟨⟨(some 9), .load 25 (.tmp 2), 25, "", ⟨[]⟩, none⟩, none, false⟩,
      ⟨⟨(some 10), .call ⟨.value (.func 18), ⟨[(.tmp 9)]⟩, ⟨[25]⟩⟩, 30, "", ⟨[]⟩, none⟩, none, false⟩,
      ⟨⟨(some 6), .assign (.tmp 10), 30, "", ⟨[]⟩, none⟩, none, false⟩])
    (.seq
     (.ops false [
       ⟨⟨(some 11), .move (.tmp 6), 30, "", ⟨[]⟩, none⟩, none, false⟩,
       ⟨⟨(some 12), .binOp .neq 30 (.tmp 11) (.const (.int .i64 0)) 30, 4, "", ⟨[]⟩, none⟩, none, false⟩])
     (.cond (.tmp 12)
      (.seq
       (.ops false [
         ⟨⟨(some 13), .build 27 ⟨[]⟩, 27, "", ⟨[]⟩, none⟩, none, false⟩,
         ⟨⟨(some 14), .move (.tmp 6), 30, "", ⟨[]⟩, none⟩, none, false⟩,
         ⟨⟨none, .store 27 (.tmp 4) (.tmp 13), 0, "", ⟨[]⟩, none⟩, none, false⟩,
         ⟨⟨(some 5), .assign (.tmp 14), 30, "", ⟨[]⟩, none⟩, none, false⟩])
       .ret)
      .skip)))
   (.seq
    (.seq
     (.ops false [
       ⟨⟨(some 15), .fieldAddr 29 (.tmp 3) 0, 0, "", ⟨[]⟩, none⟩, none, false⟩,
       ⟨⟨(some 16), .load 3 (.tmp 15), 3, "", ⟨[]⟩, none⟩, none, false⟩,
       ⟨⟨(some 17), .fieldAddr 25 (.tmp 2) 1, 0, "", ⟨[]⟩, none⟩, none, false⟩,
       ⟨⟨(some 18), .load 23 (.tmp 17), 23, "", ⟨[]⟩, none⟩, none, false⟩,
       ⟨⟨(some 19), .call ⟨.builtin .len, ⟨[(.tmp 18)]⟩, ⟨[23]⟩⟩, 3, "", ⟨[]⟩, none⟩, none, false⟩,
       ⟨⟨(some 20), .binOp .sub 3 (.tmp 19) (.const (.int .i64 1)) 3, 3, "", ⟨[]⟩, none⟩, none, false⟩,
       ⟨⟨(some 21), .call ⟨.value (.func 32), ⟨[(.const (.int .i64 0)), (.tmp 16), (.tmp 20)]⟩, ⟨[3, 3, 3]⟩⟩, 4, "", ⟨[]⟩, none⟩, none, false⟩,
       ⟨⟨(some 22), .unOp .not 4 (.tmp 21), 4, "", ⟨[]⟩, none⟩, none, false⟩,
       ⟨⟨(some 23), .move (.tmp 22), 4, "", ⟨[]⟩, none⟩, none, false⟩,
       ⟨⟨(some 24), .fieldAddr 29 (.tmp 3) 1, 0, "", ⟨[]⟩, none⟩, some ((some 23), false), false⟩,
       ⟨⟨(some 25), .load 27 (.tmp 24), 27, "", ⟨[]⟩, none⟩, some ((some 23), false), false⟩,
       ⟨⟨(some 26), .call ⟨.value (.func 54), ⟨[(.tmp 25), (.const (.int .i64 0)), (.const (.int .i64 1000))]⟩, ⟨[27, 3, 3]⟩⟩, 4, "", ⟨[]⟩, none⟩, some ((some 23), false), false⟩,
       ⟨⟨(some 27), .unOp .not 4 (.tmp 26), 4, "", ⟨[]⟩, none⟩, some ((some 23), false), false⟩,
       ⟨⟨(some 28), .pick (.tmp 23) (.const (.bool true)) (.tmp 27), 4, "", ⟨[]⟩, none⟩, none, false⟩])
     (.cond (.tmp 28)
      (.seq
       (.ops false [
         ⟨⟨(some 29), .build 27 ⟨[]⟩, 27, "", ⟨[]⟩, none⟩, none, false⟩,
         ⟨⟨none, .store 27 (.tmp 4) (.tmp 29), 0, "", ⟨[]⟩, none⟩, none, false⟩,
         ⟨⟨(some 5), .assign (.const (.int .i64 21)), 30, "", ⟨[]⟩, none⟩, none, false⟩])
       .ret)
      .skip))
    (.seq
     (.ops false [
       ⟨⟨(some 30), .load 25 (.tmp 2), 25, "", ⟨[]⟩, none⟩, none, false⟩,
       ⟨⟨(some 31), .fieldAddr 29 (.tmp 3) 0, 0, "", ⟨[]⟩, none⟩, none, false⟩,
       ⟨⟨(some 32), .load 3 (.tmp 31), 3, "", ⟨[]⟩, none⟩, none, false⟩,
       ⟨⟨(some 33), .call ⟨.value (.func 48), ⟨[(.tmp 30), (.tmp 32)]⟩, ⟨[25, 3]⟩⟩, 23, "", ⟨[]⟩, none⟩, none, false⟩,
       ⟨⟨(some 7), .assign (.tmp 33), 23, "", ⟨[]⟩, none⟩, none, false⟩])
     (.seq
      (.seq
       (.ops false [
         ⟨⟨(some 34), .move (.tmp 7), 23, "", ⟨[]⟩, none⟩, none, false⟩,
         ⟨⟨(some 35), .call ⟨.builtin .len, ⟨[(.tmp 34)]⟩, ⟨[23]⟩⟩, 3, "", ⟨[]⟩, none⟩, none, false⟩,
         ⟨⟨(some 36), .fieldAddr 25 (.tmp 2) 4, 0, "", ⟨[]⟩, none⟩, none, false⟩,
         ⟨⟨(some 37), .load 3 (.tmp 36), 3, "", ⟨[]⟩, none⟩, none, false⟩,
         ⟨⟨(some 38), .binOp .lss 3 (.tmp 35) (.tmp 37) 3, 4, "", ⟨[]⟩, none⟩, none, false⟩])
       (.cond (.tmp 38)
        (.seq
         (.ops false [
           ⟨⟨(some 39), .build 27 ⟨[]⟩, 27, "", ⟨[]⟩, none⟩, none, false⟩,
           ⟨⟨none, .store 27 (.tmp 4) (.tmp 39), 0, "", ⟨[]⟩, none⟩, none, false⟩,
           ⟨⟨(some 5), .assign (.const (.int .i64 4)), 30, "", ⟨[]⟩, none⟩, none, false⟩])
         .ret)
        .skip))
      (.seq
       (.ops false [
         ⟨⟨(some 40), .move (.tmp 7), 23, "", ⟨[]⟩, none⟩, none, false⟩,
         ⟨⟨(some 41), .call ⟨.builtin .len, ⟨[(.tmp 40)]⟩, ⟨[23]⟩⟩, 3, "", ⟨[]⟩, none⟩, none, false⟩,
         ⟨⟨(some 42), .binOp .sub 3 (.tmp 41) (.const (.int .i64 1)) 3, 3, "", ⟨[]⟩, none⟩, none, false⟩,
         ⟨⟨(some 43), .call ⟨.value (.func 34), ⟨[(.tmp 42), (.const (.int .i64 4))]⟩, ⟨[3, 3]⟩⟩, 3, "", ⟨[]⟩, none⟩, none, false⟩,
         ⟨⟨(some 8), .assign (.tmp 43), 3, "", ⟨[]⟩, none⟩, none, false⟩])
       (.seq
        (.ops true [
          ⟨⟨(some 44), .move (.tmp 7), 23, "", ⟨[]⟩, none⟩, none, true⟩,
          ⟨⟨(some 45), .move (.tmp 8), 3, "", ⟨[]⟩, none⟩, none, true⟩,
          ⟨⟨(some 46), .indexAddr 23 (.tmp 44) (.tmp 45), 0, "", ⟨[]⟩, none⟩, none, true⟩,
          ⟨⟨(some 47), .load 3 (.tmp 46), 3, "", ⟨[]⟩, none⟩, none, true⟩,
          ⟨⟨(some 48), .fieldAddr 25 (.tmp 2) 2, 0, "", ⟨[]⟩, none⟩, none, true⟩,
          ⟨⟨(some 49), .load 3 (.tmp 48), 3, "", ⟨[]⟩, none⟩, none, true⟩,
          ⟨⟨(some 50), .fieldAddr 29 (.tmp 3) 1, 0, "", ⟨[]⟩, none⟩, none, true⟩,
          ⟨⟨(some 51), .fieldAddr 27 (.tmp 50) 0, 0, "", ⟨[]⟩, none⟩, none, true⟩,
          ⟨⟨(some 52), .load 3 (.tmp 51), 3, "", ⟨[]⟩, none⟩, none, true⟩,
          ⟨⟨(some 53), .binOp .mul 3 (.tmp 49) (.tmp 52) 3, 3, "", ⟨[]⟩, none⟩, none, true⟩,
          ⟨⟨(some 54), .binOp .add 3 (.tmp 47) (.tmp 53) 3, 3, "", ⟨[]⟩, none⟩, none, true⟩,
          ⟨⟨(some 55), .move (.tmp 7), 23, "", ⟨[]⟩, none⟩, none, true⟩,
          ⟨⟨(some 56), .move (.tmp 7), 23, "", ⟨[]⟩, none⟩, none, true⟩,
          ⟨⟨(some 57), .call ⟨.builtin .len, ⟨[(.tmp 56)]⟩, ⟨[23]⟩⟩, 3, "", ⟨[]⟩, none⟩, none, true⟩,
          ⟨⟨(some 58), .binOp .sub 3 (.tmp 57) (.const (.int .i64 1)) 3, 3, "", ⟨[]⟩, none⟩, none, true⟩,
          ⟨⟨(some 59), .move (.tmp 8), 3, "", ⟨[]⟩, none⟩, none, true⟩,
          ⟨⟨(some 60), .binOp .sub 3 (.tmp 58) (.tmp 59) 3, 3, "", ⟨[]⟩, none⟩, none, true⟩,
          ⟨⟨(some 61), .indexAddr 23 (.tmp 55) (.tmp 60), 0, "", ⟨[]⟩, none⟩, none, true⟩,
          ⟨⟨(some 62), .load 3 (.tmp 61), 3, "", ⟨[]⟩, none⟩, none, true⟩,
          ⟨⟨(some 63), .fieldAddr 25 (.tmp 2) 2, 0, "", ⟨[]⟩, none⟩, none, true⟩,
          ⟨⟨(some 64), .load 3 (.tmp 63), 3, "", ⟨[]⟩, none⟩, none, true⟩,
          ⟨⟨(some 65), .fieldAddr 29 (.tmp 3) 1, 0, "", ⟨[]⟩, none⟩, none, true⟩,
          ⟨⟨(some 66), .fieldAddr 27 (.tmp 65) 1, 0, "", ⟨[]⟩, none⟩, none, true⟩,
          ⟨⟨(some 67), .load 3 (.tmp 66), 3, "", ⟨[]⟩, none⟩, none, true⟩,
          ⟨⟨(some 68), .binOp .mul 3 (.tmp 64) (.tmp 67) 3, 3, "", ⟨[]⟩, none⟩, none, true⟩,
          ⟨⟨(some 69), .binOp .add 3 (.tmp 62) (.tmp 68) 3, 3, "", ⟨[]⟩, none⟩, none, true⟩,
          ⟨⟨(some 70), .build 27 ⟨[(0, (.tmp 54)), (1, (.tmp 69))]⟩, 27, "", ⟨[]⟩, none⟩, none, true⟩,
          ⟨⟨none, .store 27 (.tmp 4) (.tmp 70), 0, "", ⟨[]⟩, none⟩, none, false⟩,
          ⟨⟨(some 5), .assign (.const (.int .i64 0)), 30, "", ⟨[]⟩, none⟩, none, true⟩])
        .ret)))))))
def Try.s48 : SC :=
 (.seq
  (.ops false [
    ⟨⟨(some 2), .box 25 (.tmp 0), 0, "", ⟨[]⟩, none⟩, none, false⟩,
    ⟨⟨(some 4), .assign (.const (.slice none 0 0)), 23, "", ⟨[]⟩, none⟩, none, false⟩])
  (.seq
   (.ops false [
     ⟨⟨(some 5), .assign (.const (.slice none 0 0)), 23, "", ⟨[]⟩, none⟩, none, false⟩])
   (.seq
    (.seq
     (.ops false [
       ⟨⟨(some 6), .assign (.const (.int .i64 0)), 3, "", ⟨[]⟩, none⟩, none, false⟩])
     (.block 0
      (.loop
       (.seq
        (.seq
         (.ops false [
           ⟨⟨(some 10), .move (.tmp 6), 3, "", ⟨[]⟩, none⟩, none, false⟩,
           ⟨⟨(some 11), .fieldAddr 25 (.tmp 2) 0, 0, "", ⟨[]⟩, none⟩, none, false⟩,
           ⟨⟨(some 12), .load 22 (.tmp 11), 22, "", ⟨[]⟩, none⟩, none, false⟩,
           ⟨⟨(some 13), .call ⟨.builtin .len, ⟨[(.tmp 12)]⟩, ⟨[22]⟩⟩, 3, "", ⟨[]⟩, none⟩, none, false⟩,
           ⟨⟨(some 14), .binOp .lss 3 (.tmp 10) (.tmp 13) 3, 4, "", ⟨[]⟩, none⟩, none, false⟩])
         (.cond (.tmp 14)
          .skip
          (.exit 0)))
        (.seq
         (.block 1
          (.seq
           (.seq
            (.ops false [
              ⟨⟨(some 17), .fieldAddr 25 (.tmp 2) 0, 0, "", ⟨[]⟩, none⟩, none, false⟩,
              ⟨⟨(some 18), .load 22 (.tmp 17), 22, "", ⟨[]⟩, none⟩, none, false⟩,
              ⟨⟨(some 19), .move (.tmp 6), 3, "", ⟨[]⟩, none⟩, none, false⟩,
              ⟨⟨(some 20), .indexAddr 22 (.tmp 18) (.tmp 19), 0, "", ⟨[]⟩, none⟩, none, false⟩,
              ⟨⟨(some 21), .fieldAddr 66 (.tmp 20) 0, 0, "", ⟨[]⟩, none⟩, none, false⟩,
              ⟨⟨(some 22), .load 3 (.tmp 21), 3, "", ⟨[]⟩, none⟩, none, false⟩,
              ⟨⟨(some 23), .move (.tmp 1), 3, "", ⟨[]⟩, none⟩, none, false⟩,
              ⟨⟨(some 24), .binOp .neq 3 (.tmp 22) (.tmp 23) 3, 4, "", ⟨[]⟩, none⟩, none, false⟩])
            (.cond (.tmp 24)
             (.exit 1)
             .skip))
           (.seq
            (.ops true [
              ⟨⟨(some 25), .load 25 (.tmp 2), 25, "", ⟨[]⟩, none⟩, none, true⟩,
              ⟨⟨(some 26), .fieldAddr 25 (.tmp 2) 0, 0, "", ⟨[]⟩, none⟩, none, true⟩,
              ⟨⟨(some 27), .load 22 (.tmp 26), 22, "", ⟨[]⟩, none⟩, none, true⟩,
              ⟨⟨(some 28), .move (.tmp 6), 3, "", ⟨[]⟩, none⟩, none, true⟩,
              ⟨⟨(some 29), .indexAddr 22 (.tmp 27) (.tmp 28), 0, "", ⟨[]⟩, none⟩, none, true⟩,
              ⟨⟨(some 30), .load 66 (.tmp 29), 66, "", ⟨[]⟩, none⟩, none, true⟩,
              ⟨⟨(some 31), .call ⟨.value (.func 70), ⟨[(.tmp 25), (.tmp 30)]⟩, ⟨[25, 66]⟩⟩, 3, "", ⟨[]⟩, none⟩, none, false⟩,
              ⟨⟨(some 7), .assign (.tmp 31), 3, "", ⟨[]⟩, none⟩, none, true⟩])
            (.seq
             (.ops false [
               ⟨⟨(some 8), .assign (.const (.int .i64 0)), 3, "", ⟨[]⟩, none⟩, none, false⟩])
             (.seq
              (.block 2
               (.loop
                (.seq
                 (.seq
                  (.ops false [
                    ⟨⟨(some 32), .move (.tmp 8), 3, "", ⟨[]⟩, none⟩, none, false⟩,
                    ⟨⟨(some 33), .move (.tmp 5), 23, "", ⟨[]⟩, none⟩, none, false⟩,
                    ⟨⟨(some 34), .call ⟨.builtin .len, ⟨[(.tmp 33)]⟩, ⟨[23]⟩⟩, 3, "", ⟨[]⟩, none⟩, none, false⟩,
                    ⟨⟨(some 35), .binOp .lss 3 (.tmp 32) (.tmp 34) 3, 4, "", ⟨[]⟩, none⟩, none, false⟩,
                    ⟨⟨(some 36), .move (.tmp 35), 4, "", ⟨[]⟩, none⟩, none, false⟩,
                    ⟨⟨(some 37), .move (.tmp 5), 23, "", ⟨[]⟩, none⟩, some ((some 36), true), false⟩,
                    ⟨⟨(some 38), .move (.tmp 8), 3, "", ⟨[]⟩, none⟩, some ((some 36), true), false⟩,
                    ⟨⟨(some 39), .indexAddr 23 (.tmp 37) (.tmp 38), 0, "", ⟨[]⟩, none⟩, some ((some 36), true), false⟩,
                    ⟨⟨(some 40), .load 3 (.tmp 39), 3, "", ⟨[]⟩, none⟩, some ((some 36), true), false⟩,
                    ⟨⟨(some 41), .move (.tmp 7), 3, "", ⟨[]⟩, none⟩, some ((some 36), true), false⟩,
                    ⟨⟨(some 42), .binOp .leq 3 (.tmp 40) (.tmp 41) 3, 4, "", ⟨[]⟩, none⟩, some ((some 36), true), false⟩,
                    ⟨⟨(some 43), .pick (.tmp 36) (.tmp 42) (.const (.bool false)), 4, "", ⟨[]⟩, none⟩, none, false⟩])
                  (.cond (.tmp 43)
                   .skip
                   (.exit 2)))
                 (.block 3
                  (.ops false [
                    ⟨⟨(some 44), .move (.tmp 8), 3, "", ⟨[]⟩, none⟩, none, false⟩,
                    ⟨⟨(some 45), .binOp .add 3 (.tmp 44) (.const (.int .i64 1)) 3, 3, "", ⟨[]⟩, none⟩, none, false⟩,
                    ⟨⟨(some 8), .assign (.tmp 45), 3, "", ⟨[]⟩, none⟩, none, false⟩])))))
              (.seq
               (.ops false [
                 ⟨⟨(some 9), .assign (.const (.slice none 0 0)), 23, "", ⟨[]⟩, none⟩, none, false⟩])
               (.ops true [
                 ⟨⟨(some 46), .move (.tmp 9), 23, "", ⟨[]⟩, none⟩, none, true⟩,
                 ⟨⟨(some 47), .move (.tmp 5), 23, "", ⟨[]⟩, none⟩, none, true⟩,
                 ⟨⟨(some 48), .move (.tmp 8), 3, "", ⟨[]⟩, none⟩, none, true⟩,
                 ⟨⟨(some 49), .slice 23 (.tmp 47) none (some (.tmp 48)) none, 23, "", ⟨[]⟩, none⟩, none, true⟩,
                 ⟨⟨(some 51), .move (.tmp 7), 3, "", ⟨[]⟩, none⟩, none, true⟩,
                 ⟨⟨(some 52), .buildSlice 23 1 ⟨[(0, (.tmp 51))]⟩, 23, "", ⟨[]⟩, none⟩, none, true⟩,
                 ⟨⟨(some 54), .move (.tmp 5), 23, "", ⟨[]⟩, none⟩, none, true⟩,
                 ⟨⟨(some 55), .move (.tmp 8), 3, "", ⟨[]⟩, none⟩, none, true⟩,
                 ⟨⟨(some 56), .slice 23 (.tmp 54) (some (.tmp 55)) none none, 23, "", ⟨[]⟩, none⟩, none, true⟩,
                 ⟨⟨(some 50), .call ⟨.builtin .append, ⟨[(.tmp 46), (.tmp 49)]⟩, ⟨[23, 23]⟩⟩, 23, "", ⟨[]⟩, none⟩, none, true⟩,
                 ⟨⟨(some 53), .call ⟨.builtin .append, ⟨[(.tmp 50), (.tmp 52)]⟩, ⟨[23, 23]⟩⟩, 23, "", ⟨[]⟩, none⟩, none, true⟩,
                 ⟨⟨(some 57), .call ⟨.builtin .append, ⟨[(.tmp 53), (.tmp 56)]⟩, ⟨[23, 23]⟩⟩, 23, "", ⟨[]⟩, none⟩, none, false⟩,
                 ⟨⟨(some 5), .assign (.tmp 57), 23, "", ⟨[]⟩, none⟩, none, true⟩])))))))
         (.ops false [
           ⟨⟨(some 15), .move (.tmp 6), 3, "", ⟨[]⟩, none⟩, none, false⟩,
           ⟨⟨(some 16), .binOp .add 3 (.tmp 15) (.const (.int .i64 1)) 3, 3, "", ⟨[]⟩, none⟩, none, false⟩,
           ⟨⟨(some 6), .assign (.tmp 16), 3, "", ⟨[]⟩, none⟩, none, false⟩]))))))
    (.seq
     (.ops false [
       ⟨⟨(some 58), .move (.tmp 5), 23, "", ⟨[]⟩, none⟩, none, false⟩,
       ⟨⟨(some 4), .assign (.tmp 58), 23, "", ⟨[]⟩, none⟩, none, false⟩])
     .ret))))
def Try.s70 : SC :=
 (.seq
  (.ops false [
    ⟨⟨(some 2), .box 25 (.tmp 0), 0, "", ⟨[]⟩, none⟩, none, false⟩,
    ⟨⟨(some 3), .box 66 (.tmp 1), 0, "", ⟨[]⟩, none⟩, none, false⟩,
    ⟨⟨(some 4), .assign (.const (.int .i64 0)), 3, "", ⟨[]⟩, none⟩, none, false⟩])
  (.seq
   (.ops false [
     ⟨⟨(some 7), .fieldAddr 66 (.tmp 3) 4, 0, "", ⟨[]⟩, none⟩, none, false⟩,
     ⟨⟨(some 8), .load 3 (.tmp 7), 3, "", ⟨[]⟩, none⟩, none, false⟩,
     ⟨⟨(some 9), .fieldAddr 66 (.tmp 3) 2, 0, "", ⟨[]⟩, none⟩, none, false⟩,
     ⟨⟨(some 10), .load 3 (.tmp 9), 3, "", ⟨[]⟩, none⟩, none, false⟩,
     ⟨⟨(some 11), .fieldAddr 66 (.tmp 3) 3, 0, "", ⟨[]⟩, none⟩, none, false⟩,
     ⟨⟨(some 12), .load 3 (.tmp 11), 3, "", ⟨[]⟩, none⟩, none, false⟩,
     ⟨⟨(some 13), .binOp .mul 3 (.tmp 10) (.tmp 12) 3, 3, "", ⟨[]⟩, none⟩, none, false⟩,
     ⟨⟨(some 14), .binOp .sub 3 (.tmp 8) (.tmp 13) 3, 3, "", ⟨[]⟩, none⟩, none, false⟩,
     ⟨⟨(some 15), .call ⟨.builtin .max, ⟨[(.const (.int .i64 0)), (.tmp 14)]⟩, ⟨[3, 3]⟩⟩, 3, "", ⟨[]⟩, none⟩, none, false⟩,
     ⟨⟨(some 5), .assign (.tmp 15), 3, "", ⟨[]⟩, none⟩, none, false⟩])
   (.seq
    (.seq
     (.ops false [
       ⟨⟨(some 16), .fieldAddr 66 (.tmp 3) 1, 0, "", ⟨[]⟩, none⟩, none, false⟩,
       ⟨⟨(some 17), .load 3 (.tmp 16), 3, "", ⟨[]⟩, none⟩, none, false⟩,
       ⟨⟨(some 18), .binOp .add 3 (.tmp 17) (.const (.int .i64 365)) 3, 3, "", ⟨[]⟩, none⟩, none, false⟩,
       ⟨⟨(some 6), .assign (.tmp 18), 3, "", ⟨[]⟩, none⟩, none, false⟩])
     (.block 0
      (.loop
       (.seq
        (.seq
         (.ops false [
           ⟨⟨(some 19), .move (.tmp 6), 3, "", ⟨[]⟩, none⟩, none, false⟩,
           ⟨⟨(some 20), .fieldAddr 25 (.tmp 2) 3, 0, "", ⟨[]⟩, none⟩, none, false⟩,
           ⟨⟨(some 21), .load 3 (.tmp 20), 3, "", ⟨[]⟩, none⟩, none, false⟩,
           ⟨⟨(some 22), .binOp .leq 3 (.tmp 19) (.tmp 21) 3, 4, "", ⟨[]⟩, none⟩, none, false⟩])
         (.cond (.tmp 22)
          .skip
          (.exit 0)))
        (.seq
         (.block 1
          (.ops false [
            ⟨⟨(some 25), .move (.tmp 5), 3, "", ⟨[]⟩, none⟩, none, false⟩,
            ⟨⟨(some 26), .fieldAddr 25 (.tmp 2) 1, 0, "", ⟨[]⟩, none⟩, none, false⟩,
            ⟨⟨(some 27), .load 23 (.tmp 26), 23, "", ⟨[]⟩, none⟩, none, false⟩,
            ⟨⟨(some 28), .fieldAddr 66 (.tmp 3) 0, 0, "", ⟨[]⟩, none⟩, none, false⟩,
            ⟨⟨(some 29), .load 3 (.tmp 28), 3, "", ⟨[]⟩, none⟩, none, false⟩,
            ⟨⟨(some 30), .indexAddr 23 (.tmp 27) (.tmp 29), 0, "", ⟨[]⟩, none⟩, none, false⟩,
            ⟨⟨(some 31), .load 3 (.tmp 30), 3, "", ⟨[]⟩, none⟩, none, false⟩,
            ⟨⟨(some 32), .binOp .mul 3 (.tmp 25) (.tmp 31) 3, 3, "", ⟨[]⟩, none⟩, none, false⟩,
            ⟨⟨(some 33), .call ⟨.value (.func 34), ⟨[(.tmp 32), (.const (.int .i64 64))]⟩, ⟨[3, 3]⟩⟩, 3, "", ⟨[]⟩, none⟩, none, false⟩,
            ⟨⟨(some 5), .assign (.tmp 33), 3, "", ⟨[]⟩, none⟩, none, false⟩]))
         (.ops false [
           ⟨⟨(some 23), .move (.tmp 6), 3, "", ⟨[]⟩, none⟩, none, false⟩,
           ⟨⟨(some 24), .binOp .add 3 (.tmp 23) (.const (.int .i64 365)) 3, 3, "", ⟨[]⟩, none⟩, none, false⟩,
           ⟨⟨(some 6), .assign (.tmp 24), 3, "", ⟨[]⟩, none⟩, none, false⟩]))))))
    (.seq
     (.ops false [
       ⟨⟨(some 34), .move (.tmp 5), 3, "", ⟨[]⟩, none⟩, none, false⟩,
       ⟨⟨(some 4), .assign (.tmp 34), 3, "", ⟨[]⟩, none⟩, none, false⟩])
     .ret))))
theorem Try.s17_eq : Try.f17.body.map sOf = some Try.s17 := by kernel_rfl
theorem Try.s49_eq : Try.f49.body.map sOf = some Try.s49 := by kernel_rfl
theorem Try.s52_eq : Try.f52.body.map sOf = some Try.s52 := by kernel_rfl
theorem Try.s46_eq : Try.f46.body.map sOf = some Try.s46 := by kernel_rfl
theorem Try.s19_eq : Try.f19.body.map sOf = some Try.s19 := by kernel_rfl
theorem Try.s67_eq : Try.f67.body.map sOf = some Try.s67 := by kernel_rfl
theorem Try.s77_eq : Try.f77.body.map sOf = some Try.s77 := by kernel_rfl
theorem Try.s66_eq : Try.f66.body.map sOf = some Try.s66 := by kernel_rfl
theorem Try.s47_eq : Try.f47.body.map sOf = some Try.s47 := by kernel_rfl
theorem Try.s18_eq : Try.f18.body.map sOf = some Try.s18 := by kernel_rfl
theorem Try.s15_eq : Try.f15.body.map sOf = some Try.s15 := by kernel_rfl
theorem Try.s20_eq : Try.f20.body.map sOf = some Try.s20 := by kernel_rfl
theorem Try.s48_eq : Try.f48.body.map sOf = some Try.s48 := by kernel_rfl
theorem Try.s70_eq : Try.f70.body.map sOf = some Try.s70 := by kernel_rfl
theorem Try.ra47_eq : sOf (codeA Try.f47) = Try.ra47 := by kernel_rfl
theorem Try.rb47_eq : sOf (codeB Try.f47) = Try.rb47 := by kernel_rfl
end Go.Proofs

/- Functions' code, as the machine reads it. -/
namespace Go.Proofs
open Go Go.RowKit Go.Sim
set_option maxRecDepth 100000
def Try.s14 : SC :=
 (.seq
  (.ops false [
    ⟨⟨(some 2), .box 25 (.tmp 0), 0, "", ⟨[]⟩, none⟩, none, false⟩,
    ⟨⟨(some 4), .assign (.const (.slice none 0 0)), 23, "", ⟨[]⟩, none⟩, none, false⟩,
    ⟨⟨(some 5), .assign (.const (.int .i64 0)), 30, "", ⟨[]⟩, none⟩, none, false⟩])
  (.seq
   (.seq
    (.ops false [
      ⟨⟨(some 7), .load 25 (.tmp 2), 25, "", ⟨[]⟩, none⟩, none, false⟩,
      ⟨⟨(some 8), .call ⟨.value (.func 17), ⟨[(.tmp 7)]⟩, ⟨[25]⟩⟩, 30, "", ⟨[]⟩, none⟩, none, false⟩,
      ⟨⟨(some 6), .assign (.tmp 8), 30, "", ⟨[]⟩, none⟩, none, false⟩])
    (.seq
     (.ops false [
       ⟨⟨(some 9), .move (.tmp 6), 30, "", ⟨[]⟩, none⟩, none, false⟩,
       ⟨⟨(some 10), .binOp .neq 30 (.tmp 9) (.const (.int .i64 0)) 30, 4, "", ⟨[]⟩, none⟩, none, false⟩])
     (.cond (.tmp 10)
      (.seq
       (.ops false [
         ⟨⟨(some 11), .move (.tmp 6), 30, "", ⟨[]⟩, none⟩, none, false⟩,
         ⟨⟨(some 4), .assign (.const (.slice none 0 0)), 23, "", ⟨[]⟩, none⟩, none, false⟩,
         ⟨⟨(some 5), .assign (.tmp 11), 30, "", ⟨[]⟩, none⟩, none, false⟩])
       .ret)
      .skip)))
   (.seq
    (.seq
     (.ops false [
       ⟨⟨(some 12), .load 25 (.tmp 2), 25, "", ⟨[]⟩, none⟩, none, false⟩,
       ⟨⟨(some 13), .move (.tmp 1), 3, "", ⟨[]⟩, none⟩, none, false⟩,
       ⟨⟨(some 14), .call ⟨.value (.func 46), ⟨[(.tmp 12), (.tmp 13)]⟩, ⟨[25, 3]⟩⟩, 4, "", ⟨[]⟩, none⟩, none, false⟩,
       ⟨⟨(some 15), .unOp .not 4 (.tmp 14), 4, "", ⟨[]⟩, none⟩, none, false⟩])
     (.cond (.tmp 15)
      (.seq
       (.ops false [
         ⟨⟨(some 4), .assign (.const (.slice none 0 0)), 23, "", ⟨[]⟩, none⟩, none, false⟩,
         ⟨⟨(some 5), .assign (.const (.int .i64 7)), 30, "", ⟨[]⟩, none⟩, none, false⟩])
       .ret)
      .skip))
    (.seq
     (.ops false [
       ⟨⟨(some 16), .load 25 (.tmp 2), 25, "", ⟨[]⟩, none⟩, none, false⟩,
       ⟨⟨(some 17), .move (.tmp 1), 3, "", ⟨[]⟩, none⟩, none, false⟩,
       ⟨⟨(some 18), .call ⟨.value (.func 47), ⟨[(.tmp 16), (.tmp 17)]⟩, ⟨[25, 3]⟩⟩, 23, "", ⟨[]⟩, none⟩, none, false⟩,
       ⟨⟨(some 4), .assign (.tmp 18), 23, "", ⟨[]⟩, none⟩, none, false⟩,
       ⟨⟨(some 5), .assign (.const (.int .i64 0)), 30, "", ⟨[]⟩, none⟩, none, false⟩])
     .ret))))
def Try.s7 : SC :=
 (.seq
  (.ops false [
    ⟨⟨(some 3), .box 25 (.tmp 0), 0, "", ⟨[]⟩, none⟩, none, false⟩,
    ⟨⟨(some 4), .box 29 (.tmp 1), 0, "", ⟨[]⟩, none⟩, none, false⟩,
    ⟨⟨(some 5), .box 64 (.tmp 2), 0, "", ⟨[]⟩, none⟩, none, false⟩,
    ⟨⟨(some 6), .assign (.const (.bool false)), 4, "", ⟨[]⟩, none⟩, none, false⟩])
  (.seq
   (.ops false [
     ⟨⟨(some 20), .load 25 (.tmp 3), 25, "", ⟨[]⟩, none⟩, none, false⟩,
     ⟨⟨(some 21), .load 29 (.tmp 4), 29, "", ⟨[]⟩, none⟩, none, false⟩,
     ⟨⟨(some 22), .call ⟨.value (.func 19), ⟨[(.tmp 20), (.tmp 21)]⟩, ⟨[25, 29]⟩⟩, 35, "", ⟨[]⟩, none⟩, none, false⟩,
     ⟨⟨(some 19), .move (.tmp 22), 35, "", ⟨[]⟩, none⟩, none, false⟩,
     ⟨⟨(some 23), .extract (.tmp 19) 0, 27, "", ⟨[]⟩, none⟩, none, false⟩,
     ⟨⟨(some 24), .extract (.tmp 19) 1, 30, "", ⟨[]⟩, none⟩, none, false⟩,
     ⟨⟨(some 7), .alloc 27, 0, "", ⟨[]⟩, none⟩, none, false⟩,
     ⟨⟨none, .store 27 (.tmp 7) (.tmp 23), 0, "", ⟨[]⟩, none⟩, none, false⟩,
     ⟨⟨(some 8), .assign (.tmp 24), 30, "", ⟨[]⟩, none⟩, none, false⟩])
   (.seq
    (.ops false [
      ⟨⟨(some 25), .load 25 (.tmp 3), 25, "", ⟨[]⟩, none⟩, none, false⟩,
      ⟨⟨(some 9), .alloc 25, 0, "", ⟨[]⟩, none⟩, none, false⟩,
      ⟨⟨none, .store 25 (.tmp 9) (.tmp 25), 0, "", ⟨[]⟩, none⟩, none, false⟩])
    (.seq
     (.ops false [
       ⟨⟨(some 26), .fieldAddr 25 (.tmp 9) 0, 0, "", ⟨[]⟩, none⟩, none, false⟩,
       ⟨⟨none, .store 22 (.tmp 26) (.const (.slice none 0 0)), 0, "", ⟨[]⟩, none⟩, none, false⟩])
     (.seq
      (.seq
       (.ops false [
         ⟨⟨(some 27), .fieldAddr 25 (.tmp 3) 0, 0, "", ⟨[]⟩, none⟩, none, false⟩,
         ⟨⟨(some 28), .load 22 (.tmp 27), 22, "", ⟨[]⟩, none⟩, none, false⟩,
         ⟨⟨(some 29), .call ⟨.builtin .len, ⟨[(.tmp 28)]⟩, ⟨[22]⟩⟩, 3, "", ⟨[]⟩, none⟩, none, false⟩,
         ⟨⟨(some 30), .binOp .sub 3 (.tmp 29) (.const (.int .i64 1)) 3, 3, "", ⟨[]⟩, none⟩, none, false⟩,
         ⟨⟨(some 10), .assign (.tmp 30), 3, "", ⟨[]⟩, none⟩, none, false⟩])
       (.block 0
        (.loop
         (.seq
          (.seq
           (.ops false [
             ⟨⟨(some 31), .move (.tmp 10), 3, "", ⟨[]⟩, none⟩, none, false⟩,
             ⟨⟨(some 32), .binOp .geq 3 (.tmp 31) (.const (.int .i64 0)) 3, 4, "", ⟨[]⟩, none⟩, none, false⟩])
           (.cond (.tmp 32)
            .skip
            (.exit 0)))
          (.seq
           (.block 1
            (.ops true [
              ⟨⟨(some 35), .fieldAddr 25 (.tmp 9) 0, 0, "", ⟨[]⟩, none⟩, none, true⟩,
              ⟨⟨(some 36), .load 22 (.tmp 35), 22, "", ⟨[]⟩, none⟩, none, true⟩,
              ⟨⟨(some 37), .fieldAddr 25 (.tmp 3) 0, 0, "", ⟨[]⟩, none⟩, none, true⟩,
              ⟨⟨(some 38), .load 22 (.tmp 37), 22, "", ⟨[]⟩, none⟩, none, true⟩,
              ⟨⟨(some 39), .move (.tmp 10), 3, "", ⟨[]⟩, none⟩, none, true⟩,
              ⟨⟨(some 40), .indexAddr 22 (.tmp 38) (.tmp 39), 0, "", ⟨[]⟩, none⟩, none, true⟩,
              ⟨⟨(some 41), .load 66 (.tmp 40), 66, "", ⟨[]⟩, none⟩, none, true⟩,
              ⟨⟨(some 42), .buildSlice 22 1 ⟨[(0, (.tmp 41))]⟩, 22, "", ⟨[]⟩, none⟩, none, true⟩,
              ⟨⟨(some 43), .call ⟨.builtin .append, ⟨[(.tmp 36), (.tmp 42)]⟩, ⟨[22, 22]⟩⟩, 22, "", ⟨[]⟩, none⟩, none, false⟩,
              ⟨⟨(some 44), .fieldAddr 25 (.tmp 9) 0, 0, "", ⟨[]⟩, none⟩, none, true⟩,
              ⟨⟨none, .store 22 (.tmp 44) (.tmp 43), 0, "", ⟨[]⟩, none⟩, none, false⟩]))
           (.ops false [
             ⟨⟨(some 33), .move (.tmp 10), 3, "", ⟨[]⟩, none⟩, none, false⟩,
             ⟨⟨(some 34), .binOp .sub 3 (.tmp 33) (.const (.int .i64 1)) 3, 3, "", ⟨[]⟩, none⟩, none, false⟩,
             ⟨⟨(some 10), .assign (.tmp 34), 3, "", ⟨[]⟩, none⟩, none, false⟩]))))))
      (.seq
       (.ops false [
         ⟨⟨(some 46), .load 25 (.tmp 9), 25, "", ⟨[]⟩, none⟩, none, false⟩,
         ⟨⟨(some 47), .load 29 (.tmp 4), 29, "", ⟨[]⟩, none⟩, none, false⟩,
         ⟨⟨(some 48), .call ⟨.value (.func 19), ⟨[(.tmp 46), (.tmp 47)]⟩, ⟨[25, 29]⟩⟩, 35, "", ⟨[]⟩, none⟩, none, false⟩,
         ⟨⟨(some 45), .move (.tmp 48), 35, "", ⟨[]⟩, none⟩, none, false⟩,
         ⟨⟨(some 49), .extract (.tmp 45) 0, 27, "", ⟨[]⟩, none⟩, none, false⟩,
         ⟨⟨(some 50), .extract (.tmp 45) 1, 30, "", ⟨[]⟩, none⟩, none, false⟩,
         ⟨⟨(some 11), .alloc 27, 0, "", ⟨[]⟩, none⟩, none, false⟩,
         ⟨⟨none, .store 27 (.tmp 11) (.tmp 49), 0, "", ⟨[]⟩, none⟩, none, false⟩,
         ⟨⟨(some 12), .assign (.tmp 50), 30, "", ⟨[]⟩, none⟩, none, false⟩])
       (.seq
        (.seq
         (.ops false [
           ⟨⟨(some 51), .load 27 (.tmp 11), 27, "", ⟨[]⟩, none⟩, none, false⟩,
           ⟨⟨(some 52), .load 27 (.tmp 7), 27, "", ⟨[]⟩, none⟩, none, false⟩,
           ⟨⟨(some 53), .binOp .neq 27 (.tmp 51) (.tmp 52) 27, 4, "", ⟨[]⟩, none⟩, none, false⟩,
           ⟨⟨(some 54), .move (.tmp 53), 4, "", ⟨[]⟩, none⟩, none, false⟩,
           ⟨⟨(some 55), .move (.tmp 8), 30, "", ⟨[]⟩, none⟩, some ((some 54), false), false⟩,
           ⟨⟨(some 56), .move (.tmp 12), 30, "", ⟨[]⟩, none⟩, some ((some 54), false), false⟩,
           ⟨⟨(some 57), .binOp .neq 30 (.tmp 55) (.tmp 56) 30, 4, "", ⟨[]⟩, none⟩, some ((some 54), false), false⟩,
           ⟨⟨(some 58), .pick (.tmp 54) (.const (.bool true)) (.tmp 57), 4, "", ⟨[]⟩, none⟩, none, false⟩])
         (.cond (.tmp 58)
          (.seq
           (.ops false [
             ⟨⟨(some 6), .assign (.const (.bool false)), 4, "", ⟨[]⟩, none⟩, none, false⟩])
           .ret)
          .skip))
        (.seq
         (.seq
          (.ops false [
            ⟨⟨(some 59), .move (.tmp 8), 30, "", ⟨[]⟩, none⟩, none, false⟩,
            ⟨⟨(some 60), .binOp .neq 30 (.tmp 59) (.const (.int .i64 0)) 30, 4, "", ⟨[]⟩, none⟩, none, false⟩])
          (.cond (.tmp 60)
           (.seq
            (.ops false [
              ⟨⟨(some 61), .call ⟨.value (.func 21), ⟨[]⟩, ⟨[]⟩⟩, 4, "", ⟨[]⟩, none⟩, none, false⟩,
              ⟨⟨(some 6), .assign (.tmp 61), 4, "", ⟨[]⟩, none⟩, none, false⟩])
            .ret)
           .skip))
         (.seq
          (.ops false [
            ⟨⟨(some 63), .fieldAddr 64 (.tmp 5) 0, 0, "", ⟨[]⟩, none⟩, none, false⟩,
            ⟨⟨(some 64), .load 40 (.tmp 63), 40, "", ⟨[]⟩, none⟩, none, false⟩,
            ⟨⟨(some 65), .load 27 (.tmp 7), 27, "", ⟨[]⟩, none⟩, none, false⟩,
            ⟨⟨(some 66), .call ⟨.value (.func 22), ⟨[(.tmp 64), (.tmp 65)]⟩, ⟨[40, 27]⟩⟩, 44, "", ⟨[]⟩, none⟩, none, false⟩,
            ⟨⟨(some 62), .move (.tmp 66), 44, "", ⟨[]⟩, none⟩, none, false⟩,
            ⟨⟨(some 67), .extract (.tmp 62) 0, 3, "", ⟨[]⟩, none⟩, none, false⟩,
            ⟨⟨(some 68), .extract (.tmp 62) 1, 30, "", ⟨[]⟩, none⟩, none, false⟩,
            ⟨⟨(some 13), .assign (.tmp 67), 3, "", ⟨[]⟩, none⟩, none, false⟩,
            ⟨⟨(some 8), .assign (.tmp 68), 30, "", ⟨[]⟩, none⟩, none, false⟩])
          (.seq
           (.seq
            (.ops false [
              ⟨⟨(some 69), .move (.tmp 8), 30, "", ⟨[]⟩, none⟩, none, false⟩,
              ⟨⟨(some 70), .binOp .neq 30 (.tmp 69) (.const (.int .i64 0)) 30, 4, "", ⟨[]⟩, none⟩, none, false⟩])
            (.cond (.tmp 70)
             (.seq
              (.ops false [
                ⟨⟨(some 71), .move (.tmp 13), 3, "", ⟨[]⟩, none⟩, none, false⟩,
                ⟨⟨(some 72), .binOp .eql 3 (.tmp 71) (.const (.int .i64 0)) 3, 4, "", ⟨[]⟩, none⟩, none, false⟩,
                ⟨⟨(some 73), .move (.tmp 72), 4, "", ⟨[]⟩, none⟩, none, false⟩,
                ⟨⟨(some 74), .move (.tmp 8), 30, "", ⟨[]⟩, none⟩, some ((some 73), true), false⟩,
                ⟨⟨(some 75), .binOp .eql 30 (.tmp 74) (.const (.int .i64 22)) 30, 4, "", ⟨[]⟩, none⟩, some ((some 73), true), false⟩,
                ⟨⟨(some 76), .move (.tmp 75), 4, "", ⟨[]⟩, none⟩, some ((some 73), true), false⟩,
                ⟨⟨(some 77), .move (.tmp 8), 30, "", ⟨[]⟩, none⟩, some ((some 76), false), false⟩,
                ⟨⟨(some 78), .binOp .eql 30 (.tmp 77) (.const (.int .i64 7)) 30, 4, "", ⟨[]⟩, none⟩, some ((some 76), false), false⟩,
                ⟨⟨(some 79), .pick (.tmp 76) (.const (.bool true)) (.tmp 78), 4, "", ⟨[]⟩, none⟩, some ((some 73), true), false⟩,
                ⟨⟨(some 80), .pick (.tmp 73) (.tmp 79) (.const (.bool false)), 4, "", ⟨[]⟩, none⟩, none, false⟩,
                ⟨⟨(some 81), .move (.tmp 80), 4, "", ⟨[]⟩, none⟩, none, false⟩,
                ⟨⟨(some 82), .call ⟨.value (.func 21), ⟨[]⟩, ⟨[]⟩⟩, 4, "", ⟨[]⟩, none⟩, some ((some 81), true), false⟩,
                ⟨⟨(some 83), .pick (.tmp 81) (.tmp 82) (.const (.bool false)), 4, "", ⟨[]⟩, none⟩, none, false⟩,
                ⟨⟨(some 6), .assign (.tmp 83), 4, "", ⟨[]⟩, none⟩, none, false⟩])
              .ret)
             .skip))
           (.seq
            (.ops false [
              ⟨⟨(some 84), .fieldAddr 64 (.tmp 5) 0, 0, "", ⟨[]⟩, none⟩, none, false⟩,
              ⟨⟨(some 85), .fieldAddr 40 (.tmp 84) 1, 0, "", ⟨[]⟩, none⟩, none, false⟩,
              ⟨⟨(some 86), .load 3 (.tmp 85), 3, "", ⟨[]⟩, none⟩, none, false⟩,
              ⟨⟨(some 87), .fieldAddr 27 (.tmp 7) 0, 0, "", ⟨[]⟩, none⟩, none, false⟩,
              ⟨⟨(some 88), .load 3 (.tmp 87), 3, "", ⟨[]⟩, none⟩, none, false⟩,
              ⟨⟨(some 89), .call ⟨.builtin .min, ⟨[(.tmp 86), (.tmp 88)]⟩, ⟨[3, 3]⟩⟩, 3, "", ⟨[]⟩, none⟩, none, false⟩,
              ⟨⟨(some 14), .assign (.tmp 89), 3, "", ⟨[]⟩, none⟩, none, false⟩])
            (.seq
             (.seq
              (.ops false [
                ⟨⟨(some 90), .move (.tmp 13), 3, "", ⟨[]⟩, none⟩, none, false⟩,
                ⟨⟨(some 91), .fieldAddr 64 (.tmp 5) 0, 0, "", ⟨[]⟩, none⟩, none, false⟩,
                ⟨⟨(some 92), .fieldAddr 40 (.tmp 91) 2, 0, "", ⟨[]⟩, none⟩, none, false⟩,
                ⟨⟨(some 93), .load 3 (.tmp 92), 3, "", ⟨[]⟩, none⟩, none, false⟩,
                ⟨⟨(some 94), .binOp .gtr 3 (.tmp 90) (.tmp 93) 3, 4, "", ⟨[]⟩, none⟩, none, false⟩,
                ⟨⟨(some 95), .move (.tmp 94), 4, "", ⟨[]⟩, none⟩, none, false⟩,
                ⟨⟨(some 96), .move (.tmp 13), 3, "", ⟨[]⟩, none⟩, some ((some 95), false), false⟩,
                ⟨⟨(some 97), .fieldAddr 27 (.tmp 7) 0, 0, "", ⟨[]⟩, none⟩, some ((some 95), false), false⟩,
                ⟨⟨(some 98), .load 3 (.tmp 97), 3, "", ⟨[]⟩, none⟩, some ((some 95), false), false⟩,
                ⟨⟨(some 99), .binOp .gtr 3 (.tmp 96) (.tmp 98) 3, 4, "", ⟨[]⟩, none⟩, some ((some 95), false), false⟩,
                ⟨⟨(some 100), .pick (.tmp 95) (.const (.bool true)) (.tmp 99), 4, "", ⟨[]⟩, none⟩, none, false⟩,
                ⟨⟨(some 101), .move (.tmp 100), 4, "", ⟨[]⟩, none⟩, none, false⟩,
                ⟨⟨(some 102), .move (.tmp 13), 3, "", ⟨[]⟩, none⟩, some ((some 101), false), false⟩,
                ⟨⟨(some 103), .fieldAddr 27 (.tmp 7) 0, 0, "", ⟨[]⟩, none⟩, some ((some 101), false), false⟩,
                ⟨⟨(some 104), .load 3 (.tmp 103), 3, "", ⟨[]⟩, none⟩, some ((some 101), false), false⟩,
                ⟨⟨(some 105), .fieldAddr 64 (.tmp 5) 0, 0, "", ⟨[]⟩, none⟩, some ((some 101), false), false⟩,
                ⟨⟨(some 106), .fieldAddr 40 (.tmp 105) 0, 0, "", ⟨[]⟩, none⟩, some ((some 101), false), false⟩,
                ⟨⟨(some 107), .load 3 (.tmp 106), 3, "", ⟨[]⟩, none⟩, some ((some 101), false), false⟩,
                ⟨⟨(some 108), .binOp .mul 3 (.tmp 104) (.tmp 107) 3, 3, "", ⟨[]⟩, none⟩, some ((some 101), false), false⟩,
                ⟨⟨(some 109), .call ⟨.value (.func 34), ⟨[(.tmp 108), (.const (.int .i64 64))]⟩, ⟨[3, 3]⟩⟩, 3, "", ⟨[]⟩, none⟩, some ((some 101), false), false⟩,
                ⟨⟨(some 110), .move (.tmp 14), 3, "", ⟨[]⟩, none⟩, some ((some 101), false), false⟩,
                ⟨⟨(some 111), .call ⟨.builtin .max, ⟨[(.tmp 109), (.tmp 110)]⟩, ⟨[3, 3]⟩⟩, 3, "", ⟨[]⟩, none⟩, some ((some 101), false), false⟩,
                ⟨⟨(some 112), .binOp .gtr 3 (.tmp 102) (.tmp 111) 3, 4, "", ⟨[]⟩, none⟩, some ((some 101), false), false⟩,
                ⟨⟨(some 113), .pick (.tmp 101) (.const (.bool true)) (.tmp 112), 4, "", ⟨[]⟩, none⟩, none, false⟩,
                ⟨⟨(some 114), .move (.tmp 113), 4, "", ⟨[]⟩, none⟩, none, false⟩,
                ⟨⟨(some 115), .move (.tmp 13), 3, "", ⟨[]⟩, none⟩, some ((some 114), false), false⟩,
                ⟨⟨(some 116), .move (.tmp 14), 3, "", ⟨[]⟩, none⟩, some ((some 114), false), false⟩,
                ⟨⟨(some 117), .fieldAddr 64 (.tmp 5) 0, 0, "", ⟨[]⟩, none⟩, some ((some 114), false), false⟩,
                ⟨⟨(some 118), .fieldAddr 40 (.tmp 117) 2, 0, "", ⟨[]⟩, none⟩, some ((some 114), false), false⟩,
                ⟨⟨(some 119), .load 3 (.tmp 118), 3, "", ⟨[]⟩, none⟩, some ((some 114), false), false⟩,
                ⟨⟨(some 120), .call ⟨.builtin .min, ⟨[(.tmp 116), (.tmp 119)]⟩, ⟨[3, 3]⟩⟩, 3, "", ⟨[]⟩, none⟩, some ((some 114), false), false⟩,
                ⟨⟨(some 121), .binOp .lss 3 (.tmp 115) (.tmp 120) 3, 4, "", ⟨[]⟩, none⟩, some ((some 114), false), false⟩,
                ⟨⟨(some 122), .pick (.tmp 114) (.const (.bool true)) (.tmp 121), 4, "", ⟨[]⟩, none⟩, none, false⟩])
              (.cond (.tmp 122)
               (.seq
                (.ops false [
                  ⟨⟨(some 6), .assign (.const (.bool false)), 4, "", ⟨[]⟩, none⟩, none, false⟩])
                .ret)
               .skip))
             (.seq
              (.ops true [
                ⟨⟨(some 123), .fieldAddr 27 (.tmp 7) 0, 0, "", ⟨[]⟩, none⟩, none, true⟩,
                ⟨⟨(some 124), .load 3 (.tmp 123), 3, "", ⟨[]⟩, none⟩, none, true⟩,
                ⟨⟨(some 125), .fieldAddr 64 (.tmp 5) 2, 0, "", ⟨[]⟩, none⟩, none, true⟩,
                ⟨⟨(some 126), .load 3 (.tmp 125), 3, "", ⟨[]⟩, none⟩, none, true⟩,
                ⟨⟨(some 129), .fieldAddr 27 (.tmp 7) 1, 0, "", ⟨[]⟩, none⟩, none, true⟩,
                ⟨⟨(some 130), .load 3 (.tmp 129), 3, "", ⟨[]⟩, none⟩, none, true⟩,
                ⟨⟨(some 131), .fieldAddr 64 (.tmp 5) 2, 0, "", ⟨[]⟩, none⟩, none, true⟩,
                ⟨⟨(some 132), .load 3 (.tmp 131), 3, "", ⟨[]⟩, none⟩, none, true⟩,
                ⟨⟨(some 15), .alloc 27, 0, "", ⟨[]⟩, none⟩, none, true⟩,
                ⟨⟨(some 127), .call ⟨.value (.func 33), ⟨[(.tmp 126), (.const (.int .i64 100000))]⟩, ⟨[3, 3]⟩⟩, 3, "", ⟨[]⟩, none⟩, none, true⟩,
                ⟨⟨(some 128), .binOp .add 3 (.tmp 124) (.tmp 127) 3, 3, "", ⟨[]⟩, none⟩, none, true⟩,
                ⟨⟨(some 133), .call ⟨.value (.func 33), ⟨[(.tmp 132), (.const (.int .i64 100000))]⟩, ⟨[3, 3]⟩⟩, 3, "", ⟨[]⟩, none⟩, none, true⟩,
                ⟨⟨(some 134), .binOp .add 3 (.tmp 130) (.tmp 133) 3, 3, "", ⟨[]⟩, none⟩, none, true⟩,
                ⟨⟨(some 135), .build 27 ⟨[(0, (.tmp 128)), (1, (.tmp 134))]⟩, 27, "", ⟨[]⟩, none⟩, none, true⟩,
                ⟨⟨none, .store 27 (.tmp 15) (.tmp 135), 0, "", ⟨[]⟩, none⟩, none, false⟩])
              (.seq
               (.ops false [
                 ⟨⟨(some 137), .fieldAddr 64 (.tmp 5) 0, 0, "", ⟨[]⟩, none⟩, none, false⟩,
                 ⟨⟨(some 138), .load 40 (.tmp 137), 40, "", ⟨[]⟩, none⟩, none, false⟩,
                 ⟨⟨(some 139), .load 27 (.tmp 15), 27, "", ⟨[]⟩, none⟩, none, false⟩,
                 ⟨⟨(some 140), .call ⟨.value (.func 22), ⟨[(.tmp 138), (.tmp 139)]⟩, ⟨[40, 27]⟩⟩, 44, "", ⟨[]⟩, none⟩, none, false⟩,
                 ⟨⟨(some 136), .move (.tmp 140), 44, "", ⟨[]⟩, none⟩, none, false⟩,
                 ⟨⟨(some 141), .extract (.tmp 136) 0, 3, "", ⟨[]⟩, none⟩, none, false⟩,
                 ⟨⟨(some 142), .extract (.tmp 136) 1, 30, "", ⟨[]⟩, none⟩, none, false⟩,
                 ⟨⟨(some 16), .assign (.tmp 141), 3, "", ⟨[]⟩, none⟩, none, false⟩,
                 ⟨⟨(some 8), .assign (.tmp 142), 30, "", ⟨[]⟩, none⟩, none, false⟩])
               (.seq
                (.seq
                 (.ops false [
                   ⟨⟨(some 143), .move (.tmp 8), 30, "", ⟨[]⟩, none⟩, none, false⟩,
                   ⟨⟨(some 144), .binOp .neq 30 (.tmp 143) (.const (.int .i64 0)) 30, 4, "", ⟨[]⟩, none⟩, none, false⟩,
                   ⟨⟨(some 145), .move (.tmp 144), 4, "", ⟨[]⟩, none⟩, none, false⟩,
                   ⟨⟨(some 146), .move (.tmp 8), 30, "", ⟨[]⟩, none⟩, some ((some 145), true), false⟩,
                   ⟨⟨(some 147), .binOp .neq 30 (.tmp 146) (.const (.int .i64 7)) 30, 4, "", ⟨[]⟩, none⟩, some ((some 145), true), false⟩,
                   ⟨⟨(some 148), .pick (.tmp 145) (.tmp 147) (.const (.bool false)), 4, "", ⟨[]⟩, none⟩, none, false⟩,
                   ⟨⟨(some 149), .move (.tmp 148), 4, "", ⟨[]⟩, none⟩, none, false⟩,
                   ⟨⟨(some 150), .move (.tmp 8), 30, "", ⟨[]⟩, none⟩, some ((some 149), false), false⟩,
                   ⟨⟨(some 151), .binOp .eql 30 (.tmp 150) (.const (.int .i64 0)) 30, 4, "", ⟨[]⟩, none⟩, some ((some 149), false), false⟩,
                   ⟨⟨(some 152), .move (.tmp 151), 4, "", ⟨[]⟩, none⟩, some ((some 149), false), false⟩,
                   ⟨⟨(some 153), .move (.tmp 16), 3, "", ⟨[]⟩, none⟩, some ((some 152), true), false⟩,
                   ⟨⟨(some 154), .move (.tmp 13), 3, "", ⟨[]⟩, none⟩, some ((some 152), true), false⟩,
                   ⟨⟨(some 155), .binOp .lss 3 (.tmp 153) (.tmp 154) 3, 4, "", ⟨[]⟩, none⟩, some ((some 152), true), false⟩,
                   ⟨⟨(some 156), .pick (.tmp 152) (.tmp 155) (.const (.bool false)), 4, "", ⟨[]⟩, none⟩, some ((some 149), false), false⟩,
                   ⟨⟨(some 157), .pick (.tmp 149) (.const (.bool true)) (.tmp 156), 4, "", ⟨[]⟩, none⟩, none, false⟩])
                 (.cond (.tmp 157)
                  (.seq
                   (.ops false [
                     ⟨⟨(some 6), .assign (.const (.bool false)), 4, "", ⟨[]⟩, none⟩, none, false⟩])
                   .ret)
                  .skip))
                (.seq
                 (.ops false [
                   ⟨⟨(some 158), .fieldAddr 64 (.tmp 5) 1, 0, "", ⟨[]⟩, none⟩, none, false⟩,
                   ⟨⟨(some 159), .load 3 (.tmp 158), 3, "", ⟨[]⟩, none⟩, none, false⟩,
                   ⟨⟨(some 160), .call ⟨.value (.func 33), ⟨[(.tmp 159), (.const (.int .i64 1073741824))]⟩, ⟨[3, 3]⟩⟩, 3, "", ⟨[]⟩, none⟩, none, false⟩,
                   ⟨⟨(some 161), .binOp .add 3 (.const (.int .i64 1)) (.tmp 160) 3, 3, "", ⟨[]⟩, none⟩, none, false⟩,
                   ⟨⟨(some 17), .assign (.tmp 161), 3, "", ⟨[]⟩, none⟩, none, false⟩])
                 (.seq
                  (.ops false [
                    ⟨⟨(some 163), .fieldAddr 64 (.tmp 5) 0, 0, "", ⟨[]⟩, none⟩, none, false⟩,
                    ⟨⟨(some 164), .load 40 (.tmp 163), 40, "", ⟨[]⟩, none⟩, none, false⟩,
                    ⟨⟨(some 165), .load 27 (.tmp 7), 27, "", ⟨[]⟩, none⟩, none, false⟩,
                    ⟨⟨(some 166), .move (.tmp 17), 3, "", ⟨[]⟩, none⟩, none, false⟩,
                    ⟨⟨(some 167), .call ⟨.value (.func 26), ⟨[(.tmp 164), (.tmp 165), (.tmp 166)]⟩, ⟨[40, 27, 3]⟩⟩, 44, "", ⟨[]⟩, none⟩, none, false⟩,
                    ⟨⟨(some 162), .move (.tmp 167), 44, "", ⟨[]⟩, none⟩, none, false⟩,
                    ⟨⟨(some 168), .extract (.tmp 162) 0, 3, "", ⟨[]⟩, none⟩, none, false⟩,
                    ⟨⟨(some 169), .extract (.tmp 162) 1, 30, "", ⟨[]⟩, none⟩, none, false⟩,
                    ⟨⟨(some 18), .assign (.tmp 168), 3, "", ⟨[]⟩, none⟩, none, false⟩,
                    ⟨⟨(some 8), .assign (.tmp 169), 30, "", ⟨[]⟩, none⟩, none, false⟩])
                  (.seq
                   (.ops false [
                     ⟨⟨(some 170), .move (.tmp 13), 3, "", ⟨[]⟩, none⟩, none, false⟩,
                     ⟨⟨(some 171), .binOp .eql 3 (.tmp 170) (.const (.int .i64 0)) 3, 4, "", ⟨[]⟩, none⟩, none, false⟩,
                     ⟨⟨(some 172), .move (.tmp 171), 4, "", ⟨[]⟩, none⟩, none, false⟩,
                     ⟨⟨(some 173), .move (.tmp 8), 30, "", ⟨[]⟩, none⟩, some ((some 172), true), false⟩,
                     ⟨⟨(some 174), .binOp .eql 30 (.tmp 173) (.const (.int .i64 4)) 30, 4, "", ⟨[]⟩, none⟩, some ((some 172), true), false⟩,
                     ⟨⟨(some 175), .pick (.tmp 172) (.tmp 174) (.const (.bool false)), 4, "", ⟨[]⟩, none⟩, none, false⟩,
                     ⟨⟨(some 176), .move (.tmp 175), 4, "", ⟨[]⟩, none⟩, none, false⟩,
                     ⟨⟨(some 177), .move (.tmp 18), 3, "", ⟨[]⟩, none⟩, some ((some 176), true), false⟩,
                     ⟨⟨(some 178), .binOp .eql 3 (.tmp 177) (.const (.int .i64 0)) 3, 4, "", ⟨[]⟩, none⟩, some ((some 176), true), false⟩,
                     ⟨⟨(some 179), .pick (.tmp 176) (.tmp 178) (.const (.bool false)), 4, "", ⟨[]⟩, none⟩, none, false⟩,
                     ⟨⟨(some 180), .move (.tmp 179), 4, "", ⟨[]⟩, none⟩, none, false⟩,
                     ⟨⟨(some 181), .move (.tmp 13), 3, "", ⟨[]⟩, none⟩, some ((some 180), false), false⟩,
                     ⟨⟨(some 182), .binOp .gtr 3 (.tmp 181) (.const (.int .i64 0)) 3, 4, "", ⟨[]⟩, none⟩, some ((some 180), false), false⟩,
                     ⟨⟨(some 183), .move (.tmp 182), 4, "", ⟨[]⟩, none⟩, some ((some 180), false), false⟩,
                     ⟨⟨(some 184), .move (.tmp 8), 30, "", ⟨[]⟩, none⟩, some ((some 183), true), false⟩,
                     ⟨⟨(some 185), .binOp .eql 30 (.tmp 184) (.const (.int .i64 0)) 30, 4, "", ⟨[]⟩, none⟩, some ((some 183), true), false⟩,
                     ⟨⟨(some 186), .pick (.tmp 183) (.tmp 185) (.const (.bool false)), 4, "", ⟨[]⟩, none⟩, some ((some 180), false), false⟩,
                     ⟨⟨(some 187), .move (.tmp 186), 4, "", ⟨[]⟩, none⟩, some ((some 180), false), false⟩,
                     ⟨⟨(some 188), .move (.tmp 18), 3, "", ⟨[]⟩, none⟩, some ((some 187), true), false⟩,
                     ⟨⟨(some 189), .move (.tmp 13), 3, "", ⟨[]⟩, none⟩, some ((some 187), true), false⟩,
                     ⟨⟨(some 190), .move (.tmp 17), 3, "", ⟨[]⟩, none⟩, some ((some 187), true), false⟩,
                     ⟨⟨(some 191), .call ⟨.builtin .min, ⟨[(.tmp 189), (.tmp 190)]⟩, ⟨[3, 3]⟩⟩, 3, "", ⟨[]⟩, none⟩, some ((some 187), true), false⟩,
                     ⟨⟨(some 192), .binOp .eql 3 (.tmp 188) (.tmp 191) 3, 4, "", ⟨[]⟩, none⟩, some ((some 187), true), false⟩,
                     ⟨⟨(some 193), .pick (.tmp 187) (.tmp 192) (.const (.bool false)), 4, "", ⟨[]⟩, none⟩, some ((some 180), false), false⟩,
                     ⟨⟨(some 194), .pick (.tmp 180) (.const (.bool true)) (.tmp 193), 4, "", ⟨[]⟩, none⟩, none, false⟩,
                     ⟨⟨(some 195), .move (.tmp 194), 4, "", ⟨[]⟩, none⟩, none, false⟩,
                     ⟨⟨(some 196), .call ⟨.value (.func 21), ⟨[]⟩, ⟨[]⟩⟩, 4, "", ⟨[]⟩, none⟩, some ((some 195), true), false⟩,
                     ⟨⟨(some 197), .pick (.tmp 195) (.tmp 196) (.const (.bool false)), 4, "", ⟨[]⟩, none⟩, none, false⟩,
                     ⟨⟨(some 6), .assign (.tmp 197), 4, "", ⟨[]⟩, none⟩, none, false⟩])
                   .ret))))))))))))))))))
def Try.s6 : SC :=
 (.seq
  (.ops false [
    ⟨⟨(some 3), .box 25 (.tmp 0), 0, "", ⟨[]⟩, none⟩, none, false⟩,
    ⟨⟨(some 4), .box 29 (.tmp 1), 0, "", ⟨[]⟩, none⟩, none, false⟩,
    ⟨⟨(some 5), .box 59 (.tmp 2), 0, "", ⟨[]⟩, none⟩, none, false⟩,
    ⟨⟨(some 6), .assign (.const (.bool false)), 4, "", ⟨[]⟩, none⟩, none, false⟩])
  (.seq
   (.ops false [
     ⟨⟨(some 17), .load 25 (.tmp 3), 25, "", ⟨[]⟩, none⟩, none, false⟩,
     ⟨⟨(some 18), .load 29 (.tmp 4), 29, "", ⟨[]⟩, none⟩, none, false⟩,
     ⟨⟨(some 19), .call ⟨.value (.func 19), ⟨[(.tmp 17), (.tmp 18)]⟩, ⟨[25, 29]⟩⟩, 35, "", ⟨[]⟩, none⟩, none, false⟩,
     ⟨⟨(some 16), .move (.tmp 19), 35, "", ⟨[]⟩, none⟩, none, false⟩,
     ⟨⟨(some 20), .extract (.tmp 16) 0, 27, "", ⟨[]⟩, none⟩, none, false⟩,
     ⟨⟨(some 21), .extract (.tmp 16) 1, 30, "", ⟨[]⟩, none⟩, none, false⟩,
     ⟨⟨(some 7), .alloc 27, 0, "", ⟨[]⟩, none⟩, none, false⟩,
     ⟨⟨none, .store 27 (.tmp 7) (.tmp 20), 0, "", ⟨[]⟩, none⟩, none, false⟩,
     ⟨⟨(some 8), .assign (.tmp 21), 30, "", ⟨[]⟩, none⟩, none, false⟩])
   (.seq
    (.seq
     (.ops false [
       ⟨⟨(some 22), .move (.tmp 8), 30, "", ⟨[]⟩, none⟩, none, false⟩,
       ⟨⟨(some 23), .binOp .neq 30 (.tmp 22) (.const (.int .i64 0)) 30, 4, "", ⟨[]⟩, none⟩, none, false⟩])
     (.cond (.tmp 23)
      (.seq
       (.ops false [
         ⟨⟨(some 24), .load 27 (.tmp 7), 27, "", ⟨[]⟩, none⟩, none, false⟩,
         ⟨⟨(some 25), .build 27 ⟨[]⟩, 27, "", ⟨[]⟩, none⟩, none, false⟩,
         ⟨⟨(some 26), .binOp .eql 27 (.tmp 24) (.tmp 25) 27, 4, "", ⟨[]⟩, none⟩, none, false⟩,
         ⟨⟨(some 27), .move (.tmp 26), 4, "", ⟨[]⟩, none⟩, none, false⟩,
         ⟨⟨(some 28), .call ⟨.value (.func 21), ⟨[]⟩, ⟨[]⟩⟩, 4, "", ⟨[]⟩, none⟩, some ((some 27), true), false⟩,
         ⟨⟨(some 29), .pick (.tmp 27) (.tmp 28) (.const (.bool false)), 4, "", ⟨[]⟩, none⟩, none, false⟩,
         ⟨⟨(some 6), .assign (.tmp 29), 4, "", ⟨[]⟩, none⟩, none, false⟩])
       .ret)
      .skip))
    (.seq
     (.ops false [
       ⟨⟨(some 31), .load 25 (.tmp 3), 25, "", ⟨[]⟩, none⟩, none, false⟩,
       ⟨⟨(some 32), .fieldAddr 29 (.tmp 4) 0, 0, "", ⟨[]⟩, none⟩, none, false⟩,
       ⟨⟨(some 33), .load 3 (.tmp 32), 3, "", ⟨[]⟩, none⟩, none, false⟩,
       ⟨⟨(some 34), .call ⟨.value (.func 14), ⟨[(.tmp 31), (.tmp 33)]⟩, ⟨[25, 3]⟩⟩, 31, "", ⟨[]⟩, none⟩, none, false⟩,
       ⟨⟨(some 30), .move (.tmp 34), 31, "", ⟨[]⟩, none⟩, none, false⟩,
       ⟨⟨(some 35), .extract (.tmp 30) 0, 23, "", ⟨[]⟩, none⟩, none, false⟩,
       ⟨⟨(some 36), .extract (.tmp 30) 1, 30, "", ⟨[]⟩, none⟩, none, false⟩,
       ⟨⟨(some 9), .assign (.tmp 35), 23, "", ⟨[]⟩, none⟩, none, false⟩,
       ⟨⟨(some 8), .assign (.tmp 36), 30, "", ⟨[]⟩, none⟩, none, false⟩])
     (.seq
      (.seq
       (.ops false [
         ⟨⟨(some 37), .move (.tmp 8), 30, "", ⟨[]⟩, none⟩, none, false⟩,
         ⟨⟨(some 38), .binOp .neq 30 (.tmp 37) (.const (.int .i64 0)) 30, 4, "", ⟨[]⟩, none⟩, none, false⟩,
         ⟨⟨(some 39), .move (.tmp 38), 4, "", ⟨[]⟩, none⟩, none, false⟩,
         ⟨⟨(some 40), .move (.tmp 9), 23, "", ⟨[]⟩, none⟩, some ((some 39), false), false⟩,
         ⟨⟨(some 41), .call ⟨.builtin .len, ⟨[(.tmp 40)]⟩, ⟨[23]⟩⟩, 3, "", ⟨[]⟩, none⟩, some ((some 39), false), false⟩,
         ⟨⟨(some 42), .binOp .eql 3 (.tmp 41) (.const (.int .i64 0)) 3, 4, "", ⟨[]⟩, none⟩, some ((some 39), false), false⟩,
         ⟨⟨(some 43), .pick (.tmp 39) (.const (.bool true)) (.tmp 42), 4, "", ⟨[]⟩, none⟩, none, false⟩,
         ⟨⟨(some 44), .move (.tmp 43), 4, "", ⟨[]⟩, none⟩, none, false⟩,
         ⟨⟨(some 45), .move (.tmp 9), 23, "", ⟨[]⟩, none⟩, some ((some 44), false), false⟩,
         ⟨⟨(some 46), .call ⟨.builtin .len, ⟨[(.tmp 45)]⟩, ⟨[23]⟩⟩, 3, "", ⟨[]⟩, none⟩, some ((some 44), false), false⟩,
         ⟨⟨(some 47), .fieldAddr 25 (.tmp 3) 4, 0, "", ⟨[]⟩, none⟩, some ((some 44), false), false⟩,
         ⟨⟨(some 48), .load 3 (.tmp 47), 3, "", ⟨[]⟩, none⟩, some ((some 44), false), false⟩,
         ⟨⟨(some 49), .binOp .lss 3 (.tmp 46) (.tmp 48) 3, 4, "", ⟨[]⟩, none⟩, some ((some 44), false), false⟩,
         ⟨⟨(some 50), .pick (.tmp 44) (.const (.bool true)) (.tmp 49), 4, "", ⟨[]⟩, none⟩, none, false⟩,
         ⟨⟨(some 51), .move (.tmp 50), 4, "", ⟨[]⟩, none⟩, none, false⟩,
         ⟨⟨(some 52), .fieldAddr 25 (.tmp 3) 2, 0, "", ⟨[]⟩, none⟩, some ((some 51), false), false⟩,
         ⟨⟨(some 53), .load 3 (.tmp 52), 3, "", ⟨[]⟩, none⟩, some ((some 51), false), false⟩,
         ⟨⟨(some 54), .call ⟨.value (.func 32), ⟨[(.const (.int .i64 0)), (.tmp 53), (.const (.int .i64 100000))]⟩, ⟨[3, 3, 3]⟩⟩, 4, "", ⟨[]⟩, none⟩, some ((some 51), false), false⟩,
         ⟨⟨(some 55), .unOp .not 4 (.tmp 54), 4, "", ⟨[]⟩, none⟩, some ((some 51), false), false⟩,
         ⟨⟨(some 56), .pick (.tmp 51) (.const (.bool true)) (.tmp 55), 4, "", ⟨[]⟩, none⟩, none, false⟩,
         ⟨⟨(some 57), .move (.tmp 56), 4, "", ⟨[]⟩, none⟩, none, false⟩,
         ⟨⟨(some 58), .fieldAddr 29 (.tmp 4) 1, 0, "", ⟨[]⟩, none⟩, some ((some 57), false), false⟩,
         ⟨⟨(some 59), .fieldAddr 27 (.tmp 58) 0, 0, "", ⟨[]⟩, none⟩, some ((some 57), false), false⟩,
         ⟨⟨(some 60), .load 3 (.tmp 59), 3, "", ⟨[]⟩, none⟩, some ((some 57), false), false⟩,
         ⟨⟨(some 61), .call ⟨.value (.func 32), ⟨[(.const (.int .i64 0)), (.tmp 60), (.const (.int .i64 1000))]⟩, ⟨[3, 3, 3]⟩⟩, 4, "", ⟨[]⟩, none⟩, some ((some 57), false), false⟩,
         ⟨⟨(some 62), .unOp .not 4 (.tmp 61), 4, "", ⟨[]⟩, none⟩, some ((some 57), false), false⟩,
         ⟨⟨(some 63), .pick (.tmp 57) (.const (.bool true)) (.tmp 62), 4, "", ⟨[]⟩, none⟩, none, false⟩,
         ⟨⟨(some 64), .move (.tmp 63), 4, "", ⟨[]⟩, none⟩, none, false⟩,
         ⟨⟨(some 65), .fieldAddr 29 (.tmp 4) 1, 0, "", ⟨[]⟩, none⟩, some ((some 64), false), false⟩,
         ⟨⟨(some 66), .fieldAddr 27 (.tmp 65) 1, 0, "", ⟨[]⟩, none⟩, some ((some 64), false), false⟩,
         ⟨⟨(some 67), .load 3 (.tmp 66), 3, "", ⟨[]⟩, none⟩, some ((some 64), false), false⟩,
         ⟨⟨(some 68), .call ⟨.value (.func 32), ⟨[(.const (.int .i64 0)), (.tmp 67), (.const (.int .i64 1000))]⟩, ⟨[3, 3, 3]⟩⟩, 4, "", ⟨[]⟩, none⟩, some ((some 64), false), false⟩,
         ⟨⟨(some 69), .unOp .not 4 (.tmp 68), 4, "", ⟨[]⟩, none⟩, some ((some 64), false), false⟩,
         ⟨⟨(some 70), .pick (.tmp 64) (.const (.bool true)) (.tmp 69), 4, "", ⟨[]⟩, none⟩, none, false⟩])
       (.cond (.tmp 70)
        (.seq
         (.ops false [
           ⟨⟨(some 6), .assign (.const (.bool false)), 4, "", ⟨[]⟩, none⟩, none, false⟩])
         .ret)
        .skip))
      (.seq
       (.ops false [
         ⟨⟨(some 10), .assign (.const (.int .i64 0)), 3, "", ⟨[]⟩, none⟩, none, false⟩])
       (.seq
        (.seq
         (.ops false [
           ⟨⟨(some 11), .assign (.const (.int .i64 0)), 3, "", ⟨[]⟩, none⟩, none, false⟩])
         (.block 0
          (.loop
           (.seq
            (.seq
             (.ops false [
               ⟨⟨(some 71), .move (.tmp 11), 3, "", ⟨[]⟩, none⟩, none, false⟩,
               ⟨⟨(some 72), .move (.tmp 9), 23, "", ⟨[]⟩, none⟩, none, false⟩,
               ⟨⟨(some 73), .call ⟨.builtin .len, ⟨[(.tmp 72)]⟩, ⟨[23]⟩⟩, 3, "", ⟨[]⟩, none⟩, none, false⟩,
               ⟨⟨(some 74), .binOp .lss 3 (.tmp 71) (.tmp 73) 3, 4, "", ⟨[]⟩, none⟩, none, false⟩])
             (.cond (.tmp 74)
              .skip
              (.exit 0)))
            (.seq
             (.block 1
              (.seq
               (.seq
                (.ops true [
                  ⟨⟨(some 77), .move (.tmp 11), 3, "", ⟨[]⟩, none⟩, none, true⟩,
                  ⟨⟨(some 78), .binOp .gtr 3 (.tmp 77) (.const (.int .i64 0)) 3, 4, "", ⟨[]⟩, none⟩, none, true⟩,
                  ⟨⟨(some 79), .move (.tmp 78), 4, "", ⟨[]⟩, none⟩, none, true⟩,
                  ⟨⟨(some 80), .move (.tmp 9), 23, "", ⟨[]⟩, none⟩, some ((some 79), true), true⟩,
                  ⟨⟨(some 81), .move (.tmp 11), 3, "", ⟨[]⟩, none⟩, some ((some 79), true), true⟩,
                  ⟨⟨(some 82), .binOp .sub 3 (.tmp 81) (.const (.int .i64 1)) 3, 3, "", ⟨[]⟩, none⟩, some ((some 79), true), true⟩,
                  ⟨⟨(some 83), .indexAddr 23 (.tmp 80) (.tmp 82), 0, "", ⟨[]⟩, none⟩, some ((some 79), true), true⟩,
                  ⟨⟨(some 84), .load 3 (.tmp 83), 3, "", ⟨[]⟩, none⟩, some ((some 79), true), true⟩,
                  ⟨⟨(some 85), .move (.tmp 9), 23, "", ⟨[]⟩, none⟩, some ((some 79), true), true⟩,
                  ⟨⟨(some 86), .move (.tmp 11), 3, "", ⟨[]⟩, none⟩, some ((some 79), true), true⟩,
                  ⟨⟨(some 87), .indexAddr 23 (.tmp 85) (.tmp 86), 0, "", ⟨[]⟩, none⟩, some ((some 79), true), true⟩,
                  ⟨⟨(some 88), .load 3 (.tmp 87), 3, "", ⟨[]⟩, none⟩, some ((some 79), true), true⟩,
                  ⟨⟨(some 89), .binOp .gtr 3 (.tmp 84) (.tmp 88) 3, 4, "", ⟨[]⟩, none⟩, some ((some 79), true), true⟩,
                  ⟨⟨(some 90), .pick (.tmp 79) (.tmp 89) (.const (.bool false)), 4, "", ⟨[]⟩, none⟩, none, true⟩,
                  ⟨⟨(some 91), .move (.tmp 90), 4, "", ⟨[]⟩, none⟩, none, true⟩,
                  ⟨⟨(some 92), .move (.tmp 9), 23, "", ⟨[]⟩, none⟩, some ((some 91), false), true⟩,
                  ⟨⟨(some 93), .move (.tmp 11), 3, "", ⟨[]⟩, none⟩, some ((some 91), false), true⟩,
                  ⟨⟨(some 94), .indexAddr 23 (.tmp 92) (.tmp 93), 0, "", ⟨[]⟩, none⟩, some ((some 91), false), true⟩,
                  ⟨⟨(some 95), .load 3 (.tmp 94), 3, "", ⟨[]⟩, none⟩, some ((some 91), false), true⟩,
                  ⟨⟨(some 96), .binOp .lss 3 (.tmp 95) (.const (.int .i64 0)) 3, 4, "", ⟨[]⟩, none⟩, some ((some 91), false), true⟩,
                  ⟨⟨(some 97), .pick (.tmp 91) (.const (.bool true)) (.tmp 96), 4, "", ⟨[]⟩, none⟩, none, true⟩])
                (.cond (.tmp 97)
                 (.seq
                  (.ops false [
                    ⟨⟨(some 6), .assign (.const (.bool false)), 4, "", ⟨[]⟩, none⟩, none, false⟩])
                  .ret)
                 .skip))
               (.seq
                (.ops true [
                  ⟨⟨(some 98), .fieldAddr 27 (.tmp 7) 0, 0, "", ⟨[]⟩, none⟩, none, true⟩,
                  ⟨⟨(some 99), .load 3 (.tmp 98), 3, "", ⟨[]⟩, none⟩, none, true⟩,
                  ⟨⟨(some 100), .fieldAddr 25 (.tmp 3) 2, 0, "", ⟨[]⟩, none⟩, none, true⟩,
                  ⟨⟨(some 101), .load 3 (.tmp 100), 3, "", ⟨[]⟩, none⟩, none, true⟩,
                  ⟨⟨(some 102), .fieldAddr 29 (.tmp 4) 1, 0, "", ⟨[]⟩, none⟩, none, true⟩,
                  ⟨⟨(some 103), .fieldAddr 27 (.tmp 102) 0, 0, "", ⟨[]⟩, none⟩, none, true⟩,
                  ⟨⟨(some 104), .load 3 (.tmp 103), 3, "", ⟨[]⟩, none⟩, none, true⟩,
                  ⟨⟨(some 105), .binOp .mul 3 (.tmp 101) (.tmp 104) 3, 3, "", ⟨[]⟩, none⟩, none, true⟩,
                  ⟨⟨(some 106), .binOp .sub 3 (.tmp 99) (.tmp 105) 3, 3, "", ⟨[]⟩, none⟩, none, true⟩,
                  ⟨⟨(some 107), .move (.tmp 9), 23, "", ⟨[]⟩, none⟩, none, true⟩,
                  ⟨⟨(some 108), .move (.tmp 11), 3, "", ⟨[]⟩, none⟩, none, true⟩,
                  ⟨⟨(some 109), .indexAddr 23 (.tmp 107) (.tmp 108), 0, "", ⟨[]⟩, none⟩, none, true⟩,
                  ⟨⟨(some 110), .load 3 (.tmp 109), 3, "", ⟨[]⟩, none⟩, none, true⟩,
                  ⟨⟨(some 111), .fieldAddr 27 (.tmp 7) 1, 0, "", ⟨[]⟩, none⟩, none, true⟩,
                  ⟨⟨(some 112), .load 3 (.tmp 111), 3, "", ⟨[]⟩, none⟩, none, true⟩,
                  ⟨⟨(some 113), .fieldAddr 25 (.tmp 3) 2, 0, "", ⟨[]⟩, none⟩, none, true⟩,
                  ⟨⟨(some 114), .load 3 (.tmp 113), 3, "", ⟨[]⟩, none⟩, none, true⟩,
                  ⟨⟨(some 115), .fieldAddr 29 (.tmp 4) 1, 0, "", ⟨[]⟩, none⟩, none, true⟩,
                  ⟨⟨(some 116), .fieldAddr 27 (.tmp 115) 1, 0, "", ⟨[]⟩, none⟩, none, true⟩,
                  ⟨⟨(some 117), .load 3 (.tmp 116), 3, "", ⟨[]⟩, none⟩, none, true⟩,
                  ⟨⟨(some 118), .binOp .mul 3 (.tmp 114) (.tmp 117) 3, 3, "", ⟨[]⟩, none⟩, none, true⟩,
                  ⟨⟨(some 119), .binOp .sub 3 (.tmp 112) (.tmp 118) 3, 3, "", ⟨[]⟩, none⟩, none, true⟩,
                  ⟨⟨(some 120), .call ⟨.value (.func 32), ⟨[(.tmp 106), (.tmp 110), (.tmp 119)]⟩, ⟨[3, 3, 3]⟩⟩, 4, "", ⟨[]⟩, none⟩, none, false⟩])
                (.cond (.tmp 120)
                 (.ops false [
                   ⟨⟨(some 121), .move (.tmp 10), 3, "", ⟨[]⟩, none⟩, none, false⟩,
                   ⟨⟨(some 122), .binOp .add 3 (.tmp 121) (.const (.int .i64 1)) 3, 3, "", ⟨[]⟩, none⟩, none, false⟩,
                   ⟨⟨(some 10), .assign (.tmp 122), 3, "", ⟨[]⟩, none⟩, none, false⟩])
                 .skip))))
             (.ops false [
               ⟨⟨(some 75), .move (.tmp 11), 3, "", ⟨[]⟩, none⟩, none, false⟩,
               ⟨⟨(some 76), .binOp .add 3 (.tmp 75) (.const (.int .i64 1)) 3, 3, "", ⟨[]⟩, none⟩, none, false⟩,
               ⟨⟨(some 11), .assign (.tmp 76), 3, "", ⟨[]⟩, none⟩, none, false⟩]))))))
        (.seq
         (.ops true [
           ⟨⟨(some 123), .fieldAddr 29 (.tmp 4) 1, 0, "", ⟨[]⟩, none⟩, none, true⟩,
           ⟨⟨(some 124), .fieldAddr 27 (.tmp 123) 0, 0, "", ⟨[]⟩, none⟩, none, true⟩,
           ⟨⟨(some 125), .load 3 (.tmp 124), 3, "", ⟨[]⟩, none⟩, none, true⟩,
           ⟨⟨(some 126), .indexAddr 59 (.tmp 5) (.const (.int .i64 0)), 0, "", ⟨[]⟩, none⟩, none, true⟩,
           ⟨⟨(some 127), .load 3 (.tmp 126), 3, "", ⟨[]⟩, none⟩, none, true⟩,
           ⟨⟨(some 128), .fieldAddr 29 (.tmp 4) 1, 0, "", ⟨[]⟩, none⟩, none, true⟩,
           ⟨⟨(some 129), .fieldAddr 27 (.tmp 128) 1, 0, "", ⟨[]⟩, none⟩, none, true⟩,
           ⟨⟨(some 130), .load 3 (.tmp 129), 3, "", ⟨[]⟩, none⟩, none, true⟩,
           ⟨⟨(some 131), .fieldAddr 29 (.tmp 4) 1, 0, "", ⟨[]⟩, none⟩, none, true⟩,
           ⟨⟨(some 132), .fieldAddr 27 (.tmp 131) 0, 0, "", ⟨[]⟩, none⟩, none, true⟩,
           ⟨⟨(some 133), .load 3 (.tmp 132), 3, "", ⟨[]⟩, none⟩, none, true⟩,
           ⟨⟨(some 134), .binOp .sub 3 (.tmp 130) (.tmp 133) 3, 3, "", ⟨[]⟩, none⟩, none, true⟩,
           ⟨⟨(some 135), .binOp .add 3 (.tmp 134) (.const (.int .i64 1)) 3, 3, "", ⟨[]⟩, none⟩, none, true⟩,
           ⟨⟨(some 136), .call ⟨.value (.func 33), ⟨[(.tmp 127), (.tmp 135)]⟩, ⟨[3, 3]⟩⟩, 3, "", ⟨[]⟩, none⟩, none, true⟩,
           ⟨⟨(some 137), .binOp .add 3 (.tmp 125) (.tmp 136) 3, 3, "", ⟨[]⟩, none⟩, none, true⟩,
           ⟨⟨(some 12), .assign (.tmp 137), 3, "", ⟨[]⟩, none⟩, none, true⟩])
         (.seq
          (.ops false [
            ⟨⟨(some 138), .move (.tmp 9), 23, "", ⟨[]⟩, none⟩, none, false⟩,
            ⟨⟨(some 139), .call ⟨.builtin .len, ⟨[(.tmp 138)]⟩, ⟨[23]⟩⟩, 3, "", ⟨[]⟩, none⟩, none, false⟩,
            ⟨⟨(some 140), .binOp .sub 3 (.tmp 139) (.const (.int .i64 1)) 3, 3, "", ⟨[]⟩, none⟩, none, false⟩,
            ⟨⟨(some 141), .binOp .quo 3 (.tmp 140) (.const (.int .i64 4)) 3, 3, "", ⟨[]⟩, none⟩, none, false⟩,
            ⟨⟨(some 13), .assign (.tmp 141), 3, "", ⟨[]⟩, none⟩, none, false⟩])
          (.seq
           (.ops false [
             ⟨⟨(some 142), .move (.tmp 9), 23, "", ⟨[]⟩, none⟩, none, false⟩,
             ⟨⟨(some 143), .move (.tmp 13), 3, "", ⟨[]⟩, none⟩, none, false⟩,
             ⟨⟨(some 144), .indexAddr 59 (.tmp 5) (.const (.int .i64 1)), 0, "", ⟨[]⟩, none⟩, none, false⟩,
             ⟨⟨(some 145), .load 3 (.tmp 144), 3, "", ⟨[]⟩, none⟩, none, false⟩,
             ⟨⟨(some 146), .move (.tmp 9), 23, "", ⟨[]⟩, none⟩, none, false⟩,
             ⟨⟨(some 147), .call ⟨.builtin .len, ⟨[(.tmp 146)]⟩, ⟨[23]⟩⟩, 3, "", ⟨[]⟩, none⟩, none, false⟩,
             ⟨⟨(some 148), .move (.tmp 13), 3, "", ⟨[]⟩, none⟩, none, false⟩,
             ⟨⟨(some 149), .binOp .mul 3 (.const (.int .i64 2)) (.tmp 148) 3, 3, "", ⟨[]⟩, none⟩, none, false⟩,
             ⟨⟨(some 150), .binOp .sub 3 (.tmp 147) (.tmp 149) 3, 3, "", ⟨[]⟩, none⟩, none, false⟩,
             ⟨⟨(some 151), .call ⟨.value (.func 33), ⟨[(.tmp 145), (.tmp 150)]⟩, ⟨[3, 3]⟩⟩, 3, "", ⟨[]⟩, none⟩, none, false⟩,
             ⟨⟨(some 152), .binOp .add 3 (.tmp 143) (.tmp 151) 3, 3, "", ⟨[]⟩, none⟩, none, false⟩,
             ⟨⟨(some 153), .indexAddr 23 (.tmp 142) (.tmp 152), 0, "", ⟨[]⟩, none⟩, none, false⟩,
             ⟨⟨(some 154), .load 3 (.tmp 153), 3, "", ⟨[]⟩, none⟩, none, false⟩,
             ⟨⟨(some 14), .assign (.tmp 154), 3, "", ⟨[]⟩, none⟩, none, false⟩])
           (.seq
            (.seq
             (.ops false [
               ⟨⟨(some 155), .fieldAddr 27 (.tmp 7) 0, 0, "", ⟨[]⟩, none⟩, none, false⟩,
               ⟨⟨(some 156), .load 3 (.tmp 155), 3, "", ⟨[]⟩, none⟩, none, false⟩,
               ⟨⟨(some 157), .move (.tmp 14), 3, "", ⟨[]⟩, none⟩, none, false⟩,
               ⟨⟨(some 158), .fieldAddr 25 (.tmp 3) 2, 0, "", ⟨[]⟩, none⟩, none, false⟩,
               ⟨⟨(some 159), .load 3 (.tmp 158), 3, "", ⟨[]⟩, none⟩, none, false⟩,
               ⟨⟨(some 160), .move (.tmp 12), 3, "", ⟨[]⟩, none⟩, none, false⟩,
               ⟨⟨(some 161), .binOp .mul 3 (.tmp 159) (.tmp 160) 3, 3, "", ⟨[]⟩, none⟩, none, false⟩,
               ⟨⟨(some 162), .binOp .add 3 (.tmp 157) (.tmp 161) 3, 3, "", ⟨[]⟩, none⟩, none, false⟩,
               ⟨⟨(some 163), .fieldAddr 27 (.tmp 7) 1, 0, "", ⟨[]⟩, none⟩, none, false⟩,
               ⟨⟨(some 164), .load 3 (.tmp 163), 3, "", ⟨[]⟩, none⟩, none, false⟩,
               ⟨⟨(some 165), .call ⟨.value (.func 32), ⟨[(.tmp 156), (.tmp 162), (.tmp 164)]⟩, ⟨[3, 3, 3]⟩⟩, 4, "", ⟨[]⟩, none⟩, none, false⟩,
               ⟨⟨(some 166), .unOp .not 4 (.tmp 165), 4, "", ⟨[]⟩, none⟩, none, false⟩,
               ⟨⟨(some 167), .move (.tmp 166), 4, "", ⟨[]⟩, none⟩, none, false⟩,
               ⟨⟨(some 168), .move (.tmp 10), 3, "", ⟨[]⟩, none⟩, some ((some 167), false), false⟩,
               ⟨⟨(some 169), .binOp .mul 3 (.const (.int .i64 2)) (.tmp 168) 3, 3, "", ⟨[]⟩, none⟩, some ((some 167), false), false⟩,
               ⟨⟨(some 170), .move (.tmp 9), 23, "", ⟨[]⟩, none⟩, some ((some 167), false), false⟩,
               ⟨⟨(some 171), .call ⟨.builtin .len, ⟨[(.tmp 170)]⟩, ⟨[23]⟩⟩, 3, "", ⟨[]⟩, none⟩, some ((some 167), false), false⟩,
               ⟨⟨(some 172), .binOp .lss 3 (.tmp 169) (.tmp 171) 3, 4, "", ⟨[]⟩, none⟩, some ((some 167), false), false⟩,
               ⟨⟨(some 173), .pick (.tmp 167) (.const (.bool true)) (.tmp 172), 4, "", ⟨[]⟩, none⟩, none, false⟩])
             (.cond (.tmp 173)
              (.seq
               (.ops false [
                 ⟨⟨(some 6), .assign (.const (.bool false)), 4, "", ⟨[]⟩, none⟩, none, false⟩])
               .ret)
              .skip))
            (.seq
             (.ops true [
               ⟨⟨(some 174), .fieldAddr 25 (.tmp 3) 2, 0, "", ⟨[]⟩, none⟩, none, true⟩,
               ⟨⟨(some 175), .load 3 (.tmp 174), 3, "", ⟨[]⟩, none⟩, none, true⟩,
               ⟨⟨(some 176), .indexAddr 59 (.tmp 5) (.const (.int .i64 2)), 0, "", ⟨[]⟩, none⟩, none, true⟩,
               ⟨⟨(some 177), .load 3 (.tmp 176), 3, "", ⟨[]⟩, none⟩, none, true⟩,
               ⟨⟨(some 178), .fieldAddr 25 (.tmp 3) 2, 0, "", ⟨[]⟩, none⟩, none, true⟩,
               ⟨⟨(some 179), .load 3 (.tmp 178), 3, "", ⟨[]⟩, none⟩, none, true⟩,
               ⟨⟨(some 180), .binOp .sub 3 (.const (.int .i64 100001)) (.tmp 179) 3, 3, "", ⟨[]⟩, none⟩, none, true⟩,
               ⟨⟨(some 181), .call ⟨.value (.func 33), ⟨[(.tmp 177), (.tmp 180)]⟩, ⟨[3, 3]⟩⟩, 3, "", ⟨[]⟩, none⟩, none, true⟩,
               ⟨⟨(some 182), .binOp .add 3 (.tmp 175) (.tmp 181) 3, 3, "", ⟨[]⟩, none⟩, none, true⟩,
               ⟨⟨(some 183), .fieldAddr 25 (.tmp 3) 2, 0, "", ⟨[]⟩, none⟩, none, true⟩,
               ⟨⟨none, .store 3 (.tmp 183) (.tmp 182), 0, "", ⟨[]⟩, none⟩, none, false⟩])
             (.seq
              (.ops false [
                ⟨⟨(some 185), .load 25 (.tmp 3), 25, "", ⟨[]⟩, none⟩, none, false⟩,
                ⟨⟨(some 186), .load 29 (.tmp 4), 29, "", ⟨[]⟩, none⟩, none, false⟩,
                ⟨⟨(some 187), .call ⟨.value (.func 19), ⟨[(.tmp 185), (.tmp 186)]⟩, ⟨[25, 29]⟩⟩, 35, "", ⟨[]⟩, none⟩, none, false⟩,
                ⟨⟨(some 184), .move (.tmp 187), 35, "", ⟨[]⟩, none⟩, none, false⟩,
                ⟨⟨(some 188), .extract (.tmp 184) 0, 27, "", ⟨[]⟩, none⟩, none, false⟩,
                ⟨⟨(some 189), .extract (.tmp 184) 1, 30, "", ⟨[]⟩, none⟩, none, false⟩,
                ⟨⟨(some 15), .alloc 27, 0, "", ⟨[]⟩, none⟩, none, false⟩,
                ⟨⟨none, .store 27 (.tmp 15) (.tmp 188), 0, "", ⟨[]⟩, none⟩, none, false⟩,
                ⟨⟨(some 8), .assign (.tmp 189), 30, "", ⟨[]⟩, none⟩, none, false⟩])
              (.seq
               (.ops false [
                 ⟨⟨(some 190), .move (.tmp 8), 30, "", ⟨[]⟩, none⟩, none, false⟩,
                 ⟨⟨(some 191), .binOp .eql 30 (.tmp 190) (.const (.int .i64 0)) 30, 4, "", ⟨[]⟩, none⟩, none, false⟩,
                 ⟨⟨(some 192), .move (.tmp 191), 4, "", ⟨[]⟩, none⟩, none, false⟩,
                 ⟨⟨(some 193), .fieldAddr 27 (.tmp 15) 0, 0, "", ⟨[]⟩, none⟩, some ((some 192), true), false⟩,
                 ⟨⟨(some 194), .load 3 (.tmp 193), 3, "", ⟨[]⟩, none⟩, some ((some 192), true), false⟩,
                 ⟨⟨(some 195), .fieldAddr 27 (.tmp 7) 0, 0, "", ⟨[]⟩, none⟩, some ((some 192), true), false⟩,
                 ⟨⟨(some 196), .load 3 (.tmp 195), 3, "", ⟨[]⟩, none⟩, some ((some 192), true), false⟩,
                 ⟨⟨(some 197), .binOp .geq 3 (.tmp 194) (.tmp 196) 3, 4, "", ⟨[]⟩, none⟩, some ((some 192), true), false⟩,
                 ⟨⟨(some 198), .pick (.tmp 192) (.tmp 197) (.const (.bool false)), 4, "", ⟨[]⟩, none⟩, none, false⟩,
                 ⟨⟨(some 199), .move (.tmp 198), 4, "", ⟨[]⟩, none⟩, none, false⟩,
                 ⟨⟨(some 200), .fieldAddr 27 (.tmp 15) 1, 0, "", ⟨[]⟩, none⟩, some ((some 199), true), false⟩,
                 ⟨⟨(some 201), .load 3 (.tmp 200), 3, "", ⟨[]⟩, none⟩, some ((some 199), true), false⟩,
                 ⟨⟨(some 202), .fieldAddr 27 (.tmp 7) 1, 0, "", ⟨[]⟩, none⟩, some ((some 199), true), false⟩,
                 ⟨⟨(some 203), .load 3 (.tmp 202), 3, "", ⟨[]⟩, none⟩, some ((some 199), true), false⟩,
                 ⟨⟨(some 204), .binOp .geq 3 (.tmp 201) (.tmp 203) 3, 4, "", ⟨[]⟩, none⟩, some ((some 199), true), false⟩,
                 ⟨⟨(some 205), .pick (.tmp 199) (.tmp 204) (.const (.bool false)), 4, "", ⟨[]⟩, none⟩, none, false⟩,
                 ⟨⟨(some 206), .move (.tmp 205), 4, "", ⟨[]⟩, none⟩, none, false⟩,
                 ⟨⟨(some 207), .call ⟨.value (.func 21), ⟨[]⟩, ⟨[]⟩⟩, 4, "", ⟨[]⟩, none⟩, some ((some 206), true), false⟩,
                 ⟨⟨(some 208), .pick (.tmp 206) (.tmp 207) (.const (.bool false)), 4, "", ⟨[]⟩, none⟩, none, false⟩,
                 ⟨⟨(some 6), .assign (.tmp 208), 4, "", ⟨[]⟩, none⟩, none, false⟩])
               .ret))))))))))))))
theorem Try.s14_eq : Try.f14.body.map sOf = some Try.s14 := by kernel_rfl
theorem Try.s7_eq : Try.f7.body.map sOf = some Try.s7 := by kernel_rfl
theorem Try.s6_eq : Try.f6.body.map sOf = some Try.s6 := by kernel_rfl
end Go.Proofs
