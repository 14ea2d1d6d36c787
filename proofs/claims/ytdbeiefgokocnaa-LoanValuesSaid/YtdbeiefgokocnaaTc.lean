/- The stripped code of the functions of terms. -/
import Derived.Test.YtdbeiefgokocnaaTa
import Derived.Test.YtdbeiefgokocnaaNa
set_option linter.unusedVariables false
set_option linter.unusedSimpArgs false
/- Functions' code, as the machine reads it. -/
namespace Go.Proofs
open Go Go.RowKit Go.Sim
set_option maxRecDepth 100000
def Try.s4 : SC :=
 (.seq
  (.ops false [
    ⟨⟨(some 3), .box 40 (.tmp 0), 0, "", ⟨[]⟩, none⟩, none, false⟩,
    ⟨⟨(some 4), .box 27 (.tmp 1), 0, "", ⟨[]⟩, none⟩, none, false⟩,
    ⟨⟨(some 5), .box 43 (.tmp 2), 0, "", ⟨[]⟩, none⟩, none, false⟩,
    ⟨⟨(some 6), .assign (.const (.bool false)), 4, "", ⟨[]⟩, none⟩, none, false⟩])
  (.seq
   (.ops false [
     ⟨⟨(some 14), .load 40 (.tmp 3), 40, "", ⟨[]⟩, none⟩, none, false⟩,
     ⟨⟨(some 15), .load 27 (.tmp 4), 27, "", ⟨[]⟩, none⟩, none, false⟩,
     ⟨⟨(some 16), .call ⟨.value (.func 22), ⟨[(.tmp 14), (.tmp 15)]⟩, ⟨[40, 27]⟩⟩, 44, "", ⟨[]⟩, none⟩, none, false⟩,
     ⟨⟨(some 13), .move (.tmp 16), 44, "", ⟨[]⟩, none⟩, none, false⟩,
     ⟨⟨(some 17), .extract (.tmp 13) 0, 3, "", ⟨[]⟩, none⟩, none, false⟩,
     ⟨⟨(some 18), .extract (.tmp 13) 1, 30, "", ⟨[]⟩, none⟩, none, false⟩,
     ⟨⟨(some 7), .assign (.tmp 17), 3, "", ⟨[]⟩, none⟩, none, false⟩,
     ⟨⟨(some 8), .assign (.tmp 18), 30, "", ⟨[]⟩, none⟩, none, false⟩])
   (.seq
    (.ops false [
      ⟨⟨(some 20), .load 40 (.tmp 3), 40, "", ⟨[]⟩, none⟩, none, false⟩,
      ⟨⟨(some 21), .load 27 (.tmp 4), 27, "", ⟨[]⟩, none⟩, none, false⟩,
      ⟨⟨(some 22), .call ⟨.value (.func 23), ⟨[(.tmp 20), (.tmp 21)]⟩, ⟨[40, 27]⟩⟩, 44, "", ⟨[]⟩, none⟩, none, false⟩,
      ⟨⟨(some 19), .move (.tmp 22), 44, "", ⟨[]⟩, none⟩, none, false⟩,
      ⟨⟨(some 23), .extract (.tmp 19) 0, 3, "", ⟨[]⟩, none⟩, none, false⟩,
      ⟨⟨(some 24), .extract (.tmp 19) 1, 30, "", ⟨[]⟩, none⟩, none, false⟩,
      ⟨⟨(some 9), .assign (.tmp 23), 3, "", ⟨[]⟩, none⟩, none, false⟩,
      ⟨⟨(some 10), .assign (.tmp 24), 30, "", ⟨[]⟩, none⟩, none, false⟩])
    (.seq
     (.seq
      (.ops true [
        ⟨⟨(some 25), .move (.tmp 7), 3, "", ⟨[]⟩, none⟩, none, true⟩,
        ⟨⟨(some 26), .move (.tmp 9), 3, "", ⟨[]⟩, none⟩, none, true⟩,
        ⟨⟨(some 27), .binOp .neq 3 (.tmp 25) (.tmp 26) 3, 4, "", ⟨[]⟩, none⟩, none, true⟩,
        ⟨⟨(some 28), .move (.tmp 27), 4, "", ⟨[]⟩, none⟩, none, true⟩,
        ⟨⟨(some 29), .move (.tmp 8), 30, "", ⟨[]⟩, none⟩, some ((some 28), false), true⟩,
        ⟨⟨(some 30), .move (.tmp 10), 30, "", ⟨[]⟩, none⟩, some ((some 28), false), true⟩,
        ⟨⟨(some 31), .binOp .neq 30 (.tmp 29) (.tmp 30) 30, 4, "", ⟨[]⟩, none⟩, some ((some 28), false), true⟩,
        ⟨⟨(some 32), .pick (.tmp 28) (.const (.bool true)) (.tmp 31), 4, "", ⟨[]⟩, none⟩, none, true⟩,
        ⟨⟨(some 33), .move (.tmp 32), 4, "", ⟨[]⟩, none⟩, none, true⟩,
        ⟨⟨(some 34), .load 40 (.tmp 3), 40, "", ⟨[]⟩, none⟩, some ((some 33), false), true⟩,
        ⟨⟨(some 36), .load 40 (.tmp 3), 40, "", ⟨[]⟩, none⟩, some ((some 33), false), true⟩,
        ⟨⟨(some 35), .call ⟨.value (.func 24), ⟨[(.tmp 34)]⟩, ⟨[40]⟩⟩, 30, "", ⟨[]⟩, none⟩, some ((some 33), false), true⟩,
        ⟨⟨(some 37), .call ⟨.value (.func 25), ⟨[(.tmp 36)]⟩, ⟨[40]⟩⟩, 30, "", ⟨[]⟩, none⟩, some ((some 33), false), false⟩,
        ⟨⟨(some 38), .binOp .neq 30 (.tmp 35) (.tmp 37) 30, 4, "", ⟨[]⟩, none⟩, some ((some 33), false), true⟩,
        ⟨⟨(some 39), .pick (.tmp 33) (.const (.bool true)) (.tmp 38), 4, "", ⟨[]⟩, none⟩, none, true⟩])
      (.cond (.tmp 39)
       (.seq
        (.ops false [
          ⟨⟨(some 6), .assign (.const (.bool false)), 4, "", ⟨[]⟩, none⟩, none, false⟩])
        .ret)
       .skip))
     (.seq
      (.ops false [
        ⟨⟨(some 41), .load 40 (.tmp 3), 40, "", ⟨[]⟩, none⟩, none, false⟩,
        ⟨⟨(some 42), .load 27 (.tmp 4), 27, "", ⟨[]⟩, none⟩, none, false⟩,
        ⟨⟨(some 43), .fieldAddr 43 (.tmp 5) 2, 0, "", ⟨[]⟩, none⟩, none, false⟩,
        ⟨⟨(some 44), .load 3 (.tmp 43), 3, "", ⟨[]⟩, none⟩, none, false⟩,
        ⟨⟨(some 45), .call ⟨.value (.func 26), ⟨[(.tmp 41), (.tmp 42), (.tmp 44)]⟩, ⟨[40, 27, 3]⟩⟩, 44, "", ⟨[]⟩, none⟩, none, false⟩,
        ⟨⟨(some 40), .move (.tmp 45), 44, "", ⟨[]⟩, none⟩, none, false⟩,
        ⟨⟨(some 46), .extract (.tmp 40) 0, 3, "", ⟨[]⟩, none⟩, none, false⟩,
        ⟨⟨(some 47), .extract (.tmp 40) 1, 30, "", ⟨[]⟩, none⟩, none, false⟩,
        ⟨⟨(some 7), .assign (.tmp 46), 3, "", ⟨[]⟩, none⟩, none, false⟩,
        ⟨⟨(some 8), .assign (.tmp 47), 30, "", ⟨[]⟩, none⟩, none, false⟩])
      (.seq
       (.ops false [
         ⟨⟨(some 49), .load 40 (.tmp 3), 40, "", ⟨[]⟩, none⟩, none, false⟩,
         ⟨⟨(some 50), .load 27 (.tmp 4), 27, "", ⟨[]⟩, none⟩, none, false⟩,
         ⟨⟨(some 51), .fieldAddr 43 (.tmp 5) 2, 0, "", ⟨[]⟩, none⟩, none, false⟩,
         ⟨⟨(some 52), .load 3 (.tmp 51), 3, "", ⟨[]⟩, none⟩, none, false⟩,
         ⟨⟨(some 53), .call ⟨.value (.func 27), ⟨[(.tmp 49), (.tmp 50), (.tmp 52)]⟩, ⟨[40, 27, 3]⟩⟩, 44, "", ⟨[]⟩, none⟩, none, false⟩,
         ⟨⟨(some 48), .move (.tmp 53), 44, "", ⟨[]⟩, none⟩, none, false⟩,
         ⟨⟨(some 54), .extract (.tmp 48) 0, 3, "", ⟨[]⟩, none⟩, none, false⟩,
         ⟨⟨(some 55), .extract (.tmp 48) 1, 30, "", ⟨[]⟩, none⟩, none, false⟩,
         ⟨⟨(some 9), .assign (.tmp 54), 3, "", ⟨[]⟩, none⟩, none, false⟩,
         ⟨⟨(some 10), .assign (.tmp 55), 30, "", ⟨[]⟩, none⟩, none, false⟩])
       (.seq
        (.seq
         (.ops false [
           ⟨⟨(some 56), .move (.tmp 7), 3, "", ⟨[]⟩, none⟩, none, false⟩,
           ⟨⟨(some 57), .move (.tmp 9), 3, "", ⟨[]⟩, none⟩, none, false⟩,
           ⟨⟨(some 58), .binOp .neq 3 (.tmp 56) (.tmp 57) 3, 4, "", ⟨[]⟩, none⟩, none, false⟩,
           ⟨⟨(some 59), .move (.tmp 58), 4, "", ⟨[]⟩, none⟩, none, false⟩,
           ⟨⟨(some 60), .move (.tmp 8), 30, "", ⟨[]⟩, none⟩, some ((some 59), false), false⟩,
           ⟨⟨(some 61), .move (.tmp 10), 30, "", ⟨[]⟩, none⟩, some ((some 59), false), false⟩,
           ⟨⟨(some 62), .binOp .neq 30 (.tmp 60) (.tmp 61) 30, 4, "", ⟨[]⟩, none⟩, some ((some 59), false), false⟩,
           ⟨⟨(some 63), .pick (.tmp 59) (.const (.bool true)) (.tmp 62), 4, "", ⟨[]⟩, none⟩, none, false⟩])
         (.cond (.tmp 63)
          (.seq
           (.ops false [
             ⟨⟨(some 6), .assign (.const (.bool false)), 4, "", ⟨[]⟩, none⟩, none, false⟩])
           .ret)
          .skip))
        (.seq
         (.ops false [
           ⟨⟨(some 65), .fieldAddr 43 (.tmp 5) 0, 0, "", ⟨[]⟩, none⟩, none, false⟩,
           ⟨⟨(some 66), .load 41 (.tmp 65), 41, "", ⟨[]⟩, none⟩, none, false⟩,
           ⟨⟨(some 67), .fieldAddr 43 (.tmp 5) 1, 0, "", ⟨[]⟩, none⟩, none, false⟩,
           ⟨⟨(some 68), .load 9 (.tmp 67), 9, "", ⟨[]⟩, none⟩, none, false⟩,
           ⟨⟨(some 69), .call ⟨.value (.func 28), ⟨[(.tmp 66), (.tmp 68)]⟩, ⟨[41, 9]⟩⟩, 48, "", ⟨[]⟩, none⟩, none, false⟩,
           ⟨⟨(some 64), .move (.tmp 69), 48, "", ⟨[]⟩, none⟩, none, false⟩,
           ⟨⟨(some 70), .extract (.tmp 64) 0, 40, "", ⟨[]⟩, none⟩, none, false⟩,
           ⟨⟨(some 71), .extract (.tmp 64) 1, 30, "", ⟨[]⟩, none⟩, none, false⟩,
           ⟨⟨(some 11), .alloc 40, 0, "", ⟨[]⟩, none⟩, none, false⟩,
           ⟨⟨none, .store 40 (.tmp 11) (.tmp 70), 0, "", ⟨[]⟩, none⟩, none, false⟩,
           ⟨⟨(some 8), .assign (.tmp 71), 30, "", ⟨[]⟩, none⟩, none, false⟩])
         (.seq
          (.ops false [
            ⟨⟨(some 73), .fieldAddr 43 (.tmp 5) 0, 0, "", ⟨[]⟩, none⟩, none, false⟩,
            ⟨⟨(some 74), .load 41 (.tmp 73), 41, "", ⟨[]⟩, none⟩, none, false⟩,
            ⟨⟨(some 75), .fieldAddr 43 (.tmp 5) 1, 0, "", ⟨[]⟩, none⟩, none, false⟩,
            ⟨⟨(some 76), .load 9 (.tmp 75), 9, "", ⟨[]⟩, none⟩, none, false⟩,
            ⟨⟨(some 77), .call ⟨.value (.func 29), ⟨[(.tmp 74), (.tmp 76)]⟩, ⟨[41, 9]⟩⟩, 48, "", ⟨[]⟩, none⟩, none, false⟩,
            ⟨⟨(some 72), .move (.tmp 77), 48, "", ⟨[]⟩, none⟩, none, false⟩,
            ⟨⟨(some 78), .extract (.tmp 72) 0, 40, "", ⟨[]⟩, none⟩, none, false⟩,
            ⟨⟨(some 79), .extract (.tmp 72) 1, 30, "", ⟨[]⟩, none⟩, none, false⟩,
            ⟨⟨(some 12), .alloc 40, 0, "", ⟨[]⟩, none⟩, none, false⟩,
            ⟨⟨none, .store 40 (.tmp 12) (.tmp 78), 0, "", ⟨[]⟩, none⟩, none, false⟩,
            ⟨⟨(some 10), .assign (.tmp 79), 30, "", ⟨[]⟩, none⟩, none, false⟩])
          (.seq
           (.ops false [
             ⟨⟨(some 80), .load 40 (.tmp 11), 40, "", ⟨[]⟩, none⟩, none, false⟩,
             ⟨⟨(some 81), .load 40 (.tmp 12), 40, "", ⟨[]⟩, none⟩, none, false⟩,
             ⟨⟨(some 82), .binOp .eql 40 (.tmp 80) (.tmp 81) 40, 4, "", ⟨[]⟩, none⟩, none, false⟩,
             ⟨⟨(some 83), .move (.tmp 82), 4, "", ⟨[]⟩, none⟩, none, false⟩,
             ⟨⟨(some 84), .move (.tmp 8), 30, "", ⟨[]⟩, none⟩, some ((some 83), true), false⟩,
             ⟨⟨(some 85), .move (.tmp 10), 30, "", ⟨[]⟩, none⟩, some ((some 83), true), false⟩,
             ⟨⟨(some 86), .binOp .eql 30 (.tmp 84) (.tmp 85) 30, 4, "", ⟨[]⟩, none⟩, some ((some 83), true), false⟩,
             ⟨⟨(some 87), .pick (.tmp 83) (.tmp 86) (.const (.bool false)), 4, "", ⟨[]⟩, none⟩, none, false⟩,
             ⟨⟨(some 88), .move (.tmp 87), 4, "", ⟨[]⟩, none⟩, none, false⟩,
             ⟨⟨(some 89), .call ⟨.value (.func 21), ⟨[]⟩, ⟨[]⟩⟩, 4, "", ⟨[]⟩, none⟩, some ((some 88), true), false⟩,
             ⟨⟨(some 90), .pick (.tmp 88) (.tmp 89) (.const (.bool false)), 4, "", ⟨[]⟩, none⟩, none, false⟩,
             ⟨⟨(some 6), .assign (.tmp 90), 4, "", ⟨[]⟩, none⟩, none, false⟩])
           .ret))))))))))
def Try.s22 : SC :=
 (.seq
  (.ops false [
    ⟨⟨(some 2), .box 40 (.tmp 0), 0, "", ⟨[]⟩, none⟩, none, false⟩,
    ⟨⟨(some 3), .box 27 (.tmp 1), 0, "", ⟨[]⟩, none⟩, none, false⟩,
    ⟨⟨(some 4), .assign (.const (.int .i64 0)), 3, "", ⟨[]⟩, none⟩, none, false⟩,
    ⟨⟨(some 5), .assign (.const (.int .i64 0)), 30, "", ⟨[]⟩, none⟩, none, false⟩])
  (.seq
   (.seq
    (.ops false [
      ⟨⟨(some 7), .load 40 (.tmp 2), 40, "", ⟨[]⟩, none⟩, none, false⟩,
      ⟨⟨(some 8), .call ⟨.value (.func 24), ⟨[(.tmp 7)]⟩, ⟨[40]⟩⟩, 30, "", ⟨[]⟩, none⟩, none, false⟩,
      ⟨⟨(some 6), .assign (.tmp 8), 30, "", ⟨[]⟩, none⟩, none, false⟩])
    (.seq
     (.ops false [
       ⟨⟨(some 9), .move (.tmp 6), 30, "", ⟨[]⟩, none⟩, none, false⟩,
       ⟨⟨(some 10), .binOp .neq 30 (.tmp 9) (.const (.int .i64 0)) 30, 4, "", ⟨[]⟩, none⟩, none, false⟩])
     (.cond (.tmp 10)
      (.seq
       (.ops false [
         ⟨⟨(some 11), .move (.tmp 6), 30, "", ⟨[]⟩, none⟩, none, false⟩,
         ⟨⟨(some 4), .assign (.const (.int .i64 0)), 3, "", ⟨[]⟩, none⟩, none, false⟩,
         ⟨⟨(some 5), .assign (.tmp 11), 30, "", ⟨[]⟩, none⟩, none, false⟩])
       .ret)
      .skip)))
   (.seq
    (.seq
     (.ops false [
       ⟨⟨(some 12), .load 27 (.tmp 3), 27, "", ⟨[]⟩, none⟩, none, false⟩,
       ⟨⟨(some 13), .call ⟨.value (.func 53), ⟨[(.tmp 12), (.const (.int .i64 2147483648))]⟩, ⟨[27, 3]⟩⟩, 4, "", ⟨[]⟩, none⟩, none, false⟩,
       ⟨⟨(some 14), .unOp .not 4 (.tmp 13), 4, "", ⟨[]⟩, none⟩, none, false⟩])
     (.cond (.tmp 14)
      (.seq
       (.ops false [
         ⟨⟨(some 4), .assign (.const (.int .i64 0)), 3, "", ⟨[]⟩, none⟩, none, false⟩,
         ⟨⟨(some 5), .assign (.const (.int .i64 7)), 30, "", ⟨[]⟩, none⟩, none, false⟩])
       .ret)
      .skip))
    (.seq
     (.ops false [
       ⟨⟨(some 15), .load 40 (.tmp 2), 40, "", ⟨[]⟩, none⟩, none, false⟩,
       ⟨⟨(some 16), .load 27 (.tmp 3), 27, "", ⟨[]⟩, none⟩, none, false⟩,
       ⟨⟨(some 17), .call ⟨.value (.func 55), ⟨[(.tmp 15), (.tmp 16)]⟩, ⟨[40, 27]⟩⟩, 3, "", ⟨[]⟩, none⟩, none, false⟩,
       ⟨⟨(some 4), .assign (.tmp 17), 3, "", ⟨[]⟩, none⟩, none, false⟩,
       ⟨⟨(some 5), .assign (.const (.int .i64 0)), 30, "", ⟨[]⟩, none⟩, none, false⟩])
     .ret))))
def Try.s23 : SC :=
 (.seq
  (.ops false [
    ⟨⟨(some 2), .box 40 (.tmp 0), 0, "", ⟨[]⟩, none⟩, none, false⟩,
    ⟨⟨(some 3), .box 27 (.tmp 1), 0, "", ⟨[]⟩, none⟩, none, false⟩,
    ⟨⟨(some 4), .assign (.const (.int .i64 0)), 3, "", ⟨[]⟩, none⟩, none, false⟩,
    ⟨⟨(some 5), .assign (.const (.int .i64 0)), 30, "", ⟨[]⟩, none⟩, none, false⟩])
  (.seq
   (.seq
    (.ops false [
      ⟨⟨(some 8), .load 40 (.tmp 2), 40, "", ⟨[]⟩, none⟩, none, false⟩,
      ⟨⟨(some 9), .call ⟨.value (.func 25), ⟨[(.tmp 8)]⟩, ⟨[40]⟩⟩, 30, "", ⟨[]⟩, none⟩, none, false⟩,
      ⟨⟨(some 6), .assign (.tmp 9), 30, "", ⟨[]⟩, none⟩, none, false⟩])
    (.seq
     (.ops false [
       ⟨⟨(some 10), .move (.tmp 6), 30, "", ⟨[]⟩, none⟩, none, false⟩,
       ⟨⟨(some 11), .binOp .neq 30 (.tmp 10) (.const (.int .i64 0)) 30, 4, "", ⟨[]⟩, none⟩, none, false⟩])
     (.cond (.tmp 11)
      (.seq
       (.ops false [
         ⟨⟨(some 12), .move (.tmp 6), 30, "", ⟨[]⟩, none⟩, none, false⟩,
         ⟨⟨(some 4), .assign (.const (.int .i64 0)), 3, "", ⟨[]⟩, none⟩, none, false⟩,
         ⟨⟨(some 5), .assign (.tmp 12), 30, "", ⟨[]⟩, none⟩, none, false⟩])
       .ret)
      .skip)))
   (.seq
    (.seq
     (.ops false [
       ⟨⟨(some 13), .load 27 (.tmp 3), 27, "", ⟨[]⟩, none⟩, none, false⟩,
       ⟨⟨(some 14), .call ⟨.value (.func 54), ⟨[(.tmp 13), (.const (.int .i64 0)), (.const (.int .i64 2147483648))]⟩, ⟨[27, 3, 3]⟩⟩, 4, "", ⟨[]⟩, none⟩, none, false⟩,
       ⟨⟨(some 15), .unOp .not 4 (.tmp 14), 4, "", ⟨[]⟩, none⟩, none, false⟩])
     (.cond (.tmp 15)
      (.seq
       (.ops false [
         ⟨⟨(some 4), .assign (.const (.int .i64 0)), 3, "", ⟨[]⟩, none⟩, none, false⟩,
         ⟨⟨(some 5), .assign (.const (.int .i64 7)), 30, "", ⟨[]⟩, none⟩, none, false⟩])
       .ret)
      .skip))
    (.seq
     (.ops false [
       ⟨⟨(some 16), .fieldAddr 27 (.tmp 3) 0, 0, "", ⟨[]⟩, none⟩, none, false⟩,
       ⟨⟨(some 17), .load 3 (.tmp 16), 3, "", ⟨[]⟩, none⟩, none, false⟩,
       ⟨⟨(some 18), .fieldAddr 40 (.tmp 2) 0, 0, "", ⟨[]⟩, none⟩, none, false⟩,
       ⟨⟨(some 19), .load 3 (.tmp 18), 3, "", ⟨[]⟩, none⟩, none, false⟩,
       ⟨⟨(some 20), .binOp .mul 3 (.tmp 17) (.tmp 19) 3, 3, "", ⟨[]⟩, none⟩, none, false⟩,
       ⟨⟨(some 21), .call ⟨.value (.func 34), ⟨[(.tmp 20), (.const (.int .i64 64))]⟩, ⟨[3, 3]⟩⟩, 3, "", ⟨[]⟩, none⟩, none, false⟩,
       ⟨⟨(some 7), .assign (.tmp 21), 3, "", ⟨[]⟩, none⟩, none, false⟩])
     (.seq
      (.seq
       (.ops false [
         ⟨⟨(some 22), .move (.tmp 7), 3, "", ⟨[]⟩, none⟩, none, false⟩,
         ⟨⟨(some 23), .fieldAddr 40 (.tmp 2) 1, 0, "", ⟨[]⟩, none⟩, none, false⟩,
         ⟨⟨(some 24), .load 3 (.tmp 23), 3, "", ⟨[]⟩, none⟩, none, false⟩,
         ⟨⟨(some 25), .binOp .lss 3 (.tmp 22) (.tmp 24) 3, 4, "", ⟨[]⟩, none⟩, none, false⟩])
       (.cond (.tmp 25)
        (.ops false [
          ⟨⟨(some 26), .fieldAddr 40 (.tmp 2) 1, 0, "", ⟨[]⟩, none⟩, none, false⟩,
          ⟨⟨(some 27), .load 3 (.tmp 26), 3, "", ⟨[]⟩, none⟩, none, false⟩,
          ⟨⟨(some 28), .fieldAddr 27 (.tmp 3) 0, 0, "", ⟨[]⟩, none⟩, none, false⟩,
          ⟨⟨(some 29), .load 3 (.tmp 28), 3, "", ⟨[]⟩, none⟩, none, false⟩,
          ⟨⟨(some 30), .call ⟨.builtin .min, ⟨[(.tmp 27), (.tmp 29)]⟩, ⟨[3, 3]⟩⟩, 3, "", ⟨[]⟩, none⟩, none, false⟩,
          ⟨⟨(some 7), .assign (.tmp 30), 3, "", ⟨[]⟩, none⟩, none, false⟩])
        .skip))
      (.seq
       (.ops false [
         ⟨⟨(some 31), .move (.tmp 7), 3, "", ⟨[]⟩, none⟩, none, false⟩,
         ⟨⟨(some 32), .fieldAddr 40 (.tmp 2) 2, 0, "", ⟨[]⟩, none⟩, none, false⟩,
         ⟨⟨(some 33), .load 3 (.tmp 32), 3, "", ⟨[]⟩, none⟩, none, false⟩,
         ⟨⟨(some 34), .call ⟨.builtin .min, ⟨[(.tmp 31), (.tmp 33)]⟩, ⟨[3, 3]⟩⟩, 3, "", ⟨[]⟩, none⟩, none, false⟩,
         ⟨⟨(some 4), .assign (.tmp 34), 3, "", ⟨[]⟩, none⟩, none, false⟩,
         ⟨⟨(some 5), .assign (.const (.int .i64 0)), 30, "", ⟨[]⟩, none⟩, none, false⟩])
       .ret))))))
def Try.s24 : SC :=
 (.seq
  (.ops false [
    ⟨⟨(some 1), .box 40 (.tmp 0), 0, "", ⟨[]⟩, none⟩, none, false⟩,
    ⟨⟨(some 2), .assign (.const (.int .i64 0)), 30, "", ⟨[]⟩, none⟩, none, false⟩])
  (.seq
   (.seq
    (.ops false [
      ⟨⟨(some 3), .fieldAddr 40 (.tmp 1) 0, 0, "", ⟨[]⟩, none⟩, none, false⟩,
      ⟨⟨(some 4), .load 3 (.tmp 3), 3, "", ⟨[]⟩, none⟩, none, false⟩,
      ⟨⟨(some 5), .call ⟨.value (.func 50), ⟨[(.tmp 4), (.const (.int .i64 0)), (.const (.int .i64 64))]⟩, ⟨[3, 3, 3]⟩⟩, 4, "", ⟨[]⟩, none⟩, none, false⟩,
      ⟨⟨(some 6), .unOp .not 4 (.tmp 5), 4, "", ⟨[]⟩, none⟩, none, false⟩,
      ⟨⟨(some 7), .move (.tmp 6), 4, "", ⟨[]⟩, none⟩, none, false⟩,
      ⟨⟨(some 8), .fieldAddr 40 (.tmp 1) 2, 0, "", ⟨[]⟩, none⟩, some ((some 7), false), false⟩,
      ⟨⟨(some 9), .load 3 (.tmp 8), 3, "", ⟨[]⟩, none⟩, some ((some 7), false), false⟩,
      ⟨⟨(some 10), .call ⟨.value (.func 50), ⟨[(.tmp 9), (.const (.int .i64 0)), (.const (.int .i64 1073741824))]⟩, ⟨[3, 3, 3]⟩⟩, 4, "", ⟨[]⟩, none⟩, some ((some 7), false), false⟩,
      ⟨⟨(some 11), .unOp .not 4 (.tmp 10), 4, "", ⟨[]⟩, none⟩, some ((some 7), false), false⟩,
      ⟨⟨(some 12), .pick (.tmp 7) (.const (.bool true)) (.tmp 11), 4, "", ⟨[]⟩, none⟩, none, false⟩,
      ⟨⟨(some 13), .move (.tmp 12), 4, "", ⟨[]⟩, none⟩, none, false⟩,
      ⟨⟨(some 14), .fieldAddr 40 (.tmp 1) 1, 0, "", ⟨[]⟩, none⟩, some ((some 13), false), false⟩,
      ⟨⟨(some 15), .load 3 (.tmp 14), 3, "", ⟨[]⟩, none⟩, some ((some 13), false), false⟩,
      ⟨⟨(some 16), .fieldAddr 40 (.tmp 1) 2, 0, "", ⟨[]⟩, none⟩, some ((some 13), false), false⟩,
      ⟨⟨(some 17), .load 3 (.tmp 16), 3, "", ⟨[]⟩, none⟩, some ((some 13), false), false⟩,
      ⟨⟨(some 18), .call ⟨.value (.func 50), ⟨[(.tmp 15), (.const (.int .i64 0)), (.tmp 17)]⟩, ⟨[3, 3, 3]⟩⟩, 4, "", ⟨[]⟩, none⟩, some ((some 13), false), false⟩,
      ⟨⟨(some 19), .unOp .not 4 (.tmp 18), 4, "", ⟨[]⟩, none⟩, some ((some 13), false), false⟩,
      ⟨⟨(some 20), .pick (.tmp 13) (.const (.bool true)) (.tmp 19), 4, "", ⟨[]⟩, none⟩, none, false⟩])
    (.cond (.tmp 20)
     (.seq
      (.ops false [
        ⟨⟨(some 2), .assign (.const (.int .i64 22)), 30, "", ⟨[]⟩, none⟩, none, false⟩])
      .ret)
     .skip))
   (.seq
    (.ops false [
      ⟨⟨(some 2), .assign (.const (.int .i64 0)), 30, "", ⟨[]⟩, none⟩, none, false⟩])
    .ret)))
def Try.s25 : SC :=
 (.seq
  (.ops false [
    ⟨⟨(some 1), .box 40 (.tmp 0), 0, "", ⟨[]⟩, none⟩, none, false⟩,
    ⟨⟨(some 2), .assign (.const (.int .i64 0)), 30, "", ⟨[]⟩, none⟩, none, false⟩])
  (.seq
   (.seq
    (.ops false [
      ⟨⟨(some 3), .fieldAddr 40 (.tmp 1) 0, 0, "", ⟨[]⟩, none⟩, none, false⟩,
      ⟨⟨(some 4), .load 3 (.tmp 3), 3, "", ⟨[]⟩, none⟩, none, false⟩,
      ⟨⟨(some 5), .call ⟨.value (.func 32), ⟨[(.const (.int .i64 0)), (.tmp 4), (.const (.int .i64 64))]⟩, ⟨[3, 3, 3]⟩⟩, 4, "", ⟨[]⟩, none⟩, none, false⟩,
      ⟨⟨(some 6), .unOp .not 4 (.tmp 5), 4, "", ⟨[]⟩, none⟩, none, false⟩,
      ⟨⟨(some 7), .move (.tmp 6), 4, "", ⟨[]⟩, none⟩, none, false⟩,
      ⟨⟨(some 8), .fieldAddr 40 (.tmp 1) 2, 0, "", ⟨[]⟩, none⟩, some ((some 7), false), false⟩,
      ⟨⟨(some 9), .load 3 (.tmp 8), 3, "", ⟨[]⟩, none⟩, some ((some 7), false), false⟩,
      ⟨⟨(some 10), .call ⟨.value (.func 32), ⟨[(.const (.int .i64 0)), (.tmp 9), (.const (.int .i64 1073741824))]⟩, ⟨[3, 3, 3]⟩⟩, 4, "", ⟨[]⟩, none⟩, some ((some 7), false), false⟩,
      ⟨⟨(some 11), .unOp .not 4 (.tmp 10), 4, "", ⟨[]⟩, none⟩, some ((some 7), false), false⟩,
      ⟨⟨(some 12), .pick (.tmp 7) (.const (.bool true)) (.tmp 11), 4, "", ⟨[]⟩, none⟩, none, false⟩,
      ⟨⟨(some 13), .move (.tmp 12), 4, "", ⟨[]⟩, none⟩, none, false⟩,
      ⟨⟨(some 14), .fieldAddr 40 (.tmp 1) 1, 0, "", ⟨[]⟩, none⟩, some ((some 13), false), false⟩,
      ⟨⟨(some 15), .load 3 (.tmp 14), 3, "", ⟨[]⟩, none⟩, some ((some 13), false), false⟩,
      ⟨⟨(some 16), .fieldAddr 40 (.tmp 1) 2, 0, "", ⟨[]⟩, none⟩, some ((some 13), false), false⟩,
      ⟨⟨(some 17), .load 3 (.tmp 16), 3, "", ⟨[]⟩, none⟩, some ((some 13), false), false⟩,
      ⟨⟨(some 18), .call ⟨.value (.func 32), ⟨[(.const (.int .i64 0)), (.tmp 15), (.tmp 17)]⟩, ⟨[3, 3, 3]⟩⟩, 4, "", ⟨[]⟩, none⟩, some ((some 13), false), false⟩,
      ⟨⟨(some 19), .unOp .not 4 (.tmp 18), 4, "", ⟨[]⟩, none⟩, some ((some 13), false), false⟩,
      ⟨⟨(some 20), .pick (.tmp 13) (.const (.bool true)) (.tmp 19), 4, "", ⟨[]⟩, none⟩, none, false⟩])
    (.cond (.tmp 20)
     (.seq
      (.ops false [
        ⟨⟨(some 2), .assign (.const (.int .i64 22)), 30, "", ⟨[]⟩, none⟩, none, false⟩])
      .ret)
     .skip))
   (.seq
    (.ops false [
      ⟨⟨(some 2), .assign (.const (.int .i64 0)), 30, "", ⟨[]⟩, none⟩, none, false⟩])
    .ret)))
def Try.s26 : SC :=
 (.seq
  (.ops false [
    ⟨⟨(some 3), .box 40 (.tmp 0), 0, "", ⟨[]⟩, none⟩, none, false⟩,
    ⟨⟨(some 4), .box 27 (.tmp 1), 0, "", ⟨[]⟩, none⟩, none, false⟩,
    ⟨⟨(some 6), .assign (.const (.int .i64 0)), 3, "", ⟨[]⟩, none⟩, none, false⟩,
    ⟨⟨(some 7), .assign (.const (.int .i64 0)), 30, "", ⟨[]⟩, none⟩, none, false⟩])
  (.seq
   (.seq
    (.ops false [
      ⟨⟨(some 10), .load 40 (.tmp 3), 40, "", ⟨[]⟩, none⟩, none, false⟩,
      ⟨⟨(some 11), .call ⟨.value (.func 24), ⟨[(.tmp 10)]⟩, ⟨[40]⟩⟩, 30, "", ⟨[]⟩, none⟩, none, false⟩,
      ⟨⟨(some 8), .assign (.tmp 11), 30, "", ⟨[]⟩, none⟩, none, false⟩])
    (.seq
     (.ops false [
       ⟨⟨(some 12), .move (.tmp 8), 30, "", ⟨[]⟩, none⟩, none, false⟩,
       ⟨⟨(some 13), .binOp .neq 30 (.tmp 12) (.const (.int .i64 0)) 30, 4, "", ⟨[]⟩, none⟩, none, false⟩])
     (.cond (.tmp 13)
      (.seq
       (.ops false [
         ⟨⟨(some 14), .move (.tmp 8), 30, "", ⟨[]⟩, none⟩, none, false⟩,
         ⟨⟨(some 6), .assign (.const (.int .i64 0)), 3, "", ⟨[]⟩, none⟩, none, false⟩,
         ⟨⟨(some 7), .assign (.tmp 14), 30, "", ⟨[]⟩, none⟩, none, false⟩])
       .ret)
      .skip)))
   (.seq
    (.seq
     (.ops false [
       ⟨⟨(some 15), .load 27 (.tmp 4), 27, "", ⟨[]⟩, none⟩, none, false⟩,
       ⟨⟨(some 16), .call ⟨.value (.func 53), ⟨[(.tmp 15), (.const (.int .i64 2147483648))]⟩, ⟨[27, 3]⟩⟩, 4, "", ⟨[]⟩, none⟩, none, false⟩,
       ⟨⟨(some 17), .unOp .not 4 (.tmp 16), 4, "", ⟨[]⟩, none⟩, none, false⟩,
       ⟨⟨(some 18), .move (.tmp 17), 4, "", ⟨[]⟩, none⟩, none, false⟩,
       ⟨⟨(some 19), .move (.tmp 2), 3, "", ⟨[]⟩, none⟩, some ((some 18), false), false⟩,
       ⟨⟨(some 20), .call ⟨.value (.func 50), ⟨[(.tmp 19), (.const (.int .i64 1)), (.const (.int .i64 1073741824))]⟩, ⟨[3, 3, 3]⟩⟩, 4, "", ⟨[]⟩, none⟩, some ((some 18), false), false⟩,
       ⟨⟨(some 21), .unOp .not 4 (.tmp 20), 4, "", ⟨[]⟩, none⟩, some ((some 18), false), false⟩,
       ⟨⟨(some 22), .pick (.tmp 18) (.const (.bool true)) (.tmp 21), 4, "", ⟨[]⟩, none⟩, none, false⟩])
     (.cond (.tmp 22)
      (.seq
       (.ops false [
         ⟨⟨(some 6), .assign (.const (.int .i64 0)), 3, "", ⟨[]⟩, none⟩, none, false⟩,
         ⟨⟨(some 7), .assign (.const (.int .i64 7)), 30, "", ⟨[]⟩, none⟩, none, false⟩])
       .ret)
      .skip))
    (.seq
     (.ops false [
       ⟨⟨(some 23), .load 40 (.tmp 3), 40, "", ⟨[]⟩, none⟩, none, false⟩,
       ⟨⟨(some 24), .load 27 (.tmp 4), 27, "", ⟨[]⟩, none⟩, none, false⟩,
       ⟨⟨(some 25), .call ⟨.value (.func 55), ⟨[(.tmp 23), (.tmp 24)]⟩, ⟨[40, 27]⟩⟩, 3, "", ⟨[]⟩, none⟩, none, false⟩,
       ⟨⟨(some 9), .assign (.tmp 25), 3, "", ⟨[]⟩, none⟩, none, false⟩])
     (.seq
      (.seq
       (.ops false [
         ⟨⟨(some 26), .move (.tmp 9), 3, "", ⟨[]⟩, none⟩, none, false⟩,
         ⟨⟨(some 27), .binOp .eql 3 (.tmp 26) (.const (.int .i64 0)) 3, 4, "", ⟨[]⟩, none⟩, none, false⟩])
       (.cond (.tmp 27)
        (.seq
         (.ops false [
           ⟨⟨(some 6), .assign (.const (.int .i64 0)), 3, "", ⟨[]⟩, none⟩, none, false⟩,
           ⟨⟨(some 7), .assign (.const (.int .i64 4)), 30, "", ⟨[]⟩, none⟩, none, false⟩])
         .ret)
        .skip))
      (.seq
       (.ops false [
         ⟨⟨(some 28), .move (.tmp 2), 3, "", ⟨[]⟩, none⟩, none, false⟩,
         ⟨⟨(some 29), .move (.tmp 9), 3, "", ⟨[]⟩, none⟩, none, false⟩,
         ⟨⟨(some 30), .call ⟨.builtin .min, ⟨[(.tmp 28), (.tmp 29)]⟩, ⟨[3, 3]⟩⟩, 3, "", ⟨[]⟩, none⟩, none, false⟩,
         ⟨⟨(some 6), .assign (.tmp 30), 3, "", ⟨[]⟩, none⟩, none, false⟩,
         ⟨⟨(some 7), .assign (.const (.int .i64 0)), 30, "", ⟨[]⟩, none⟩, none, false⟩])
       .ret))))))
def Try.s27 : SC :=
 (.seq
  (.ops false [
    ⟨⟨(some 3), .box 40 (.tmp 0), 0, "", ⟨[]⟩, none⟩, none, false⟩,
    ⟨⟨(some 4), .box 27 (.tmp 1), 0, "", ⟨[]⟩, none⟩, none, false⟩,
    ⟨⟨(some 6), .assign (.const (.int .i64 0)), 3, "", ⟨[]⟩, none⟩, none, false⟩,
    ⟨⟨(some 7), .assign (.const (.int .i64 0)), 30, "", ⟨[]⟩, none⟩, none, false⟩])
  (.seq
   (.ops false [
     ⟨⟨(some 11), .load 40 (.tmp 3), 40, "", ⟨[]⟩, none⟩, none, false⟩,
     ⟨⟨(some 12), .load 27 (.tmp 4), 27, "", ⟨[]⟩, none⟩, none, false⟩,
     ⟨⟨(some 13), .call ⟨.value (.func 23), ⟨[(.tmp 11), (.tmp 12)]⟩, ⟨[40, 27]⟩⟩, 44, "", ⟨[]⟩, none⟩, none, false⟩,
     ⟨⟨(some 10), .move (.tmp 13), 44, "", ⟨[]⟩, none⟩, none, false⟩,
     ⟨⟨(some 14), .extract (.tmp 10) 0, 3, "", ⟨[]⟩, none⟩, none, false⟩,
     ⟨⟨(some 15), .extract (.tmp 10) 1, 30, "", ⟨[]⟩, none⟩, none, false⟩,
     ⟨⟨(some 8), .assign (.tmp 14), 3, "", ⟨[]⟩, none⟩, none, false⟩,
     ⟨⟨(some 9), .assign (.tmp 15), 30, "", ⟨[]⟩, none⟩, none, false⟩])
   (.seq
    (.seq
     (.ops false [
       ⟨⟨(some 16), .move (.tmp 9), 30, "", ⟨[]⟩, none⟩, none, false⟩,
       ⟨⟨(some 17), .binOp .neq 30 (.tmp 16) (.const (.int .i64 0)) 30, 4, "", ⟨[]⟩, none⟩, none, false⟩])
     (.cond (.tmp 17)
      (.seq
       (.ops false [
         ⟨⟨(some 18), .move (.tmp 9), 30, "", ⟨[]⟩, none⟩, none, false⟩,
         ⟨⟨(some 6), .assign (.const (.int .i64 0)), 3, "", ⟨[]⟩, none⟩, none, false⟩,
         ⟨⟨(some 7), .assign (.tmp 18), 30, "", ⟨[]⟩, none⟩, none, false⟩])
       .ret)
      .skip))
    (.seq
     (.seq
      (.ops false [
        ⟨⟨(some 19), .move (.tmp 2), 3, "", ⟨[]⟩, none⟩, none, false⟩,
        ⟨⟨(some 20), .call ⟨.value (.func 32), ⟨[(.const (.int .i64 1)), (.tmp 19), (.const (.int .i64 1073741824))]⟩, ⟨[3, 3, 3]⟩⟩, 4, "", ⟨[]⟩, none⟩, none, false⟩,
        ⟨⟨(some 21), .unOp .not 4 (.tmp 20), 4, "", ⟨[]⟩, none⟩, none, false⟩])
      (.cond (.tmp 21)
       (.seq
        (.ops false [
          ⟨⟨(some 6), .assign (.const (.int .i64 0)), 3, "", ⟨[]⟩, none⟩, none, false⟩,
          ⟨⟨(some 7), .assign (.const (.int .i64 7)), 30, "", ⟨[]⟩, none⟩, none, false⟩])
        .ret)
       .skip))
     (.seq
      (.seq
       (.ops false [
         ⟨⟨(some 22), .move (.tmp 8), 3, "", ⟨[]⟩, none⟩, none, false⟩,
         ⟨⟨(some 23), .binOp .eql 3 (.tmp 22) (.const (.int .i64 0)) 3, 4, "", ⟨[]⟩, none⟩, none, false⟩])
       (.cond (.tmp 23)
        (.seq
         (.ops false [
           ⟨⟨(some 6), .assign (.const (.int .i64 0)), 3, "", ⟨[]⟩, none⟩, none, false⟩,
           ⟨⟨(some 7), .assign (.const (.int .i64 4)), 30, "", ⟨[]⟩, none⟩, none, false⟩])
         .ret)
        .skip))
      (.seq
       (.ops false [
         ⟨⟨(some 24), .move (.tmp 8), 3, "", ⟨[]⟩, none⟩, none, false⟩,
         ⟨⟨(some 25), .move (.tmp 2), 3, "", ⟨[]⟩, none⟩, none, false⟩,
         ⟨⟨(some 26), .call ⟨.builtin .min, ⟨[(.tmp 24), (.tmp 25)]⟩, ⟨[3, 3]⟩⟩, 3, "", ⟨[]⟩, none⟩, none, false⟩,
         ⟨⟨(some 6), .assign (.tmp 26), 3, "", ⟨[]⟩, none⟩, none, false⟩,
         ⟨⟨(some 7), .assign (.const (.int .i64 0)), 30, "", ⟨[]⟩, none⟩, none, false⟩])
       .ret))))))
def Try.s34 : SC :=
 (.seq
  (.ops false [
    ⟨⟨(some 4), .assign (.const (.int .i64 0)), 3, "", ⟨[]⟩, none⟩, none, false⟩])
  (.seq
   (.ops false [
     ⟨⟨(some 6), .move (.tmp 0), 3, "", ⟨[]⟩, none⟩, none, false⟩,
     ⟨⟨(some 7), .move (.tmp 1), 3, "", ⟨[]⟩, none⟩, none, false⟩,
     ⟨⟨(some 8), .binOp .quo 3 (.tmp 6) (.tmp 7) 3, 3, "", ⟨[]⟩, none⟩, none, false⟩,
     ⟨⟨(some 5), .assign (.tmp 8), 3, "", ⟨[]⟩, none⟩, none, false⟩])
   (.seq
    (.seq
     (.ops false [
       ⟨⟨(some 9), .move (.tmp 5), 3, "", ⟨[]⟩, none⟩, none, false⟩,
       ⟨⟨(some 10), .move (.tmp 1), 3, "", ⟨[]⟩, none⟩, none, false⟩,
       ⟨⟨(some 11), .binOp .mul 3 (.tmp 9) (.tmp 10) 3, 3, "", ⟨[]⟩, none⟩, none, false⟩,
       ⟨⟨(some 12), .move (.tmp 0), 3, "", ⟨[]⟩, none⟩, none, false⟩,
       ⟨⟨(some 13), .binOp .gtr 3 (.tmp 11) (.tmp 12) 3, 4, "", ⟨[]⟩, none⟩, none, false⟩])
     (.cond (.tmp 13)
      (.ops false [
        ⟨⟨(some 14), .move (.tmp 5), 3, "", ⟨[]⟩, none⟩, none, false⟩,
        ⟨⟨(some 15), .binOp .sub 3 (.tmp 14) (.const (.int .i64 1)) 3, 3, "", ⟨[]⟩, none⟩, none, false⟩,
        ⟨⟨(some 5), .assign (.tmp 15), 3, "", ⟨[]⟩, none⟩, none, false⟩])
      .skip))
    (.seq
     (.ops false [
       ⟨⟨(some 16), .move (.tmp 5), 3, "", ⟨[]⟩, none⟩, none, false⟩,
       ⟨⟨(some 4), .assign (.tmp 16), 3, "", ⟨[]⟩, none⟩, none, false⟩])
     .ret))))
def Try.s53 : SC :=
 (.seq
  (.ops false [
    ⟨⟨(some 2), .box 27 (.tmp 0), 0, "", ⟨[]⟩, none⟩, none, false⟩,
    ⟨⟨(some 4), .assign (.const (.bool false)), 4, "", ⟨[]⟩, none⟩, none, false⟩])
  (.seq
   (.ops false [
     ⟨⟨(some 5), .fieldAddr 27 (.tmp 2) 0, 0, "", ⟨[]⟩, none⟩, none, false⟩,
     ⟨⟨(some 6), .load 3 (.tmp 5), 3, "", ⟨[]⟩, none⟩, none, false⟩,
     ⟨⟨(some 7), .binOp .leq 3 (.const (.int .i64 0)) (.tmp 6) 3, 4, "", ⟨[]⟩, none⟩, none, false⟩,
     ⟨⟨(some 8), .move (.tmp 7), 4, "", ⟨[]⟩, none⟩, none, false⟩,
     ⟨⟨(some 9), .fieldAddr 27 (.tmp 2) 0, 0, "", ⟨[]⟩, none⟩, some ((some 8), true), false⟩,
     ⟨⟨(some 10), .load 3 (.tmp 9), 3, "", ⟨[]⟩, none⟩, some ((some 8), true), false⟩,
     ⟨⟨(some 11), .fieldAddr 27 (.tmp 2) 1, 0, "", ⟨[]⟩, none⟩, some ((some 8), true), false⟩,
     ⟨⟨(some 12), .load 3 (.tmp 11), 3, "", ⟨[]⟩, none⟩, some ((some 8), true), false⟩,
     ⟨⟨(some 13), .binOp .leq 3 (.tmp 10) (.tmp 12) 3, 4, "", ⟨[]⟩, none⟩, some ((some 8), true), false⟩,
     ⟨⟨(some 14), .pick (.tmp 8) (.tmp 13) (.const (.bool false)), 4, "", ⟨[]⟩, none⟩, none, false⟩,
     ⟨⟨(some 15), .move (.tmp 14), 4, "", ⟨[]⟩, none⟩, none, false⟩,
     ⟨⟨(some 16), .fieldAddr 27 (.tmp 2) 1, 0, "", ⟨[]⟩, none⟩, some ((some 15), true), false⟩,
     ⟨⟨(some 17), .load 3 (.tmp 16), 3, "", ⟨[]⟩, none⟩, some ((some 15), true), false⟩,
     ⟨⟨(some 18), .move (.tmp 1), 3, "", ⟨[]⟩, none⟩, some ((some 15), true), false⟩,
     ⟨⟨(some 19), .binOp .leq 3 (.tmp 17) (.tmp 18) 3, 4, "", ⟨[]⟩, none⟩, some ((some 15), true), false⟩,
     ⟨⟨(some 20), .pick (.tmp 15) (.tmp 19) (.const (.bool false)), 4, "", ⟨[]⟩, none⟩, none, false⟩,
     ⟨⟨(some 4), .assign (.tmp 20), 4, "", ⟨[]⟩, none⟩, none, false⟩])
   .ret))
def Try.s54 : SC :=
 (.seq
  (.ops false [
    ⟨⟨(some 3), .box 27 (.tmp 0), 0, "", ⟨[]⟩, none⟩, none, false⟩,
    ⟨⟨(some 6), .assign (.const (.bool false)), 4, "", ⟨[]⟩, none⟩, none, false⟩])
  (.seq
   (.ops false [
     ⟨⟨(some 7), .fieldAddr 27 (.tmp 3) 0, 0, "", ⟨[]⟩, none⟩, none, false⟩,
     ⟨⟨(some 8), .load 3 (.tmp 7), 3, "", ⟨[]⟩, none⟩, none, false⟩,
     ⟨⟨(some 9), .move (.tmp 1), 3, "", ⟨[]⟩, none⟩, none, false⟩,
     ⟨⟨(some 10), .binOp .geq 3 (.tmp 8) (.tmp 9) 3, 4, "", ⟨[]⟩, none⟩, none, false⟩,
     ⟨⟨(some 11), .move (.tmp 10), 4, "", ⟨[]⟩, none⟩, none, false⟩,
     ⟨⟨(some 12), .fieldAddr 27 (.tmp 3) 0, 0, "", ⟨[]⟩, none⟩, some ((some 11), true), false⟩,
     ⟨⟨(some 13), .load 3 (.tmp 12), 3, "", ⟨[]⟩, none⟩, some ((some 11), true), false⟩,
     ⟨⟨(some 14), .fieldAddr 27 (.tmp 3) 1, 0, "", ⟨[]⟩, none⟩, some ((some 11), true), false⟩,
     ⟨⟨(some 15), .load 3 (.tmp 14), 3, "", ⟨[]⟩, none⟩, some ((some 11), true), false⟩,
     ⟨⟨(some 16), .binOp .leq 3 (.tmp 13) (.tmp 15) 3, 4, "", ⟨[]⟩, none⟩, some ((some 11), true), false⟩,
     ⟨⟨(some 17), .pick (.tmp 11) (.tmp 16) (.const (.bool false)), 4, "", ⟨[]⟩, none⟩, none, false⟩,
     ⟨⟨(some 18), .move (.tmp 17), 4, "", ⟨[]⟩, none⟩, none, false⟩,
     ⟨⟨(some 19), .fieldAddr 27 (.tmp 3) 1, 0, "", ⟨[]⟩, none⟩, some ((some 18), true), false⟩,
     ⟨⟨(some 20), .load 3 (.tmp 19), 3, "", ⟨[]⟩, none⟩, some ((some 18), true), false⟩,
     ⟨⟨(some 21), .move (.tmp 2), 3, "", ⟨[]⟩, none⟩, some ((some 18), true), false⟩,
     ⟨⟨(some 22), .binOp .leq 3 (.tmp 20) (.tmp 21) 3, 4, "", ⟨[]⟩, none⟩, some ((some 18), true), false⟩,
     ⟨⟨(some 23), .pick (.tmp 18) (.tmp 22) (.const (.bool false)), 4, "", ⟨[]⟩, none⟩, none, false⟩,
     ⟨⟨(some 6), .assign (.tmp 23), 4, "", ⟨[]⟩, none⟩, none, false⟩])
   .ret))
def Try.s55 : SC :=
 (.seq
  (.ops false [
    ⟨⟨(some 2), .box 40 (.tmp 0), 0, "", ⟨[]⟩, none⟩, none, false⟩,
    ⟨⟨(some 3), .box 27 (.tmp 1), 0, "", ⟨[]⟩, none⟩, none, false⟩,
    ⟨⟨(some 4), .assign (.const (.int .i64 0)), 3, "", ⟨[]⟩, none⟩, none, false⟩])
  (.seq
   (.ops false [
     ⟨⟨(some 6), .fieldAddr 27 (.tmp 3) 0, 0, "", ⟨[]⟩, none⟩, none, false⟩,
     ⟨⟨(some 7), .load 3 (.tmp 6), 3, "", ⟨[]⟩, none⟩, none, false⟩,
     ⟨⟨(some 8), .fieldAddr 40 (.tmp 2) 0, 0, "", ⟨[]⟩, none⟩, none, false⟩,
     ⟨⟨(some 9), .load 3 (.tmp 8), 3, "", ⟨[]⟩, none⟩, none, false⟩,
     ⟨⟨(some 10), .binOp .mul 3 (.tmp 7) (.tmp 9) 3, 3, "", ⟨[]⟩, none⟩, none, false⟩,
     ⟨⟨(some 11), .binOp .quo 3 (.tmp 10) (.const (.int .i64 64)) 3, 3, "", ⟨[]⟩, none⟩, none, false⟩,
     ⟨⟨(some 5), .assign (.tmp 11), 3, "", ⟨[]⟩, none⟩, none, false⟩])
   (.seq
    (.seq
     (.ops false [
       ⟨⟨(some 12), .move (.tmp 5), 3, "", ⟨[]⟩, none⟩, none, false⟩,
       ⟨⟨(some 13), .fieldAddr 40 (.tmp 2) 1, 0, "", ⟨[]⟩, none⟩, none, false⟩,
       ⟨⟨(some 14), .load 3 (.tmp 13), 3, "", ⟨[]⟩, none⟩, none, false⟩,
       ⟨⟨(some 15), .binOp .lss 3 (.tmp 12) (.tmp 14) 3, 4, "", ⟨[]⟩, none⟩, none, false⟩])
     (.cond (.tmp 15)
      (.ops false [
        ⟨⟨(some 16), .fieldAddr 40 (.tmp 2) 1, 0, "", ⟨[]⟩, none⟩, none, false⟩,
        ⟨⟨(some 17), .load 3 (.tmp 16), 3, "", ⟨[]⟩, none⟩, none, false⟩,
        ⟨⟨(some 18), .fieldAddr 27 (.tmp 3) 0, 0, "", ⟨[]⟩, none⟩, none, false⟩,
        ⟨⟨(some 19), .load 3 (.tmp 18), 3, "", ⟨[]⟩, none⟩, none, false⟩,
        ⟨⟨(some 20), .call ⟨.builtin .min, ⟨[(.tmp 17), (.tmp 19)]⟩, ⟨[3, 3]⟩⟩, 3, "", ⟨[]⟩, none⟩, none, false⟩,
        ⟨⟨(some 5), .assign (.tmp 20), 3, "", ⟨[]⟩, none⟩, none, false⟩])
      .skip))
    (.seq
     (.ops false [
       ⟨⟨(some 21), .move (.tmp 5), 3, "", ⟨[]⟩, none⟩, none, false⟩,
       ⟨⟨(some 22), .fieldAddr 40 (.tmp 2) 2, 0, "", ⟨[]⟩, none⟩, none, false⟩,
       ⟨⟨(some 23), .load 3 (.tmp 22), 3, "", ⟨[]⟩, none⟩, none, false⟩,
       ⟨⟨(some 24), .call ⟨.builtin .min, ⟨[(.tmp 21), (.tmp 23)]⟩, ⟨[3, 3]⟩⟩, 3, "", ⟨[]⟩, none⟩, none, false⟩,
       ⟨⟨(some 4), .assign (.tmp 24), 3, "", ⟨[]⟩, none⟩, none, false⟩])
     .ret))))
theorem Try.s4_eq : Try.f4.body.map sOf = some Try.s4 := by kernel_rfl
theorem Try.s22_eq : Try.f22.body.map sOf = some Try.s22 := by kernel_rfl
theorem Try.s23_eq : Try.f23.body.map sOf = some Try.s23 := by kernel_rfl
theorem Try.s24_eq : Try.f24.body.map sOf = some Try.s24 := by kernel_rfl
theorem Try.s25_eq : Try.f25.body.map sOf = some Try.s25 := by kernel_rfl
theorem Try.s26_eq : Try.f26.body.map sOf = some Try.s26 := by kernel_rfl
theorem Try.s27_eq : Try.f27.body.map sOf = some Try.s27 := by kernel_rfl
theorem Try.s34_eq : Try.f34.body.map sOf = some Try.s34 := by kernel_rfl
theorem Try.s53_eq : Try.f53.body.map sOf = some Try.s53 := by kernel_rfl
theorem Try.s54_eq : Try.f54.body.map sOf = some Try.s54 := by kernel_rfl
theorem Try.s55_eq : Try.f55.body.map sOf = some Try.s55 := by kernel_rfl
end Go.Proofs

/- Functions' code, as the machine reads it. -/
namespace Go.Proofs
open Go Go.RowKit Go.Sim
set_option maxRecDepth 100000
def Try.s33 : SC :=
 (.seq
  (.ops false [
    ⟨⟨(some 4), .assign (.const (.int .i64 0)), 3, "", ⟨[]⟩, none⟩, none, false⟩])
  (.seq
   (.seq
    (.ops false [
      ⟨⟨(some 5), .move (.tmp 1), 3, "", ⟨[]⟩, none⟩, none, false⟩,
      ⟨⟨(some 6), .binOp .leq 3 (.tmp 5) (.const (.int .i64 0)) 3, 4, "", ⟨[]⟩, none⟩, none, false⟩])
    (.cond (.tmp 6)
     (.seq
      (.ops false [
        ⟨⟨(some 4), .assign (.const (.int .i64 0)), 3, "", ⟨[]⟩, none⟩, none, false⟩])
      .ret)
     .skip))
   (.seq
    (.ops false [
      ⟨⟨(some 7), .move (.tmp 0), 3, "", ⟨[]⟩, none⟩, none, false⟩,
      ⟨⟨(some 8), .move (.tmp 1), 3, "", ⟨[]⟩, none⟩, none, false⟩,
      ⟨⟨(some 9), .binOp .rem 3 (.tmp 7) (.tmp 8) 3, 3, "", ⟨[]⟩, none⟩, none, false⟩,
      ⟨⟨(some 10), .move (.tmp 1), 3, "", ⟨[]⟩, none⟩, none, false⟩,
      ⟨⟨(some 11), .binOp .add 3 (.tmp 9) (.tmp 10) 3, 3, "", ⟨[]⟩, none⟩, none, false⟩,
      ⟨⟨(some 12), .move (.tmp 1), 3, "", ⟨[]⟩, none⟩, none, false⟩,
      ⟨⟨(some 13), .binOp .rem 3 (.tmp 11) (.tmp 12) 3, 3, "", ⟨[]⟩, none⟩, none, false⟩,
      ⟨⟨(some 4), .assign (.tmp 13), 3, "", ⟨[]⟩, none⟩, none, false⟩])
    .ret)))
theorem Try.s33_eq : Try.f33.body.map sOf = some Try.s33 := by kernel_rfl
end Go.Proofs
