/- The stripped code of the functions of deals. -/
import Derived.Test.YtdbeiefgokocnaaTa
import Derived.Test.YtdbeiefgokocnaaNa
set_option linter.unusedVariables false
set_option linter.unusedSimpArgs false
/- Functions' code, as the machine reads it. -/
namespace Go.Proofs
open Go Go.RowKit Go.Sim
set_option maxRecDepth 100000
def Try.s5 : SC :=
 (.seq
  (.ops false [
    ⟨⟨(some 2), .box 56 (.tmp 0), 0, "", ⟨[]⟩, none⟩, none, false⟩,
    ⟨⟨(some 4), .assign (.const (.bool false)), 4, "", ⟨[]⟩, none⟩, none, false⟩])
  (.seq
   (.ops false [
     ⟨⟨(some 10), .load 56 (.tmp 2), 56, "", ⟨[]⟩, none⟩, none, false⟩,
     ⟨⟨(some 11), .move (.tmp 1), 3, "", ⟨[]⟩, none⟩, none, false⟩,
     ⟨⟨(some 12), .call ⟨.value (.func 30), ⟨[(.tmp 10), (.tmp 11)]⟩, ⟨[56, 3]⟩⟩, 31, "", ⟨[]⟩, none⟩, none, false⟩,
     ⟨⟨(some 9), .move (.tmp 12), 31, "", ⟨[]⟩, none⟩, none, false⟩,
     ⟨⟨(some 13), .extract (.tmp 9) 0, 23, "", ⟨[]⟩, none⟩, none, false⟩,
     ⟨⟨(some 14), .extract (.tmp 9) 1, 30, "", ⟨[]⟩, none⟩, none, false⟩,
     ⟨⟨(some 5), .assign (.tmp 13), 23, "", ⟨[]⟩, none⟩, none, false⟩,
     ⟨⟨(some 6), .assign (.tmp 14), 30, "", ⟨[]⟩, none⟩, none, false⟩])
   (.seq
    (.ops false [
      ⟨⟨(some 16), .load 56 (.tmp 2), 56, "", ⟨[]⟩, none⟩, none, false⟩,
      ⟨⟨(some 17), .move (.tmp 1), 3, "", ⟨[]⟩, none⟩, none, false⟩,
      ⟨⟨(some 18), .call ⟨.value (.func 31), ⟨[(.tmp 16), (.tmp 17)]⟩, ⟨[56, 3]⟩⟩, 31, "", ⟨[]⟩, none⟩, none, false⟩,
      ⟨⟨(some 15), .move (.tmp 18), 31, "", ⟨[]⟩, none⟩, none, false⟩,
      ⟨⟨(some 19), .extract (.tmp 15) 0, 23, "", ⟨[]⟩, none⟩, none, false⟩,
      ⟨⟨(some 20), .extract (.tmp 15) 1, 30, "", ⟨[]⟩, none⟩, none, false⟩,
      ⟨⟨(some 7), .assign (.tmp 19), 23, "", ⟨[]⟩, none⟩, none, false⟩,
      ⟨⟨(some 8), .assign (.tmp 20), 30, "", ⟨[]⟩, none⟩, none, false⟩])
    (.seq
     (.ops false [
       ⟨⟨(some 21), .move (.tmp 5), 23, "", ⟨[]⟩, none⟩, none, false⟩,
       ⟨⟨(some 22), .move (.tmp 7), 23, "", ⟨[]⟩, none⟩, none, false⟩,
       ⟨⟨(some 23), .call ⟨.value (.func 16), ⟨[(.tmp 21), (.tmp 22)]⟩, ⟨[23, 23]⟩⟩, 4, "", ⟨[]⟩, none⟩, none, false⟩,
       ⟨⟨(some 24), .move (.tmp 23), 4, "", ⟨[]⟩, none⟩, none, false⟩,
       ⟨⟨(some 25), .move (.tmp 6), 30, "", ⟨[]⟩, none⟩, some ((some 24), true), false⟩,
       ⟨⟨(some 26), .move (.tmp 8), 30, "", ⟨[]⟩, none⟩, some ((some 24), true), false⟩,
       ⟨⟨(some 27), .binOp .eql 30 (.tmp 25) (.tmp 26) 30, 4, "", ⟨[]⟩, none⟩, some ((some 24), true), false⟩,
       ⟨⟨(some 28), .pick (.tmp 24) (.tmp 27) (.const (.bool false)), 4, "", ⟨[]⟩, none⟩, none, false⟩,
       ⟨⟨(some 29), .move (.tmp 28), 4, "", ⟨[]⟩, none⟩, none, false⟩,
       ⟨⟨(some 30), .call ⟨.value (.func 21), ⟨[]⟩, ⟨[]⟩⟩, 4, "", ⟨[]⟩, none⟩, some ((some 29), true), false⟩,
       ⟨⟨(some 31), .pick (.tmp 29) (.tmp 30) (.const (.bool false)), 4, "", ⟨[]⟩, none⟩, none, false⟩,
       ⟨⟨(some 4), .assign (.tmp 31), 4, "", ⟨[]⟩, none⟩, none, false⟩])
     .ret))))
def Try.s30 : SC :=
 (.seq
  (.ops false [
    ⟨⟨(some 2), .box 56 (.tmp 0), 0, "", ⟨[]⟩, none⟩, none, false⟩,
    ⟨⟨(some 4), .assign (.const (.slice none 0 0)), 23, "", ⟨[]⟩, none⟩, none, false⟩,
    ⟨⟨(some 5), .assign (.const (.int .i64 0)), 30, "", ⟨[]⟩, none⟩, none, false⟩])
  (.seq
   (.seq
    (.ops false [
      ⟨⟨(some 9), .load 56 (.tmp 2), 56, "", ⟨[]⟩, none⟩, none, false⟩,
      ⟨⟨(some 10), .call ⟨.value (.func 41), ⟨[(.tmp 9)]⟩, ⟨[56]⟩⟩, 30, "", ⟨[]⟩, none⟩, none, false⟩,
      ⟨⟨(some 6), .assign (.tmp 10), 30, "", ⟨[]⟩, none⟩, none, false⟩])
    (.seq
     (.ops false [
       ⟨⟨(some 11), .move (.tmp 6), 30, "", ⟨[]⟩, none⟩, none, false⟩,
       ⟨⟨(some 12), .binOp .neq 30 (.tmp 11) (.const (.int .i64 0)) 30, 4, "", ⟨[]⟩, none⟩, none, false⟩])
     (.cond (.tmp 12)
      (.seq
       (.ops false [
         ⟨⟨(some 13), .move (.tmp 6), 30, "", ⟨[]⟩, none⟩, none, false⟩,
         ⟨⟨(some 4), .assign (.const (.slice none 0 0)), 23, "", ⟨[]⟩, none⟩, none, false⟩,
         ⟨⟨(some 5), .assign (.tmp 13), 30, "", ⟨[]⟩, none⟩, none, false⟩])
       .ret)
      .skip)))
   (.seq
    (.seq
     (.ops false [
       ⟨⟨(some 14), .move (.tmp 1), 3, "", ⟨[]⟩, none⟩, none, false⟩,
       ⟨⟨(some 15), .fieldAddr 56 (.tmp 2) 3, 0, "", ⟨[]⟩, none⟩, none, false⟩,
       ⟨⟨(some 16), .load 3 (.tmp 15), 3, "", ⟨[]⟩, none⟩, none, false⟩,
       ⟨⟨(some 17), .call ⟨.value (.func 50), ⟨[(.tmp 14), (.tmp 16), (.const (.int .i64 36500))]⟩, ⟨[3, 3, 3]⟩⟩, 4, "", ⟨[]⟩, none⟩, none, false⟩,
       ⟨⟨(some 18), .unOp .not 4 (.tmp 17), 4, "", ⟨[]⟩, none⟩, none, false⟩])
     (.cond (.tmp 18)
      (.seq
       (.ops false [
         ⟨⟨(some 4), .assign (.const (.slice none 0 0)), 23, "", ⟨[]⟩, none⟩, none, false⟩,
         ⟨⟨(some 5), .assign (.const (.int .i64 7)), 30, "", ⟨[]⟩, none⟩, none, false⟩])
       .ret)
      .skip))
    (.seq
     (.ops false [
       ⟨⟨(some 7), .assign (.const (.slice none 0 0)), 23, "", ⟨[]⟩, none⟩, none, false⟩])
     (.seq
      (.seq
       (.ops false [
         ⟨⟨(some 19), .load 56 (.tmp 2), 56, "", ⟨[]⟩, none⟩, none, false⟩,
         ⟨⟨(some 20), .fieldAddr 56 (.tmp 2) 3, 0, "", ⟨[]⟩, none⟩, none, false⟩,
         ⟨⟨(some 21), .load 3 (.tmp 20), 3, "", ⟨[]⟩, none⟩, none, false⟩,
         ⟨⟨(some 22), .call ⟨.value (.func 58), ⟨[(.tmp 19), (.tmp 21)]⟩, ⟨[56, 3]⟩⟩, 3, "", ⟨[]⟩, none⟩, none, false⟩,
         ⟨⟨(some 8), .assign (.tmp 22), 3, "", ⟨[]⟩, none⟩, none, false⟩])
       (.block 0
        (.loop
         (.seq
          (.seq
           (.ops false [
             ⟨⟨(some 23), .move (.tmp 8), 3, "", ⟨[]⟩, none⟩, none, false⟩,
             ⟨⟨(some 24), .move (.tmp 1), 3, "", ⟨[]⟩, none⟩, none, false⟩,
             ⟨⟨(some 25), .binOp .lss 3 (.tmp 23) (.tmp 24) 3, 4, "", ⟨[]⟩, none⟩, none, false⟩])
           (.cond (.tmp 25)
            .skip
            (.exit 0)))
          (.seq
           (.block 1
            (.seq
             (.seq
              (.ops false [
                ⟨⟨(some 29), .move (.tmp 7), 23, "", ⟨[]⟩, none⟩, none, false⟩,
                ⟨⟨(some 30), .call ⟨.builtin .len, ⟨[(.tmp 29)]⟩, ⟨[23]⟩⟩, 3, "", ⟨[]⟩, none⟩, none, false⟩,
                ⟨⟨(some 31), .binOp .eql 3 (.tmp 30) (.const (.int .i64 32)) 3, 4, "", ⟨[]⟩, none⟩, none, false⟩])
              (.cond (.tmp 31)
               (.seq
                (.ops false [
                  ⟨⟨(some 4), .assign (.const (.slice none 0 0)), 23, "", ⟨[]⟩, none⟩, none, false⟩,
                  ⟨⟨(some 5), .assign (.const (.int .i64 3)), 30, "", ⟨[]⟩, none⟩, none, false⟩])
                .ret)
               .skip))
             (.ops false [
               ⟨⟨(some 32), .move (.tmp 7), 23, "", ⟨[]⟩, none⟩, none, false⟩,
               ⟨⟨(some 33), .move (.tmp 8), 3, "", ⟨[]⟩, none⟩, none, false⟩,
               ⟨⟨(some 34), .buildSlice 23 1 ⟨[(0, (.tmp 33))]⟩, 23, "", ⟨[]⟩, none⟩, none, false⟩,
               ⟨⟨(some 35), .call ⟨.builtin .append, ⟨[(.tmp 32), (.tmp 34)]⟩, ⟨[23, 23]⟩⟩, 23, "", ⟨[]⟩, none⟩, none, false⟩,
               ⟨⟨(some 7), .assign (.tmp 35), 23, "", ⟨[]⟩, none⟩, none, false⟩])))
           (.ops false [
             ⟨⟨(some 26), .load 56 (.tmp 2), 56, "", ⟨[]⟩, none⟩, none, false⟩,
             ⟨⟨(some 27), .move (.tmp 8), 3, "", ⟨[]⟩, none⟩, none, false⟩,
             ⟨⟨(some 28), .call ⟨.value (.func 58), ⟨[(.tmp 26), (.tmp 27)]⟩, ⟨[56, 3]⟩⟩, 3, "", ⟨[]⟩, none⟩, none, false⟩,
             ⟨⟨(some 8), .assign (.tmp 28), 3, "", ⟨[]⟩, none⟩, none, false⟩]))))))
      (.seq
       (.ops false [
         ⟨⟨(some 36), .move (.tmp 7), 23, "", ⟨[]⟩, none⟩, none, false⟩,
         ⟨⟨(some 4), .assign (.tmp 36), 23, "", ⟨[]⟩, none⟩, none, false⟩,
         ⟨⟨(some 5), .assign (.const (.int .i64 0)), 30, "", ⟨[]⟩, none⟩, none, false⟩])
       .ret))))))
def Try.s58 : SC :=
 (.seq
  (.ops false [
    ⟨⟨(some 2), .box 56 (.tmp 0), 0, "", ⟨[]⟩, none⟩, none, false⟩,
    ⟨⟨(some 4), .assign (.const (.int .i64 0)), 3, "", ⟨[]⟩, none⟩, none, false⟩])
  (.seq
   (.ops false [
     ⟨⟨(some 8), .move (.tmp 1), 3, "", ⟨[]⟩, none⟩, none, false⟩,
     ⟨⟨(some 9), .fieldAddr 56 (.tmp 2) 1, 0, "", ⟨[]⟩, none⟩, none, false⟩,
     ⟨⟨(some 10), .load 54 (.tmp 9), 54, "", ⟨[]⟩, none⟩, none, false⟩,
     ⟨⟨(some 11), .call ⟨.value (.func 72), ⟨[(.tmp 10)]⟩, ⟨[54]⟩⟩, 3, "", ⟨[]⟩, none⟩, none, false⟩,
     ⟨⟨(some 12), .binOp .add 3 (.tmp 8) (.tmp 11) 3, 3, "", ⟨[]⟩, none⟩, none, false⟩,
     ⟨⟨(some 5), .assign (.tmp 12), 3, "", ⟨[]⟩, none⟩, none, false⟩])
   (.seq
    (.seq
     (.ops false [
       ⟨⟨(some 13), .fieldAddr 56 (.tmp 2) 2, 0, "", ⟨[]⟩, none⟩, none, false⟩,
       ⟨⟨(some 14), .load 23 (.tmp 13), 23, "", ⟨[]⟩, none⟩, none, false⟩,
       ⟨⟨(some 15), .call ⟨.builtin .len, ⟨[(.tmp 14)]⟩, ⟨[23]⟩⟩, 3, "", ⟨[]⟩, none⟩, none, false⟩,
       ⟨⟨(some 16), .move (.const (.int .i64 0)), 3, "", ⟨[]⟩, none⟩, none, false⟩])
     (.block 0
      (.loop
       (.seq
        (.ops false [
          ⟨⟨(some 17), .binOp .lss 3 (.tmp 16) (.tmp 15) 3, 0, "", ⟨[]⟩, none⟩, none, false⟩])
        (.seq
         (.cond (.tmp 17)
          .skip
          (.exit 0))
         (.seq
          (.block 1
           (.seq
            (.ops false [
              ⟨⟨(some 18), .indexAddr 23 (.tmp 14) (.tmp 16), 0, "", ⟨[]⟩, none⟩, none, false⟩,
              ⟨⟨(some 19), .load 3 (.tmp 18), 3, "", ⟨[]⟩, none⟩, none, false⟩,
              ⟨⟨(some 7), .assign (.tmp 19), 3, "", ⟨[]⟩, none⟩, none, false⟩])
            (.seq
             (.ops false [
               ⟨⟨(some 20), .move (.tmp 1), 3, "", ⟨[]⟩, none⟩, none, false⟩,
               ⟨⟨(some 21), .move (.tmp 7), 3, "", ⟨[]⟩, none⟩, none, false⟩,
               ⟨⟨(some 22), .binOp .lss 3 (.tmp 20) (.tmp 21) 3, 4, "", ⟨[]⟩, none⟩, none, false⟩,
               ⟨⟨(some 23), .move (.tmp 22), 4, "", ⟨[]⟩, none⟩, none, false⟩,
               ⟨⟨(some 24), .move (.tmp 7), 3, "", ⟨[]⟩, none⟩, some ((some 23), true), false⟩,
               ⟨⟨(some 25), .move (.tmp 5), 3, "", ⟨[]⟩, none⟩, some ((some 23), true), false⟩,
               ⟨⟨(some 26), .binOp .add 3 (.tmp 25) (.const (.int .i64 1)) 3, 3, "", ⟨[]⟩, none⟩, some ((some 23), true), false⟩,
               ⟨⟨(some 27), .binOp .leq 3 (.tmp 24) (.tmp 26) 3, 4, "", ⟨[]⟩, none⟩, some ((some 23), true), false⟩,
               ⟨⟨(some 28), .pick (.tmp 23) (.tmp 27) (.const (.bool false)), 4, "", ⟨[]⟩, none⟩, none, false⟩])
             (.cond (.tmp 28)
              (.ops false [
                ⟨⟨(some 29), .move (.tmp 5), 3, "", ⟨[]⟩, none⟩, none, false⟩,
                ⟨⟨(some 30), .binOp .add 3 (.tmp 29) (.const (.int .i64 1)) 3, 3, "", ⟨[]⟩, none⟩, none, false⟩,
                ⟨⟨(some 5), .assign (.tmp 30), 3, "", ⟨[]⟩, none⟩, none, false⟩])
              .skip))))
          (.ops false [
            ⟨⟨(some 31), .binOp .add 3 (.tmp 16) (.const (.int .i64 1)) 3, 3, "", ⟨[]⟩, none⟩, none, false⟩,
            ⟨⟨(some 16), .move (.tmp 31), 3, "", ⟨[]⟩, none⟩, none, false⟩])))))))
    (.seq
     (.ops false [
       ⟨⟨(some 32), .move (.tmp 5), 3, "", ⟨[]⟩, none⟩, none, false⟩,
       ⟨⟨(some 4), .assign (.tmp 32), 3, "", ⟨[]⟩, none⟩, none, false⟩])
     .ret))))
def Try.s41 : SC :=
 (.seq
  (.ops false [
    ⟨⟨(some 1), .box 56 (.tmp 0), 0, "", ⟨[]⟩, none⟩, none, false⟩,
    ⟨⟨(some 2), .assign (.const (.int .i64 0)), 30, "", ⟨[]⟩, none⟩, none, false⟩])
  (.seq
   (.seq
    (.ops false [
      ⟨⟨(some 3), .fieldAddr 56 (.tmp 1) 0, 0, "", ⟨[]⟩, none⟩, none, false⟩,
      ⟨⟨(some 4), .load 52 (.tmp 3), 52, "", ⟨[]⟩, none⟩, none, false⟩,
      ⟨⟨(some 5), .call ⟨.value (.func 63), ⟨[(.tmp 4)]⟩, ⟨[52]⟩⟩, 4, "", ⟨[]⟩, none⟩, none, false⟩,
      ⟨⟨(some 6), .unOp .not 4 (.tmp 5), 4, "", ⟨[]⟩, none⟩, none, false⟩,
      ⟨⟨(some 7), .move (.tmp 6), 4, "", ⟨[]⟩, none⟩, none, false⟩,
      ⟨⟨(some 8), .fieldAddr 56 (.tmp 1) 1, 0, "", ⟨[]⟩, none⟩, some ((some 7), false), false⟩,
      ⟨⟨(some 9), .load 54 (.tmp 8), 54, "", ⟨[]⟩, none⟩, some ((some 7), false), false⟩,
      ⟨⟨(some 10), .call ⟨.value (.func 64), ⟨[(.tmp 9)]⟩, ⟨[54]⟩⟩, 4, "", ⟨[]⟩, none⟩, some ((some 7), false), false⟩,
      ⟨⟨(some 11), .unOp .not 4 (.tmp 10), 4, "", ⟨[]⟩, none⟩, some ((some 7), false), false⟩,
      ⟨⟨(some 12), .pick (.tmp 7) (.const (.bool true)) (.tmp 11), 4, "", ⟨[]⟩, none⟩, none, false⟩,
      ⟨⟨(some 13), .move (.tmp 12), 4, "", ⟨[]⟩, none⟩, none, false⟩,
      ⟨⟨(some 14), .fieldAddr 56 (.tmp 1) 2, 0, "", ⟨[]⟩, none⟩, some ((some 13), false), false⟩,
      ⟨⟨(some 15), .load 23 (.tmp 14), 23, "", ⟨[]⟩, none⟩, some ((some 13), false), false⟩,
      ⟨⟨(some 16), .call ⟨.value (.func 65), ⟨[(.tmp 15)]⟩, ⟨[23]⟩⟩, 4, "", ⟨[]⟩, none⟩, some ((some 13), false), false⟩,
      ⟨⟨(some 17), .unOp .not 4 (.tmp 16), 4, "", ⟨[]⟩, none⟩, some ((some 13), false), false⟩,
      ⟨⟨(some 18), .pick (.tmp 13) (.const (.bool true)) (.tmp 17), 4, "", ⟨[]⟩, none⟩, none, false⟩,
      ⟨⟨(some 19), .move (.tmp 18), 4, "", ⟨[]⟩, none⟩, none, false⟩,
      ⟨⟨(some 20), .fieldAddr 56 (.tmp 1) 3, 0, "", ⟨[]⟩, none⟩, some ((some 19), false), false⟩,
      ⟨⟨(some 21), .load 3 (.tmp 20), 3, "", ⟨[]⟩, none⟩, some ((some 19), false), false⟩,
      ⟨⟨(some 22), .call ⟨.value (.func 51), ⟨[(.tmp 21)]⟩, ⟨[3]⟩⟩, 4, "", ⟨[]⟩, none⟩, some ((some 19), false), false⟩,
      ⟨⟨(some 23), .unOp .not 4 (.tmp 22), 4, "", ⟨[]⟩, none⟩, some ((some 19), false), false⟩,
      ⟨⟨(some 24), .pick (.tmp 19) (.const (.bool true)) (.tmp 23), 4, "", ⟨[]⟩, none⟩, none, false⟩,
      ⟨⟨(some 25), .move (.tmp 24), 4, "", ⟨[]⟩, none⟩, none, false⟩,
      ⟨⟨(some 26), .fieldAddr 56 (.tmp 1) 4, 0, "", ⟨[]⟩, none⟩, some ((some 25), false), false⟩,
      ⟨⟨(some 27), .load 3 (.tmp 26), 3, "", ⟨[]⟩, none⟩, some ((some 25), false), false⟩,
      ⟨⟨(some 28), .call ⟨.value (.func 50), ⟨[(.tmp 27), (.const (.int .i64 1)), (.const (.int .i64 1073741824))]⟩, ⟨[3, 3, 3]⟩⟩, 4, "", ⟨[]⟩, none⟩, some ((some 25), false), false⟩,
      ⟨⟨(some 29), .unOp .not 4 (.tmp 28), 4, "", ⟨[]⟩, none⟩, some ((some 25), false), false⟩,
      ⟨⟨(some 30), .pick (.tmp 25) (.const (.bool true)) (.tmp 29), 4, "", ⟨[]⟩, none⟩, none, false⟩])
    (.cond (.tmp 30)
     (.seq
      (.ops false [
        ⟨⟨(some 2), .assign (.const (.int .i64 23)), 30, "", ⟨[]⟩, none⟩, none, false⟩])
      .ret)
     .skip))
   (.seq
    (.ops false [
      ⟨⟨(some 2), .assign (.const (.int .i64 0)), 30, "", ⟨[]⟩, none⟩, none, false⟩])
    .ret)))
def Try.s72 : SC :=
 (.seq
  (.ops false [
    ⟨⟨(some 1), .box 54 (.tmp 0), 0, "", ⟨[]⟩, none⟩, none, false⟩,
    ⟨⟨(some 2), .assign (.const (.int .i64 0)), 3, "", ⟨[]⟩, none⟩, none, false⟩])
  (.seq
   (.ops false [
     ⟨⟨(some 3), .fieldAddr 54 (.tmp 1) 3, 0, "", ⟨[]⟩, none⟩, none, false⟩,
     ⟨⟨(some 4), .load 3 (.tmp 3), 3, "", ⟨[]⟩, none⟩, none, false⟩,
     ⟨⟨(some 5), .fieldAddr 54 (.tmp 1) 4, 0, "", ⟨[]⟩, none⟩, none, false⟩,
     ⟨⟨(some 6), .load 3 (.tmp 5), 3, "", ⟨[]⟩, none⟩, none, false⟩,
     ⟨⟨(some 7), .binOp .add 3 (.tmp 4) (.tmp 6) 3, 3, "", ⟨[]⟩, none⟩, none, false⟩,
     ⟨⟨(some 2), .assign (.tmp 7), 3, "", ⟨[]⟩, none⟩, none, false⟩])
   .ret))
def Try.s63 : SC :=
 (.seq
  (.ops false [
    ⟨⟨(some 1), .box 52 (.tmp 0), 0, "", ⟨[]⟩, none⟩, none, false⟩,
    ⟨⟨(some 2), .assign (.const (.bool false)), 4, "", ⟨[]⟩, none⟩, none, false⟩])
  (.seq
   (.ops false [
     ⟨⟨(some 3), .fieldAddr 52 (.tmp 1) 0, 0, "", ⟨[]⟩, none⟩, none, false⟩,
     ⟨⟨(some 4), .load 3 (.tmp 3), 3, "", ⟨[]⟩, none⟩, none, false⟩,
     ⟨⟨(some 5), .call ⟨.value (.func 50), ⟨[(.tmp 4), (.const (.int .i64 0)), (.const (.int .i64 10000))]⟩, ⟨[3, 3, 3]⟩⟩, 4, "", ⟨[]⟩, none⟩, none, false⟩,
     ⟨⟨(some 6), .move (.tmp 5), 4, "", ⟨[]⟩, none⟩, none, false⟩,
     ⟨⟨(some 7), .fieldAddr 52 (.tmp 1) 1, 0, "", ⟨[]⟩, none⟩, some ((some 6), true), false⟩,
     ⟨⟨(some 8), .load 3 (.tmp 7), 3, "", ⟨[]⟩, none⟩, some ((some 6), true), false⟩,
     ⟨⟨(some 9), .call ⟨.value (.func 50), ⟨[(.tmp 8), (.const (.int .i64 0)), (.const (.int .i64 64))]⟩, ⟨[3, 3, 3]⟩⟩, 4, "", ⟨[]⟩, none⟩, some ((some 6), true), false⟩,
     ⟨⟨(some 10), .pick (.tmp 6) (.tmp 9) (.const (.bool false)), 4, "", ⟨[]⟩, none⟩, none, false⟩,
     ⟨⟨(some 2), .assign (.tmp 10), 4, "", ⟨[]⟩, none⟩, none, false⟩])
   .ret))
def Try.s64 : SC :=
 (.seq
  (.ops false [
    ⟨⟨(some 1), .box 54 (.tmp 0), 0, "", ⟨[]⟩, none⟩, none, false⟩,
    ⟨⟨(some 2), .assign (.const (.bool false)), 4, "", ⟨[]⟩, none⟩, none, false⟩])
  (.seq
   (.ops false [
     ⟨⟨(some 3), .fieldAddr 54 (.tmp 1) 0, 0, "", ⟨[]⟩, none⟩, none, false⟩,
     ⟨⟨(some 4), .load 3 (.tmp 3), 3, "", ⟨[]⟩, none⟩, none, false⟩,
     ⟨⟨(some 5), .call ⟨.value (.func 50), ⟨[(.tmp 4), (.const (.int .i64 0)), (.const (.int .i64 10000))]⟩, ⟨[3, 3, 3]⟩⟩, 4, "", ⟨[]⟩, none⟩, none, false⟩,
     ⟨⟨(some 6), .move (.tmp 5), 4, "", ⟨[]⟩, none⟩, none, false⟩,
     ⟨⟨(some 7), .fieldAddr 54 (.tmp 1) 1, 0, "", ⟨[]⟩, none⟩, some ((some 6), true), false⟩,
     ⟨⟨(some 8), .load 3 (.tmp 7), 3, "", ⟨[]⟩, none⟩, some ((some 6), true), false⟩,
     ⟨⟨(some 9), .call ⟨.value (.func 50), ⟨[(.tmp 8), (.const (.int .i64 0)), (.const (.int .i64 31))]⟩, ⟨[3, 3, 3]⟩⟩, 4, "", ⟨[]⟩, none⟩, some ((some 6), true), false⟩,
     ⟨⟨(some 10), .pick (.tmp 6) (.tmp 9) (.const (.bool false)), 4, "", ⟨[]⟩, none⟩, none, false⟩,
     ⟨⟨(some 11), .move (.tmp 10), 4, "", ⟨[]⟩, none⟩, none, false⟩,
     ⟨⟨(some 12), .fieldAddr 54 (.tmp 1) 2, 0, "", ⟨[]⟩, none⟩, some ((some 11), true), false⟩,
     ⟨⟨(some 13), .load 3 (.tmp 12), 3, "", ⟨[]⟩, none⟩, some ((some 11), true), false⟩,
     ⟨⟨(some 14), .call ⟨.value (.func 50), ⟨[(.tmp 13), (.const (.int .i64 0)), (.const (.int .i64 10000))]⟩, ⟨[3, 3, 3]⟩⟩, 4, "", ⟨[]⟩, none⟩, some ((some 11), true), false⟩,
     ⟨⟨(some 15), .pick (.tmp 11) (.tmp 14) (.const (.bool false)), 4, "", ⟨[]⟩, none⟩, none, false⟩,
     ⟨⟨(some 16), .move (.tmp 15), 4, "", ⟨[]⟩, none⟩, none, false⟩,
     ⟨⟨(some 17), .fieldAddr 54 (.tmp 1) 3, 0, "", ⟨[]⟩, none⟩, some ((some 16), true), false⟩,
     ⟨⟨(some 18), .load 3 (.tmp 17), 3, "", ⟨[]⟩, none⟩, some ((some 16), true), false⟩,
     ⟨⟨(some 19), .call ⟨.value (.func 50), ⟨[(.tmp 18), (.const (.int .i64 1)), (.const (.int .i64 366))]⟩, ⟨[3, 3, 3]⟩⟩, 4, "", ⟨[]⟩, none⟩, some ((some 16), true), false⟩,
     ⟨⟨(some 20), .pick (.tmp 16) (.tmp 19) (.const (.bool false)), 4, "", ⟨[]⟩, none⟩, none, false⟩,
     ⟨⟨(some 21), .move (.tmp 20), 4, "", ⟨[]⟩, none⟩, none, false⟩,
     ⟨⟨(some 22), .fieldAddr 54 (.tmp 1) 4, 0, "", ⟨[]⟩, none⟩, some ((some 21), true), false⟩,
     ⟨⟨(some 23), .load 3 (.tmp 22), 3, "", ⟨[]⟩, none⟩, some ((some 21), true), false⟩,
     ⟨⟨(some 24), .call ⟨.value (.func 50), ⟨[(.tmp 23), (.const (.int .i64 0)), (.const (.int .i64 60))]⟩, ⟨[3, 3, 3]⟩⟩, 4, "", ⟨[]⟩, none⟩, some ((some 21), true), false⟩,
     ⟨⟨(some 25), .pick (.tmp 21) (.tmp 24) (.const (.bool false)), 4, "", ⟨[]⟩, none⟩, none, false⟩,
     ⟨⟨(some 2), .assign (.tmp 25), 4, "", ⟨[]⟩, none⟩, none, false⟩])
   .ret))
def Try.s65 : SC :=
 (.seq
  (.ops false [
    ⟨⟨(some 2), .assign (.const (.bool false)), 4, "", ⟨[]⟩, none⟩, none, false⟩])
  (.seq
   (.seq
    (.ops false [
      ⟨⟨(some 6), .move (.tmp 0), 23, "", ⟨[]⟩, none⟩, none, false⟩,
      ⟨⟨(some 7), .call ⟨.builtin .len, ⟨[(.tmp 6)]⟩, ⟨[23]⟩⟩, 3, "", ⟨[]⟩, none⟩, none, false⟩,
      ⟨⟨(some 8), .binOp .gtr 3 (.tmp 7) (.const (.int .i64 64)) 3, 4, "", ⟨[]⟩, none⟩, none, false⟩])
    (.cond (.tmp 8)
     (.seq
      (.ops false [
        ⟨⟨(some 2), .assign (.const (.bool false)), 4, "", ⟨[]⟩, none⟩, none, false⟩])
      .ret)
     .skip))
   (.seq
    (.ops false [
      ⟨⟨(some 3), .assign (.const (.int .i64 0)), 3, "", ⟨[]⟩, none⟩, none, false⟩])
    (.seq
     (.seq
      (.ops false [
        ⟨⟨(some 9), .move (.tmp 0), 23, "", ⟨[]⟩, none⟩, none, false⟩,
        ⟨⟨(some 10), .call ⟨.builtin .len, ⟨[(.tmp 9)]⟩, ⟨[23]⟩⟩, 3, "", ⟨[]⟩, none⟩, none, false⟩,
        ⟨⟨(some 11), .move (.const (.int .i64 0)), 3, "", ⟨[]⟩, none⟩, none, false⟩])
      (.block 0
       (.loop
        (.seq
         (.ops false [
           ⟨⟨(some 12), .binOp .lss 3 (.tmp 11) (.tmp 10) 3, 0, "", ⟨[]⟩, none⟩, none, false⟩])
         (.seq
          (.cond (.tmp 12)
           .skip
           (.exit 0))
          (.seq
           (.block 1
            (.seq
             (.ops false [
               ⟨⟨(some 13), .indexAddr 23 (.tmp 9) (.tmp 11), 0, "", ⟨[]⟩, none⟩, none, false⟩,
               ⟨⟨(some 14), .load 3 (.tmp 13), 3, "", ⟨[]⟩, none⟩, none, false⟩,
               ⟨⟨(some 5), .assign (.tmp 14), 3, "", ⟨[]⟩, none⟩, none, false⟩])
             (.seq
              (.seq
               (.ops false [
                 ⟨⟨(some 15), .move (.tmp 5), 3, "", ⟨[]⟩, none⟩, none, false⟩,
                 ⟨⟨(some 16), .move (.tmp 3), 3, "", ⟨[]⟩, none⟩, none, false⟩,
                 ⟨⟨(some 17), .call ⟨.value (.func 50), ⟨[(.tmp 15), (.tmp 16), (.const (.int .i64 36500))]⟩, ⟨[3, 3, 3]⟩⟩, 4, "", ⟨[]⟩, none⟩, none, false⟩,
                 ⟨⟨(some 18), .unOp .not 4 (.tmp 17), 4, "", ⟨[]⟩, none⟩, none, false⟩])
               (.cond (.tmp 18)
                (.seq
                 (.ops false [
                   ⟨⟨(some 2), .assign (.const (.bool false)), 4, "", ⟨[]⟩, none⟩, none, false⟩])
                 .ret)
                .skip))
              (.ops false [
                ⟨⟨(some 19), .move (.tmp 5), 3, "", ⟨[]⟩, none⟩, none, false⟩,
                ⟨⟨(some 20), .binOp .add 3 (.tmp 19) (.const (.int .i64 1)) 3, 3, "", ⟨[]⟩, none⟩, none, false⟩,
                ⟨⟨(some 3), .assign (.tmp 20), 3, "", ⟨[]⟩, none⟩, none, false⟩]))))
           (.ops false [
             ⟨⟨(some 21), .binOp .add 3 (.tmp 11) (.const (.int .i64 1)) 3, 3, "", ⟨[]⟩, none⟩, none, false⟩,
             ⟨⟨(some 11), .move (.tmp 21), 3, "", ⟨[]⟩, none⟩, none, false⟩])))))))
     (.seq
      (.ops false [
        ⟨⟨(some 2), .assign (.const (.bool true)), 4, "", ⟨[]⟩, none⟩, none, false⟩])
      .ret)))))
def Try.s51 : SC :=
 (.seq
  (.ops false [
    ⟨⟨(some 2), .assign (.const (.bool false)), 4, "", ⟨[]⟩, none⟩, none, false⟩])
  (.seq
   (.ops false [
     ⟨⟨(some 3), .move (.tmp 0), 3, "", ⟨[]⟩, none⟩, none, false⟩,
     ⟨⟨(some 4), .call ⟨.value (.func 50), ⟨[(.tmp 3), (.const (.int .i64 0)), (.const (.int .i64 36500))]⟩, ⟨[3, 3, 3]⟩⟩, 4, "", ⟨[]⟩, none⟩, none, false⟩,
     ⟨⟨(some 2), .assign (.tmp 4), 4, "", ⟨[]⟩, none⟩, none, false⟩])
   .ret))
def Try.s50 : SC :=
 (.seq
  (.ops false [
    ⟨⟨(some 6), .assign (.const (.bool false)), 4, "", ⟨[]⟩, none⟩, none, false⟩])
  (.seq
   (.ops false [
     ⟨⟨(some 7), .move (.tmp 1), 3, "", ⟨[]⟩, none⟩, none, false⟩,
     ⟨⟨(some 8), .move (.tmp 0), 3, "", ⟨[]⟩, none⟩, none, false⟩,
     ⟨⟨(some 9), .binOp .leq 3 (.tmp 7) (.tmp 8) 3, 4, "", ⟨[]⟩, none⟩, none, false⟩,
     ⟨⟨(some 10), .move (.tmp 9), 4, "", ⟨[]⟩, none⟩, none, false⟩,
     ⟨⟨(some 11), .move (.tmp 0), 3, "", ⟨[]⟩, none⟩, some ((some 10), true), false⟩,
     ⟨⟨(some 12), .move (.tmp 2), 3, "", ⟨[]⟩, none⟩, some ((some 10), true), false⟩,
     ⟨⟨(some 13), .binOp .leq 3 (.tmp 11) (.tmp 12) 3, 4, "", ⟨[]⟩, none⟩, some ((some 10), true), false⟩,
     ⟨⟨(some 14), .pick (.tmp 10) (.tmp 13) (.const (.bool false)), 4, "", ⟨[]⟩, none⟩, none, false⟩,
     ⟨⟨(some 6), .assign (.tmp 14), 4, "", ⟨[]⟩, none⟩, none, false⟩])
   .ret))
def Try.s31 : SC :=
 (.seq
  (.ops false [
    ⟨⟨(some 2), .box 56 (.tmp 0), 0, "", ⟨[]⟩, none⟩, none, false⟩,
    ⟨⟨(some 4), .assign (.const (.slice none 0 0)), 23, "", ⟨[]⟩, none⟩, none, false⟩,
    ⟨⟨(some 5), .assign (.const (.int .i64 0)), 30, "", ⟨[]⟩, none⟩, none, false⟩])
  (.seq
   (.seq
    (.ops false [
      ⟨⟨(some 10), .load 56 (.tmp 2), 56, "", ⟨[]⟩, none⟩, none, false⟩,
      ⟨⟨(some 11), .call ⟨.value (.func 59), ⟨[(.tmp 10)]⟩, ⟨[56]⟩⟩, 30, "", ⟨[]⟩, none⟩, none, false⟩,
      ⟨⟨(some 6), .assign (.tmp 11), 30, "", ⟨[]⟩, none⟩, none, false⟩])
    (.seq
     (.ops false [
       ⟨⟨(some 12), .move (.tmp 6), 30, "", ⟨[]⟩, none⟩, none, false⟩,
       ⟨⟨(some 13), .binOp .neq 30 (.tmp 12) (.const (.int .i64 0)) 30, 4, "", ⟨[]⟩, none⟩, none, false⟩])
     (.cond (.tmp 13)
      (.seq
       (.ops false [
         ⟨⟨(some 14), .move (.tmp 6), 30, "", ⟨[]⟩, none⟩, none, false⟩,
         ⟨⟨(some 4), .assign (.const (.slice none 0 0)), 23, "", ⟨[]⟩, none⟩, none, false⟩,
         ⟨⟨(some 5), .assign (.tmp 14), 30, "", ⟨[]⟩, none⟩, none, false⟩])
       .ret)
      .skip)))
   (.seq
    (.seq
     (.ops false [
       ⟨⟨(some 15), .fieldAddr 56 (.tmp 2) 3, 0, "", ⟨[]⟩, none⟩, none, false⟩,
       ⟨⟨(some 16), .load 3 (.tmp 15), 3, "", ⟨[]⟩, none⟩, none, false⟩,
       ⟨⟨(some 17), .move (.tmp 1), 3, "", ⟨[]⟩, none⟩, none, false⟩,
       ⟨⟨(some 18), .call ⟨.value (.func 32), ⟨[(.tmp 16), (.tmp 17), (.const (.int .i64 36500))]⟩, ⟨[3, 3, 3]⟩⟩, 4, "", ⟨[]⟩, none⟩, none, false⟩,
       ⟨⟨(some 19), .unOp .not 4 (.tmp 18), 4, "", ⟨[]⟩, none⟩, none, false⟩])
     (.cond (.tmp 19)
      (.seq
       (.ops false [
         ⟨⟨(some 4), .assign (.const (.slice none 0 0)), 23, "", ⟨[]⟩, none⟩, none, false⟩,
         ⟨⟨(some 5), .assign (.const (.int .i64 7)), 30, "", ⟨[]⟩, none⟩, none, false⟩])
       .ret)
      .skip))
    (.seq
     (.ops false [
       ⟨⟨(some 7), .assign (.const (.slice none 0 0)), 23, "", ⟨[]⟩, none⟩, none, false⟩])
     (.seq
      (.ops false [
        ⟨⟨(some 8), .assign (.const (.int .i64 0)), 3, "", ⟨[]⟩, none⟩, none, false⟩])
      (.seq
       (.seq
        (.ops false [
          ⟨⟨(some 20), .fieldAddr 56 (.tmp 2) 3, 0, "", ⟨[]⟩, none⟩, none, false⟩,
          ⟨⟨(some 21), .load 3 (.tmp 20), 3, "", ⟨[]⟩, none⟩, none, false⟩,
          ⟨⟨(some 22), .binOp .add 3 (.tmp 21) (.const (.int .i64 1)) 3, 3, "", ⟨[]⟩, none⟩, none, false⟩,
          ⟨⟨(some 9), .assign (.tmp 22), 3, "", ⟨[]⟩, none⟩, none, false⟩])
        (.block 0
         (.loop
          (.seq
           (.seq
            (.ops false [
              ⟨⟨(some 23), .move (.tmp 9), 3, "", ⟨[]⟩, none⟩, none, false⟩,
              ⟨⟨(some 24), .move (.tmp 1), 3, "", ⟨[]⟩, none⟩, none, false⟩,
              ⟨⟨(some 25), .binOp .leq 3 (.tmp 23) (.tmp 24) 3, 4, "", ⟨[]⟩, none⟩, none, false⟩])
            (.cond (.tmp 25)
             .skip
             (.exit 0)))
           (.seq
            (.block 1
             (.seq
              (.seq
               (.ops false [
                 ⟨⟨(some 28), .fieldAddr 56 (.tmp 2) 2, 0, "", ⟨[]⟩, none⟩, none, false⟩,
                 ⟨⟨(some 29), .load 23 (.tmp 28), 23, "", ⟨[]⟩, none⟩, none, false⟩,
                 ⟨⟨(some 30), .move (.tmp 9), 3, "", ⟨[]⟩, none⟩, none, false⟩,
                 ⟨⟨(some 31), .call ⟨.value (.func 37), ⟨[(.tmp 29), (.tmp 30)]⟩, ⟨[23, 3]⟩⟩, 3, "", ⟨[]⟩, none⟩, none, false⟩,
                 ⟨⟨(some 32), .binOp .geq 3 (.tmp 31) (.const (.int .i64 0)) 3, 4, "", ⟨[]⟩, none⟩, none, false⟩])
               (.cond (.tmp 32)
                (.exit 1)
                .skip))
              (.seq
               (.ops false [
                 ⟨⟨(some 33), .move (.tmp 8), 3, "", ⟨[]⟩, none⟩, none, false⟩,
                 ⟨⟨(some 34), .binOp .add 3 (.tmp 33) (.const (.int .i64 1)) 3, 3, "", ⟨[]⟩, none⟩, none, false⟩,
                 ⟨⟨(some 8), .assign (.tmp 34), 3, "", ⟨[]⟩, none⟩, none, false⟩])
               (.seq
                (.ops false [
                  ⟨⟨(some 35), .move (.tmp 8), 3, "", ⟨[]⟩, none⟩, none, false⟩,
                  ⟨⟨(some 36), .fieldAddr 56 (.tmp 2) 1, 0, "", ⟨[]⟩, none⟩, none, false⟩,
                  ⟨⟨(some 37), .fieldAddr 54 (.tmp 36) 3, 0, "", ⟨[]⟩, none⟩, none, false⟩,
                  ⟨⟨(some 38), .load 3 (.tmp 37), 3, "", ⟨[]⟩, none⟩, none, false⟩,
                  ⟨⟨(some 39), .fieldAddr 56 (.tmp 2) 1, 0, "", ⟨[]⟩, none⟩, none, false⟩,
                  ⟨⟨(some 40), .fieldAddr 54 (.tmp 39) 4, 0, "", ⟨[]⟩, none⟩, none, false⟩,
                  ⟨⟨(some 41), .load 3 (.tmp 40), 3, "", ⟨[]⟩, none⟩, none, false⟩,
                  ⟨⟨(some 42), .binOp .add 3 (.tmp 38) (.tmp 41) 3, 3, "", ⟨[]⟩, none⟩, none, false⟩,
                  ⟨⟨(some 43), .binOp .gtr 3 (.tmp 35) (.tmp 42) 3, 4, "", ⟨[]⟩, none⟩, none, false⟩])
                (.cond (.tmp 43)
                 (.seq
                  (.ops false [
                    ⟨⟨(some 44), .move (.tmp 7), 23, "", ⟨[]⟩, none⟩, none, false⟩,
                    ⟨⟨(some 45), .move (.tmp 9), 3, "", ⟨[]⟩, none⟩, none, false⟩,
                    ⟨⟨(some 46), .binOp .sub 3 (.tmp 45) (.const (.int .i64 1)) 3, 3, "", ⟨[]⟩, none⟩, none, false⟩,
                    ⟨⟨(some 47), .buildSlice 23 1 ⟨[(0, (.tmp 46))]⟩, 23, "", ⟨[]⟩, none⟩, none, false⟩,
                    ⟨⟨(some 48), .call ⟨.builtin .append, ⟨[(.tmp 44), (.tmp 47)]⟩, ⟨[23, 23]⟩⟩, 23, "", ⟨[]⟩, none⟩, none, false⟩,
                    ⟨⟨(some 7), .assign (.tmp 48), 23, "", ⟨[]⟩, none⟩, none, false⟩])
                  (.ops false [
                    ⟨⟨(some 8), .assign (.const (.int .i64 1)), 3, "", ⟨[]⟩, none⟩, none, false⟩]))
                 .skip)))))
            (.ops false [
              ⟨⟨(some 26), .move (.tmp 9), 3, "", ⟨[]⟩, none⟩, none, false⟩,
              ⟨⟨(some 27), .binOp .add 3 (.tmp 26) (.const (.int .i64 1)) 3, 3, "", ⟨[]⟩, none⟩, none, false⟩,
              ⟨⟨(some 9), .assign (.tmp 27), 3, "", ⟨[]⟩, none⟩, none, false⟩]))))))
       (.seq
        (.seq
         (.ops false [
           ⟨⟨(some 49), .move (.tmp 7), 23, "", ⟨[]⟩, none⟩, none, false⟩,
           ⟨⟨(some 50), .call ⟨.builtin .len, ⟨[(.tmp 49)]⟩, ⟨[23]⟩⟩, 3, "", ⟨[]⟩, none⟩, none, false⟩,
           ⟨⟨(some 51), .binOp .gtr 3 (.tmp 50) (.const (.int .i64 32)) 3, 4, "", ⟨[]⟩, none⟩, none, false⟩])
         (.cond (.tmp 51)
          (.seq
           (.ops false [
             ⟨⟨(some 4), .assign (.const (.slice none 0 0)), 23, "", ⟨[]⟩, none⟩, none, false⟩,
             ⟨⟨(some 5), .assign (.const (.int .i64 3)), 30, "", ⟨[]⟩, none⟩, none, false⟩])
           .ret)
          .skip))
        (.seq
         (.ops false [
           ⟨⟨(some 52), .move (.tmp 7), 23, "", ⟨[]⟩, none⟩, none, false⟩,
           ⟨⟨(some 4), .assign (.tmp 52), 23, "", ⟨[]⟩, none⟩, none, false⟩,
           ⟨⟨(some 5), .assign (.const (.int .i64 0)), 30, "", ⟨[]⟩, none⟩, none, false⟩])
         .ret))))))))
def Try.s59 : SC :=
 (.seq
  (.ops false [
    ⟨⟨(some 1), .box 56 (.tmp 0), 0, "", ⟨[]⟩, none⟩, none, false⟩,
    ⟨⟨(some 2), .assign (.const (.int .i64 0)), 30, "", ⟨[]⟩, none⟩, none, false⟩])
  (.seq
   (.ops false [
     ⟨⟨(some 6), .fieldAddr 56 (.tmp 1) 1, 0, "", ⟨[]⟩, none⟩, none, false⟩,
     ⟨⟨(some 7), .load 54 (.tmp 6), 54, "", ⟨[]⟩, none⟩, none, false⟩,
     ⟨⟨(some 3), .alloc 54, 0, "", ⟨[]⟩, none⟩, none, false⟩,
     ⟨⟨none, .store 54 (.tmp 3) (.tmp 7), 0, "", ⟨[]⟩, none⟩, none, false⟩])
   (.seq
    (.ops false [
      ⟨⟨(some 8), .fieldAddr 56 (.tmp 1) 0, 0, "", ⟨[]⟩, none⟩, none, false⟩,
      ⟨⟨(some 9), .fieldAddr 52 (.tmp 8) 0, 0, "", ⟨[]⟩, none⟩, none, false⟩,
      ⟨⟨(some 10), .load 3 (.tmp 9), 3, "", ⟨[]⟩, none⟩, none, false⟩,
      ⟨⟨(some 11), .call ⟨.value (.func 32), ⟨[(.const (.int .i64 0)), (.tmp 10), (.const (.int .i64 10000))]⟩, ⟨[3, 3, 3]⟩⟩, 4, "", ⟨[]⟩, none⟩, none, false⟩,
      ⟨⟨(some 12), .move (.tmp 11), 4, "", ⟨[]⟩, none⟩, none, false⟩,
      ⟨⟨(some 13), .fieldAddr 56 (.tmp 1) 0, 0, "", ⟨[]⟩, none⟩, some ((some 12), true), false⟩,
      ⟨⟨(some 14), .fieldAddr 52 (.tmp 13) 1, 0, "", ⟨[]⟩, none⟩, some ((some 12), true), false⟩,
      ⟨⟨(some 15), .load 3 (.tmp 14), 3, "", ⟨[]⟩, none⟩, some ((some 12), true), false⟩,
      ⟨⟨(some 16), .call ⟨.value (.func 32), ⟨[(.const (.int .i64 0)), (.tmp 15), (.const (.int .i64 64))]⟩, ⟨[3, 3, 3]⟩⟩, 4, "", ⟨[]⟩, none⟩, some ((some 12), true), false⟩,
      ⟨⟨(some 17), .pick (.tmp 12) (.tmp 16) (.const (.bool false)), 4, "", ⟨[]⟩, none⟩, none, false⟩,
      ⟨⟨(some 18), .move (.tmp 17), 4, "", ⟨[]⟩, none⟩, none, false⟩,
      ⟨⟨(some 19), .fieldAddr 54 (.tmp 3) 0, 0, "", ⟨[]⟩, none⟩, some ((some 18), true), false⟩,
      ⟨⟨(some 20), .load 3 (.tmp 19), 3, "", ⟨[]⟩, none⟩, some ((some 18), true), false⟩,
      ⟨⟨(some 21), .call ⟨.value (.func 32), ⟨[(.const (.int .i64 0)), (.tmp 20), (.const (.int .i64 10000))]⟩, ⟨[3, 3, 3]⟩⟩, 4, "", ⟨[]⟩, none⟩, some ((some 18), true), false⟩,
      ⟨⟨(some 22), .pick (.tmp 18) (.tmp 21) (.const (.bool false)), 4, "", ⟨[]⟩, none⟩, none, false⟩,
      ⟨⟨(some 23), .move (.tmp 22), 4, "", ⟨[]⟩, none⟩, none, false⟩,
      ⟨⟨(some 24), .fieldAddr 54 (.tmp 3) 1, 0, "", ⟨[]⟩, none⟩, some ((some 23), true), false⟩,
      ⟨⟨(some 25), .load 3 (.tmp 24), 3, "", ⟨[]⟩, none⟩, some ((some 23), true), false⟩,
      ⟨⟨(some 26), .call ⟨.value (.func 32), ⟨[(.const (.int .i64 0)), (.tmp 25), (.const (.int .i64 31))]⟩, ⟨[3, 3, 3]⟩⟩, 4, "", ⟨[]⟩, none⟩, some ((some 23), true), false⟩,
      ⟨⟨(some 27), .pick (.tmp 23) (.tmp 26) (.const (.bool false)), 4, "", ⟨[]⟩, none⟩, none, false⟩,
      ⟨⟨(some 28), .move (.tmp 27), 4, "", ⟨[]⟩, none⟩, none, false⟩,
      ⟨⟨(some 29), .fieldAddr 54 (.tmp 3) 2, 0, "", ⟨[]⟩, none⟩, some ((some 28), true), false⟩,
      ⟨⟨(some 30), .load 3 (.tmp 29), 3, "", ⟨[]⟩, none⟩, some ((some 28), true), false⟩,
      ⟨⟨(some 31), .call ⟨.value (.func 32), ⟨[(.const (.int .i64 0)), (.tmp 30), (.const (.int .i64 10000))]⟩, ⟨[3, 3, 3]⟩⟩, 4, "", ⟨[]⟩, none⟩, some ((some 28), true), false⟩,
      ⟨⟨(some 32), .pick (.tmp 28) (.tmp 31) (.const (.bool false)), 4, "", ⟨[]⟩, none⟩, none, false⟩,
      ⟨⟨(some 33), .move (.tmp 32), 4, "", ⟨[]⟩, none⟩, none, false⟩,
      ⟨⟨(some 34), .fieldAddr 54 (.tmp 3) 3, 0, "", ⟨[]⟩, none⟩, some ((some 33), true), false⟩,
      ⟨⟨(some 35), .load 3 (.tmp 34), 3, "", ⟨[]⟩, none⟩, some ((some 33), true), false⟩,
      ⟨⟨(some 36), .call ⟨.value (.func 32), ⟨[(.const (.int .i64 1)), (.tmp 35), (.const (.int .i64 366))]⟩, ⟨[3, 3, 3]⟩⟩, 4, "", ⟨[]⟩, none⟩, some ((some 33), true), false⟩,
      ⟨⟨(some 37), .pick (.tmp 33) (.tmp 36) (.const (.bool false)), 4, "", ⟨[]⟩, none⟩, none, false⟩,
      ⟨⟨(some 38), .move (.tmp 37), 4, "", ⟨[]⟩, none⟩, none, false⟩,
      ⟨⟨(some 39), .fieldAddr 54 (.tmp 3) 4, 0, "", ⟨[]⟩, none⟩, some ((some 38), true), false⟩,
      ⟨⟨(some 40), .load 3 (.tmp 39), 3, "", ⟨[]⟩, none⟩, some ((some 38), true), false⟩,
      ⟨⟨(some 41), .call ⟨.value (.func 32), ⟨[(.const (.int .i64 0)), (.tmp 40), (.const (.int .i64 60))]⟩, ⟨[3, 3, 3]⟩⟩, 4, "", ⟨[]⟩, none⟩, some ((some 38), true), false⟩,
      ⟨⟨(some 42), .pick (.tmp 38) (.tmp 41) (.const (.bool false)), 4, "", ⟨[]⟩, none⟩, none, false⟩,
      ⟨⟨(some 4), .assign (.tmp 42), 4, "", ⟨[]⟩, none⟩, none, false⟩])
    (.seq
     (.ops false [
       ⟨⟨(some 43), .move (.tmp 4), 4, "", ⟨[]⟩, none⟩, none, false⟩,
       ⟨⟨(some 44), .move (.tmp 43), 4, "", ⟨[]⟩, none⟩, none, false⟩,
       ⟨⟨(some 45), .fieldAddr 56 (.tmp 1) 2, 0, "", ⟨[]⟩, none⟩, some ((some 44), true), false⟩,
       ⟨⟨(some 46), .load 23 (.tmp 45), 23, "", ⟨[]⟩, none⟩, some ((some 44), true), false⟩,
       ⟨⟨(some 47), .call ⟨.builtin .len, ⟨[(.tmp 46)]⟩, ⟨[23]⟩⟩, 3, "", ⟨[]⟩, none⟩, some ((some 44), true), false⟩,
       ⟨⟨(some 48), .binOp .leq 3 (.tmp 47) (.const (.int .i64 64)) 3, 4, "", ⟨[]⟩, none⟩, some ((some 44), true), false⟩,
       ⟨⟨(some 49), .pick (.tmp 44) (.tmp 48) (.const (.bool false)), 4, "", ⟨[]⟩, none⟩, none, false⟩,
       ⟨⟨(some 50), .move (.tmp 49), 4, "", ⟨[]⟩, none⟩, none, false⟩,
       ⟨⟨(some 51), .fieldAddr 56 (.tmp 1) 3, 0, "", ⟨[]⟩, none⟩, some ((some 50), true), false⟩,
       ⟨⟨(some 52), .load 3 (.tmp 51), 3, "", ⟨[]⟩, none⟩, some ((some 50), true), false⟩,
       ⟨⟨(some 53), .call ⟨.value (.func 32), ⟨[(.const (.int .i64 0)), (.tmp 52), (.const (.int .i64 36500))]⟩, ⟨[3, 3, 3]⟩⟩, 4, "", ⟨[]⟩, none⟩, some ((some 50), true), false⟩,
       ⟨⟨(some 54), .pick (.tmp 50) (.tmp 53) (.const (.bool false)), 4, "", ⟨[]⟩, none⟩, none, false⟩,
       ⟨⟨(some 55), .move (.tmp 54), 4, "", ⟨[]⟩, none⟩, none, false⟩,
       ⟨⟨(some 56), .fieldAddr 56 (.tmp 1) 4, 0, "", ⟨[]⟩, none⟩, some ((some 55), true), false⟩,
       ⟨⟨(some 57), .load 3 (.tmp 56), 3, "", ⟨[]⟩, none⟩, some ((some 55), true), false⟩,
       ⟨⟨(some 58), .call ⟨.value (.func 32), ⟨[(.const (.int .i64 1)), (.tmp 57), (.const (.int .i64 1073741824))]⟩, ⟨[3, 3, 3]⟩⟩, 4, "", ⟨[]⟩, none⟩, some ((some 55), true), false⟩,
       ⟨⟨(some 59), .pick (.tmp 55) (.tmp 58) (.const (.bool false)), 4, "", ⟨[]⟩, none⟩, none, false⟩,
       ⟨⟨(some 4), .assign (.tmp 59), 4, "", ⟨[]⟩, none⟩, none, false⟩])
     (.seq
      (.seq
       (.ops false [
         ⟨⟨(some 5), .assign (.const (.int .i64 0)), 3, "", ⟨[]⟩, none⟩, none, false⟩])
       (.block 0
        (.loop
         (.seq
          (.seq
           (.ops false [
             ⟨⟨(some 60), .move (.tmp 5), 3, "", ⟨[]⟩, none⟩, none, false⟩,
             ⟨⟨(some 61), .fieldAddr 56 (.tmp 1) 2, 0, "", ⟨[]⟩, none⟩, none, false⟩,
             ⟨⟨(some 62), .load 23 (.tmp 61), 23, "", ⟨[]⟩, none⟩, none, false⟩,
             ⟨⟨(some 63), .call ⟨.builtin .len, ⟨[(.tmp 62)]⟩, ⟨[23]⟩⟩, 3, "", ⟨[]⟩, none⟩, none, false⟩,
             ⟨⟨(some 64), .binOp .lss 3 (.tmp 60) (.tmp 63) 3, 4, "", ⟨[]⟩, none⟩, none, false⟩])
           (.cond (.tmp 64)
            .skip
            (.exit 0)))
          (.seq
           (.block 1
            (.ops true [
              ⟨⟨(some 67), .move (.tmp 4), 4, "", ⟨[]⟩, none⟩, none, true⟩,
              ⟨⟨(some 68), .move (.tmp 67), 4, "", ⟨[]⟩, none⟩, none, true⟩,
              ⟨⟨(some 69), .fieldAddr 56 (.tmp 1) 2, 0, "", ⟨[]⟩, none⟩, some ((some 68), true), true⟩,
              ⟨⟨(some 70), .load 23 (.tmp 69), 23, "", ⟨[]⟩, none⟩, some ((some 68), true), true⟩,
              ⟨⟨(some 71), .move (.tmp 5), 3, "", ⟨[]⟩, none⟩, some ((some 68), true), true⟩,
              ⟨⟨(some 72), .indexAddr 23 (.tmp 70) (.tmp 71), 0, "", ⟨[]⟩, none⟩, some ((some 68), true), true⟩,
              ⟨⟨(some 73), .load 3 (.tmp 72), 3, "", ⟨[]⟩, none⟩, some ((some 68), true), true⟩,
              ⟨⟨(some 74), .call ⟨.value (.func 32), ⟨[(.const (.int .i64 0)), (.tmp 73), (.const (.int .i64 36500))]⟩, ⟨[3, 3, 3]⟩⟩, 4, "", ⟨[]⟩, none⟩, some ((some 68), true), false⟩,
              ⟨⟨(some 75), .pick (.tmp 68) (.tmp 74) (.const (.bool false)), 4, "", ⟨[]⟩, none⟩, none, true⟩,
              ⟨⟨(some 76), .move (.tmp 75), 4, "", ⟨[]⟩, none⟩, none, true⟩,
              ⟨⟨(some 77), .move (.tmp 5), 3, "", ⟨[]⟩, none⟩, some ((some 76), true), true⟩,
              ⟨⟨(some 78), .binOp .eql 3 (.tmp 77) (.const (.int .i64 0)) 3, 4, "", ⟨[]⟩, none⟩, some ((some 76), true), true⟩,
              ⟨⟨(some 79), .move (.tmp 78), 4, "", ⟨[]⟩, none⟩, some ((some 76), true), true⟩,
              ⟨⟨(some 80), .fieldAddr 56 (.tmp 1) 2, 0, "", ⟨[]⟩, none⟩, some ((some 79), false), true⟩,
              ⟨⟨(some 81), .load 23 (.tmp 80), 23, "", ⟨[]⟩, none⟩, some ((some 79), false), true⟩,
              ⟨⟨(some 82), .move (.tmp 5), 3, "", ⟨[]⟩, none⟩, some ((some 79), false), true⟩,
              ⟨⟨(some 83), .binOp .sub 3 (.tmp 82) (.const (.int .i64 1)) 3, 3, "", ⟨[]⟩, none⟩, some ((some 79), false), true⟩,
              ⟨⟨(some 84), .indexAddr 23 (.tmp 81) (.tmp 83), 0, "", ⟨[]⟩, none⟩, some ((some 79), false), true⟩,
              ⟨⟨(some 85), .load 3 (.tmp 84), 3, "", ⟨[]⟩, none⟩, some ((some 79), false), true⟩,
              ⟨⟨(some 86), .fieldAddr 56 (.tmp 1) 2, 0, "", ⟨[]⟩, none⟩, some ((some 79), false), true⟩,
              ⟨⟨(some 87), .load 23 (.tmp 86), 23, "", ⟨[]⟩, none⟩, some ((some 79), false), true⟩,
              ⟨⟨(some 88), .move (.tmp 5), 3, "", ⟨[]⟩, none⟩, some ((some 79), false), true⟩,
              ⟨⟨(some 89), .indexAddr 23 (.tmp 87) (.tmp 88), 0, "", ⟨[]⟩, none⟩, some ((some 79), false), true⟩,
              ⟨⟨(some 90), .load 3 (.tmp 89), 3, "", ⟨[]⟩, none⟩, some ((some 79), false), true⟩,
              ⟨⟨(some 91), .binOp .lss 3 (.tmp 85) (.tmp 90) 3, 4, "", ⟨[]⟩, none⟩, some ((some 79), false), true⟩,
              ⟨⟨(some 92), .pick (.tmp 79) (.const (.bool true)) (.tmp 91), 4, "", ⟨[]⟩, none⟩, some ((some 76), true), true⟩,
              ⟨⟨(some 93), .pick (.tmp 76) (.tmp 92) (.const (.bool false)), 4, "", ⟨[]⟩, none⟩, none, true⟩,
              ⟨⟨(some 4), .assign (.tmp 93), 4, "", ⟨[]⟩, none⟩, none, true⟩]))
           (.ops false [
             ⟨⟨(some 65), .move (.tmp 5), 3, "", ⟨[]⟩, none⟩, none, false⟩,
             ⟨⟨(some 66), .binOp .add 3 (.tmp 65) (.const (.int .i64 1)) 3, 3, "", ⟨[]⟩, none⟩, none, false⟩,
             ⟨⟨(some 5), .assign (.tmp 66), 3, "", ⟨[]⟩, none⟩, none, false⟩]))))))
      (.seq
       (.seq
        (.ops false [
          ⟨⟨(some 94), .move (.tmp 4), 4, "", ⟨[]⟩, none⟩, none, false⟩,
          ⟨⟨(some 95), .unOp .not 4 (.tmp 94), 4, "", ⟨[]⟩, none⟩, none, false⟩])
        (.cond (.tmp 95)
         (.seq
          (.ops false [
            ⟨⟨(some 2), .assign (.const (.int .i64 23)), 30, "", ⟨[]⟩, none⟩, none, false⟩])
          .ret)
         .skip))
       (.seq
        (.ops false [
          ⟨⟨(some 2), .assign (.const (.int .i64 0)), 30, "", ⟨[]⟩, none⟩, none, false⟩])
        .ret)))))))
def Try.s32 : SC :=
 (.seq
  (.ops false [
    ⟨⟨(some 6), .assign (.const (.bool false)), 4, "", ⟨[]⟩, none⟩, none, false⟩])
  (.seq
   (.ops false [
     ⟨⟨(some 7), .move (.tmp 0), 3, "", ⟨[]⟩, none⟩, none, false⟩,
     ⟨⟨(some 8), .move (.tmp 1), 3, "", ⟨[]⟩, none⟩, none, false⟩,
     ⟨⟨(some 9), .binOp .leq 3 (.tmp 7) (.tmp 8) 3, 4, "", ⟨[]⟩, none⟩, none, false⟩,
     ⟨⟨(some 10), .move (.tmp 9), 4, "", ⟨[]⟩, none⟩, none, false⟩,
     ⟨⟨(some 11), .move (.tmp 1), 3, "", ⟨[]⟩, none⟩, some ((some 10), true), false⟩,
     ⟨⟨(some 12), .move (.tmp 2), 3, "", ⟨[]⟩, none⟩, some ((some 10), true), false⟩,
     ⟨⟨(some 13), .binOp .leq 3 (.tmp 11) (.tmp 12) 3, 4, "", ⟨[]⟩, none⟩, some ((some 10), true), false⟩,
     ⟨⟨(some 14), .pick (.tmp 10) (.tmp 13) (.const (.bool false)), 4, "", ⟨[]⟩, none⟩, none, false⟩,
     ⟨⟨(some 6), .assign (.tmp 14), 4, "", ⟨[]⟩, none⟩, none, false⟩])
   .ret))
def Try.s37 : SC :=
 (.seq
  (.ops false [
    ⟨⟨(some 4), .assign (.const (.int .i64 0)), 3, "", ⟨[]⟩, none⟩, none, false⟩])
  (.seq
   (.seq
    (.ops false [
      ⟨⟨(some 5), .assign (.const (.int .i64 0)), 3, "", ⟨[]⟩, none⟩, none, false⟩])
    (.block 0
     (.loop
      (.seq
       (.seq
        (.ops false [
          ⟨⟨(some 6), .move (.tmp 5), 3, "", ⟨[]⟩, none⟩, none, false⟩,
          ⟨⟨(some 7), .move (.tmp 0), 23, "", ⟨[]⟩, none⟩, none, false⟩,
          ⟨⟨(some 8), .call ⟨.builtin .len, ⟨[(.tmp 7)]⟩, ⟨[23]⟩⟩, 3, "", ⟨[]⟩, none⟩, none, false⟩,
          ⟨⟨(some 9), .binOp .lss 3 (.tmp 6) (.tmp 8) 3, 4, "", ⟨[]⟩, none⟩, none, false⟩])
        (.cond (.tmp 9)
         .skip
         (.exit 0)))
       (.seq
        (.block 1
         (.seq
          (.ops false [
            ⟨⟨(some 12), .move (.tmp 0), 23, "", ⟨[]⟩, none⟩, none, false⟩,
            ⟨⟨(some 13), .move (.tmp 5), 3, "", ⟨[]⟩, none⟩, none, false⟩,
            ⟨⟨(some 14), .indexAddr 23 (.tmp 12) (.tmp 13), 0, "", ⟨[]⟩, none⟩, none, false⟩,
            ⟨⟨(some 15), .load 3 (.tmp 14), 3, "", ⟨[]⟩, none⟩, none, false⟩,
            ⟨⟨(some 16), .move (.tmp 1), 3, "", ⟨[]⟩, none⟩, none, false⟩,
            ⟨⟨(some 17), .binOp .eql 3 (.tmp 15) (.tmp 16) 3, 4, "", ⟨[]⟩, none⟩, none, false⟩])
          (.cond (.tmp 17)
           (.seq
            (.ops false [
              ⟨⟨(some 18), .move (.tmp 5), 3, "", ⟨[]⟩, none⟩, none, false⟩,
              ⟨⟨(some 4), .assign (.tmp 18), 3, "", ⟨[]⟩, none⟩, none, false⟩])
            .ret)
           .skip)))
        (.ops false [
          ⟨⟨(some 10), .move (.tmp 5), 3, "", ⟨[]⟩, none⟩, none, false⟩,
          ⟨⟨(some 11), .binOp .add 3 (.tmp 10) (.const (.int .i64 1)) 3, 3, "", ⟨[]⟩, none⟩, none, false⟩,
          ⟨⟨(some 5), .assign (.tmp 11), 3, "", ⟨[]⟩, none⟩, none, false⟩]))))))
   (.seq
    (.ops false [
      ⟨⟨(some 4), .assign (.const (.int .i64 (-1))), 3, "", ⟨[]⟩, none⟩, none, false⟩])
    .ret)))
def Try.s16 : SC :=
 (.seq
  (.ops false [
    ⟨⟨(some 4), .assign (.const (.bool false)), 4, "", ⟨[]⟩, none⟩, none, false⟩])
  (.seq
   (.ops false [
     ⟨⟨(some 7), .move (.tmp 0), 23, "", ⟨[]⟩, none⟩, none, false⟩,
     ⟨⟨(some 8), .call ⟨.builtin .len, ⟨[(.tmp 7)]⟩, ⟨[23]⟩⟩, 3, "", ⟨[]⟩, none⟩, none, false⟩,
     ⟨⟨(some 9), .move (.tmp 1), 23, "", ⟨[]⟩, none⟩, none, false⟩,
     ⟨⟨(some 10), .call ⟨.builtin .len, ⟨[(.tmp 9)]⟩, ⟨[23]⟩⟩, 3, "", ⟨[]⟩, none⟩, none, false⟩,
     ⟨⟨(some 11), .binOp .eql 3 (.tmp 8) (.tmp 10) 3, 4, "", ⟨[]⟩, none⟩, none, false⟩,
     ⟨⟨(some 5), .assign (.tmp 11), 4, "", ⟨[]⟩, none⟩, none, false⟩])
   (.seq
    (.seq
     (.ops false [
       ⟨⟨(some 6), .assign (.const (.int .i64 0)), 3, "", ⟨[]⟩, none⟩, none, false⟩])
     (.block 0
      (.loop
       (.seq
        (.seq
         (.ops false [
           ⟨⟨(some 12), .move (.tmp 5), 4, "", ⟨[]⟩, none⟩, none, false⟩,
           ⟨⟨(some 13), .move (.tmp 12), 4, "", ⟨[]⟩, none⟩, none, false⟩,
           ⟨⟨(some 14), .move (.tmp 6), 3, "", ⟨[]⟩, none⟩, some ((some 13), true), false⟩,
           ⟨⟨(some 15), .move (.tmp 0), 23, "", ⟨[]⟩, none⟩, some ((some 13), true), false⟩,
           ⟨⟨(some 16), .call ⟨.builtin .len, ⟨[(.tmp 15)]⟩, ⟨[23]⟩⟩, 3, "", ⟨[]⟩, none⟩, some ((some 13), true), false⟩,
           ⟨⟨(some 17), .binOp .lss 3 (.tmp 14) (.tmp 16) 3, 4, "", ⟨[]⟩, none⟩, some ((some 13), true), false⟩,
           ⟨⟨(some 18), .pick (.tmp 13) (.tmp 17) (.const (.bool false)), 4, "", ⟨[]⟩, none⟩, none, false⟩])
         (.cond (.tmp 18)
          .skip
          (.exit 0)))
        (.seq
         (.block 1
          (.ops true [
            ⟨⟨(some 21), .move (.tmp 0), 23, "", ⟨[]⟩, none⟩, none, true⟩,
            ⟨⟨(some 22), .move (.tmp 6), 3, "", ⟨[]⟩, none⟩, none, true⟩,
            ⟨⟨(some 23), .indexAddr 23 (.tmp 21) (.tmp 22), 0, "", ⟨[]⟩, none⟩, none, true⟩,
            ⟨⟨(some 24), .load 3 (.tmp 23), 3, "", ⟨[]⟩, none⟩, none, true⟩,
            ⟨⟨(some 25), .move (.tmp 1), 23, "", ⟨[]⟩, none⟩, none, true⟩,
            ⟨⟨(some 26), .move (.tmp 6), 3, "", ⟨[]⟩, none⟩, none, true⟩,
            ⟨⟨(some 27), .indexAddr 23 (.tmp 25) (.tmp 26), 0, "", ⟨[]⟩, none⟩, none, true⟩,
            ⟨⟨(some 28), .load 3 (.tmp 27), 3, "", ⟨[]⟩, none⟩, none, true⟩,
            ⟨⟨(some 29), .binOp .eql 3 (.tmp 24) (.tmp 28) 3, 4, "", ⟨[]⟩, none⟩, none, true⟩,
            ⟨⟨(some 5), .assign (.tmp 29), 4, "", ⟨[]⟩, none⟩, none, true⟩]))
         (.ops false [
           ⟨⟨(some 19), .move (.tmp 6), 3, "", ⟨[]⟩, none⟩, none, false⟩,
           ⟨⟨(some 20), .binOp .add 3 (.tmp 19) (.const (.int .i64 1)) 3, 3, "", ⟨[]⟩, none⟩, none, false⟩,
           ⟨⟨(some 6), .assign (.tmp 20), 3, "", ⟨[]⟩, none⟩, none, false⟩]))))))
    (.seq
     (.ops false [
       ⟨⟨(some 30), .move (.tmp 5), 4, "", ⟨[]⟩, none⟩, none, false⟩,
       ⟨⟨(some 4), .assign (.tmp 30), 4, "", ⟨[]⟩, none⟩, none, false⟩])
     .ret))))
theorem Try.s5_eq : Try.f5.body.map sOf = some Try.s5 := by kernel_rfl
theorem Try.s30_eq : Try.f30.body.map sOf = some Try.s30 := by kernel_rfl
theorem Try.s58_eq : Try.f58.body.map sOf = some Try.s58 := by kernel_rfl
theorem Try.s41_eq : Try.f41.body.map sOf = some Try.s41 := by kernel_rfl
theorem Try.s72_eq : Try.f72.body.map sOf = some Try.s72 := by kernel_rfl
theorem Try.s63_eq : Try.f63.body.map sOf = some Try.s63 := by kernel_rfl
theorem Try.s64_eq : Try.f64.body.map sOf = some Try.s64 := by kernel_rfl
theorem Try.s65_eq : Try.f65.body.map sOf = some Try.s65 := by kernel_rfl
theorem Try.s51_eq : Try.f51.body.map sOf = some Try.s51 := by kernel_rfl
theorem Try.s50_eq : Try.f50.body.map sOf = some Try.s50 := by kernel_rfl
theorem Try.s31_eq : Try.f31.body.map sOf = some Try.s31 := by kernel_rfl
theorem Try.s59_eq : Try.f59.body.map sOf = some Try.s59 := by kernel_rfl
theorem Try.s32_eq : Try.f32.body.map sOf = some Try.s32 := by kernel_rfl
theorem Try.s37_eq : Try.f37.body.map sOf = some Try.s37 := by kernel_rfl
theorem Try.s16_eq : Try.f16.body.map sOf = some Try.s16 := by kernel_rfl
end Go.Proofs
