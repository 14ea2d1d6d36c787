/- The stripped code of the functions of halves. -/
import Derived.Test.YtbpglhajhmacmaaTa
import Derived.Test.YtbpglhajhmacmaaNa
set_option linter.unusedVariables false
set_option linter.unusedSimpArgs false
/- Functions' code, as the machine reads it. -/
namespace Go.Proofs
open Go Go.RowKit Go.Sim
set_option maxRecDepth 100000
def Try.s4 : SC :=
 (.seq
  (.ops false [
    ⟨⟨(some 6), .assign (.const (.bool false)), 4, "", ⟨[]⟩, none⟩, none, false⟩])
  (.seq
   (.ops false [
     ⟨⟨(some 12), .move (.tmp 0), 27, "", ⟨[]⟩, none⟩, none, false⟩,
     ⟨⟨(some 13), .move (.tmp 1), 27, "", ⟨[]⟩, none⟩, none, false⟩,
     ⟨⟨(some 14), .call ⟨.value (.func 20), ⟨[(.tmp 12), (.tmp 13)]⟩, ⟨[27, 27]⟩⟩, 25, "", ⟨[]⟩, none⟩, none, false⟩,
     ⟨⟨(some 11), .move (.tmp 14), 25, "", ⟨[]⟩, none⟩, none, false⟩,
     ⟨⟨(some 15), .extract (.tmp 11) 0, 3, "", ⟨[]⟩, none⟩, none, false⟩,
     ⟨⟨(some 16), .extract (.tmp 11) 1, 22, "", ⟨[]⟩, none⟩, none, false⟩,
     ⟨⟨(some 7), .assign (.tmp 15), 3, "", ⟨[]⟩, none⟩, none, false⟩,
     ⟨⟨(some 8), .assign (.tmp 16), 22, "", ⟨[]⟩, none⟩, none, false⟩])
   (.seq
    (.ops false [
      ⟨⟨(some 18), .move (.tmp 0), 27, "", ⟨[]⟩, none⟩, none, false⟩,
      ⟨⟨(some 19), .move (.tmp 1), 27, "", ⟨[]⟩, none⟩, none, false⟩,
      ⟨⟨(some 20), .call ⟨.value (.func 21), ⟨[(.tmp 18), (.tmp 19)]⟩, ⟨[27, 27]⟩⟩, 25, "", ⟨[]⟩, none⟩, none, false⟩,
      ⟨⟨(some 17), .move (.tmp 20), 25, "", ⟨[]⟩, none⟩, none, false⟩,
      ⟨⟨(some 21), .extract (.tmp 17) 0, 3, "", ⟨[]⟩, none⟩, none, false⟩,
      ⟨⟨(some 22), .extract (.tmp 17) 1, 22, "", ⟨[]⟩, none⟩, none, false⟩,
      ⟨⟨(some 9), .assign (.tmp 21), 3, "", ⟨[]⟩, none⟩, none, false⟩,
      ⟨⟨(some 10), .assign (.tmp 22), 22, "", ⟨[]⟩, none⟩, none, false⟩])
    (.seq
     (.seq
      (.ops false [
        ⟨⟨(some 23), .move (.tmp 7), 3, "", ⟨[]⟩, none⟩, none, false⟩,
        ⟨⟨(some 24), .move (.tmp 9), 3, "", ⟨[]⟩, none⟩, none, false⟩,
        ⟨⟨(some 25), .binOp .neq 3 (.tmp 23) (.tmp 24) 3, 4, "", ⟨[]⟩, none⟩, none, false⟩,
        ⟨⟨(some 26), .move (.tmp 25), 4, "", ⟨[]⟩, none⟩, none, false⟩,
        ⟨⟨(some 27), .move (.tmp 8), 22, "", ⟨[]⟩, none⟩, some ((some 26), false), false⟩,
        ⟨⟨(some 28), .move (.tmp 10), 22, "", ⟨[]⟩, none⟩, some ((some 26), false), false⟩,
        ⟨⟨(some 29), .binOp .neq 22 (.tmp 27) (.tmp 28) 22, 4, "", ⟨[]⟩, none⟩, some ((some 26), false), false⟩,
        ⟨⟨(some 30), .pick (.tmp 26) (.const (.bool true)) (.tmp 29), 4, "", ⟨[]⟩, none⟩, none, false⟩])
      (.cond (.tmp 30)
       (.seq
        (.ops false [
          ⟨⟨(some 6), .assign (.const (.bool false)), 4, "", ⟨[]⟩, none⟩, none, false⟩])
        .ret)
       .skip))
     (.seq
      (.ops false [
        ⟨⟨(some 32), .move (.tmp 0), 27, "", ⟨[]⟩, none⟩, none, false⟩,
        ⟨⟨(some 33), .move (.tmp 2), 33, "", ⟨[]⟩, none⟩, none, false⟩,
        ⟨⟨(some 34), .call ⟨.value (.func 22), ⟨[(.tmp 32), (.tmp 33)]⟩, ⟨[27, 33]⟩⟩, 25, "", ⟨[]⟩, none⟩, none, false⟩,
        ⟨⟨(some 31), .move (.tmp 34), 25, "", ⟨[]⟩, none⟩, none, false⟩,
        ⟨⟨(some 35), .extract (.tmp 31) 0, 3, "", ⟨[]⟩, none⟩, none, false⟩,
        ⟨⟨(some 36), .extract (.tmp 31) 1, 22, "", ⟨[]⟩, none⟩, none, false⟩,
        ⟨⟨(some 7), .assign (.tmp 35), 3, "", ⟨[]⟩, none⟩, none, false⟩,
        ⟨⟨(some 8), .assign (.tmp 36), 22, "", ⟨[]⟩, none⟩, none, false⟩])
      (.seq
       (.ops false [
         ⟨⟨(some 38), .move (.tmp 0), 27, "", ⟨[]⟩, none⟩, none, false⟩,
         ⟨⟨(some 39), .move (.tmp 2), 33, "", ⟨[]⟩, none⟩, none, false⟩,
         ⟨⟨(some 40), .call ⟨.value (.func 23), ⟨[(.tmp 38), (.tmp 39)]⟩, ⟨[27, 33]⟩⟩, 25, "", ⟨[]⟩, none⟩, none, false⟩,
         ⟨⟨(some 37), .move (.tmp 40), 25, "", ⟨[]⟩, none⟩, none, false⟩,
         ⟨⟨(some 41), .extract (.tmp 37) 0, 3, "", ⟨[]⟩, none⟩, none, false⟩,
         ⟨⟨(some 42), .extract (.tmp 37) 1, 22, "", ⟨[]⟩, none⟩, none, false⟩,
         ⟨⟨(some 9), .assign (.tmp 41), 3, "", ⟨[]⟩, none⟩, none, false⟩,
         ⟨⟨(some 10), .assign (.tmp 42), 22, "", ⟨[]⟩, none⟩, none, false⟩])
       (.seq
        (.ops false [
          ⟨⟨(some 43), .move (.tmp 7), 3, "", ⟨[]⟩, none⟩, none, false⟩,
          ⟨⟨(some 44), .move (.tmp 9), 3, "", ⟨[]⟩, none⟩, none, false⟩,
          ⟨⟨(some 45), .binOp .eql 3 (.tmp 43) (.tmp 44) 3, 4, "", ⟨[]⟩, none⟩, none, false⟩,
          ⟨⟨(some 46), .move (.tmp 45), 4, "", ⟨[]⟩, none⟩, none, false⟩,
          ⟨⟨(some 47), .move (.tmp 8), 22, "", ⟨[]⟩, none⟩, some ((some 46), true), false⟩,
          ⟨⟨(some 48), .move (.tmp 10), 22, "", ⟨[]⟩, none⟩, some ((some 46), true), false⟩,
          ⟨⟨(some 49), .binOp .eql 22 (.tmp 47) (.tmp 48) 22, 4, "", ⟨[]⟩, none⟩, some ((some 46), true), false⟩,
          ⟨⟨(some 50), .pick (.tmp 46) (.tmp 49) (.const (.bool false)), 4, "", ⟨[]⟩, none⟩, none, false⟩,
          ⟨⟨(some 51), .move (.tmp 50), 4, "", ⟨[]⟩, none⟩, none, false⟩,
          ⟨⟨(some 52), .call ⟨.value (.func 19), ⟨[]⟩, ⟨[]⟩⟩, 4, "", ⟨[]⟩, none⟩, some ((some 51), true), false⟩,
          ⟨⟨(some 53), .pick (.tmp 51) (.tmp 52) (.const (.bool false)), 4, "", ⟨[]⟩, none⟩, none, false⟩,
          ⟨⟨(some 6), .assign (.tmp 53), 4, "", ⟨[]⟩, none⟩, none, false⟩])
        .ret)))))))
def Try.s9 : SC :=
 (.seq
  (.ops false [
    ⟨⟨(some 4), .assign (.const (.bool false)), 4, "", ⟨[]⟩, none⟩, none, false⟩])
  (.seq
   (.ops false [
     ⟨⟨(some 16), .move (.tmp 0), 27, "", ⟨[]⟩, none⟩, none, false⟩,
     ⟨⟨(some 17), .move (.tmp 1), 33, "", ⟨[]⟩, none⟩, none, false⟩,
     ⟨⟨(some 18), .call ⟨.value (.func 22), ⟨[(.tmp 16), (.tmp 17)]⟩, ⟨[27, 33]⟩⟩, 25, "", ⟨[]⟩, none⟩, none, false⟩,
     ⟨⟨(some 15), .move (.tmp 18), 25, "", ⟨[]⟩, none⟩, none, false⟩,
     ⟨⟨(some 19), .extract (.tmp 15) 0, 3, "", ⟨[]⟩, none⟩, none, false⟩,
     ⟨⟨(some 20), .extract (.tmp 15) 1, 22, "", ⟨[]⟩, none⟩, none, false⟩,
     ⟨⟨(some 5), .assign (.tmp 19), 3, "", ⟨[]⟩, none⟩, none, false⟩,
     ⟨⟨(some 6), .assign (.tmp 20), 22, "", ⟨[]⟩, none⟩, none, false⟩])
   (.seq
    (.seq
     (.ops false [
       ⟨⟨(some 21), .move (.tmp 6), 22, "", ⟨[]⟩, none⟩, none, false⟩,
       ⟨⟨(some 22), .binOp .eql 22 (.tmp 21) (.const (.int .i64 31)) 22, 4, "", ⟨[]⟩, none⟩, none, false⟩])
     (.cond (.tmp 22)
      (.seq
       (.ops false [
         ⟨⟨(some 23), .move (.tmp 5), 3, "", ⟨[]⟩, none⟩, none, false⟩,
         ⟨⟨(some 24), .binOp .eql 3 (.tmp 23) (.const (.int .i64 0)) 3, 4, "", ⟨[]⟩, none⟩, none, false⟩,
         ⟨⟨(some 25), .move (.tmp 24), 4, "", ⟨[]⟩, none⟩, none, false⟩,
         ⟨⟨(some 26), .call ⟨.value (.func 19), ⟨[]⟩, ⟨[]⟩⟩, 4, "", ⟨[]⟩, none⟩, some ((some 25), true), false⟩,
         ⟨⟨(some 27), .pick (.tmp 25) (.tmp 26) (.const (.bool false)), 4, "", ⟨[]⟩, none⟩, none, false⟩,
         ⟨⟨(some 4), .assign (.tmp 27), 4, "", ⟨[]⟩, none⟩, none, false⟩])
       .ret)
      .skip))
    (.seq
     (.ops false [
       ⟨⟨(some 29), .move (.tmp 0), 27, "", ⟨[]⟩, none⟩, none, false⟩,
       ⟨⟨(some 30), .move (.tmp 0), 27, "", ⟨[]⟩, none⟩, none, false⟩,
       ⟨⟨(some 31), .call ⟨.value (.func 20), ⟨[(.tmp 29), (.tmp 30)]⟩, ⟨[27, 27]⟩⟩, 25, "", ⟨[]⟩, none⟩, none, false⟩,
       ⟨⟨(some 28), .move (.tmp 31), 25, "", ⟨[]⟩, none⟩, none, false⟩,
       ⟨⟨(some 32), .extract (.tmp 28) 0, 3, "", ⟨[]⟩, none⟩, none, false⟩,
       ⟨⟨(some 33), .extract (.tmp 28) 1, 22, "", ⟨[]⟩, none⟩, none, false⟩,
       ⟨⟨(some 7), .assign (.tmp 32), 3, "", ⟨[]⟩, none⟩, none, false⟩,
       ⟨⟨(some 8), .assign (.tmp 33), 22, "", ⟨[]⟩, none⟩, none, false⟩])
     (.seq
      (.seq
       (.ops false [
         ⟨⟨(some 34), .move (.tmp 8), 22, "", ⟨[]⟩, none⟩, none, false⟩,
         ⟨⟨(some 35), .binOp .neq 22 (.tmp 34) (.const (.int .i64 0)) 22, 4, "", ⟨[]⟩, none⟩, none, false⟩,
         ⟨⟨(some 36), .move (.tmp 35), 4, "", ⟨[]⟩, none⟩, none, false⟩,
         ⟨⟨(some 37), .move (.tmp 7), 3, "", ⟨[]⟩, none⟩, some ((some 36), false), false⟩,
         ⟨⟨(some 38), .move (.tmp 0), 27, "", ⟨[]⟩, none⟩, some ((some 36), false), false⟩,
         ⟨⟨(some 39), .call ⟨.builtin .len, ⟨[(.tmp 38)]⟩, ⟨[27]⟩⟩, 3, "", ⟨[]⟩, none⟩, some ((some 36), false), false⟩,
         ⟨⟨(some 40), .binOp .neq 3 (.tmp 37) (.tmp 39) 3, 4, "", ⟨[]⟩, none⟩, some ((some 36), false), false⟩,
         ⟨⟨(some 41), .pick (.tmp 36) (.const (.bool true)) (.tmp 40), 4, "", ⟨[]⟩, none⟩, none, false⟩])
       (.cond (.tmp 41)
        (.seq
         (.ops false [
           ⟨⟨(some 4), .assign (.const (.bool false)), 4, "", ⟨[]⟩, none⟩, none, false⟩])
         .ret)
        .skip))
      (.seq
       (.ops false [
         ⟨⟨(some 9), .assign (.const (.int .i64 (-1))), 3, "", ⟨[]⟩, none⟩, none, false⟩,
         ⟨⟨(some 10), .assign (.const (.int .i64 0)), 3, "", ⟨[]⟩, none⟩, none, false⟩])
       (.seq
        (.seq
         (.ops false [
           ⟨⟨(some 11), .assign (.const (.int .i64 0)), 3, "", ⟨[]⟩, none⟩, none, false⟩])
         (.block 0
          (.loop
           (.seq
            (.seq
             (.ops false [
               ⟨⟨(some 42), .move (.tmp 11), 3, "", ⟨[]⟩, none⟩, none, false⟩,
               ⟨⟨(some 43), .move (.tmp 1), 33, "", ⟨[]⟩, none⟩, none, false⟩,
               ⟨⟨(some 44), .call ⟨.builtin .len, ⟨[(.tmp 43)]⟩, ⟨[33]⟩⟩, 3, "", ⟨[]⟩, none⟩, none, false⟩,
               ⟨⟨(some 45), .binOp .lss 3 (.tmp 42) (.tmp 44) 3, 4, "", ⟨[]⟩, none⟩, none, false⟩])
             (.cond (.tmp 45)
              .skip
              (.exit 0)))
            (.seq
             (.block 1
              (.seq
               (.ops false [
                 ⟨⟨(some 49), .move (.tmp 0), 27, "", ⟨[]⟩, none⟩, none, false⟩,
                 ⟨⟨(some 50), .move (.tmp 1), 33, "", ⟨[]⟩, none⟩, none, false⟩,
                 ⟨⟨(some 51), .move (.tmp 11), 3, "", ⟨[]⟩, none⟩, none, false⟩,
                 ⟨⟨(some 52), .indexAddr 33 (.tmp 50) (.tmp 51), 0, "", ⟨[]⟩, none⟩, none, false⟩,
                 ⟨⟨(some 53), .load 27 (.tmp 52), 27, "", ⟨[]⟩, none⟩, none, false⟩,
                 ⟨⟨(some 54), .call ⟨.value (.func 20), ⟨[(.tmp 49), (.tmp 53)]⟩, ⟨[27, 27]⟩⟩, 25, "", ⟨[]⟩, none⟩, none, false⟩,
                 ⟨⟨(some 48), .move (.tmp 54), 25, "", ⟨[]⟩, none⟩, none, false⟩,
                 ⟨⟨(some 55), .extract (.tmp 48) 0, 3, "", ⟨[]⟩, none⟩, none, false⟩,
                 ⟨⟨(some 56), .extract (.tmp 48) 1, 22, "", ⟨[]⟩, none⟩, none, false⟩,
                 ⟨⟨(some 12), .assign (.tmp 55), 3, "", ⟨[]⟩, none⟩, none, false⟩,
                 ⟨⟨(some 13), .assign (.tmp 56), 22, "", ⟨[]⟩, none⟩, none, false⟩])
               (.seq
                (.seq
                 (.ops false [
                   ⟨⟨(some 57), .move (.tmp 13), 22, "", ⟨[]⟩, none⟩, none, false⟩,
                   ⟨⟨(some 58), .binOp .neq 22 (.tmp 57) (.const (.int .i64 0)) 22, 4, "", ⟨[]⟩, none⟩, none, false⟩,
                   ⟨⟨(some 59), .move (.tmp 58), 4, "", ⟨[]⟩, none⟩, none, false⟩,
                   ⟨⟨(some 60), .move (.tmp 13), 22, "", ⟨[]⟩, none⟩, some ((some 59), true), false⟩,
                   ⟨⟨(some 61), .binOp .neq 22 (.tmp 60) (.const (.int .i64 32)) 22, 4, "", ⟨[]⟩, none⟩, some ((some 59), true), false⟩,
                   ⟨⟨(some 62), .pick (.tmp 59) (.tmp 61) (.const (.bool false)), 4, "", ⟨[]⟩, none⟩, none, false⟩])
                 (.cond (.tmp 62)
                  (.seq
                   (.ops false [
                     ⟨⟨(some 4), .assign (.const (.bool false)), 4, "", ⟨[]⟩, none⟩, none, false⟩])
                   .ret)
                  .skip))
                (.seq
                 (.seq
                  (.ops false [
                    ⟨⟨(some 63), .move (.tmp 13), 22, "", ⟨[]⟩, none⟩, none, false⟩,
                    ⟨⟨(some 64), .binOp .eql 22 (.tmp 63) (.const (.int .i64 0)) 22, 4, "", ⟨[]⟩, none⟩, none, false⟩,
                    ⟨⟨(some 65), .move (.tmp 64), 4, "", ⟨[]⟩, none⟩, none, false⟩,
                    ⟨⟨(some 66), .move (.tmp 12), 3, "", ⟨[]⟩, none⟩, some ((some 65), true), false⟩,
                    ⟨⟨(some 67), .move (.tmp 9), 3, "", ⟨[]⟩, none⟩, some ((some 65), true), false⟩,
                    ⟨⟨(some 68), .binOp .eql 3 (.tmp 66) (.tmp 67) 3, 4, "", ⟨[]⟩, none⟩, some ((some 65), true), false⟩,
                    ⟨⟨(some 69), .pick (.tmp 65) (.tmp 68) (.const (.bool false)), 4, "", ⟨[]⟩, none⟩, none, false⟩])
                  (.cond (.tmp 69)
                   (.ops false [
                     ⟨⟨(some 70), .move (.tmp 10), 3, "", ⟨[]⟩, none⟩, none, false⟩,
                     ⟨⟨(some 71), .binOp .add 3 (.tmp 70) (.const (.int .i64 1)) 3, 3, "", ⟨[]⟩, none⟩, none, false⟩,
                     ⟨⟨(some 10), .assign (.tmp 71), 3, "", ⟨[]⟩, none⟩, none, false⟩])
                   .skip))
                 (.seq
                  (.ops false [
                    ⟨⟨(some 72), .move (.tmp 13), 22, "", ⟨[]⟩, none⟩, none, false⟩,
                    ⟨⟨(some 73), .binOp .eql 22 (.tmp 72) (.const (.int .i64 0)) 22, 4, "", ⟨[]⟩, none⟩, none, false⟩,
                    ⟨⟨(some 74), .move (.tmp 73), 4, "", ⟨[]⟩, none⟩, none, false⟩,
                    ⟨⟨(some 75), .move (.tmp 12), 3, "", ⟨[]⟩, none⟩, some ((some 74), true), false⟩,
                    ⟨⟨(some 76), .move (.tmp 9), 3, "", ⟨[]⟩, none⟩, some ((some 74), true), false⟩,
                    ⟨⟨(some 77), .binOp .gtr 3 (.tmp 75) (.tmp 76) 3, 4, "", ⟨[]⟩, none⟩, some ((some 74), true), false⟩,
                    ⟨⟨(some 78), .pick (.tmp 74) (.tmp 77) (.const (.bool false)), 4, "", ⟨[]⟩, none⟩, none, false⟩])
                  (.cond (.tmp 78)
                   (.ops false [
                     ⟨⟨(some 79), .move (.tmp 12), 3, "", ⟨[]⟩, none⟩, none, false⟩,
                     ⟨⟨(some 9), .assign (.tmp 79), 3, "", ⟨[]⟩, none⟩, none, false⟩,
                     ⟨⟨(some 10), .assign (.const (.int .i64 1)), 3, "", ⟨[]⟩, none⟩, none, false⟩])
                   .skip))))))
             (.ops false [
               ⟨⟨(some 46), .move (.tmp 11), 3, "", ⟨[]⟩, none⟩, none, false⟩,
               ⟨⟨(some 47), .binOp .add 3 (.tmp 46) (.const (.int .i64 1)) 3, 3, "", ⟨[]⟩, none⟩, none, false⟩,
               ⟨⟨(some 11), .assign (.tmp 47), 3, "", ⟨[]⟩, none⟩, none, false⟩]))))))
        (.seq
         (.seq
          (.ops false [
            ⟨⟨(some 80), .move (.tmp 6), 22, "", ⟨[]⟩, none⟩, none, false⟩,
            ⟨⟨(some 81), .binOp .neq 22 (.tmp 80) (.const (.int .i64 0)) 22, 4, "", ⟨[]⟩, none⟩, none, false⟩])
          (.cond (.tmp 81)
           (.seq
            (.ops false [
              ⟨⟨(some 82), .move (.tmp 6), 22, "", ⟨[]⟩, none⟩, none, false⟩,
              ⟨⟨(some 83), .binOp .eql 22 (.tmp 82) (.const (.int .i64 4)) 22, 4, "", ⟨[]⟩, none⟩, none, false⟩,
              ⟨⟨(some 84), .move (.tmp 83), 4, "", ⟨[]⟩, none⟩, none, false⟩,
              ⟨⟨(some 85), .move (.tmp 10), 3, "", ⟨[]⟩, none⟩, some ((some 84), true), false⟩,
              ⟨⟨(some 86), .binOp .neq 3 (.tmp 85) (.const (.int .i64 1)) 3, 4, "", ⟨[]⟩, none⟩, some ((some 84), true), false⟩,
              ⟨⟨(some 87), .pick (.tmp 84) (.tmp 86) (.const (.bool false)), 4, "", ⟨[]⟩, none⟩, none, false⟩,
              ⟨⟨(some 88), .move (.tmp 87), 4, "", ⟨[]⟩, none⟩, none, false⟩,
              ⟨⟨(some 89), .call ⟨.value (.func 19), ⟨[]⟩, ⟨[]⟩⟩, 4, "", ⟨[]⟩, none⟩, some ((some 88), true), false⟩,
              ⟨⟨(some 90), .pick (.tmp 88) (.tmp 89) (.const (.bool false)), 4, "", ⟨[]⟩, none⟩, none, false⟩,
              ⟨⟨(some 4), .assign (.tmp 90), 4, "", ⟨[]⟩, none⟩, none, false⟩])
            .ret)
           .skip))
         (.seq
          (.seq
           (.ops false [
             ⟨⟨(some 91), .move (.tmp 5), 3, "", ⟨[]⟩, none⟩, none, false⟩,
             ⟨⟨(some 92), .move (.tmp 1), 33, "", ⟨[]⟩, none⟩, none, false⟩,
             ⟨⟨(some 93), .call ⟨.builtin .len, ⟨[(.tmp 92)]⟩, ⟨[33]⟩⟩, 3, "", ⟨[]⟩, none⟩, none, false⟩,
             ⟨⟨(some 94), .binOp .sub 3 (.tmp 93) (.const (.int .i64 1)) 3, 3, "", ⟨[]⟩, none⟩, none, false⟩,
             ⟨⟨(some 95), .call ⟨.value (.func 32), ⟨[(.const (.int .i64 0)), (.tmp 91), (.tmp 94)]⟩, ⟨[3, 3, 3]⟩⟩, 4, "", ⟨[]⟩, none⟩, none, false⟩,
             ⟨⟨(some 96), .unOp .not 4 (.tmp 95), 4, "", ⟨[]⟩, none⟩, none, false⟩,
             ⟨⟨(some 97), .move (.tmp 96), 4, "", ⟨[]⟩, none⟩, none, false⟩,
             ⟨⟨(some 98), .move (.tmp 10), 3, "", ⟨[]⟩, none⟩, some ((some 97), false), false⟩,
             ⟨⟨(some 99), .binOp .neq 3 (.tmp 98) (.const (.int .i64 1)) 3, 4, "", ⟨[]⟩, none⟩, some ((some 97), false), false⟩,
             ⟨⟨(some 100), .pick (.tmp 97) (.const (.bool true)) (.tmp 99), 4, "", ⟨[]⟩, none⟩, none, false⟩])
           (.cond (.tmp 100)
            (.seq
             (.ops false [
               ⟨⟨(some 4), .assign (.const (.bool false)), 4, "", ⟨[]⟩, none⟩, none, false⟩])
             .ret)
            .skip))
          (.seq
           (.ops false [
             ⟨⟨(some 102), .move (.tmp 0), 27, "", ⟨[]⟩, none⟩, none, false⟩,
             ⟨⟨(some 103), .move (.tmp 1), 33, "", ⟨[]⟩, none⟩, none, false⟩,
             ⟨⟨(some 104), .move (.tmp 5), 3, "", ⟨[]⟩, none⟩, none, false⟩,
             ⟨⟨(some 105), .indexAddr 33 (.tmp 103) (.tmp 104), 0, "", ⟨[]⟩, none⟩, none, false⟩,
             ⟨⟨(some 106), .load 27 (.tmp 105), 27, "", ⟨[]⟩, none⟩, none, false⟩,
             ⟨⟨(some 107), .call ⟨.value (.func 20), ⟨[(.tmp 102), (.tmp 106)]⟩, ⟨[27, 27]⟩⟩, 25, "", ⟨[]⟩, none⟩, none, false⟩,
             ⟨⟨(some 101), .move (.tmp 107), 25, "", ⟨[]⟩, none⟩, none, false⟩,
             ⟨⟨(some 108), .extract (.tmp 101) 0, 3, "", ⟨[]⟩, none⟩, none, false⟩,
             ⟨⟨(some 109), .extract (.tmp 101) 1, 22, "", ⟨[]⟩, none⟩, none, false⟩,
             ⟨⟨(some 14), .assign (.tmp 108), 3, "", ⟨[]⟩, none⟩, none, false⟩,
             ⟨⟨(some 6), .assign (.tmp 109), 22, "", ⟨[]⟩, none⟩, none, false⟩])
           (.seq
            (.ops false [
              ⟨⟨(some 110), .move (.tmp 6), 22, "", ⟨[]⟩, none⟩, none, false⟩,
              ⟨⟨(some 111), .binOp .eql 22 (.tmp 110) (.const (.int .i64 0)) 22, 4, "", ⟨[]⟩, none⟩, none, false⟩,
              ⟨⟨(some 112), .move (.tmp 111), 4, "", ⟨[]⟩, none⟩, none, false⟩,
              ⟨⟨(some 113), .move (.tmp 14), 3, "", ⟨[]⟩, none⟩, some ((some 112), true), false⟩,
              ⟨⟨(some 114), .move (.tmp 9), 3, "", ⟨[]⟩, none⟩, some ((some 112), true), false⟩,
              ⟨⟨(some 115), .binOp .eql 3 (.tmp 113) (.tmp 114) 3, 4, "", ⟨[]⟩, none⟩, some ((some 112), true), false⟩,
              ⟨⟨(some 116), .pick (.tmp 112) (.tmp 115) (.const (.bool false)), 4, "", ⟨[]⟩, none⟩, none, false⟩,
              ⟨⟨(some 117), .move (.tmp 116), 4, "", ⟨[]⟩, none⟩, none, false⟩,
              ⟨⟨(some 118), .call ⟨.value (.func 19), ⟨[]⟩, ⟨[]⟩⟩, 4, "", ⟨[]⟩, none⟩, some ((some 117), true), false⟩,
              ⟨⟨(some 119), .pick (.tmp 117) (.tmp 118) (.const (.bool false)), 4, "", ⟨[]⟩, none⟩, none, false⟩,
              ⟨⟨(some 4), .assign (.tmp 119), 4, "", ⟨[]⟩, none⟩, none, false⟩])
            .ret)))))))))))
def Try.s20 : SC :=
 (.seq
  (.ops false [
    ⟨⟨(some 4), .assign (.const (.int .i64 0)), 3, "", ⟨[]⟩, none⟩, none, false⟩,
    ⟨⟨(some 5), .assign (.const (.int .i64 0)), 22, "", ⟨[]⟩, none⟩, none, false⟩])
  (.seq
   (.seq
    (.ops false [
      ⟨⟨(some 8), .move (.tmp 0), 27, "", ⟨[]⟩, none⟩, none, false⟩,
      ⟨⟨(some 9), .call ⟨.value (.func 52), ⟨[(.tmp 8)]⟩, ⟨[27]⟩⟩, 4, "", ⟨[]⟩, none⟩, none, false⟩,
      ⟨⟨(some 10), .unOp .not 4 (.tmp 9), 4, "", ⟨[]⟩, none⟩, none, false⟩,
      ⟨⟨(some 11), .move (.tmp 10), 4, "", ⟨[]⟩, none⟩, none, false⟩,
      ⟨⟨(some 12), .move (.tmp 1), 27, "", ⟨[]⟩, none⟩, some ((some 11), false), false⟩,
      ⟨⟨(some 13), .call ⟨.value (.func 53), ⟨[(.tmp 12)]⟩, ⟨[27]⟩⟩, 4, "", ⟨[]⟩, none⟩, some ((some 11), false), false⟩,
      ⟨⟨(some 14), .unOp .not 4 (.tmp 13), 4, "", ⟨[]⟩, none⟩, some ((some 11), false), false⟩,
      ⟨⟨(some 15), .pick (.tmp 11) (.const (.bool true)) (.tmp 14), 4, "", ⟨[]⟩, none⟩, none, false⟩])
    (.cond (.tmp 15)
     (.seq
      (.ops false [
        ⟨⟨(some 4), .assign (.const (.int .i64 0)), 3, "", ⟨[]⟩, none⟩, none, false⟩,
        ⟨⟨(some 5), .assign (.const (.int .i64 31)), 22, "", ⟨[]⟩, none⟩, none, false⟩])
      .ret)
     .skip))
   (.seq
    (.ops false [
      ⟨⟨(some 17), .move (.tmp 0), 27, "", ⟨[]⟩, none⟩, none, false⟩,
      ⟨⟨(some 18), .move (.tmp 1), 27, "", ⟨[]⟩, none⟩, none, false⟩,
      ⟨⟨(some 19), .call ⟨.value (.func 54), ⟨[(.tmp 17), (.tmp 18)]⟩, ⟨[27, 27]⟩⟩, 85, "", ⟨[]⟩, none⟩, none, false⟩,
      ⟨⟨(some 16), .move (.tmp 19), 85, "", ⟨[]⟩, none⟩, none, false⟩,
      ⟨⟨(some 20), .extract (.tmp 16) 0, 3, "", ⟨[]⟩, none⟩, none, false⟩,
      ⟨⟨(some 21), .extract (.tmp 16) 1, 4, "", ⟨[]⟩, none⟩, none, false⟩,
      ⟨⟨(some 6), .assign (.tmp 20), 3, "", ⟨[]⟩, none⟩, none, false⟩,
      ⟨⟨(some 7), .assign (.tmp 21), 4, "", ⟨[]⟩, none⟩, none, false⟩])
    (.seq
     (.seq
      (.ops false [
        ⟨⟨(some 22), .move (.tmp 7), 4, "", ⟨[]⟩, none⟩, none, false⟩,
        ⟨⟨(some 23), .unOp .not 4 (.tmp 22), 4, "", ⟨[]⟩, none⟩, none, false⟩])
      (.cond (.tmp 23)
       (.seq
        (.ops false [
          ⟨⟨(some 4), .assign (.const (.int .i64 0)), 3, "", ⟨[]⟩, none⟩, none, false⟩,
          ⟨⟨(some 5), .assign (.const (.int .i64 32)), 22, "", ⟨[]⟩, none⟩, none, false⟩])
        .ret)
       .skip))
     (.seq
      (.ops false [
        ⟨⟨(some 24), .move (.tmp 6), 3, "", ⟨[]⟩, none⟩, none, false⟩,
        ⟨⟨(some 4), .assign (.tmp 24), 3, "", ⟨[]⟩, none⟩, none, false⟩,
        ⟨⟨(some 5), .assign (.const (.int .i64 0)), 22, "", ⟨[]⟩, none⟩, none, false⟩])
      .ret)))))
def Try.s21 : SC :=
 (.seq
  (.ops false [
    ⟨⟨(some 4), .assign (.const (.int .i64 0)), 3, "", ⟨[]⟩, none⟩, none, false⟩,
    ⟨⟨(some 5), .assign (.const (.int .i64 0)), 22, "", ⟨[]⟩, none⟩, none, false⟩])
  (.seq
   (.seq
    (.ops false [
      ⟨⟨(some 7), .move (.tmp 0), 27, "", ⟨[]⟩, none⟩, none, false⟩,
      ⟨⟨(some 8), .call ⟨.value (.func 55), ⟨[(.tmp 7)]⟩, ⟨[27]⟩⟩, 4, "", ⟨[]⟩, none⟩, none, false⟩,
      ⟨⟨(some 9), .unOp .not 4 (.tmp 8), 4, "", ⟨[]⟩, none⟩, none, false⟩,
      ⟨⟨(some 10), .move (.tmp 9), 4, "", ⟨[]⟩, none⟩, none, false⟩,
      ⟨⟨(some 11), .move (.tmp 1), 27, "", ⟨[]⟩, none⟩, some ((some 10), false), false⟩,
      ⟨⟨(some 12), .call ⟨.value (.func 56), ⟨[(.tmp 11)]⟩, ⟨[27]⟩⟩, 4, "", ⟨[]⟩, none⟩, some ((some 10), false), false⟩,
      ⟨⟨(some 13), .unOp .not 4 (.tmp 12), 4, "", ⟨[]⟩, none⟩, some ((some 10), false), false⟩,
      ⟨⟨(some 14), .pick (.tmp 10) (.const (.bool true)) (.tmp 13), 4, "", ⟨[]⟩, none⟩, none, false⟩])
    (.cond (.tmp 14)
     (.seq
      (.ops false [
        ⟨⟨(some 4), .assign (.const (.int .i64 0)), 3, "", ⟨[]⟩, none⟩, none, false⟩,
        ⟨⟨(some 5), .assign (.const (.int .i64 31)), 22, "", ⟨[]⟩, none⟩, none, false⟩])
      .ret)
     .skip))
   (.seq
    (.ops false [
      ⟨⟨(some 15), .move (.tmp 0), 27, "", ⟨[]⟩, none⟩, none, false⟩,
      ⟨⟨(some 16), .move (.tmp 1), 27, "", ⟨[]⟩, none⟩, none, false⟩,
      ⟨⟨(some 17), .call ⟨.value (.func 57), ⟨[(.tmp 15), (.tmp 16)]⟩, ⟨[27, 27]⟩⟩, 3, "", ⟨[]⟩, none⟩, none, false⟩,
      ⟨⟨(some 6), .assign (.tmp 17), 3, "", ⟨[]⟩, none⟩, none, false⟩])
    (.seq
     (.seq
      (.ops false [
        ⟨⟨(some 18), .move (.tmp 6), 3, "", ⟨[]⟩, none⟩, none, false⟩,
        ⟨⟨(some 19), .binOp .lss 3 (.tmp 18) (.const (.int .i64 0)) 3, 4, "", ⟨[]⟩, none⟩, none, false⟩])
      (.cond (.tmp 19)
       (.seq
        (.ops false [
          ⟨⟨(some 4), .assign (.const (.int .i64 0)), 3, "", ⟨[]⟩, none⟩, none, false⟩,
          ⟨⟨(some 5), .assign (.const (.int .i64 32)), 22, "", ⟨[]⟩, none⟩, none, false⟩])
        .ret)
       .skip))
     (.seq
      (.ops false [
        ⟨⟨(some 20), .move (.tmp 6), 3, "", ⟨[]⟩, none⟩, none, false⟩,
        ⟨⟨(some 4), .assign (.tmp 20), 3, "", ⟨[]⟩, none⟩, none, false⟩,
        ⟨⟨(some 5), .assign (.const (.int .i64 0)), 22, "", ⟨[]⟩, none⟩, none, false⟩])
      .ret)))))
def Try.s22 : SC :=
 (.seq
  (.ops false [
    ⟨⟨(some 4), .assign (.const (.int .i64 0)), 3, "", ⟨[]⟩, none⟩, none, false⟩,
    ⟨⟨(some 5), .assign (.const (.int .i64 0)), 22, "", ⟨[]⟩, none⟩, none, false⟩])
  (.seq
   (.seq
    (.ops false [
      ⟨⟨(some 15), .move (.tmp 0), 27, "", ⟨[]⟩, none⟩, none, false⟩,
      ⟨⟨(some 16), .call ⟨.value (.func 52), ⟨[(.tmp 15)]⟩, ⟨[27]⟩⟩, 4, "", ⟨[]⟩, none⟩, none, false⟩,
      ⟨⟨(some 17), .unOp .not 4 (.tmp 16), 4, "", ⟨[]⟩, none⟩, none, false⟩,
      ⟨⟨(some 18), .move (.tmp 17), 4, "", ⟨[]⟩, none⟩, none, false⟩,
      ⟨⟨(some 19), .move (.tmp 1), 33, "", ⟨[]⟩, none⟩, some ((some 18), false), false⟩,
      ⟨⟨(some 20), .call ⟨.builtin .len, ⟨[(.tmp 19)]⟩, ⟨[33]⟩⟩, 3, "", ⟨[]⟩, none⟩, some ((some 18), false), false⟩,
      ⟨⟨(some 21), .binOp .gtr 3 (.tmp 20) (.const (.int .i64 16)) 3, 4, "", ⟨[]⟩, none⟩, some ((some 18), false), false⟩,
      ⟨⟨(some 22), .pick (.tmp 18) (.const (.bool true)) (.tmp 21), 4, "", ⟨[]⟩, none⟩, none, false⟩])
    (.cond (.tmp 22)
     (.seq
      (.ops false [
        ⟨⟨(some 4), .assign (.const (.int .i64 0)), 3, "", ⟨[]⟩, none⟩, none, false⟩,
        ⟨⟨(some 5), .assign (.const (.int .i64 31)), 22, "", ⟨[]⟩, none⟩, none, false⟩])
      .ret)
     .skip))
   (.seq
    (.seq
     (.ops false [
       ⟨⟨(some 23), .move (.tmp 1), 33, "", ⟨[]⟩, none⟩, none, false⟩,
       ⟨⟨(some 24), .call ⟨.builtin .len, ⟨[(.tmp 23)]⟩, ⟨[33]⟩⟩, 3, "", ⟨[]⟩, none⟩, none, false⟩,
       ⟨⟨(some 25), .move (.const (.int .i64 0)), 3, "", ⟨[]⟩, none⟩, none, false⟩])
     (.block 0
      (.loop
       (.seq
        (.ops false [
          ⟨⟨(some 26), .binOp .lss 3 (.tmp 25) (.tmp 24) 3, 0, "", ⟨[]⟩, none⟩, none, false⟩])
        (.seq
         (.cond (.tmp 26)
          .skip
          (.exit 0))
         (.seq
          (.block 1
           (.seq
            (.ops false [
              ⟨⟨(some 27), .indexAddr 33 (.tmp 23) (.tmp 25), 0, "", ⟨[]⟩, none⟩, none, false⟩,
              ⟨⟨(some 28), .load 27 (.tmp 27), 27, "", ⟨[]⟩, none⟩, none, false⟩,
              ⟨⟨(some 7), .assign (.tmp 28), 27, "", ⟨[]⟩, none⟩, none, false⟩])
            (.seq
             (.ops false [
               ⟨⟨(some 29), .move (.tmp 7), 27, "", ⟨[]⟩, none⟩, none, false⟩,
               ⟨⟨(some 30), .call ⟨.value (.func 53), ⟨[(.tmp 29)]⟩, ⟨[27]⟩⟩, 4, "", ⟨[]⟩, none⟩, none, false⟩,
               ⟨⟨(some 31), .unOp .not 4 (.tmp 30), 4, "", ⟨[]⟩, none⟩, none, false⟩])
             (.cond (.tmp 31)
              (.seq
               (.ops false [
                 ⟨⟨(some 4), .assign (.const (.int .i64 0)), 3, "", ⟨[]⟩, none⟩, none, false⟩,
                 ⟨⟨(some 5), .assign (.const (.int .i64 31)), 22, "", ⟨[]⟩, none⟩, none, false⟩])
               .ret)
              .skip))))
          (.ops false [
            ⟨⟨(some 32), .binOp .add 3 (.tmp 25) (.const (.int .i64 1)) 3, 3, "", ⟨[]⟩, none⟩, none, false⟩,
            ⟨⟨(some 25), .move (.tmp 32), 3, "", ⟨[]⟩, none⟩, none, false⟩])))))))
    (.seq
     (.ops false [
       ⟨⟨(some 8), .assign (.const (.int .i64 0)), 3, "", ⟨[]⟩, none⟩, none, false⟩,
       ⟨⟨(some 9), .assign (.const (.int .i64 0)), 3, "", ⟨[]⟩, none⟩, none, false⟩,
       ⟨⟨(some 10), .assign (.const (.bool false)), 4, "", ⟨[]⟩, none⟩, none, false⟩])
     (.seq
      (.seq
       (.ops false [
         ⟨⟨(some 33), .move (.tmp 1), 33, "", ⟨[]⟩, none⟩, none, false⟩,
         ⟨⟨(some 34), .call ⟨.builtin .len, ⟨[(.tmp 33)]⟩, ⟨[33]⟩⟩, 3, "", ⟨[]⟩, none⟩, none, false⟩,
         ⟨⟨(some 35), .move (.const (.int .i64 0)), 3, "", ⟨[]⟩, none⟩, none, false⟩])
       (.block 2
        (.loop
         (.seq
          (.ops false [
            ⟨⟨(some 36), .binOp .lss 3 (.tmp 35) (.tmp 34) 3, 0, "", ⟨[]⟩, none⟩, none, false⟩])
          (.seq
           (.cond (.tmp 36)
            .skip
            (.exit 2))
           (.seq
            (.block 3
             (.seq
              (.ops false [
                ⟨⟨(some 37), .move (.tmp 35), 3, "", ⟨[]⟩, none⟩, none, false⟩,
                ⟨⟨(some 38), .indexAddr 33 (.tmp 33) (.tmp 35), 0, "", ⟨[]⟩, none⟩, none, false⟩,
                ⟨⟨(some 39), .load 27 (.tmp 38), 27, "", ⟨[]⟩, none⟩, none, false⟩,
                ⟨⟨(some 11), .assign (.tmp 37), 3, "", ⟨[]⟩, none⟩, none, false⟩,
                ⟨⟨(some 12), .assign (.tmp 39), 27, "", ⟨[]⟩, none⟩, none, false⟩])
              (.seq
               (.ops false [
                 ⟨⟨(some 41), .move (.tmp 0), 27, "", ⟨[]⟩, none⟩, none, false⟩,
                 ⟨⟨(some 42), .move (.tmp 12), 27, "", ⟨[]⟩, none⟩, none, false⟩,
                 ⟨⟨(some 43), .call ⟨.value (.func 54), ⟨[(.tmp 41), (.tmp 42)]⟩, ⟨[27, 27]⟩⟩, 85, "", ⟨[]⟩, none⟩, none, false⟩,
                 ⟨⟨(some 40), .move (.tmp 43), 85, "", ⟨[]⟩, none⟩, none, false⟩,
                 ⟨⟨(some 44), .extract (.tmp 40) 0, 3, "", ⟨[]⟩, none⟩, none, false⟩,
                 ⟨⟨(some 45), .extract (.tmp 40) 1, 4, "", ⟨[]⟩, none⟩, none, false⟩,
                 ⟨⟨(some 13), .assign (.tmp 44), 3, "", ⟨[]⟩, none⟩, none, false⟩,
                 ⟨⟨(some 14), .assign (.tmp 45), 4, "", ⟨[]⟩, none⟩, none, false⟩])
               (.block 4
                (.seq
                 (.ops false [
                   ⟨⟨(some 49), .move (.tmp 14), 4, "", ⟨[]⟩, none⟩, none, false⟩,
                   ⟨⟨(some 50), .unOp .not 4 (.tmp 49), 4, "", ⟨[]⟩, none⟩, none, false⟩,
                   ⟨⟨(some 51), .move (.tmp 50), 4, "", ⟨[]⟩, none⟩, none, false⟩,
                   ⟨⟨(some 52), .move (.tmp 13), 3, "", ⟨[]⟩, none⟩, some ((some 51), false), false⟩,
                   ⟨⟨(some 53), .move (.tmp 9), 3, "", ⟨[]⟩, none⟩, some ((some 51), false), false⟩,
                   ⟨⟨(some 54), .binOp .lss 3 (.tmp 52) (.tmp 53) 3, 4, "", ⟨[]⟩, none⟩, some ((some 51), false), false⟩,
                   ⟨⟨(some 55), .pick (.tmp 51) (.const (.bool true)) (.tmp 54), 4, "", ⟨[]⟩, none⟩, none, false⟩,
                   ⟨⟨(some 48), .assign (.tmp 55), 4, "", ⟨[]⟩, none⟩, none, false⟩])
                 (.cond (.tmp 48)
                  .skip
                  (.seq
                   (.ops false [
                     ⟨⟨(some 57), .move (.tmp 13), 3, "", ⟨[]⟩, none⟩, none, false⟩,
                     ⟨⟨(some 58), .move (.tmp 9), 3, "", ⟨[]⟩, none⟩, none, false⟩,
                     ⟨⟨(some 59), .binOp .eql 3 (.tmp 57) (.tmp 58) 3, 4, "", ⟨[]⟩, none⟩, none, false⟩,
                     ⟨⟨(some 56), .assign (.tmp 59), 4, "", ⟨[]⟩, none⟩, none, false⟩])
                   (.cond (.tmp 56)
                    (.ops false [
                      ⟨⟨(some 10), .assign (.const (.bool false)), 4, "", ⟨[]⟩, none⟩, none, false⟩])
                    (.ops false [
                      ⟨⟨(some 46), .move (.tmp 11), 3, "", ⟨[]⟩, none⟩, none, false⟩,
                      ⟨⟨(some 47), .move (.tmp 13), 3, "", ⟨[]⟩, none⟩, none, false⟩,
                      ⟨⟨(some 8), .assign (.tmp 46), 3, "", ⟨[]⟩, none⟩, none, false⟩,
                      ⟨⟨(some 9), .assign (.tmp 47), 3, "", ⟨[]⟩, none⟩, none, false⟩,
                      ⟨⟨(some 10), .assign (.const (.bool true)), 4, "", ⟨[]⟩, none⟩, none, false⟩])))))))))
            (.ops false [
              ⟨⟨(some 60), .binOp .add 3 (.tmp 35) (.const (.int .i64 1)) 3, 3, "", ⟨[]⟩, none⟩, none, false⟩,
              ⟨⟨(some 35), .move (.tmp 60), 3, "", ⟨[]⟩, none⟩, none, false⟩])))))))
      (.seq
       (.seq
        (.ops false [
          ⟨⟨(some 61), .move (.tmp 10), 4, "", ⟨[]⟩, none⟩, none, false⟩,
          ⟨⟨(some 62), .unOp .not 4 (.tmp 61), 4, "", ⟨[]⟩, none⟩, none, false⟩])
        (.cond (.tmp 62)
         (.seq
          (.ops false [
            ⟨⟨(some 4), .assign (.const (.int .i64 0)), 3, "", ⟨[]⟩, none⟩, none, false⟩,
            ⟨⟨(some 5), .assign (.const (.int .i64 4)), 22, "", ⟨[]⟩, none⟩, none, false⟩])
          .ret)
         .skip))
       (.seq
        (.ops false [
          ⟨⟨(some 63), .move (.tmp 8), 3, "", ⟨[]⟩, none⟩, none, false⟩,
          ⟨⟨(some 4), .assign (.tmp 63), 3, "", ⟨[]⟩, none⟩, none, false⟩,
          ⟨⟨(some 5), .assign (.const (.int .i64 0)), 22, "", ⟨[]⟩, none⟩, none, false⟩])
        .ret)))))))
def Try.s23 : SC :=
 (.seq
  (.ops false [
    ⟨⟨(some 4), .assign (.const (.int .i64 0)), 3, "", ⟨[]⟩, none⟩, none, false⟩,
    ⟨⟨(some 5), .assign (.const (.int .i64 0)), 22, "", ⟨[]⟩, none⟩, none, false⟩])
  (.seq
   (.seq
    (.ops false [
      ⟨⟨(some 10), .move (.tmp 0), 27, "", ⟨[]⟩, none⟩, none, false⟩,
      ⟨⟨(some 11), .call ⟨.value (.func 55), ⟨[(.tmp 10)]⟩, ⟨[27]⟩⟩, 4, "", ⟨[]⟩, none⟩, none, false⟩,
      ⟨⟨(some 12), .unOp .not 4 (.tmp 11), 4, "", ⟨[]⟩, none⟩, none, false⟩,
      ⟨⟨(some 13), .move (.tmp 12), 4, "", ⟨[]⟩, none⟩, none, false⟩,
      ⟨⟨(some 14), .move (.tmp 1), 33, "", ⟨[]⟩, none⟩, some ((some 13), false), false⟩,
      ⟨⟨(some 15), .call ⟨.builtin .len, ⟨[(.tmp 14)]⟩, ⟨[33]⟩⟩, 3, "", ⟨[]⟩, none⟩, some ((some 13), false), false⟩,
      ⟨⟨(some 16), .binOp .gtr 3 (.tmp 15) (.const (.int .i64 16)) 3, 4, "", ⟨[]⟩, none⟩, some ((some 13), false), false⟩,
      ⟨⟨(some 17), .pick (.tmp 13) (.const (.bool true)) (.tmp 16), 4, "", ⟨[]⟩, none⟩, none, false⟩])
    (.cond (.tmp 17)
     (.seq
      (.ops false [
        ⟨⟨(some 4), .assign (.const (.int .i64 0)), 3, "", ⟨[]⟩, none⟩, none, false⟩,
        ⟨⟨(some 5), .assign (.const (.int .i64 31)), 22, "", ⟨[]⟩, none⟩, none, false⟩])
      .ret)
     .skip))
   (.seq
    (.seq
     (.ops false [
       ⟨⟨(some 6), .assign (.const (.int .i64 0)), 3, "", ⟨[]⟩, none⟩, none, false⟩])
     (.block 0
      (.loop
       (.seq
        (.seq
         (.ops false [
           ⟨⟨(some 18), .move (.tmp 6), 3, "", ⟨[]⟩, none⟩, none, false⟩,
           ⟨⟨(some 19), .move (.tmp 1), 33, "", ⟨[]⟩, none⟩, none, false⟩,
           ⟨⟨(some 20), .call ⟨.builtin .len, ⟨[(.tmp 19)]⟩, ⟨[33]⟩⟩, 3, "", ⟨[]⟩, none⟩, none, false⟩,
           ⟨⟨(some 21), .binOp .lss 3 (.tmp 18) (.tmp 20) 3, 4, "", ⟨[]⟩, none⟩, none, false⟩])
         (.cond (.tmp 21)
          .skip
          (.exit 0)))
        (.seq
         (.block 1
          (.seq
           (.ops false [
             ⟨⟨(some 24), .move (.tmp 1), 33, "", ⟨[]⟩, none⟩, none, false⟩,
             ⟨⟨(some 25), .move (.tmp 6), 3, "", ⟨[]⟩, none⟩, none, false⟩,
             ⟨⟨(some 26), .indexAddr 33 (.tmp 24) (.tmp 25), 0, "", ⟨[]⟩, none⟩, none, false⟩,
             ⟨⟨(some 27), .load 27 (.tmp 26), 27, "", ⟨[]⟩, none⟩, none, false⟩,
             ⟨⟨(some 28), .call ⟨.value (.func 56), ⟨[(.tmp 27)]⟩, ⟨[27]⟩⟩, 4, "", ⟨[]⟩, none⟩, none, false⟩,
             ⟨⟨(some 29), .unOp .not 4 (.tmp 28), 4, "", ⟨[]⟩, none⟩, none, false⟩])
           (.cond (.tmp 29)
            (.seq
             (.ops false [
               ⟨⟨(some 4), .assign (.const (.int .i64 0)), 3, "", ⟨[]⟩, none⟩, none, false⟩,
               ⟨⟨(some 5), .assign (.const (.int .i64 31)), 22, "", ⟨[]⟩, none⟩, none, false⟩])
             .ret)
            .skip)))
         (.ops false [
           ⟨⟨(some 22), .move (.tmp 6), 3, "", ⟨[]⟩, none⟩, none, false⟩,
           ⟨⟨(some 23), .binOp .add 3 (.tmp 22) (.const (.int .i64 1)) 3, 3, "", ⟨[]⟩, none⟩, none, false⟩,
           ⟨⟨(some 6), .assign (.tmp 23), 3, "", ⟨[]⟩, none⟩, none, false⟩]))))))
    (.seq
     (.seq
      (.ops false [
        ⟨⟨(some 7), .assign (.const (.int .i64 0)), 3, "", ⟨[]⟩, none⟩, none, false⟩])
      (.block 2
       (.loop
        (.seq
         (.seq
          (.ops false [
            ⟨⟨(some 30), .move (.tmp 7), 3, "", ⟨[]⟩, none⟩, none, false⟩,
            ⟨⟨(some 31), .move (.tmp 1), 33, "", ⟨[]⟩, none⟩, none, false⟩,
            ⟨⟨(some 32), .call ⟨.builtin .len, ⟨[(.tmp 31)]⟩, ⟨[33]⟩⟩, 3, "", ⟨[]⟩, none⟩, none, false⟩,
            ⟨⟨(some 33), .binOp .lss 3 (.tmp 30) (.tmp 32) 3, 4, "", ⟨[]⟩, none⟩, none, false⟩])
          (.cond (.tmp 33)
           .skip
           (.exit 2)))
         (.seq
          (.block 3
           (.seq
            (.ops false [
              ⟨⟨(some 36), .move (.tmp 0), 27, "", ⟨[]⟩, none⟩, none, false⟩,
              ⟨⟨(some 37), .move (.tmp 1), 33, "", ⟨[]⟩, none⟩, none, false⟩,
              ⟨⟨(some 38), .move (.tmp 7), 3, "", ⟨[]⟩, none⟩, none, false⟩,
              ⟨⟨(some 39), .indexAddr 33 (.tmp 37) (.tmp 38), 0, "", ⟨[]⟩, none⟩, none, false⟩,
              ⟨⟨(some 40), .load 27 (.tmp 39), 27, "", ⟨[]⟩, none⟩, none, false⟩,
              ⟨⟨(some 41), .call ⟨.value (.func 57), ⟨[(.tmp 36), (.tmp 40)]⟩, ⟨[27, 27]⟩⟩, 3, "", ⟨[]⟩, none⟩, none, false⟩,
              ⟨⟨(some 42), .binOp .geq 3 (.tmp 41) (.const (.int .i64 0)) 3, 4, "", ⟨[]⟩, none⟩, none, false⟩,
              ⟨⟨(some 8), .assign (.tmp 42), 4, "", ⟨[]⟩, none⟩, none, false⟩])
            (.seq
             (.seq
              (.ops false [
                ⟨⟨(some 9), .assign (.const (.int .i64 0)), 3, "", ⟨[]⟩, none⟩, none, false⟩])
              (.block 4
               (.loop
                (.seq
                 (.seq
                  (.ops false [
                    ⟨⟨(some 43), .move (.tmp 9), 3, "", ⟨[]⟩, none⟩, none, false⟩,
                    ⟨⟨(some 44), .move (.tmp 1), 33, "", ⟨[]⟩, none⟩, none, false⟩,
                    ⟨⟨(some 45), .call ⟨.builtin .len, ⟨[(.tmp 44)]⟩, ⟨[33]⟩⟩, 3, "", ⟨[]⟩, none⟩, none, false⟩,
                    ⟨⟨(some 46), .binOp .lss 3 (.tmp 43) (.tmp 45) 3, 4, "", ⟨[]⟩, none⟩, none, false⟩])
                  (.cond (.tmp 46)
                   .skip
                   (.exit 4)))
                 (.seq
                  (.block 5
                   (.ops true [
                     ⟨⟨(some 49), .move (.tmp 8), 4, "", ⟨[]⟩, none⟩, none, true⟩,
                     ⟨⟨(some 50), .move (.tmp 49), 4, "", ⟨[]⟩, none⟩, none, true⟩,
                     ⟨⟨(some 51), .move (.tmp 9), 3, "", ⟨[]⟩, none⟩, some ((some 50), true), true⟩,
                     ⟨⟨(some 52), .move (.tmp 7), 3, "", ⟨[]⟩, none⟩, some ((some 50), true), true⟩,
                     ⟨⟨(some 53), .binOp .eql 3 (.tmp 51) (.tmp 52) 3, 4, "", ⟨[]⟩, none⟩, some ((some 50), true), true⟩,
                     ⟨⟨(some 54), .move (.tmp 53), 4, "", ⟨[]⟩, none⟩, some ((some 50), true), true⟩,
                     ⟨⟨(some 55), .move (.tmp 0), 27, "", ⟨[]⟩, none⟩, some ((some 54), false), true⟩,
                     ⟨⟨(some 56), .move (.tmp 1), 33, "", ⟨[]⟩, none⟩, some ((some 54), false), true⟩,
                     ⟨⟨(some 57), .move (.tmp 9), 3, "", ⟨[]⟩, none⟩, some ((some 54), false), true⟩,
                     ⟨⟨(some 58), .indexAddr 33 (.tmp 56) (.tmp 57), 0, "", ⟨[]⟩, none⟩, some ((some 54), false), true⟩,
                     ⟨⟨(some 59), .load 27 (.tmp 58), 27, "", ⟨[]⟩, none⟩, some ((some 54), false), true⟩,
                     ⟨⟨(some 61), .move (.tmp 0), 27, "", ⟨[]⟩, none⟩, some ((some 54), false), true⟩,
                     ⟨⟨(some 62), .move (.tmp 1), 33, "", ⟨[]⟩, none⟩, some ((some 54), false), true⟩,
                     ⟨⟨(some 63), .move (.tmp 7), 3, "", ⟨[]⟩, none⟩, some ((some 54), false), true⟩,
                     ⟨⟨(some 64), .indexAddr 33 (.tmp 62) (.tmp 63), 0, "", ⟨[]⟩, none⟩, some ((some 54), false), true⟩,
                     ⟨⟨(some 65), .load 27 (.tmp 64), 27, "", ⟨[]⟩, none⟩, some ((some 54), false), true⟩,
                     ⟨⟨(some 60), .call ⟨.value (.func 57), ⟨[(.tmp 55), (.tmp 59)]⟩, ⟨[27, 27]⟩⟩, 3, "", ⟨[]⟩, none⟩, some ((some 54), false), true⟩,
                     ⟨⟨(some 66), .call ⟨.value (.func 57), ⟨[(.tmp 61), (.tmp 65)]⟩, ⟨[27, 27]⟩⟩, 3, "", ⟨[]⟩, none⟩, some ((some 54), false), false⟩,
                     ⟨⟨(some 67), .binOp .lss 3 (.tmp 60) (.tmp 66) 3, 4, "", ⟨[]⟩, none⟩, some ((some 54), false), true⟩,
                     ⟨⟨(some 68), .pick (.tmp 54) (.const (.bool true)) (.tmp 67), 4, "", ⟨[]⟩, none⟩, some ((some 50), true), true⟩,
                     ⟨⟨(some 69), .pick (.tmp 50) (.tmp 68) (.const (.bool false)), 4, "", ⟨[]⟩, none⟩, none, true⟩,
                     ⟨⟨(some 8), .assign (.tmp 69), 4, "", ⟨[]⟩, none⟩, none, true⟩]))
                  (.ops false [
                    ⟨⟨(some 47), .move (.tmp 9), 3, "", ⟨[]⟩, none⟩, none, false⟩,
                    ⟨⟨(some 48), .binOp .add 3 (.tmp 47) (.const (.int .i64 1)) 3, 3, "", ⟨[]⟩, none⟩, none, false⟩,
                    ⟨⟨(some 9), .assign (.tmp 48), 3, "", ⟨[]⟩, none⟩, none, false⟩]))))))
             (.seq
              (.ops false [
                ⟨⟨(some 70), .move (.tmp 8), 4, "", ⟨[]⟩, none⟩, none, false⟩])
              (.cond (.tmp 70)
               (.seq
                (.ops false [
                  ⟨⟨(some 71), .move (.tmp 7), 3, "", ⟨[]⟩, none⟩, none, false⟩,
                  ⟨⟨(some 4), .assign (.tmp 71), 3, "", ⟨[]⟩, none⟩, none, false⟩,
                  ⟨⟨(some 5), .assign (.const (.int .i64 0)), 22, "", ⟨[]⟩, none⟩, none, false⟩])
                .ret)
               .skip)))))
          (.ops false [
            ⟨⟨(some 34), .move (.tmp 7), 3, "", ⟨[]⟩, none⟩, none, false⟩,
            ⟨⟨(some 35), .binOp .add 3 (.tmp 34) (.const (.int .i64 1)) 3, 3, "", ⟨[]⟩, none⟩, none, false⟩,
            ⟨⟨(some 7), .assign (.tmp 35), 3, "", ⟨[]⟩, none⟩, none, false⟩]))))))
     (.seq
      (.ops false [
        ⟨⟨(some 4), .assign (.const (.int .i64 0)), 3, "", ⟨[]⟩, none⟩, none, false⟩,
        ⟨⟨(some 5), .assign (.const (.int .i64 4)), 22, "", ⟨[]⟩, none⟩, none, false⟩])
      .ret)))))
def Try.s32 : SC :=
 (.seq
  (.ops false [
    ⟨⟨(some 6), .assign (.const (.bool false)), 4, "", ⟨[]⟩, none⟩, none, false⟩])
  (.seq
   (.ops false [
     ⟨⟨(some 7), .move (.tmp 0), 3, "", ⟨[]⟩, none⟩, none, false⟩,
     ⟨⟨(some 8), .move (.tmp 1), 3, "", ⟨[]⟩, none⟩, none, false⟩,
     ⟨⟨(some 9), .binOp .leq 3 (.tmp 7) (.tmp 8) 3, 4, "", ⟨[]⟩, none⟩, none, false⟩,
     ⟨⟨(some 10), .move (.tmp 9), 4, "", ⟨[]⟩, none⟩, none, false⟩,
     ⟨⟨(some 11), .move (.tmp 1), 3, "", ⟨[]⟩, none⟩, some ((some 10), true), false⟩,
     ⟨⟨(some 12), .move (.tmp 2), 3, "", ⟨[]⟩, none⟩, some ((some 10), true), false⟩,
     ⟨⟨(some 13), .binOp .leq 3 (.tmp 11) (.tmp 12) 3, 4, "", ⟨[]⟩, none⟩, some ((some 10), true), false⟩,
     ⟨⟨(some 14), .pick (.tmp 10) (.tmp 13) (.const (.bool false)), 4, "", ⟨[]⟩, none⟩, none, false⟩,
     ⟨⟨(some 6), .assign (.tmp 14), 4, "", ⟨[]⟩, none⟩, none, false⟩])
   .ret))
def Try.s43 : SC :=
 (.seq
  (.ops false [
    ⟨⟨(some 6), .assign (.const (.bool false)), 4, "", ⟨[]⟩, none⟩, none, false⟩])
  (.seq
   (.ops false [
     ⟨⟨(some 7), .move (.tmp 1), 3, "", ⟨[]⟩, none⟩, none, false⟩,
     ⟨⟨(some 8), .move (.tmp 0), 3, "", ⟨[]⟩, none⟩, none, false⟩,
     ⟨⟨(some 9), .binOp .leq 3 (.tmp 7) (.tmp 8) 3, 4, "", ⟨[]⟩, none⟩, none, false⟩,
     ⟨⟨(some 10), .move (.tmp 9), 4, "", ⟨[]⟩, none⟩, none, false⟩,
     ⟨⟨(some 11), .move (.tmp 0), 3, "", ⟨[]⟩, none⟩, some ((some 10), true), false⟩,
     ⟨⟨(some 12), .move (.tmp 2), 3, "", ⟨[]⟩, none⟩, some ((some 10), true), false⟩,
     ⟨⟨(some 13), .binOp .leq 3 (.tmp 11) (.tmp 12) 3, 4, "", ⟨[]⟩, none⟩, some ((some 10), true), false⟩,
     ⟨⟨(some 14), .pick (.tmp 10) (.tmp 13) (.const (.bool false)), 4, "", ⟨[]⟩, none⟩, none, false⟩,
     ⟨⟨(some 6), .assign (.tmp 14), 4, "", ⟨[]⟩, none⟩, none, false⟩])
   .ret))
def Try.s52 : SC :=
 (.seq
  (.ops false [
    ⟨⟨(some 2), .assign (.const (.bool false)), 4, "", ⟨[]⟩, none⟩, none, false⟩])
  (.seq
   (.ops false [
     ⟨⟨(some 3), .move (.tmp 0), 27, "", ⟨[]⟩, none⟩, none, false⟩,
     ⟨⟨(some 4), .call ⟨.value (.func 77), ⟨[(.tmp 3), (.const (.int .i64 0))]⟩, ⟨[27, 3]⟩⟩, 4, "", ⟨[]⟩, none⟩, none, false⟩,
     ⟨⟨(some 2), .assign (.tmp 4), 4, "", ⟨[]⟩, none⟩, none, false⟩])
   .ret))
def Try.s53 : SC :=
 (.seq
  (.ops false [
    ⟨⟨(some 2), .assign (.const (.bool false)), 4, "", ⟨[]⟩, none⟩, none, false⟩])
  (.seq
   (.ops false [
     ⟨⟨(some 3), .move (.tmp 0), 27, "", ⟨[]⟩, none⟩, none, false⟩,
     ⟨⟨(some 4), .call ⟨.value (.func 77), ⟨[(.tmp 3), (.const (.int .i64 (-1)))]⟩, ⟨[27, 3]⟩⟩, 4, "", ⟨[]⟩, none⟩, none, false⟩,
     ⟨⟨(some 2), .assign (.tmp 4), 4, "", ⟨[]⟩, none⟩, none, false⟩])
   .ret))
def Try.s54 : SC :=
 (.seq
  (.ops false [
    ⟨⟨(some 4), .alloc 3, 0, "", ⟨[]⟩, none⟩, none, false⟩,
    ⟨⟨(some 5), .assign (.const (.bool false)), 4, "", ⟨[]⟩, none⟩, none, false⟩])
  (.seq
   (.ops false [
     ⟨⟨(some 6), .move (.tmp 0), 27, "", ⟨[]⟩, none⟩, none, false⟩,
     ⟨⟨(some 7), .move (.tmp 1), 27, "", ⟨[]⟩, none⟩, none, false⟩,
     ⟨⟨(some 8), .makeFunc (.func 79) ⟨[]⟩ ⟨[(.tmp 4)]⟩, 121, "", ⟨[]⟩, none⟩, none, false⟩,
     ⟨⟨(some 9), .call ⟨.value (.func 78), ⟨[(.tmp 6), (.tmp 7), (.tmp 8)]⟩, ⟨[27, 27, 121]⟩⟩, 4, "", ⟨[]⟩, none⟩, none, false⟩,
     ⟨⟨(some 5), .assign (.tmp 9), 4, "", ⟨[]⟩, none⟩, none, false⟩])
   (.seq
    (.seq
     (.ops false [
       ⟨⟨(some 10), .move (.tmp 5), 4, "", ⟨[]⟩, none⟩, none, false⟩,
       ⟨⟨(some 11), .unOp .not 4 (.tmp 10), 4, "", ⟨[]⟩, none⟩, none, false⟩,
       ⟨⟨(some 12), .move (.tmp 11), 4, "", ⟨[]⟩, none⟩, none, false⟩,
       ⟨⟨(some 13), .load 3 (.tmp 4), 3, "", ⟨[]⟩, none⟩, some ((some 12), false), false⟩,
       ⟨⟨(some 14), .binOp .lss 3 (.tmp 13) (.const (.int .i64 4)) 3, 4, "", ⟨[]⟩, none⟩, some ((some 12), false), false⟩,
       ⟨⟨(some 15), .pick (.tmp 12) (.const (.bool true)) (.tmp 14), 4, "", ⟨[]⟩, none⟩, none, false⟩])
     (.cond (.tmp 15)
      (.seq
       (.ops false [
         ⟨⟨none, .store 3 (.tmp 4) (.const (.int .i64 0)), 0, "", ⟨[]⟩, none⟩, none, false⟩,
         ⟨⟨(some 5), .assign (.const (.bool false)), 4, "", ⟨[]⟩, none⟩, none, false⟩])
       .ret)
      .skip))
    (.seq
     (.ops false [
       ⟨⟨(some 16), .load 3 (.tmp 4), 3, "", ⟨[]⟩, none⟩, none, false⟩,
       ⟨⟨none, .store 3 (.tmp 4) (.tmp 16), 0, "", ⟨[]⟩, none⟩, none, false⟩,
       ⟨⟨(some 5), .assign (.const (.bool true)), 4, "", ⟨[]⟩, none⟩, none, false⟩])
     .ret))))
def Try.s55 : SC :=
 (.seq
  (.ops false [
    ⟨⟨(some 2), .assign (.const (.bool false)), 4, "", ⟨[]⟩, none⟩, none, false⟩])
  (.seq
   (.ops false [
     ⟨⟨(some 3), .move (.tmp 0), 27, "", ⟨[]⟩, none⟩, none, false⟩,
     ⟨⟨(some 4), .call ⟨.value (.func 80), ⟨[(.tmp 3), (.const (.int .i64 0))]⟩, ⟨[27, 3]⟩⟩, 4, "", ⟨[]⟩, none⟩, none, false⟩,
     ⟨⟨(some 2), .assign (.tmp 4), 4, "", ⟨[]⟩, none⟩, none, false⟩])
   .ret))
def Try.s56 : SC :=
 (.seq
  (.ops false [
    ⟨⟨(some 2), .assign (.const (.bool false)), 4, "", ⟨[]⟩, none⟩, none, false⟩])
  (.seq
   (.ops false [
     ⟨⟨(some 3), .move (.tmp 0), 27, "", ⟨[]⟩, none⟩, none, false⟩,
     ⟨⟨(some 4), .call ⟨.value (.func 80), ⟨[(.tmp 3), (.const (.int .i64 (-1)))]⟩, ⟨[27, 3]⟩⟩, 4, "", ⟨[]⟩, none⟩, none, false⟩,
     ⟨⟨(some 2), .assign (.tmp 4), 4, "", ⟨[]⟩, none⟩, none, false⟩])
   .ret))
def Try.s57 : SC :=
 (.seq
  (.ops false [
    ⟨⟨(some 4), .assign (.const (.int .i64 0)), 3, "", ⟨[]⟩, none⟩, none, false⟩])
  (.seq
   (.ops false [
     ⟨⟨(some 5), .assign (.const (.int .i64 0)), 3, "", ⟨[]⟩, none⟩, none, false⟩])
   (.seq
    (.seq
     (.ops false [
       ⟨⟨(some 6), .assign (.const (.int .i64 0)), 3, "", ⟨[]⟩, none⟩, none, false⟩])
     (.block 0
      (.loop
       (.seq
        (.seq
         (.ops false [
           ⟨⟨(some 7), .move (.tmp 6), 3, "", ⟨[]⟩, none⟩, none, false⟩,
           ⟨⟨(some 8), .move (.tmp 1), 27, "", ⟨[]⟩, none⟩, none, false⟩,
           ⟨⟨(some 9), .call ⟨.builtin .len, ⟨[(.tmp 8)]⟩, ⟨[27]⟩⟩, 3, "", ⟨[]⟩, none⟩, none, false⟩,
           ⟨⟨(some 10), .binOp .lss 3 (.tmp 7) (.tmp 9) 3, 4, "", ⟨[]⟩, none⟩, none, false⟩,
           ⟨⟨(some 11), .move (.tmp 10), 4, "", ⟨[]⟩, none⟩, none, false⟩,
           ⟨⟨(some 12), .move (.tmp 1), 27, "", ⟨[]⟩, none⟩, some ((some 11), true), false⟩,
           ⟨⟨(some 13), .call ⟨.builtin .len, ⟨[(.tmp 12)]⟩, ⟨[27]⟩⟩, 3, "", ⟨[]⟩, none⟩, some ((some 11), true), false⟩,
           ⟨⟨(some 14), .move (.tmp 0), 27, "", ⟨[]⟩, none⟩, some ((some 11), true), false⟩,
           ⟨⟨(some 15), .call ⟨.builtin .len, ⟨[(.tmp 14)]⟩, ⟨[27]⟩⟩, 3, "", ⟨[]⟩, none⟩, some ((some 11), true), false⟩,
           ⟨⟨(some 16), .binOp .eql 3 (.tmp 13) (.tmp 15) 3, 4, "", ⟨[]⟩, none⟩, some ((some 11), true), false⟩,
           ⟨⟨(some 17), .pick (.tmp 11) (.tmp 16) (.const (.bool false)), 4, "", ⟨[]⟩, none⟩, none, false⟩])
         (.cond (.tmp 17)
          .skip
          (.exit 0)))
        (.seq
         (.block 1
          (.seq
           (.seq
            (.ops true [
              ⟨⟨(some 20), .move (.tmp 1), 27, "", ⟨[]⟩, none⟩, none, true⟩,
              ⟨⟨(some 21), .move (.tmp 6), 3, "", ⟨[]⟩, none⟩, none, true⟩,
              ⟨⟨(some 22), .indexAddr 27 (.tmp 20) (.tmp 21), 0, "", ⟨[]⟩, none⟩, none, true⟩,
              ⟨⟨(some 23), .load 3 (.tmp 22), 3, "", ⟨[]⟩, none⟩, none, true⟩,
              ⟨⟨(some 24), .binOp .geq 3 (.tmp 23) (.const (.int .i64 0)) 3, 4, "", ⟨[]⟩, none⟩, none, true⟩,
              ⟨⟨(some 25), .move (.tmp 24), 4, "", ⟨[]⟩, none⟩, none, true⟩,
              ⟨⟨(some 26), .move (.tmp 1), 27, "", ⟨[]⟩, none⟩, some ((some 25), true), true⟩,
              ⟨⟨(some 27), .move (.tmp 6), 3, "", ⟨[]⟩, none⟩, some ((some 25), true), true⟩,
              ⟨⟨(some 28), .indexAddr 27 (.tmp 26) (.tmp 27), 0, "", ⟨[]⟩, none⟩, some ((some 25), true), true⟩,
              ⟨⟨(some 29), .load 3 (.tmp 28), 3, "", ⟨[]⟩, none⟩, some ((some 25), true), true⟩,
              ⟨⟨(some 30), .move (.tmp 0), 27, "", ⟨[]⟩, none⟩, some ((some 25), true), true⟩,
              ⟨⟨(some 31), .move (.tmp 6), 3, "", ⟨[]⟩, none⟩, some ((some 25), true), true⟩,
              ⟨⟨(some 32), .indexAddr 27 (.tmp 30) (.tmp 31), 0, "", ⟨[]⟩, none⟩, some ((some 25), true), true⟩,
              ⟨⟨(some 33), .load 3 (.tmp 32), 3, "", ⟨[]⟩, none⟩, some ((some 25), true), true⟩,
              ⟨⟨(some 34), .binOp .neq 3 (.tmp 29) (.tmp 33) 3, 4, "", ⟨[]⟩, none⟩, some ((some 25), true), true⟩,
              ⟨⟨(some 35), .pick (.tmp 25) (.tmp 34) (.const (.bool false)), 4, "", ⟨[]⟩, none⟩, none, true⟩])
            (.cond (.tmp 35)
             (.seq
              (.ops false [
                ⟨⟨(some 4), .assign (.const (.int .i64 (-1))), 3, "", ⟨[]⟩, none⟩, none, false⟩])
              .ret)
             .skip))
           (.seq
            (.ops false [
              ⟨⟨(some 36), .move (.tmp 1), 27, "", ⟨[]⟩, none⟩, none, false⟩,
              ⟨⟨(some 37), .move (.tmp 6), 3, "", ⟨[]⟩, none⟩, none, false⟩,
              ⟨⟨(some 38), .indexAddr 27 (.tmp 36) (.tmp 37), 0, "", ⟨[]⟩, none⟩, none, false⟩,
              ⟨⟨(some 39), .load 3 (.tmp 38), 3, "", ⟨[]⟩, none⟩, none, false⟩,
              ⟨⟨(some 40), .binOp .geq 3 (.tmp 39) (.const (.int .i64 0)) 3, 4, "", ⟨[]⟩, none⟩, none, false⟩])
            (.cond (.tmp 40)
             (.ops false [
               ⟨⟨(some 41), .move (.tmp 5), 3, "", ⟨[]⟩, none⟩, none, false⟩,
               ⟨⟨(some 42), .binOp .add 3 (.tmp 41) (.const (.int .i64 1)) 3, 3, "", ⟨[]⟩, none⟩, none, false⟩,
               ⟨⟨(some 5), .assign (.tmp 42), 3, "", ⟨[]⟩, none⟩, none, false⟩])
             .skip))))
         (.ops false [
           ⟨⟨(some 18), .move (.tmp 6), 3, "", ⟨[]⟩, none⟩, none, false⟩,
           ⟨⟨(some 19), .binOp .add 3 (.tmp 18) (.const (.int .i64 1)) 3, 3, "", ⟨[]⟩, none⟩, none, false⟩,
           ⟨⟨(some 6), .assign (.tmp 19), 3, "", ⟨[]⟩, none⟩, none, false⟩]))))))
    (.seq
     (.seq
      (.ops false [
        ⟨⟨(some 43), .move (.tmp 5), 3, "", ⟨[]⟩, none⟩, none, false⟩,
        ⟨⟨(some 44), .binOp .lss 3 (.tmp 43) (.const (.int .i64 4)) 3, 4, "", ⟨[]⟩, none⟩, none, false⟩])
      (.cond (.tmp 44)
       (.seq
        (.ops false [
          ⟨⟨(some 4), .assign (.const (.int .i64 (-1))), 3, "", ⟨[]⟩, none⟩, none, false⟩])
        .ret)
       .skip))
     (.seq
      (.ops false [
        ⟨⟨(some 45), .move (.tmp 5), 3, "", ⟨[]⟩, none⟩, none, false⟩,
        ⟨⟨(some 4), .assign (.tmp 45), 3, "", ⟨[]⟩, none⟩, none, false⟩])
      .ret)))))
def Try.s77 : SC :=
 (.seq
  (.ops false [
    ⟨⟨(some 4), .assign (.const (.bool false)), 4, "", ⟨[]⟩, none⟩, none, false⟩])
  (.seq
   (.seq
    (.ops false [
      ⟨⟨(some 7), .move (.tmp 0), 27, "", ⟨[]⟩, none⟩, none, false⟩,
      ⟨⟨(some 8), .call ⟨.builtin .len, ⟨[(.tmp 7)]⟩, ⟨[27]⟩⟩, 3, "", ⟨[]⟩, none⟩, none, false⟩,
      ⟨⟨(some 9), .call ⟨.value (.func 43), ⟨[(.tmp 8), (.const (.int .i64 8)), (.const (.int .i64 16))]⟩, ⟨[3, 3, 3]⟩⟩, 4, "", ⟨[]⟩, none⟩, none, false⟩,
      ⟨⟨(some 10), .unOp .not 4 (.tmp 9), 4, "", ⟨[]⟩, none⟩, none, false⟩])
    (.cond (.tmp 10)
     (.seq
      (.ops false [
        ⟨⟨(some 4), .assign (.const (.bool false)), 4, "", ⟨[]⟩, none⟩, none, false⟩])
      .ret)
     .skip))
   (.seq
    (.seq
     (.ops false [
       ⟨⟨(some 11), .move (.tmp 0), 27, "", ⟨[]⟩, none⟩, none, false⟩,
       ⟨⟨(some 12), .call ⟨.builtin .len, ⟨[(.tmp 11)]⟩, ⟨[27]⟩⟩, 3, "", ⟨[]⟩, none⟩, none, false⟩,
       ⟨⟨(some 13), .move (.const (.int .i64 0)), 3, "", ⟨[]⟩, none⟩, none, false⟩])
     (.block 0
      (.loop
       (.seq
        (.ops false [
          ⟨⟨(some 14), .binOp .lss 3 (.tmp 13) (.tmp 12) 3, 0, "", ⟨[]⟩, none⟩, none, false⟩])
        (.seq
         (.cond (.tmp 14)
          .skip
          (.exit 0))
         (.seq
          (.block 1
           (.seq
            (.ops false [
              ⟨⟨(some 15), .indexAddr 27 (.tmp 11) (.tmp 13), 0, "", ⟨[]⟩, none⟩, none, false⟩,
              ⟨⟨(some 16), .load 3 (.tmp 15), 3, "", ⟨[]⟩, none⟩, none, false⟩,
              ⟨⟨(some 6), .assign (.tmp 16), 3, "", ⟨[]⟩, none⟩, none, false⟩])
            (.seq
             (.ops false [
               ⟨⟨(some 17), .move (.tmp 6), 3, "", ⟨[]⟩, none⟩, none, false⟩,
               ⟨⟨(some 18), .move (.tmp 1), 3, "", ⟨[]⟩, none⟩, none, false⟩,
               ⟨⟨(some 19), .call ⟨.value (.func 43), ⟨[(.tmp 17), (.tmp 18), (.const (.int .i64 9))]⟩, ⟨[3, 3, 3]⟩⟩, 4, "", ⟨[]⟩, none⟩, none, false⟩,
               ⟨⟨(some 20), .unOp .not 4 (.tmp 19), 4, "", ⟨[]⟩, none⟩, none, false⟩])
             (.cond (.tmp 20)
              (.seq
               (.ops false [
                 ⟨⟨(some 4), .assign (.const (.bool false)), 4, "", ⟨[]⟩, none⟩, none, false⟩])
               .ret)
              .skip))))
          (.ops false [
            ⟨⟨(some 21), .binOp .add 3 (.tmp 13) (.const (.int .i64 1)) 3, 3, "", ⟨[]⟩, none⟩, none, false⟩,
            ⟨⟨(some 13), .move (.tmp 21), 3, "", ⟨[]⟩, none⟩, none, false⟩])))))))
    (.seq
     (.ops false [
       ⟨⟨(some 4), .assign (.const (.bool true)), 4, "", ⟨[]⟩, none⟩, none, false⟩])
     .ret))))
def Try.s78 : SC :=
 (.seq
  (.ops false [
    ⟨⟨(some 6), .assign (.const (.bool false)), 4, "", ⟨[]⟩, none⟩, none, false⟩])
  (.seq
   (.seq
    (.ops false [
      ⟨⟨(some 8), .move (.tmp 0), 27, "", ⟨[]⟩, none⟩, none, false⟩,
      ⟨⟨(some 9), .call ⟨.builtin .len, ⟨[(.tmp 8)]⟩, ⟨[27]⟩⟩, 3, "", ⟨[]⟩, none⟩, none, false⟩,
      ⟨⟨(some 10), .move (.tmp 1), 27, "", ⟨[]⟩, none⟩, none, false⟩,
      ⟨⟨(some 11), .call ⟨.builtin .len, ⟨[(.tmp 10)]⟩, ⟨[27]⟩⟩, 3, "", ⟨[]⟩, none⟩, none, false⟩,
      ⟨⟨(some 12), .binOp .neq 3 (.tmp 9) (.tmp 11) 3, 4, "", ⟨[]⟩, none⟩, none, false⟩])
    (.cond (.tmp 12)
     (.seq
      (.ops false [
        ⟨⟨(some 6), .assign (.const (.bool false)), 4, "", ⟨[]⟩, none⟩, none, false⟩])
      .ret)
     .skip))
   (.seq
    (.seq
     (.ops false [
       ⟨⟨(some 13), .move (.tmp 0), 27, "", ⟨[]⟩, none⟩, none, false⟩,
       ⟨⟨(some 14), .call ⟨.builtin .len, ⟨[(.tmp 13)]⟩, ⟨[27]⟩⟩, 3, "", ⟨[]⟩, none⟩, none, false⟩,
       ⟨⟨(some 15), .move (.const (.int .i64 0)), 3, "", ⟨[]⟩, none⟩, none, false⟩])
     (.block 0
      (.loop
       (.seq
        (.ops false [
          ⟨⟨(some 16), .binOp .lss 3 (.tmp 15) (.tmp 14) 3, 0, "", ⟨[]⟩, none⟩, none, false⟩])
        (.seq
         (.cond (.tmp 16)
          .skip
          (.exit 0))
         (.seq
          (.block 1
           (.seq
            (.ops false [
              ⟨⟨(some 17), .move (.tmp 15), 3, "", ⟨[]⟩, none⟩, none, false⟩,
              ⟨⟨(some 7), .assign (.tmp 17), 3, "", ⟨[]⟩, none⟩, none, false⟩])
            (.seq
             (.ops true [
               ⟨⟨(some 18), .move (.tmp 2), 121, "", ⟨[]⟩, none⟩, none, true⟩,
               ⟨⟨(some 19), .move (.tmp 0), 27, "", ⟨[]⟩, none⟩, none, true⟩,
               ⟨⟨(some 20), .move (.tmp 7), 3, "", ⟨[]⟩, none⟩, none, true⟩,
               ⟨⟨(some 21), .indexAddr 27 (.tmp 19) (.tmp 20), 0, "", ⟨[]⟩, none⟩, none, true⟩,
               ⟨⟨(some 22), .load 3 (.tmp 21), 3, "", ⟨[]⟩, none⟩, none, true⟩,
               ⟨⟨(some 23), .move (.tmp 1), 27, "", ⟨[]⟩, none⟩, none, true⟩,
               ⟨⟨(some 24), .move (.tmp 7), 3, "", ⟨[]⟩, none⟩, none, true⟩,
               ⟨⟨(some 25), .indexAddr 27 (.tmp 23) (.tmp 24), 0, "", ⟨[]⟩, none⟩, none, true⟩,
               ⟨⟨(some 26), .load 3 (.tmp 25), 3, "", ⟨[]⟩, none⟩, none, true⟩,
               ⟨⟨(some 27), .call ⟨.value (.tmp 18), ⟨[(.tmp 22), (.tmp 26)]⟩, ⟨[3, 3]⟩⟩, 4, "", ⟨[]⟩, none⟩, none, false⟩,
               ⟨⟨(some 28), .unOp .not 4 (.tmp 27), 4, "", ⟨[]⟩, none⟩, none, true⟩])
             (.cond (.tmp 28)
              (.seq
               (.ops false [
                 ⟨⟨(some 6), .assign (.const (.bool false)), 4, "", ⟨[]⟩, none⟩, none, false⟩])
               .ret)
              .skip))))
          (.ops false [
            ⟨⟨(some 29), .binOp .add 3 (.tmp 15) (.const (.int .i64 1)) 3, 3, "", ⟨[]⟩, none⟩, none, false⟩,
            ⟨⟨(some 15), .move (.tmp 29), 3, "", ⟨[]⟩, none⟩, none, false⟩])))))))
    (.seq
     (.ops false [
       ⟨⟨(some 6), .assign (.const (.bool true)), 4, "", ⟨[]⟩, none⟩, none, false⟩])
     .ret))))
def Try.s79 : SC :=
 (.seq
  (.ops false [
    ⟨⟨(some 5), .assign (.const (.bool false)), 4, "", ⟨[]⟩, none⟩, none, false⟩])
  (.seq
   (.seq
    (.ops false [
      ⟨⟨(some 6), .move (.tmp 1), 3, "", ⟨[]⟩, none⟩, none, false⟩,
      ⟨⟨(some 7), .binOp .eql 3 (.tmp 6) (.const (.int .i64 (-1))) 3, 4, "", ⟨[]⟩, none⟩, none, false⟩])
    (.cond (.tmp 7)
     (.seq
      (.ops false [
        ⟨⟨(some 5), .assign (.const (.bool true)), 4, "", ⟨[]⟩, none⟩, none, false⟩])
      .ret)
     .skip))
   (.seq
    (.ops false [
      ⟨⟨(some 8), .load 3 (.tmp 2), 3, "", ⟨[]⟩, none⟩, none, false⟩,
      ⟨⟨(some 9), .binOp .add 3 (.tmp 8) (.const (.int .i64 1)) 3, 3, "", ⟨[]⟩, none⟩, none, false⟩,
      ⟨⟨none, .store 3 (.tmp 2) (.tmp 9), 0, "", ⟨[]⟩, none⟩, none, false⟩])
    (.seq
     (.ops false [
       ⟨⟨(some 10), .move (.tmp 0), 3, "", ⟨[]⟩, none⟩, none, false⟩,
       ⟨⟨(some 11), .move (.tmp 1), 3, "", ⟨[]⟩, none⟩, none, false⟩,
       ⟨⟨(some 12), .binOp .eql 3 (.tmp 10) (.tmp 11) 3, 4, "", ⟨[]⟩, none⟩, none, false⟩,
       ⟨⟨(some 5), .assign (.tmp 12), 4, "", ⟨[]⟩, none⟩, none, false⟩])
     .ret))))
def Try.s80 : SC :=
 (.seq
  (.ops false [
    ⟨⟨(some 4), .assign (.const (.bool false)), 4, "", ⟨[]⟩, none⟩, none, false⟩])
  (.seq
   (.seq
    (.ops false [
      ⟨⟨(some 6), .move (.tmp 0), 27, "", ⟨[]⟩, none⟩, none, false⟩,
      ⟨⟨(some 7), .call ⟨.builtin .len, ⟨[(.tmp 6)]⟩, ⟨[27]⟩⟩, 3, "", ⟨[]⟩, none⟩, none, false⟩,
      ⟨⟨(some 8), .call ⟨.value (.func 32), ⟨[(.const (.int .i64 8)), (.tmp 7), (.const (.int .i64 16))]⟩, ⟨[3, 3, 3]⟩⟩, 4, "", ⟨[]⟩, none⟩, none, false⟩,
      ⟨⟨(some 9), .unOp .not 4 (.tmp 8), 4, "", ⟨[]⟩, none⟩, none, false⟩])
    (.cond (.tmp 9)
     (.seq
      (.ops false [
        ⟨⟨(some 4), .assign (.const (.bool false)), 4, "", ⟨[]⟩, none⟩, none, false⟩])
      .ret)
     .skip))
   (.seq
    (.seq
     (.ops false [
       ⟨⟨(some 5), .assign (.const (.int .i64 0)), 3, "", ⟨[]⟩, none⟩, none, false⟩])
     (.block 0
      (.loop
       (.seq
        (.seq
         (.ops false [
           ⟨⟨(some 10), .move (.tmp 5), 3, "", ⟨[]⟩, none⟩, none, false⟩,
           ⟨⟨(some 11), .move (.tmp 0), 27, "", ⟨[]⟩, none⟩, none, false⟩,
           ⟨⟨(some 12), .call ⟨.builtin .len, ⟨[(.tmp 11)]⟩, ⟨[27]⟩⟩, 3, "", ⟨[]⟩, none⟩, none, false⟩,
           ⟨⟨(some 13), .binOp .lss 3 (.tmp 10) (.tmp 12) 3, 4, "", ⟨[]⟩, none⟩, none, false⟩])
         (.cond (.tmp 13)
          .skip
          (.exit 0)))
        (.seq
         (.block 1
          (.seq
           (.ops false [
             ⟨⟨(some 16), .move (.tmp 1), 3, "", ⟨[]⟩, none⟩, none, false⟩,
             ⟨⟨(some 17), .move (.tmp 0), 27, "", ⟨[]⟩, none⟩, none, false⟩,
             ⟨⟨(some 18), .move (.tmp 5), 3, "", ⟨[]⟩, none⟩, none, false⟩,
             ⟨⟨(some 19), .indexAddr 27 (.tmp 17) (.tmp 18), 0, "", ⟨[]⟩, none⟩, none, false⟩,
             ⟨⟨(some 20), .load 3 (.tmp 19), 3, "", ⟨[]⟩, none⟩, none, false⟩,
             ⟨⟨(some 21), .call ⟨.value (.func 32), ⟨[(.tmp 16), (.tmp 20), (.const (.int .i64 9))]⟩, ⟨[3, 3, 3]⟩⟩, 4, "", ⟨[]⟩, none⟩, none, false⟩,
             ⟨⟨(some 22), .unOp .not 4 (.tmp 21), 4, "", ⟨[]⟩, none⟩, none, false⟩])
           (.cond (.tmp 22)
            (.seq
             (.ops false [
               ⟨⟨(some 4), .assign (.const (.bool false)), 4, "", ⟨[]⟩, none⟩, none, false⟩])
             .ret)
            .skip)))
         (.ops false [
           ⟨⟨(some 14), .move (.tmp 5), 3, "", ⟨[]⟩, none⟩, none, false⟩,
           ⟨⟨(some 15), .binOp .add 3 (.tmp 14) (.const (.int .i64 1)) 3, 3, "", ⟨[]⟩, none⟩, none, false⟩,
           ⟨⟨(some 5), .assign (.tmp 15), 3, "", ⟨[]⟩, none⟩, none, false⟩]))))))
    (.seq
     (.ops false [
       ⟨⟨(some 4), .assign (.const (.bool true)), 4, "", ⟨[]⟩, none⟩, none, false⟩])
     .ret))))
theorem Try.s4_eq : Try.f4.body.map sOf = some Try.s4 := by kernel_rfl
theorem Try.s9_eq : Try.f9.body.map sOf = some Try.s9 := by kernel_rfl
theorem Try.s20_eq : Try.f20.body.map sOf = some Try.s20 := by kernel_rfl
theorem Try.s21_eq : Try.f21.body.map sOf = some Try.s21 := by kernel_rfl
theorem Try.s22_eq : Try.f22.body.map sOf = some Try.s22 := by kernel_rfl
theorem Try.s23_eq : Try.f23.body.map sOf = some Try.s23 := by kernel_rfl
theorem Try.s32_eq : Try.f32.body.map sOf = some Try.s32 := by kernel_rfl
theorem Try.s43_eq : Try.f43.body.map sOf = some Try.s43 := by kernel_rfl
theorem Try.s52_eq : Try.f52.body.map sOf = some Try.s52 := by kernel_rfl
theorem Try.s53_eq : Try.f53.body.map sOf = some Try.s53 := by kernel_rfl
theorem Try.s54_eq : Try.f54.body.map sOf = some Try.s54 := by kernel_rfl
theorem Try.s55_eq : Try.f55.body.map sOf = some Try.s55 := by kernel_rfl
theorem Try.s56_eq : Try.f56.body.map sOf = some Try.s56 := by kernel_rfl
theorem Try.s57_eq : Try.f57.body.map sOf = some Try.s57 := by kernel_rfl
theorem Try.s77_eq : Try.f77.body.map sOf = some Try.s77 := by kernel_rfl
theorem Try.s78_eq : Try.f78.body.map sOf = some Try.s78 := by kernel_rfl
theorem Try.s79_eq : Try.f79.body.map sOf = some Try.s79 := by kernel_rfl
theorem Try.s80_eq : Try.f80.body.map sOf = some Try.s80 := by kernel_rfl
end Go.Proofs
