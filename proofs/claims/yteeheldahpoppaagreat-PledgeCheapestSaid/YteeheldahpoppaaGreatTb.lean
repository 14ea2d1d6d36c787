/- This program's functions' stripped code, part 1. -/
import Derived.Test.YteeheldahpoppaaGreatTa
import Derived.Test.YteeheldahpoppaaGreatNa
set_option linter.unusedVariables false
set_option linter.unusedSimpArgs false
/- Functions' code, as the machine reads it. -/
namespace Go.Proofs
open Go Go.RowKit Go.Sim
set_option maxRecDepth 100000
def Tryz.s3 : SC :=
 (.seq
  (.ops false [
    ⟨⟨(some 5), .box 25 (.tmp 2), 0, "", ⟨[]⟩, none⟩, none, false⟩,
    ⟨⟨(some 6), .assign (.const (.bool false)), 4, "", ⟨[]⟩, none⟩, none, false⟩])
  (.seq
   (.ops false [
     ⟨⟨(some 14), .move (.tmp 0), 22, "", ⟨[]⟩, none⟩, none, false⟩,
     ⟨⟨(some 15), .move (.tmp 1), 23, "", ⟨[]⟩, none⟩, none, false⟩,
     ⟨⟨(some 16), .call ⟨.value (.func 9), ⟨[(.tmp 14), (.tmp 15)]⟩, ⟨[22, 23]⟩⟩, 28, "", ⟨[]⟩, none⟩, none, false⟩,
     ⟨⟨(some 13), .move (.tmp 16), 28, "", ⟨[]⟩, none⟩, none, false⟩,
     ⟨⟨(some 17), .extract (.tmp 13) 0, 26, "", ⟨[]⟩, none⟩, none, false⟩,
     ⟨⟨(some 18), .extract (.tmp 13) 1, 27, "", ⟨[]⟩, none⟩, none, false⟩,
     ⟨⟨(some 7), .assign (.tmp 17), 26, "", ⟨[]⟩, none⟩, none, false⟩,
     ⟨⟨(some 8), .assign (.tmp 18), 27, "", ⟨[]⟩, none⟩, none, false⟩])
   (.seq
    (.ops false [
      ⟨⟨(some 20), .move (.tmp 0), 22, "", ⟨[]⟩, none⟩, none, false⟩,
      ⟨⟨(some 21), .move (.tmp 1), 23, "", ⟨[]⟩, none⟩, none, false⟩,
      ⟨⟨(some 22), .call ⟨.value (.func 10), ⟨[(.tmp 20), (.tmp 21)]⟩, ⟨[22, 23]⟩⟩, 28, "", ⟨[]⟩, none⟩, none, false⟩,
      ⟨⟨(some 19), .move (.tmp 22), 28, "", ⟨[]⟩, none⟩, none, false⟩,
      ⟨⟨(some 23), .extract (.tmp 19) 0, 26, "", ⟨[]⟩, none⟩, none, false⟩,
      ⟨⟨(some 24), .extract (.tmp 19) 1, 27, "", ⟨[]⟩, none⟩, none, false⟩,
      ⟨⟨(some 9), .assign (.tmp 23), 26, "", ⟨[]⟩, none⟩, none, false⟩,
      ⟨⟨(some 10), .assign (.tmp 24), 27, "", ⟨[]⟩, none⟩, none, false⟩])
    (.seq
     (.seq
      (.ops false [
        ⟨⟨(some 25), .move (.tmp 7), 26, "", ⟨[]⟩, none⟩, none, false⟩,
        ⟨⟨(some 26), .move (.tmp 9), 26, "", ⟨[]⟩, none⟩, none, false⟩,
        ⟨⟨(some 27), .call ⟨.value (.func 11), ⟨[(.tmp 25), (.tmp 26)]⟩, ⟨[26, 26]⟩⟩, 4, "", ⟨[]⟩, none⟩, none, false⟩,
        ⟨⟨(some 28), .unOp .not 4 (.tmp 27), 4, "", ⟨[]⟩, none⟩, none, false⟩,
        ⟨⟨(some 29), .move (.tmp 28), 4, "", ⟨[]⟩, none⟩, none, false⟩,
        ⟨⟨(some 30), .move (.tmp 8), 27, "", ⟨[]⟩, none⟩, some ((some 29), false), false⟩,
        ⟨⟨(some 31), .move (.tmp 10), 27, "", ⟨[]⟩, none⟩, some ((some 29), false), false⟩,
        ⟨⟨(some 32), .binOp .neq 27 (.tmp 30) (.tmp 31) 27, 4, "", ⟨[]⟩, none⟩, some ((some 29), false), false⟩,
        ⟨⟨(some 33), .pick (.tmp 29) (.const (.bool true)) (.tmp 32), 4, "", ⟨[]⟩, none⟩, none, false⟩,
        ⟨⟨(some 34), .move (.tmp 33), 4, "", ⟨[]⟩, none⟩, none, false⟩,
        ⟨⟨(some 35), .move (.tmp 0), 22, "", ⟨[]⟩, none⟩, some ((some 34), false), false⟩,
        ⟨⟨(some 36), .call ⟨.value (.func 12), ⟨[(.tmp 35)]⟩, ⟨[22]⟩⟩, 27, "", ⟨[]⟩, none⟩, some ((some 34), false), false⟩,
        ⟨⟨(some 37), .move (.tmp 0), 22, "", ⟨[]⟩, none⟩, some ((some 34), false), false⟩,
        ⟨⟨(some 38), .call ⟨.value (.func 13), ⟨[(.tmp 37)]⟩, ⟨[22]⟩⟩, 27, "", ⟨[]⟩, none⟩, some ((some 34), false), false⟩,
        ⟨⟨(some 39), .binOp .neq 27 (.tmp 36) (.tmp 38) 27, 4, "", ⟨[]⟩, none⟩, some ((some 34), false), false⟩,
        ⟨⟨(some 40), .pick (.tmp 34) (.const (.bool true)) (.tmp 39), 4, "", ⟨[]⟩, none⟩, none, false⟩])
      (.cond (.tmp 40)
       (.seq
        (.ops false [
          ⟨⟨(some 6), .assign (.const (.bool false)), 4, "", ⟨[]⟩, none⟩, none, false⟩])
        .ret)
       .skip))
     (.seq
      (.ops false [
        ⟨⟨(some 42), .move (.tmp 0), 22, "", ⟨[]⟩, none⟩, none, false⟩,
        ⟨⟨(some 43), .indexAddr 25 (.tmp 5) (.const (.int .i64 0)), 0, "", ⟨[]⟩, none⟩, none, false⟩,
        ⟨⟨(some 44), .load 24 (.tmp 43), 24, "", ⟨[]⟩, none⟩, none, false⟩,
        ⟨⟨(some 45), .indexAddr 25 (.tmp 5) (.const (.int .i64 1)), 0, "", ⟨[]⟩, none⟩, none, false⟩,
        ⟨⟨(some 46), .load 24 (.tmp 45), 24, "", ⟨[]⟩, none⟩, none, false⟩,
        ⟨⟨(some 47), .call ⟨.value (.func 14), ⟨[(.tmp 42), (.tmp 44), (.tmp 46)]⟩, ⟨[22, 24, 24]⟩⟩, 32, "", ⟨[]⟩, none⟩, none, false⟩,
        ⟨⟨(some 41), .move (.tmp 47), 32, "", ⟨[]⟩, none⟩, none, false⟩,
        ⟨⟨(some 48), .extract (.tmp 41) 0, 4, "", ⟨[]⟩, none⟩, none, false⟩,
        ⟨⟨(some 49), .extract (.tmp 41) 1, 27, "", ⟨[]⟩, none⟩, none, false⟩,
        ⟨⟨(some 11), .assign (.tmp 48), 4, "", ⟨[]⟩, none⟩, none, false⟩,
        ⟨⟨(some 8), .assign (.tmp 49), 27, "", ⟨[]⟩, none⟩, none, false⟩])
      (.seq
       (.ops false [
         ⟨⟨(some 51), .move (.tmp 0), 22, "", ⟨[]⟩, none⟩, none, false⟩,
         ⟨⟨(some 52), .indexAddr 25 (.tmp 5) (.const (.int .i64 0)), 0, "", ⟨[]⟩, none⟩, none, false⟩,
         ⟨⟨(some 53), .load 24 (.tmp 52), 24, "", ⟨[]⟩, none⟩, none, false⟩,
         ⟨⟨(some 54), .indexAddr 25 (.tmp 5) (.const (.int .i64 1)), 0, "", ⟨[]⟩, none⟩, none, false⟩,
         ⟨⟨(some 55), .load 24 (.tmp 54), 24, "", ⟨[]⟩, none⟩, none, false⟩,
         ⟨⟨(some 56), .call ⟨.value (.func 15), ⟨[(.tmp 51), (.tmp 53), (.tmp 55)]⟩, ⟨[22, 24, 24]⟩⟩, 32, "", ⟨[]⟩, none⟩, none, false⟩,
         ⟨⟨(some 50), .move (.tmp 56), 32, "", ⟨[]⟩, none⟩, none, false⟩,
         ⟨⟨(some 57), .extract (.tmp 50) 0, 4, "", ⟨[]⟩, none⟩, none, false⟩,
         ⟨⟨(some 58), .extract (.tmp 50) 1, 27, "", ⟨[]⟩, none⟩, none, false⟩,
         ⟨⟨(some 12), .assign (.tmp 57), 4, "", ⟨[]⟩, none⟩, none, false⟩,
         ⟨⟨(some 10), .assign (.tmp 58), 27, "", ⟨[]⟩, none⟩, none, false⟩])
       (.seq
        (.ops false [
          ⟨⟨(some 59), .move (.tmp 11), 4, "", ⟨[]⟩, none⟩, none, false⟩,
          ⟨⟨(some 60), .move (.tmp 12), 4, "", ⟨[]⟩, none⟩, none, false⟩,
          ⟨⟨(some 61), .binOp .eql 4 (.tmp 59) (.tmp 60) 4, 4, "", ⟨[]⟩, none⟩, none, false⟩,
          ⟨⟨(some 62), .move (.tmp 61), 4, "", ⟨[]⟩, none⟩, none, false⟩,
          ⟨⟨(some 63), .move (.tmp 8), 27, "", ⟨[]⟩, none⟩, some ((some 62), true), false⟩,
          ⟨⟨(some 64), .move (.tmp 10), 27, "", ⟨[]⟩, none⟩, some ((some 62), true), false⟩,
          ⟨⟨(some 65), .binOp .eql 27 (.tmp 63) (.tmp 64) 27, 4, "", ⟨[]⟩, none⟩, some ((some 62), true), false⟩,
          ⟨⟨(some 66), .pick (.tmp 62) (.tmp 65) (.const (.bool false)), 4, "", ⟨[]⟩, none⟩, none, false⟩,
          ⟨⟨(some 67), .move (.tmp 66), 4, "", ⟨[]⟩, none⟩, none, false⟩,
          ⟨⟨(some 68), .call ⟨.value (.func 16), ⟨[]⟩, ⟨[]⟩⟩, 4, "", ⟨[]⟩, none⟩, some ((some 67), true), false⟩,
          ⟨⟨(some 69), .pick (.tmp 67) (.tmp 68) (.const (.bool false)), 4, "", ⟨[]⟩, none⟩, none, false⟩,
          ⟨⟨(some 6), .assign (.tmp 69), 4, "", ⟨[]⟩, none⟩, none, false⟩])
        .ret)))))))
def Tryz.s9 : SC :=
 (.seq
  (.ops false [
    ⟨⟨(some 4), .assign (.const (.slice none 0 0)), 26, "", ⟨[]⟩, none⟩, none, false⟩,
    ⟨⟨(some 5), .assign (.const (.int .i64 0)), 27, "", ⟨[]⟩, none⟩, none, false⟩])
  (.seq
   (.seq
    (.ops false [
      ⟨⟨(some 13), .move (.tmp 0), 22, "", ⟨[]⟩, none⟩, none, false⟩,
      ⟨⟨(some 14), .call ⟨.value (.func 12), ⟨[(.tmp 13)]⟩, ⟨[22]⟩⟩, 27, "", ⟨[]⟩, none⟩, none, false⟩,
      ⟨⟨(some 6), .assign (.tmp 14), 27, "", ⟨[]⟩, none⟩, none, false⟩])
    (.seq
     (.ops false [
       ⟨⟨(some 15), .move (.tmp 6), 27, "", ⟨[]⟩, none⟩, none, false⟩,
       ⟨⟨(some 16), .binOp .neq 27 (.tmp 15) (.const (.int .i64 0)) 27, 4, "", ⟨[]⟩, none⟩, none, false⟩])
     (.cond (.tmp 16)
      (.seq
       (.ops false [
         ⟨⟨(some 17), .move (.tmp 6), 27, "", ⟨[]⟩, none⟩, none, false⟩,
         ⟨⟨(some 4), .assign (.const (.slice none 0 0)), 26, "", ⟨[]⟩, none⟩, none, false⟩,
         ⟨⟨(some 5), .assign (.tmp 17), 27, "", ⟨[]⟩, none⟩, none, false⟩])
       .ret)
      .skip)))
   (.seq
    (.seq
     (.ops false [
       ⟨⟨(some 18), .move (.tmp 1), 23, "", ⟨[]⟩, none⟩, none, false⟩,
       ⟨⟨(some 19), .call ⟨.builtin .len, ⟨[(.tmp 18)]⟩, ⟨[23]⟩⟩, 3, "", ⟨[]⟩, none⟩, none, false⟩,
       ⟨⟨(some 20), .binOp .gtr 3 (.tmp 19) (.const (.int .i64 16)) 3, 4, "", ⟨[]⟩, none⟩, none, false⟩])
     (.cond (.tmp 20)
      (.seq
       (.ops false [
         ⟨⟨(some 4), .assign (.const (.slice none 0 0)), 26, "", ⟨[]⟩, none⟩, none, false⟩,
         ⟨⟨(some 5), .assign (.const (.int .i64 3)), 27, "", ⟨[]⟩, none⟩, none, false⟩])
       .ret)
      .skip))
    (.seq
     (.seq
      (.ops false [
        ⟨⟨(some 21), .move (.tmp 0), 22, "", ⟨[]⟩, none⟩, none, false⟩,
        ⟨⟨(some 22), .move (.tmp 1), 23, "", ⟨[]⟩, none⟩, none, false⟩,
        ⟨⟨(some 23), .call ⟨.value (.func 31), ⟨[(.tmp 21), (.const (.slice none 0 0)), (.tmp 22)]⟩, ⟨[22, 36, 23]⟩⟩, 27, "", ⟨[]⟩, none⟩, none, false⟩,
        ⟨⟨(some 7), .assign (.tmp 23), 27, "", ⟨[]⟩, none⟩, none, false⟩])
      (.seq
       (.ops false [
         ⟨⟨(some 24), .move (.tmp 7), 27, "", ⟨[]⟩, none⟩, none, false⟩,
         ⟨⟨(some 25), .binOp .neq 27 (.tmp 24) (.const (.int .i64 0)) 27, 4, "", ⟨[]⟩, none⟩, none, false⟩])
       (.cond (.tmp 25)
        (.seq
         (.ops false [
           ⟨⟨(some 26), .move (.tmp 7), 27, "", ⟨[]⟩, none⟩, none, false⟩,
           ⟨⟨(some 4), .assign (.const (.slice none 0 0)), 26, "", ⟨[]⟩, none⟩, none, false⟩,
           ⟨⟨(some 5), .assign (.tmp 26), 27, "", ⟨[]⟩, none⟩, none, false⟩])
         .ret)
        .skip)))
     (.seq
      (.ops false [
        ⟨⟨(some 27), .move (.tmp 0), 22, "", ⟨[]⟩, none⟩, none, false⟩,
        ⟨⟨(some 28), .call ⟨.builtin .len, ⟨[(.tmp 27)]⟩, ⟨[22]⟩⟩, 3, "", ⟨[]⟩, none⟩, none, false⟩,
        ⟨⟨(some 29), .makeSlice 26 (.tmp 28) (.tmp 28), 26, "", ⟨[]⟩, none⟩, none, false⟩,
        ⟨⟨(some 8), .assign (.tmp 29), 26, "", ⟨[]⟩, none⟩, none, false⟩])
      (.seq
       (.seq
        (.ops false [
          ⟨⟨(some 30), .move (.tmp 0), 22, "", ⟨[]⟩, none⟩, none, false⟩,
          ⟨⟨(some 31), .call ⟨.builtin .len, ⟨[(.tmp 30)]⟩, ⟨[22]⟩⟩, 3, "", ⟨[]⟩, none⟩, none, false⟩,
          ⟨⟨(some 32), .move (.const (.int .i64 0)), 3, "", ⟨[]⟩, none⟩, none, false⟩])
        (.block 0
         (.loop
          (.seq
           (.ops false [
             ⟨⟨(some 33), .binOp .lss 3 (.tmp 32) (.tmp 31) 3, 0, "", ⟨[]⟩, none⟩, none, false⟩])
           (.seq
            (.cond (.tmp 33)
             .skip
             (.exit 0))
            (.seq
             (.block 1
              (.seq
               (.ops false [
                 ⟨⟨(some 34), .move (.tmp 32), 3, "", ⟨[]⟩, none⟩, none, false⟩,
                 ⟨⟨(some 35), .indexAddr 22 (.tmp 30) (.tmp 32), 0, "", ⟨[]⟩, none⟩, none, false⟩,
                 ⟨⟨(some 36), .load 53 (.tmp 35), 53, "", ⟨[]⟩, none⟩, none, false⟩,
                 ⟨⟨(some 10), .alloc 53, 0, "", ⟨[]⟩, none⟩, none, false⟩,
                 ⟨⟨(some 9), .assign (.tmp 34), 3, "", ⟨[]⟩, none⟩, none, false⟩,
                 ⟨⟨none, .store 53 (.tmp 10) (.tmp 36), 0, "", ⟨[]⟩, none⟩, none, false⟩])
               (.seq
                (.ops false [
                  ⟨⟨(some 37), .move (.tmp 8), 26, "", ⟨[]⟩, none⟩, none, false⟩,
                  ⟨⟨(some 38), .move (.tmp 9), 3, "", ⟨[]⟩, none⟩, none, false⟩,
                  ⟨⟨(some 39), .build 58 ⟨[(0, (.const (.int .i64 0))), (1, (.const (.int .i64 100000)))]⟩, 58, "", ⟨[]⟩, none⟩, none, false⟩,
                  ⟨⟨(some 40), .indexAddr 26 (.tmp 37) (.tmp 38), 0, "", ⟨[]⟩, none⟩, none, false⟩,
                  ⟨⟨none, .store 58 (.tmp 40) (.tmp 39), 0, "", ⟨[]⟩, none⟩, none, false⟩])
                (.seq
                 (.seq
                  (.ops false [
                    ⟨⟨(some 41), .move (.tmp 1), 23, "", ⟨[]⟩, none⟩, none, false⟩,
                    ⟨⟨(some 42), .call ⟨.builtin .len, ⟨[(.tmp 41)]⟩, ⟨[23]⟩⟩, 3, "", ⟨[]⟩, none⟩, none, false⟩,
                    ⟨⟨(some 43), .move (.const (.int .i64 0)), 3, "", ⟨[]⟩, none⟩, none, false⟩])
                  (.block 2
                   (.loop
                    (.seq
                     (.ops false [
                       ⟨⟨(some 44), .binOp .lss 3 (.tmp 43) (.tmp 42) 3, 0, "", ⟨[]⟩, none⟩, none, false⟩])
                     (.seq
                      (.cond (.tmp 44)
                       .skip
                       (.exit 2))
                      (.seq
                       (.block 3
                        (.seq
                         (.ops false [
                           ⟨⟨(some 45), .indexAddr 23 (.tmp 41) (.tmp 43), 0, "", ⟨[]⟩, none⟩, none, false⟩,
                           ⟨⟨(some 46), .load 24 (.tmp 45), 24, "", ⟨[]⟩, none⟩, none, false⟩,
                           ⟨⟨(some 12), .assign (.tmp 46), 24, "", ⟨[]⟩, none⟩, none, false⟩])
                         (.seq
                          (.ops false [
                            ⟨⟨(some 47), .move (.tmp 12), 24, "", ⟨[]⟩, none⟩, none, false⟩,
                            ⟨⟨(some 48), .move (.tmp 9), 3, "", ⟨[]⟩, none⟩, none, false⟩,
                            ⟨⟨(some 49), .indexAddr 24 (.tmp 47) (.tmp 48), 0, "", ⟨[]⟩, none⟩, none, false⟩,
                            ⟨⟨(some 50), .load 3 (.tmp 49), 3, "", ⟨[]⟩, none⟩, none, false⟩,
                            ⟨⟨(some 51), .binOp .neq 3 (.tmp 50) (.const (.int .i64 (-1))) 3, 4, "", ⟨[]⟩, none⟩, none, false⟩])
                          (.cond (.tmp 51)
                           (.ops true [
                             ⟨⟨(some 52), .move (.tmp 8), 26, "", ⟨[]⟩, none⟩, none, true⟩,
                             ⟨⟨(some 53), .move (.tmp 9), 3, "", ⟨[]⟩, none⟩, none, true⟩,
                             ⟨⟨(some 54), .move (.tmp 8), 26, "", ⟨[]⟩, none⟩, none, true⟩,
                             ⟨⟨(some 55), .move (.tmp 9), 3, "", ⟨[]⟩, none⟩, none, true⟩,
                             ⟨⟨(some 56), .indexAddr 26 (.tmp 54) (.tmp 55), 0, "", ⟨[]⟩, none⟩, none, true⟩,
                             ⟨⟨(some 57), .load 58 (.tmp 56), 58, "", ⟨[]⟩, none⟩, none, true⟩,
                             ⟨⟨(some 58), .move (.tmp 12), 24, "", ⟨[]⟩, none⟩, none, true⟩,
                             ⟨⟨(some 59), .move (.tmp 9), 3, "", ⟨[]⟩, none⟩, none, true⟩,
                             ⟨⟨(some 60), .indexAddr 24 (.tmp 58) (.tmp 59), 0, "", ⟨[]⟩, none⟩, none, true⟩,
                             ⟨⟨(some 61), .load 3 (.tmp 60), 3, "", ⟨[]⟩, none⟩, none, true⟩,
                             ⟨⟨(some 62), .fieldAddr 53 (.tmp 10) 0, 0, "", ⟨[]⟩, none⟩, none, true⟩,
                             ⟨⟨(some 63), .load 3 (.tmp 62), 3, "", ⟨[]⟩, none⟩, none, true⟩,
                             ⟨⟨(some 64), .call ⟨.value (.func 33), ⟨[(.tmp 61), (.tmp 63)]⟩, ⟨[3, 3]⟩⟩, 58, "", ⟨[]⟩, none⟩, none, true⟩,
                             ⟨⟨(some 65), .call ⟨.value (.func 32), ⟨[(.tmp 57), (.tmp 64)]⟩, ⟨[58, 58]⟩⟩, 58, "", ⟨[]⟩, none⟩, none, true⟩,
                             ⟨⟨(some 66), .indexAddr 26 (.tmp 52) (.tmp 53), 0, "", ⟨[]⟩, none⟩, none, true⟩,
                             ⟨⟨none, .store 58 (.tmp 66) (.tmp 65), 0, "", ⟨[]⟩, none⟩, none, false⟩])
                           .skip))))
                       (.ops false [
                         ⟨⟨(some 67), .binOp .add 3 (.tmp 43) (.const (.int .i64 1)) 3, 3, "", ⟨[]⟩, none⟩, none, false⟩,
                         ⟨⟨(some 43), .move (.tmp 67), 3, "", ⟨[]⟩, none⟩, none, false⟩])))))))
                 (.seq
                  (.ops false [
                    ⟨⟨(some 68), .move (.tmp 8), 26, "", ⟨[]⟩, none⟩, none, false⟩,
                    ⟨⟨(some 69), .move (.tmp 9), 3, "", ⟨[]⟩, none⟩, none, false⟩,
                    ⟨⟨(some 70), .indexAddr 26 (.tmp 68) (.tmp 69), 0, "", ⟨[]⟩, none⟩, none, false⟩,
                    ⟨⟨(some 71), .load 58 (.tmp 70), 58, "", ⟨[]⟩, none⟩, none, false⟩,
                    ⟨⟨(some 72), .call ⟨.value (.func 34), ⟨[(.tmp 71)]⟩, ⟨[58]⟩⟩, 4, "", ⟨[]⟩, none⟩, none, false⟩])
                  (.cond (.tmp 72)
                   (.seq
                    (.ops false [
                      ⟨⟨(some 4), .assign (.const (.slice none 0 0)), 26, "", ⟨[]⟩, none⟩, none, false⟩,
                      ⟨⟨(some 5), .assign (.const (.int .i64 15)), 27, "", ⟨[]⟩, none⟩, none, false⟩])
                    .ret)
                   .skip))))))
             (.ops false [
               ⟨⟨(some 73), .binOp .add 3 (.tmp 32) (.const (.int .i64 1)) 3, 3, "", ⟨[]⟩, none⟩, none, false⟩,
               ⟨⟨(some 32), .move (.tmp 73), 3, "", ⟨[]⟩, none⟩, none, false⟩])))))))
       (.seq
        (.ops false [
          ⟨⟨(some 74), .move (.tmp 8), 26, "", ⟨[]⟩, none⟩, none, false⟩,
          ⟨⟨(some 4), .assign (.tmp 74), 26, "", ⟨[]⟩, none⟩, none, false⟩,
          ⟨⟨(some 5), .assign (.const (.int .i64 0)), 27, "", ⟨[]⟩, none⟩, none, false⟩])
        .ret)))))))
def Tryz.s10 : SC :=
 (.seq
  (.ops false [
    ⟨⟨(some 4), .assign (.const (.slice none 0 0)), 26, "", ⟨[]⟩, none⟩, none, false⟩,
    ⟨⟨(some 5), .assign (.const (.int .i64 0)), 27, "", ⟨[]⟩, none⟩, none, false⟩])
  (.seq
   (.seq
    (.ops false [
      ⟨⟨(some 13), .move (.tmp 0), 22, "", ⟨[]⟩, none⟩, none, false⟩,
      ⟨⟨(some 14), .call ⟨.value (.func 13), ⟨[(.tmp 13)]⟩, ⟨[22]⟩⟩, 27, "", ⟨[]⟩, none⟩, none, false⟩,
      ⟨⟨(some 6), .assign (.tmp 14), 27, "", ⟨[]⟩, none⟩, none, false⟩])
    (.seq
     (.ops false [
       ⟨⟨(some 15), .move (.tmp 6), 27, "", ⟨[]⟩, none⟩, none, false⟩,
       ⟨⟨(some 16), .binOp .neq 27 (.tmp 15) (.const (.int .i64 0)) 27, 4, "", ⟨[]⟩, none⟩, none, false⟩])
     (.cond (.tmp 16)
      (.seq
       (.ops false [
         ⟨⟨(some 17), .move (.tmp 6), 27, "", ⟨[]⟩, none⟩, none, false⟩,
         ⟨⟨(some 4), .assign (.const (.slice none 0 0)), 26, "", ⟨[]⟩, none⟩, none, false⟩,
         ⟨⟨(some 5), .assign (.tmp 17), 27, "", ⟨[]⟩, none⟩, none, false⟩])
       .ret)
      .skip)))
   (.seq
    (.seq
     (.ops false [
       ⟨⟨(some 18), .move (.tmp 1), 23, "", ⟨[]⟩, none⟩, none, false⟩,
       ⟨⟨(some 19), .call ⟨.builtin .len, ⟨[(.tmp 18)]⟩, ⟨[23]⟩⟩, 3, "", ⟨[]⟩, none⟩, none, false⟩,
       ⟨⟨(some 20), .binOp .gtr 3 (.tmp 19) (.const (.int .i64 16)) 3, 4, "", ⟨[]⟩, none⟩, none, false⟩])
     (.cond (.tmp 20)
      (.seq
       (.ops false [
         ⟨⟨(some 4), .assign (.const (.slice none 0 0)), 26, "", ⟨[]⟩, none⟩, none, false⟩,
         ⟨⟨(some 5), .assign (.const (.int .i64 3)), 27, "", ⟨[]⟩, none⟩, none, false⟩])
       .ret)
      .skip))
    (.seq
     (.seq
      (.ops false [
        ⟨⟨(some 7), .assign (.const (.int .i64 0)), 3, "", ⟨[]⟩, none⟩, none, false⟩])
      (.block 0
       (.loop
        (.seq
         (.seq
          (.ops false [
            ⟨⟨(some 21), .move (.tmp 7), 3, "", ⟨[]⟩, none⟩, none, false⟩,
            ⟨⟨(some 22), .move (.tmp 1), 23, "", ⟨[]⟩, none⟩, none, false⟩,
            ⟨⟨(some 23), .call ⟨.builtin .len, ⟨[(.tmp 22)]⟩, ⟨[23]⟩⟩, 3, "", ⟨[]⟩, none⟩, none, false⟩,
            ⟨⟨(some 24), .binOp .lss 3 (.tmp 21) (.tmp 23) 3, 4, "", ⟨[]⟩, none⟩, none, false⟩])
          (.cond (.tmp 24)
           .skip
           (.exit 0)))
         (.seq
          (.block 1
           (.seq
            (.ops false [
              ⟨⟨(some 27), .move (.tmp 1), 23, "", ⟨[]⟩, none⟩, none, false⟩,
              ⟨⟨(some 28), .move (.tmp 7), 3, "", ⟨[]⟩, none⟩, none, false⟩,
              ⟨⟨(some 29), .indexAddr 23 (.tmp 27) (.tmp 28), 0, "", ⟨[]⟩, none⟩, none, false⟩,
              ⟨⟨(some 30), .load 24 (.tmp 29), 24, "", ⟨[]⟩, none⟩, none, false⟩,
              ⟨⟨(some 31), .move (.tmp 0), 22, "", ⟨[]⟩, none⟩, none, false⟩,
              ⟨⟨(some 32), .call ⟨.builtin .len, ⟨[(.tmp 31)]⟩, ⟨[22]⟩⟩, 3, "", ⟨[]⟩, none⟩, none, false⟩,
              ⟨⟨(some 33), .call ⟨.value (.func 35), ⟨[(.tmp 30), (.tmp 32)]⟩, ⟨[24, 3]⟩⟩, 4, "", ⟨[]⟩, none⟩, none, false⟩,
              ⟨⟨(some 34), .unOp .not 4 (.tmp 33), 4, "", ⟨[]⟩, none⟩, none, false⟩])
            (.cond (.tmp 34)
             (.seq
              (.ops false [
                ⟨⟨(some 4), .assign (.const (.slice none 0 0)), 26, "", ⟨[]⟩, none⟩, none, false⟩,
                ⟨⟨(some 5), .assign (.const (.int .i64 13)), 27, "", ⟨[]⟩, none⟩, none, false⟩])
              .ret)
             .skip)))
          (.ops false [
            ⟨⟨(some 25), .move (.tmp 7), 3, "", ⟨[]⟩, none⟩, none, false⟩,
            ⟨⟨(some 26), .binOp .add 3 (.tmp 25) (.const (.int .i64 1)) 3, 3, "", ⟨[]⟩, none⟩, none, false⟩,
            ⟨⟨(some 7), .assign (.tmp 26), 3, "", ⟨[]⟩, none⟩, none, false⟩]))))))
     (.seq
      (.ops false [
        ⟨⟨(some 8), .assign (.const (.slice none 0 0)), 26, "", ⟨[]⟩, none⟩, none, false⟩])
      (.seq
       (.seq
        (.ops false [
          ⟨⟨(some 9), .assign (.const (.int .i64 0)), 3, "", ⟨[]⟩, none⟩, none, false⟩])
        (.block 2
         (.loop
          (.seq
           (.seq
            (.ops false [
              ⟨⟨(some 35), .move (.tmp 9), 3, "", ⟨[]⟩, none⟩, none, false⟩,
              ⟨⟨(some 36), .move (.tmp 0), 22, "", ⟨[]⟩, none⟩, none, false⟩,
              ⟨⟨(some 37), .call ⟨.builtin .len, ⟨[(.tmp 36)]⟩, ⟨[22]⟩⟩, 3, "", ⟨[]⟩, none⟩, none, false⟩,
              ⟨⟨(some 38), .binOp .lss 3 (.tmp 35) (.tmp 37) 3, 4, "", ⟨[]⟩, none⟩, none, false⟩])
            (.cond (.tmp 38)
             .skip
             (.exit 2)))
           (.seq
            (.block 3
             (.seq
              (.ops false [
                ⟨⟨(some 41), .build 58 ⟨[(0, (.const (.int .i64 0))), (1, (.const (.int .i64 100000)))]⟩, 58, "", ⟨[]⟩, none⟩, none, false⟩,
                ⟨⟨(some 10), .alloc 58, 0, "", ⟨[]⟩, none⟩, none, false⟩,
                ⟨⟨none, .store 58 (.tmp 10) (.tmp 41), 0, "", ⟨[]⟩, none⟩, none, false⟩])
              (.seq
               (.seq
                (.ops false [
                  ⟨⟨(some 11), .assign (.const (.int .i64 0)), 3, "", ⟨[]⟩, none⟩, none, false⟩])
                (.block 4
                 (.loop
                  (.seq
                   (.seq
                    (.ops false [
                      ⟨⟨(some 42), .move (.tmp 11), 3, "", ⟨[]⟩, none⟩, none, false⟩,
                      ⟨⟨(some 43), .move (.tmp 1), 23, "", ⟨[]⟩, none⟩, none, false⟩,
                      ⟨⟨(some 44), .call ⟨.builtin .len, ⟨[(.tmp 43)]⟩, ⟨[23]⟩⟩, 3, "", ⟨[]⟩, none⟩, none, false⟩,
                      ⟨⟨(some 45), .binOp .lss 3 (.tmp 42) (.tmp 44) 3, 4, "", ⟨[]⟩, none⟩, none, false⟩])
                    (.cond (.tmp 45)
                     .skip
                     (.exit 4)))
                   (.seq
                    (.block 5
                     (.seq
                      (.ops false [
                        ⟨⟨(some 48), .move (.tmp 1), 23, "", ⟨[]⟩, none⟩, none, false⟩,
                        ⟨⟨(some 49), .move (.tmp 11), 3, "", ⟨[]⟩, none⟩, none, false⟩,
                        ⟨⟨(some 50), .indexAddr 23 (.tmp 48) (.tmp 49), 0, "", ⟨[]⟩, none⟩, none, false⟩,
                        ⟨⟨(some 51), .load 24 (.tmp 50), 24, "", ⟨[]⟩, none⟩, none, false⟩,
                        ⟨⟨(some 52), .move (.tmp 9), 3, "", ⟨[]⟩, none⟩, none, false⟩,
                        ⟨⟨(some 53), .indexAddr 24 (.tmp 51) (.tmp 52), 0, "", ⟨[]⟩, none⟩, none, false⟩,
                        ⟨⟨(some 54), .load 3 (.tmp 53), 3, "", ⟨[]⟩, none⟩, none, false⟩,
                        ⟨⟨(some 12), .assign (.tmp 54), 3, "", ⟨[]⟩, none⟩, none, false⟩])
                      (.seq
                       (.ops false [
                         ⟨⟨(some 55), .move (.tmp 12), 3, "", ⟨[]⟩, none⟩, none, false⟩,
                         ⟨⟨(some 56), .binOp .geq 3 (.tmp 55) (.const (.int .i64 0)) 3, 4, "", ⟨[]⟩, none⟩, none, false⟩])
                       (.cond (.tmp 56)
                        (.ops true [
                          ⟨⟨(some 57), .fieldAddr 58 (.tmp 10) 0, 0, "", ⟨[]⟩, none⟩, none, true⟩,
                          ⟨⟨(some 58), .load 3 (.tmp 57), 3, "", ⟨[]⟩, none⟩, none, true⟩,
                          ⟨⟨(some 59), .move (.tmp 12), 3, "", ⟨[]⟩, none⟩, none, true⟩,
                          ⟨⟨(some 60), .move (.tmp 0), 22, "", ⟨[]⟩, none⟩, none, true⟩,
                          ⟨⟨(some 61), .move (.tmp 9), 3, "", ⟨[]⟩, none⟩, none, true⟩,
                          ⟨⟨(some 62), .indexAddr 22 (.tmp 60) (.tmp 61), 0, "", ⟨[]⟩, none⟩, none, true⟩,
                          ⟨⟨(some 63), .fieldAddr 53 (.tmp 62) 0, 0, "", ⟨[]⟩, none⟩, none, true⟩,
                          ⟨⟨(some 64), .load 3 (.tmp 63), 3, "", ⟨[]⟩, none⟩, none, true⟩,
                          ⟨⟨(some 65), .binOp .sub 3 (.tmp 59) (.tmp 64) 3, 3, "", ⟨[]⟩, none⟩, none, true⟩,
                          ⟨⟨(some 66), .call ⟨.builtin .max, ⟨[(.tmp 58), (.tmp 65)]⟩, ⟨[3, 3]⟩⟩, 3, "", ⟨[]⟩, none⟩, none, true⟩,
                          ⟨⟨(some 67), .fieldAddr 58 (.tmp 10) 1, 0, "", ⟨[]⟩, none⟩, none, true⟩,
                          ⟨⟨(some 68), .load 3 (.tmp 67), 3, "", ⟨[]⟩, none⟩, none, true⟩,
                          ⟨⟨(some 69), .move (.tmp 12), 3, "", ⟨[]⟩, none⟩, none, true⟩,
                          ⟨⟨(some 70), .move (.tmp 0), 22, "", ⟨[]⟩, none⟩, none, true⟩,
                          ⟨⟨(some 71), .move (.tmp 9), 3, "", ⟨[]⟩, none⟩, none, true⟩,
                          ⟨⟨(some 72), .indexAddr 22 (.tmp 70) (.tmp 71), 0, "", ⟨[]⟩, none⟩, none, true⟩,
                          ⟨⟨(some 73), .fieldAddr 53 (.tmp 72) 0, 0, "", ⟨[]⟩, none⟩, none, true⟩,
                          ⟨⟨(some 74), .load 3 (.tmp 73), 3, "", ⟨[]⟩, none⟩, none, true⟩,
                          ⟨⟨(some 75), .binOp .add 3 (.tmp 69) (.tmp 74) 3, 3, "", ⟨[]⟩, none⟩, none, true⟩,
                          ⟨⟨(some 76), .call ⟨.builtin .min, ⟨[(.tmp 68), (.tmp 75)]⟩, ⟨[3, 3]⟩⟩, 3, "", ⟨[]⟩, none⟩, none, true⟩,
                          ⟨⟨(some 77), .build 58 ⟨[(0, (.tmp 66)), (1, (.tmp 76))]⟩, 58, "", ⟨[]⟩, none⟩, none, true⟩,
                          ⟨⟨none, .store 58 (.tmp 10) (.tmp 77), 0, "", ⟨[]⟩, none⟩, none, false⟩])
                        .skip))))
                    (.ops false [
                      ⟨⟨(some 46), .move (.tmp 11), 3, "", ⟨[]⟩, none⟩, none, false⟩,
                      ⟨⟨(some 47), .binOp .add 3 (.tmp 46) (.const (.int .i64 1)) 3, 3, "", ⟨[]⟩, none⟩, none, false⟩,
                      ⟨⟨(some 11), .assign (.tmp 47), 3, "", ⟨[]⟩, none⟩, none, false⟩]))))))
               (.seq
                (.seq
                 (.ops false [
                   ⟨⟨(some 78), .fieldAddr 58 (.tmp 10) 0, 0, "", ⟨[]⟩, none⟩, none, false⟩,
                   ⟨⟨(some 79), .load 3 (.tmp 78), 3, "", ⟨[]⟩, none⟩, none, false⟩,
                   ⟨⟨(some 80), .fieldAddr 58 (.tmp 10) 1, 0, "", ⟨[]⟩, none⟩, none, false⟩,
                   ⟨⟨(some 81), .load 3 (.tmp 80), 3, "", ⟨[]⟩, none⟩, none, false⟩,
                   ⟨⟨(some 82), .binOp .gtr 3 (.tmp 79) (.tmp 81) 3, 4, "", ⟨[]⟩, none⟩, none, false⟩])
                 (.cond (.tmp 82)
                  (.seq
                   (.ops false [
                     ⟨⟨(some 4), .assign (.const (.slice none 0 0)), 26, "", ⟨[]⟩, none⟩, none, false⟩,
                     ⟨⟨(some 5), .assign (.const (.int .i64 15)), 27, "", ⟨[]⟩, none⟩, none, false⟩])
                   .ret)
                  .skip))
                (.ops false [
                  ⟨⟨(some 83), .move (.tmp 8), 26, "", ⟨[]⟩, none⟩, none, false⟩,
                  ⟨⟨(some 84), .load 58 (.tmp 10), 58, "", ⟨[]⟩, none⟩, none, false⟩,
                  ⟨⟨(some 85), .buildSlice 26 1 ⟨[(0, (.tmp 84))]⟩, 26, "", ⟨[]⟩, none⟩, none, false⟩,
                  ⟨⟨(some 86), .call ⟨.builtin .append, ⟨[(.tmp 83), (.tmp 85)]⟩, ⟨[26, 26]⟩⟩, 26, "", ⟨[]⟩, none⟩, none, false⟩,
                  ⟨⟨(some 8), .assign (.tmp 86), 26, "", ⟨[]⟩, none⟩, none, false⟩])))))
            (.ops false [
              ⟨⟨(some 39), .move (.tmp 9), 3, "", ⟨[]⟩, none⟩, none, false⟩,
              ⟨⟨(some 40), .binOp .add 3 (.tmp 39) (.const (.int .i64 1)) 3, 3, "", ⟨[]⟩, none⟩, none, false⟩,
              ⟨⟨(some 9), .assign (.tmp 40), 3, "", ⟨[]⟩, none⟩, none, false⟩]))))))
       (.seq
        (.ops false [
          ⟨⟨(some 87), .move (.tmp 8), 26, "", ⟨[]⟩, none⟩, none, false⟩,
          ⟨⟨(some 4), .assign (.tmp 87), 26, "", ⟨[]⟩, none⟩, none, false⟩,
          ⟨⟨(some 5), .assign (.const (.int .i64 0)), 27, "", ⟨[]⟩, none⟩, none, false⟩])
        .ret)))))))
def Tryz.s11 : SC :=
 (.seq
  (.ops false [
    ⟨⟨(some 4), .assign (.const (.bool false)), 4, "", ⟨[]⟩, none⟩, none, false⟩])
  (.seq
   (.seq
    (.ops false [
      ⟨⟨(some 6), .move (.tmp 0), 26, "", ⟨[]⟩, none⟩, none, false⟩,
      ⟨⟨(some 7), .call ⟨.builtin .len, ⟨[(.tmp 6)]⟩, ⟨[26]⟩⟩, 3, "", ⟨[]⟩, none⟩, none, false⟩,
      ⟨⟨(some 8), .move (.tmp 1), 26, "", ⟨[]⟩, none⟩, none, false⟩,
      ⟨⟨(some 9), .call ⟨.builtin .len, ⟨[(.tmp 8)]⟩, ⟨[26]⟩⟩, 3, "", ⟨[]⟩, none⟩, none, false⟩,
      ⟨⟨(some 10), .binOp .neq 3 (.tmp 7) (.tmp 9) 3, 4, "", ⟨[]⟩, none⟩, none, false⟩])
    (.cond (.tmp 10)
     (.seq
      (.ops false [
        ⟨⟨(some 4), .assign (.const (.bool false)), 4, "", ⟨[]⟩, none⟩, none, false⟩])
      .ret)
     .skip))
   (.seq
    (.seq
     (.ops false [
       ⟨⟨(some 5), .assign (.const (.int .i64 0)), 3, "", ⟨[]⟩, none⟩, none, false⟩])
     (.block 0
      (.loop
       (.seq
        (.seq
         (.ops false [
           ⟨⟨(some 11), .move (.tmp 5), 3, "", ⟨[]⟩, none⟩, none, false⟩,
           ⟨⟨(some 12), .move (.tmp 0), 26, "", ⟨[]⟩, none⟩, none, false⟩,
           ⟨⟨(some 13), .call ⟨.builtin .len, ⟨[(.tmp 12)]⟩, ⟨[26]⟩⟩, 3, "", ⟨[]⟩, none⟩, none, false⟩,
           ⟨⟨(some 14), .binOp .lss 3 (.tmp 11) (.tmp 13) 3, 4, "", ⟨[]⟩, none⟩, none, false⟩])
         (.cond (.tmp 14)
          .skip
          (.exit 0)))
        (.seq
         (.block 1
          (.seq
           (.ops true [
             ⟨⟨(some 17), .move (.tmp 0), 26, "", ⟨[]⟩, none⟩, none, true⟩,
             ⟨⟨(some 18), .move (.tmp 5), 3, "", ⟨[]⟩, none⟩, none, true⟩,
             ⟨⟨(some 19), .indexAddr 26 (.tmp 17) (.tmp 18), 0, "", ⟨[]⟩, none⟩, none, true⟩,
             ⟨⟨(some 20), .load 58 (.tmp 19), 58, "", ⟨[]⟩, none⟩, none, true⟩,
             ⟨⟨(some 21), .move (.tmp 1), 26, "", ⟨[]⟩, none⟩, none, true⟩,
             ⟨⟨(some 22), .move (.tmp 5), 3, "", ⟨[]⟩, none⟩, none, true⟩,
             ⟨⟨(some 23), .indexAddr 26 (.tmp 21) (.tmp 22), 0, "", ⟨[]⟩, none⟩, none, true⟩,
             ⟨⟨(some 24), .load 58 (.tmp 23), 58, "", ⟨[]⟩, none⟩, none, true⟩,
             ⟨⟨(some 25), .binOp .neq 58 (.tmp 20) (.tmp 24) 58, 4, "", ⟨[]⟩, none⟩, none, true⟩])
           (.cond (.tmp 25)
            (.seq
             (.ops false [
               ⟨⟨(some 4), .assign (.const (.bool false)), 4, "", ⟨[]⟩, none⟩, none, false⟩])
             .ret)
            .skip)))
         (.ops false [
           ⟨⟨(some 15), .move (.tmp 5), 3, "", ⟨[]⟩, none⟩, none, false⟩,
           ⟨⟨(some 16), .binOp .add 3 (.tmp 15) (.const (.int .i64 1)) 3, 3, "", ⟨[]⟩, none⟩, none, false⟩,
           ⟨⟨(some 5), .assign (.tmp 16), 3, "", ⟨[]⟩, none⟩, none, false⟩]))))))
    (.seq
     (.ops false [
       ⟨⟨(some 4), .assign (.const (.bool true)), 4, "", ⟨[]⟩, none⟩, none, false⟩])
     .ret))))
def Tryz.s12 : SC :=
 (.seq
  (.ops false [
    ⟨⟨(some 2), .assign (.const (.int .i64 0)), 27, "", ⟨[]⟩, none⟩, none, false⟩])
  (.seq
   (.seq
    (.ops false [
      ⟨⟨(some 5), .move (.tmp 0), 22, "", ⟨[]⟩, none⟩, none, false⟩,
      ⟨⟨(some 6), .call ⟨.builtin .len, ⟨[(.tmp 5)]⟩, ⟨[22]⟩⟩, 3, "", ⟨[]⟩, none⟩, none, false⟩,
      ⟨⟨(some 7), .binOp .lss 3 (.tmp 6) (.const (.int .i64 1)) 3, 4, "", ⟨[]⟩, none⟩, none, false⟩,
      ⟨⟨(some 8), .move (.tmp 7), 4, "", ⟨[]⟩, none⟩, none, false⟩,
      ⟨⟨(some 9), .move (.tmp 0), 22, "", ⟨[]⟩, none⟩, some ((some 8), false), false⟩,
      ⟨⟨(some 10), .call ⟨.builtin .len, ⟨[(.tmp 9)]⟩, ⟨[22]⟩⟩, 3, "", ⟨[]⟩, none⟩, some ((some 8), false), false⟩,
      ⟨⟨(some 11), .binOp .gtr 3 (.tmp 10) (.const (.int .i64 8)) 3, 4, "", ⟨[]⟩, none⟩, some ((some 8), false), false⟩,
      ⟨⟨(some 12), .pick (.tmp 8) (.const (.bool true)) (.tmp 11), 4, "", ⟨[]⟩, none⟩, none, false⟩])
    (.cond (.tmp 12)
     (.seq
      (.ops false [
        ⟨⟨(some 2), .assign (.const (.int .i64 12)), 27, "", ⟨[]⟩, none⟩, none, false⟩])
      .ret)
     .skip))
   (.seq
    (.seq
     (.ops false [
       ⟨⟨(some 13), .move (.tmp 0), 22, "", ⟨[]⟩, none⟩, none, false⟩,
       ⟨⟨(some 14), .call ⟨.builtin .len, ⟨[(.tmp 13)]⟩, ⟨[22]⟩⟩, 3, "", ⟨[]⟩, none⟩, none, false⟩,
       ⟨⟨(some 15), .move (.const (.int .i64 0)), 3, "", ⟨[]⟩, none⟩, none, false⟩])
     (.block 0
      (.loop
       (.seq
        (.ops false [
          ⟨⟨(some 16), .binOp .lss 3 (.tmp 15) (.tmp 14) 3, 0, "", ⟨[]⟩, none⟩, none, false⟩])
        (.seq
         (.cond (.tmp 16)
          .skip
          (.exit 0))
         (.seq
          (.block 1
           (.seq
            (.ops false [
              ⟨⟨(some 17), .indexAddr 22 (.tmp 13) (.tmp 15), 0, "", ⟨[]⟩, none⟩, none, false⟩,
              ⟨⟨(some 18), .load 53 (.tmp 17), 53, "", ⟨[]⟩, none⟩, none, false⟩,
              ⟨⟨(some 4), .alloc 53, 0, "", ⟨[]⟩, none⟩, none, false⟩,
              ⟨⟨none, .store 53 (.tmp 4) (.tmp 18), 0, "", ⟨[]⟩, none⟩, none, false⟩])
            (.seq
             (.ops false [
               ⟨⟨(some 19), .fieldAddr 53 (.tmp 4) 0, 0, "", ⟨[]⟩, none⟩, none, false⟩,
               ⟨⟨(some 20), .load 3 (.tmp 19), 3, "", ⟨[]⟩, none⟩, none, false⟩,
               ⟨⟨(some 21), .call ⟨.value (.func 36), ⟨[(.tmp 20), (.const (.int .i64 0)), (.const (.int .i64 1000))]⟩, ⟨[3, 3, 3]⟩⟩, 4, "", ⟨[]⟩, none⟩, none, false⟩,
               ⟨⟨(some 22), .unOp .not 4 (.tmp 21), 4, "", ⟨[]⟩, none⟩, none, false⟩,
               ⟨⟨(some 23), .move (.tmp 22), 4, "", ⟨[]⟩, none⟩, none, false⟩,
               ⟨⟨(some 24), .fieldAddr 53 (.tmp 4) 1, 0, "", ⟨[]⟩, none⟩, some ((some 23), false), false⟩,
               ⟨⟨(some 25), .load 3 (.tmp 24), 3, "", ⟨[]⟩, none⟩, some ((some 23), false), false⟩,
               ⟨⟨(some 26), .call ⟨.value (.func 36), ⟨[(.tmp 25), (.const (.int .i64 1)), (.const (.int .i64 1000))]⟩, ⟨[3, 3, 3]⟩⟩, 4, "", ⟨[]⟩, none⟩, some ((some 23), false), false⟩,
               ⟨⟨(some 27), .unOp .not 4 (.tmp 26), 4, "", ⟨[]⟩, none⟩, some ((some 23), false), false⟩,
               ⟨⟨(some 28), .pick (.tmp 23) (.const (.bool true)) (.tmp 27), 4, "", ⟨[]⟩, none⟩, none, false⟩])
             (.cond (.tmp 28)
              (.seq
               (.ops false [
                 ⟨⟨(some 2), .assign (.const (.int .i64 12)), 27, "", ⟨[]⟩, none⟩, none, false⟩])
               .ret)
              .skip))))
          (.ops false [
            ⟨⟨(some 29), .binOp .add 3 (.tmp 15) (.const (.int .i64 1)) 3, 3, "", ⟨[]⟩, none⟩, none, false⟩,
            ⟨⟨(some 15), .move (.tmp 29), 3, "", ⟨[]⟩, none⟩, none, false⟩])))))))
    (.seq
     (.ops false [
       ⟨⟨(some 2), .assign (.const (.int .i64 0)), 27, "", ⟨[]⟩, none⟩, none, false⟩])
     .ret))))
def Tryz.s13 : SC :=
 (.seq
  (.ops false [
    ⟨⟨(some 2), .assign (.const (.int .i64 0)), 27, "", ⟨[]⟩, none⟩, none, false⟩])
  (.seq
   (.ops false [
     ⟨⟨(some 5), .move (.tmp 0), 22, "", ⟨[]⟩, none⟩, none, false⟩,
     ⟨⟨(some 6), .call ⟨.builtin .len, ⟨[(.tmp 5)]⟩, ⟨[22]⟩⟩, 3, "", ⟨[]⟩, none⟩, none, false⟩,
     ⟨⟨(some 7), .call ⟨.value (.func 29), ⟨[(.const (.int .i64 1)), (.tmp 6), (.const (.int .i64 8))]⟩, ⟨[3, 3, 3]⟩⟩, 4, "", ⟨[]⟩, none⟩, none, false⟩,
     ⟨⟨(some 3), .assign (.tmp 7), 4, "", ⟨[]⟩, none⟩, none, false⟩])
   (.seq
    (.seq
     (.ops false [
       ⟨⟨(some 4), .assign (.const (.int .i64 0)), 3, "", ⟨[]⟩, none⟩, none, false⟩])
     (.block 0
      (.loop
       (.seq
        (.seq
         (.ops false [
           ⟨⟨(some 8), .move (.tmp 4), 3, "", ⟨[]⟩, none⟩, none, false⟩,
           ⟨⟨(some 9), .move (.tmp 0), 22, "", ⟨[]⟩, none⟩, none, false⟩,
           ⟨⟨(some 10), .call ⟨.builtin .len, ⟨[(.tmp 9)]⟩, ⟨[22]⟩⟩, 3, "", ⟨[]⟩, none⟩, none, false⟩,
           ⟨⟨(some 11), .binOp .lss 3 (.tmp 8) (.tmp 10) 3, 4, "", ⟨[]⟩, none⟩, none, false⟩])
         (.cond (.tmp 11)
          .skip
          (.exit 0)))
        (.seq
         (.block 1
          (.ops false [
            ⟨⟨(some 14), .move (.tmp 3), 4, "", ⟨[]⟩, none⟩, none, false⟩,
            ⟨⟨(some 15), .move (.tmp 14), 4, "", ⟨[]⟩, none⟩, none, false⟩,
            ⟨⟨(some 16), .move (.tmp 0), 22, "", ⟨[]⟩, none⟩, some ((some 15), true), false⟩,
            ⟨⟨(some 17), .move (.tmp 4), 3, "", ⟨[]⟩, none⟩, some ((some 15), true), false⟩,
            ⟨⟨(some 18), .indexAddr 22 (.tmp 16) (.tmp 17), 0, "", ⟨[]⟩, none⟩, some ((some 15), true), false⟩,
            ⟨⟨(some 19), .fieldAddr 53 (.tmp 18) 0, 0, "", ⟨[]⟩, none⟩, some ((some 15), true), false⟩,
            ⟨⟨(some 20), .load 3 (.tmp 19), 3, "", ⟨[]⟩, none⟩, some ((some 15), true), false⟩,
            ⟨⟨(some 21), .call ⟨.value (.func 29), ⟨[(.const (.int .i64 0)), (.tmp 20), (.const (.int .i64 1000))]⟩, ⟨[3, 3, 3]⟩⟩, 4, "", ⟨[]⟩, none⟩, some ((some 15), true), false⟩,
            ⟨⟨(some 22), .pick (.tmp 15) (.tmp 21) (.const (.bool false)), 4, "", ⟨[]⟩, none⟩, none, false⟩,
            ⟨⟨(some 23), .move (.tmp 22), 4, "", ⟨[]⟩, none⟩, none, false⟩,
            ⟨⟨(some 24), .move (.tmp 0), 22, "", ⟨[]⟩, none⟩, some ((some 23), true), false⟩,
            ⟨⟨(some 25), .move (.tmp 4), 3, "", ⟨[]⟩, none⟩, some ((some 23), true), false⟩,
            ⟨⟨(some 26), .indexAddr 22 (.tmp 24) (.tmp 25), 0, "", ⟨[]⟩, none⟩, some ((some 23), true), false⟩,
            ⟨⟨(some 27), .fieldAddr 53 (.tmp 26) 1, 0, "", ⟨[]⟩, none⟩, some ((some 23), true), false⟩,
            ⟨⟨(some 28), .load 3 (.tmp 27), 3, "", ⟨[]⟩, none⟩, some ((some 23), true), false⟩,
            ⟨⟨(some 29), .call ⟨.value (.func 29), ⟨[(.const (.int .i64 1)), (.tmp 28), (.const (.int .i64 1000))]⟩, ⟨[3, 3, 3]⟩⟩, 4, "", ⟨[]⟩, none⟩, some ((some 23), true), false⟩,
            ⟨⟨(some 30), .pick (.tmp 23) (.tmp 29) (.const (.bool false)), 4, "", ⟨[]⟩, none⟩, none, false⟩,
            ⟨⟨(some 3), .assign (.tmp 30), 4, "", ⟨[]⟩, none⟩, none, false⟩]))
         (.ops false [
           ⟨⟨(some 12), .move (.tmp 4), 3, "", ⟨[]⟩, none⟩, none, false⟩,
           ⟨⟨(some 13), .binOp .add 3 (.tmp 12) (.const (.int .i64 1)) 3, 3, "", ⟨[]⟩, none⟩, none, false⟩,
           ⟨⟨(some 4), .assign (.tmp 13), 3, "", ⟨[]⟩, none⟩, none, false⟩]))))))
    (.seq
     (.seq
      (.ops false [
        ⟨⟨(some 31), .move (.tmp 3), 4, "", ⟨[]⟩, none⟩, none, false⟩,
        ⟨⟨(some 32), .unOp .not 4 (.tmp 31), 4, "", ⟨[]⟩, none⟩, none, false⟩])
      (.cond (.tmp 32)
       (.seq
        (.ops false [
          ⟨⟨(some 2), .assign (.const (.int .i64 12)), 27, "", ⟨[]⟩, none⟩, none, false⟩])
        .ret)
       .skip))
     (.seq
      (.ops false [
        ⟨⟨(some 2), .assign (.const (.int .i64 0)), 27, "", ⟨[]⟩, none⟩, none, false⟩])
      .ret)))))
def Tryz.s14 : SC :=
 (.seq
  (.ops false [
    ⟨⟨(some 6), .assign (.const (.bool false)), 4, "", ⟨[]⟩, none⟩, none, false⟩,
    ⟨⟨(some 7), .assign (.const (.int .i64 0)), 27, "", ⟨[]⟩, none⟩, none, false⟩])
  (.seq
   (.seq
    (.ops false [
      ⟨⟨(some 13), .move (.tmp 0), 22, "", ⟨[]⟩, none⟩, none, false⟩,
      ⟨⟨(some 14), .move (.tmp 1), 24, "", ⟨[]⟩, none⟩, none, false⟩,
      ⟨⟨(some 15), .move (.tmp 2), 24, "", ⟨[]⟩, none⟩, none, false⟩,
      ⟨⟨(some 16), .buildSlice 23 2 ⟨[(0, (.tmp 14)), (1, (.tmp 15))]⟩, 23, "", ⟨[]⟩, none⟩, none, false⟩,
      ⟨⟨(some 17), .call ⟨.value (.func 31), ⟨[(.tmp 13), (.const (.slice none 0 0)), (.tmp 16)]⟩, ⟨[22, 36, 23]⟩⟩, 27, "", ⟨[]⟩, none⟩, none, false⟩,
      ⟨⟨(some 8), .assign (.tmp 17), 27, "", ⟨[]⟩, none⟩, none, false⟩])
    (.seq
     (.ops false [
       ⟨⟨(some 18), .move (.tmp 8), 27, "", ⟨[]⟩, none⟩, none, false⟩,
       ⟨⟨(some 19), .binOp .neq 27 (.tmp 18) (.const (.int .i64 0)) 27, 4, "", ⟨[]⟩, none⟩, none, false⟩])
     (.cond (.tmp 19)
      (.seq
       (.ops false [
         ⟨⟨(some 20), .move (.tmp 8), 27, "", ⟨[]⟩, none⟩, none, false⟩,
         ⟨⟨(some 6), .assign (.const (.bool false)), 4, "", ⟨[]⟩, none⟩, none, false⟩,
         ⟨⟨(some 7), .assign (.tmp 20), 27, "", ⟨[]⟩, none⟩, none, false⟩])
       .ret)
      .skip)))
   (.seq
    (.seq
     (.ops false [
       ⟨⟨(some 21), .move (.tmp 0), 22, "", ⟨[]⟩, none⟩, none, false⟩,
       ⟨⟨(some 22), .call ⟨.builtin .len, ⟨[(.tmp 21)]⟩, ⟨[22]⟩⟩, 3, "", ⟨[]⟩, none⟩, none, false⟩,
       ⟨⟨(some 23), .move (.const (.int .i64 0)), 3, "", ⟨[]⟩, none⟩, none, false⟩])
     (.block 0
      (.loop
       (.seq
        (.ops false [
          ⟨⟨(some 24), .binOp .lss 3 (.tmp 23) (.tmp 22) 3, 0, "", ⟨[]⟩, none⟩, none, false⟩])
        (.seq
         (.cond (.tmp 24)
          .skip
          (.exit 0))
         (.seq
          (.block 1
           (.seq
            (.ops false [
              ⟨⟨(some 25), .move (.tmp 23), 3, "", ⟨[]⟩, none⟩, none, false⟩,
              ⟨⟨(some 26), .indexAddr 22 (.tmp 21) (.tmp 23), 0, "", ⟨[]⟩, none⟩, none, false⟩,
              ⟨⟨(some 27), .load 53 (.tmp 26), 53, "", ⟨[]⟩, none⟩, none, false⟩,
              ⟨⟨(some 10), .alloc 53, 0, "", ⟨[]⟩, none⟩, none, false⟩,
              ⟨⟨(some 9), .assign (.tmp 25), 3, "", ⟨[]⟩, none⟩, none, false⟩,
              ⟨⟨none, .store 53 (.tmp 10) (.tmp 27), 0, "", ⟨[]⟩, none⟩, none, false⟩])
            (.seq
             (.ops true [
               ⟨⟨(some 28), .move (.tmp 1), 24, "", ⟨[]⟩, none⟩, none, true⟩,
               ⟨⟨(some 29), .move (.tmp 9), 3, "", ⟨[]⟩, none⟩, none, true⟩,
               ⟨⟨(some 30), .indexAddr 24 (.tmp 28) (.tmp 29), 0, "", ⟨[]⟩, none⟩, none, true⟩,
               ⟨⟨(some 31), .load 3 (.tmp 30), 3, "", ⟨[]⟩, none⟩, none, true⟩,
               ⟨⟨(some 32), .move (.tmp 2), 24, "", ⟨[]⟩, none⟩, none, true⟩,
               ⟨⟨(some 33), .move (.tmp 9), 3, "", ⟨[]⟩, none⟩, none, true⟩,
               ⟨⟨(some 34), .indexAddr 24 (.tmp 32) (.tmp 33), 0, "", ⟨[]⟩, none⟩, none, true⟩,
               ⟨⟨(some 35), .load 3 (.tmp 34), 3, "", ⟨[]⟩, none⟩, none, true⟩,
               ⟨⟨(some 11), .assign (.tmp 31), 3, "", ⟨[]⟩, none⟩, none, true⟩,
               ⟨⟨(some 12), .assign (.tmp 35), 3, "", ⟨[]⟩, none⟩, none, true⟩])
             (.seq
              (.ops false [
                ⟨⟨(some 36), .move (.tmp 11), 3, "", ⟨[]⟩, none⟩, none, false⟩,
                ⟨⟨(some 37), .binOp .neq 3 (.tmp 36) (.const (.int .i64 (-1))) 3, 4, "", ⟨[]⟩, none⟩, none, false⟩,
                ⟨⟨(some 38), .move (.tmp 37), 4, "", ⟨[]⟩, none⟩, none, false⟩,
                ⟨⟨(some 39), .move (.tmp 12), 3, "", ⟨[]⟩, none⟩, some ((some 38), true), false⟩,
                ⟨⟨(some 40), .binOp .neq 3 (.tmp 39) (.const (.int .i64 (-1))) 3, 4, "", ⟨[]⟩, none⟩, some ((some 38), true), false⟩,
                ⟨⟨(some 41), .pick (.tmp 38) (.tmp 40) (.const (.bool false)), 4, "", ⟨[]⟩, none⟩, none, false⟩,
                ⟨⟨(some 42), .move (.tmp 41), 4, "", ⟨[]⟩, none⟩, none, false⟩,
                ⟨⟨(some 43), .move (.tmp 11), 3, "", ⟨[]⟩, none⟩, some ((some 42), true), false⟩,
                ⟨⟨(some 44), .move (.tmp 12), 3, "", ⟨[]⟩, none⟩, some ((some 42), true), false⟩,
                ⟨⟨(some 45), .binOp .sub 3 (.tmp 43) (.tmp 44) 3, 3, "", ⟨[]⟩, none⟩, some ((some 42), true), false⟩,
                ⟨⟨(some 46), .move (.tmp 12), 3, "", ⟨[]⟩, none⟩, some ((some 42), true), false⟩,
                ⟨⟨(some 47), .move (.tmp 11), 3, "", ⟨[]⟩, none⟩, some ((some 42), true), false⟩,
                ⟨⟨(some 48), .binOp .sub 3 (.tmp 46) (.tmp 47) 3, 3, "", ⟨[]⟩, none⟩, some ((some 42), true), false⟩,
                ⟨⟨(some 49), .call ⟨.builtin .max, ⟨[(.tmp 45), (.tmp 48)]⟩, ⟨[3, 3]⟩⟩, 3, "", ⟨[]⟩, none⟩, some ((some 42), true), false⟩,
                ⟨⟨(some 50), .fieldAddr 53 (.tmp 10) 0, 0, "", ⟨[]⟩, none⟩, some ((some 42), true), false⟩,
                ⟨⟨(some 51), .load 3 (.tmp 50), 3, "", ⟨[]⟩, none⟩, some ((some 42), true), false⟩,
                ⟨⟨(some 52), .binOp .mul 3 (.const (.int .i64 2)) (.tmp 51) 3, 3, "", ⟨[]⟩, none⟩, some ((some 42), true), false⟩,
                ⟨⟨(some 53), .binOp .gtr 3 (.tmp 49) (.tmp 52) 3, 4, "", ⟨[]⟩, none⟩, some ((some 42), true), false⟩,
                ⟨⟨(some 54), .pick (.tmp 42) (.tmp 53) (.const (.bool false)), 4, "", ⟨[]⟩, none⟩, none, false⟩])
              (.cond (.tmp 54)
               (.seq
                (.ops false [
                  ⟨⟨(some 6), .assign (.const (.bool false)), 4, "", ⟨[]⟩, none⟩, none, false⟩,
                  ⟨⟨(some 7), .assign (.const (.int .i64 0)), 27, "", ⟨[]⟩, none⟩, none, false⟩])
                .ret)
               .skip)))))
          (.ops false [
            ⟨⟨(some 55), .binOp .add 3 (.tmp 23) (.const (.int .i64 1)) 3, 3, "", ⟨[]⟩, none⟩, none, false⟩,
            ⟨⟨(some 23), .move (.tmp 55), 3, "", ⟨[]⟩, none⟩, none, false⟩])))))))
    (.seq
     (.ops false [
       ⟨⟨(some 6), .assign (.const (.bool true)), 4, "", ⟨[]⟩, none⟩, none, false⟩,
       ⟨⟨(some 7), .assign (.const (.int .i64 0)), 27, "", ⟨[]⟩, none⟩, none, false⟩])
     .ret))))
def Tryz.s15 : SC :=
 (.seq
  (.ops false [
    ⟨⟨(some 6), .assign (.const (.bool false)), 4, "", ⟨[]⟩, none⟩, none, false⟩,
    ⟨⟨(some 7), .assign (.const (.int .i64 0)), 27, "", ⟨[]⟩, none⟩, none, false⟩])
  (.seq
   (.seq
    (.ops false [
      ⟨⟨(some 10), .move (.tmp 0), 22, "", ⟨[]⟩, none⟩, none, false⟩,
      ⟨⟨(some 11), .call ⟨.value (.func 13), ⟨[(.tmp 10)]⟩, ⟨[22]⟩⟩, 27, "", ⟨[]⟩, none⟩, none, false⟩,
      ⟨⟨(some 8), .assign (.tmp 11), 27, "", ⟨[]⟩, none⟩, none, false⟩])
    (.seq
     (.ops false [
       ⟨⟨(some 12), .move (.tmp 8), 27, "", ⟨[]⟩, none⟩, none, false⟩,
       ⟨⟨(some 13), .binOp .neq 27 (.tmp 12) (.const (.int .i64 0)) 27, 4, "", ⟨[]⟩, none⟩, none, false⟩])
     (.cond (.tmp 13)
      (.seq
       (.ops false [
         ⟨⟨(some 14), .move (.tmp 8), 27, "", ⟨[]⟩, none⟩, none, false⟩,
         ⟨⟨(some 6), .assign (.const (.bool false)), 4, "", ⟨[]⟩, none⟩, none, false⟩,
         ⟨⟨(some 7), .assign (.tmp 14), 27, "", ⟨[]⟩, none⟩, none, false⟩])
       .ret)
      .skip)))
   (.seq
    (.seq
     (.ops false [
       ⟨⟨(some 15), .move (.tmp 1), 24, "", ⟨[]⟩, none⟩, none, false⟩,
       ⟨⟨(some 16), .move (.tmp 0), 22, "", ⟨[]⟩, none⟩, none, false⟩,
       ⟨⟨(some 17), .call ⟨.builtin .len, ⟨[(.tmp 16)]⟩, ⟨[22]⟩⟩, 3, "", ⟨[]⟩, none⟩, none, false⟩,
       ⟨⟨(some 18), .call ⟨.value (.func 35), ⟨[(.tmp 15), (.tmp 17)]⟩, ⟨[24, 3]⟩⟩, 4, "", ⟨[]⟩, none⟩, none, false⟩,
       ⟨⟨(some 19), .unOp .not 4 (.tmp 18), 4, "", ⟨[]⟩, none⟩, none, false⟩,
       ⟨⟨(some 20), .move (.tmp 19), 4, "", ⟨[]⟩, none⟩, none, false⟩,
       ⟨⟨(some 21), .move (.tmp 2), 24, "", ⟨[]⟩, none⟩, some ((some 20), false), false⟩,
       ⟨⟨(some 22), .move (.tmp 0), 22, "", ⟨[]⟩, none⟩, some ((some 20), false), false⟩,
       ⟨⟨(some 23), .call ⟨.builtin .len, ⟨[(.tmp 22)]⟩, ⟨[22]⟩⟩, 3, "", ⟨[]⟩, none⟩, some ((some 20), false), false⟩,
       ⟨⟨(some 24), .call ⟨.value (.func 35), ⟨[(.tmp 21), (.tmp 23)]⟩, ⟨[24, 3]⟩⟩, 4, "", ⟨[]⟩, none⟩, some ((some 20), false), false⟩,
       ⟨⟨(some 25), .unOp .not 4 (.tmp 24), 4, "", ⟨[]⟩, none⟩, some ((some 20), false), false⟩,
       ⟨⟨(some 26), .pick (.tmp 20) (.const (.bool true)) (.tmp 25), 4, "", ⟨[]⟩, none⟩, none, false⟩])
     (.cond (.tmp 26)
      (.seq
       (.ops false [
         ⟨⟨(some 6), .assign (.const (.bool false)), 4, "", ⟨[]⟩, none⟩, none, false⟩,
         ⟨⟨(some 7), .assign (.const (.int .i64 13)), 27, "", ⟨[]⟩, none⟩, none, false⟩])
       .ret)
      .skip))
    (.seq
     (.seq
      (.ops false [
        ⟨⟨(some 9), .assign (.const (.int .i64 0)), 3, "", ⟨[]⟩, none⟩, none, false⟩])
      (.block 0
       (.loop
        (.seq
         (.seq
          (.ops false [
            ⟨⟨(some 27), .move (.tmp 9), 3, "", ⟨[]⟩, none⟩, none, false⟩,
            ⟨⟨(some 28), .move (.tmp 0), 22, "", ⟨[]⟩, none⟩, none, false⟩,
            ⟨⟨(some 29), .call ⟨.builtin .len, ⟨[(.tmp 28)]⟩, ⟨[22]⟩⟩, 3, "", ⟨[]⟩, none⟩, none, false⟩,
            ⟨⟨(some 30), .binOp .lss 3 (.tmp 27) (.tmp 29) 3, 4, "", ⟨[]⟩, none⟩, none, false⟩])
          (.cond (.tmp 30)
           .skip
           (.exit 0)))
         (.seq
          (.block 1
           (.seq
            (.ops true [
              ⟨⟨(some 33), .move (.tmp 1), 24, "", ⟨[]⟩, none⟩, none, true⟩,
              ⟨⟨(some 34), .move (.tmp 9), 3, "", ⟨[]⟩, none⟩, none, true⟩,
              ⟨⟨(some 35), .indexAddr 24 (.tmp 33) (.tmp 34), 0, "", ⟨[]⟩, none⟩, none, true⟩,
              ⟨⟨(some 36), .load 3 (.tmp 35), 3, "", ⟨[]⟩, none⟩, none, true⟩,
              ⟨⟨(some 37), .binOp .geq 3 (.tmp 36) (.const (.int .i64 0)) 3, 4, "", ⟨[]⟩, none⟩, none, true⟩,
              ⟨⟨(some 38), .move (.tmp 37), 4, "", ⟨[]⟩, none⟩, none, true⟩,
              ⟨⟨(some 39), .move (.tmp 2), 24, "", ⟨[]⟩, none⟩, some ((some 38), true), true⟩,
              ⟨⟨(some 40), .move (.tmp 9), 3, "", ⟨[]⟩, none⟩, some ((some 38), true), true⟩,
              ⟨⟨(some 41), .indexAddr 24 (.tmp 39) (.tmp 40), 0, "", ⟨[]⟩, none⟩, some ((some 38), true), true⟩,
              ⟨⟨(some 42), .load 3 (.tmp 41), 3, "", ⟨[]⟩, none⟩, some ((some 38), true), true⟩,
              ⟨⟨(some 43), .binOp .geq 3 (.tmp 42) (.const (.int .i64 0)) 3, 4, "", ⟨[]⟩, none⟩, some ((some 38), true), true⟩,
              ⟨⟨(some 44), .pick (.tmp 38) (.tmp 43) (.const (.bool false)), 4, "", ⟨[]⟩, none⟩, none, true⟩,
              ⟨⟨(some 45), .move (.tmp 44), 4, "", ⟨[]⟩, none⟩, none, true⟩,
              ⟨⟨(some 46), .move (.tmp 1), 24, "", ⟨[]⟩, none⟩, some ((some 45), true), true⟩,
              ⟨⟨(some 47), .move (.tmp 9), 3, "", ⟨[]⟩, none⟩, some ((some 45), true), true⟩,
              ⟨⟨(some 48), .indexAddr 24 (.tmp 46) (.tmp 47), 0, "", ⟨[]⟩, none⟩, some ((some 45), true), true⟩,
              ⟨⟨(some 49), .load 3 (.tmp 48), 3, "", ⟨[]⟩, none⟩, some ((some 45), true), true⟩,
              ⟨⟨(some 50), .move (.tmp 2), 24, "", ⟨[]⟩, none⟩, some ((some 45), true), true⟩,
              ⟨⟨(some 51), .move (.tmp 9), 3, "", ⟨[]⟩, none⟩, some ((some 45), true), true⟩,
              ⟨⟨(some 52), .indexAddr 24 (.tmp 50) (.tmp 51), 0, "", ⟨[]⟩, none⟩, some ((some 45), true), true⟩,
              ⟨⟨(some 53), .load 3 (.tmp 52), 3, "", ⟨[]⟩, none⟩, some ((some 45), true), true⟩,
              ⟨⟨(some 54), .binOp .sub 3 (.tmp 49) (.tmp 53) 3, 3, "", ⟨[]⟩, none⟩, some ((some 45), true), true⟩,
              ⟨⟨(some 56), .move (.tmp 0), 22, "", ⟨[]⟩, none⟩, some ((some 45), true), true⟩,
              ⟨⟨(some 57), .move (.tmp 9), 3, "", ⟨[]⟩, none⟩, some ((some 45), true), true⟩,
              ⟨⟨(some 58), .indexAddr 22 (.tmp 56) (.tmp 57), 0, "", ⟨[]⟩, none⟩, some ((some 45), true), true⟩,
              ⟨⟨(some 59), .fieldAddr 53 (.tmp 58) 0, 0, "", ⟨[]⟩, none⟩, some ((some 45), true), true⟩,
              ⟨⟨(some 60), .load 3 (.tmp 59), 3, "", ⟨[]⟩, none⟩, some ((some 45), true), true⟩,
              ⟨⟨(some 61), .binOp .mul 3 (.const (.int .i64 2)) (.tmp 60) 3, 3, "", ⟨[]⟩, none⟩, some ((some 45), true), true⟩,
              ⟨⟨(some 55), .call ⟨.value (.func 37), ⟨[(.tmp 54)]⟩, ⟨[3]⟩⟩, 3, "", ⟨[]⟩, none⟩, some ((some 45), true), true⟩,
              ⟨⟨(some 62), .binOp .gtr 3 (.tmp 55) (.tmp 61) 3, 4, "", ⟨[]⟩, none⟩, some ((some 45), true), true⟩,
              ⟨⟨(some 63), .pick (.tmp 45) (.tmp 62) (.const (.bool false)), 4, "", ⟨[]⟩, none⟩, none, true⟩])
            (.cond (.tmp 63)
             (.seq
              (.ops false [
                ⟨⟨(some 6), .assign (.const (.bool false)), 4, "", ⟨[]⟩, none⟩, none, false⟩,
                ⟨⟨(some 7), .assign (.const (.int .i64 0)), 27, "", ⟨[]⟩, none⟩, none, false⟩])
              .ret)
             .skip)))
          (.ops false [
            ⟨⟨(some 31), .move (.tmp 9), 3, "", ⟨[]⟩, none⟩, none, false⟩,
            ⟨⟨(some 32), .binOp .add 3 (.tmp 31) (.const (.int .i64 1)) 3, 3, "", ⟨[]⟩, none⟩, none, false⟩,
            ⟨⟨(some 9), .assign (.tmp 32), 3, "", ⟨[]⟩, none⟩, none, false⟩]))))))
     (.seq
      (.ops false [
        ⟨⟨(some 6), .assign (.const (.bool true)), 4, "", ⟨[]⟩, none⟩, none, false⟩,
        ⟨⟨(some 7), .assign (.const (.int .i64 0)), 27, "", ⟨[]⟩, none⟩, none, false⟩])
      .ret)))))
def Tryz.s29 : SC :=
 (.seq
  (.ops false [
    ⟨⟨(some 6), .assign (.const (.bool false)), 4, "", ⟨[]⟩, none⟩, none, false⟩])
  (.seq
   (.ops false [
     ⟨⟨(some 7), .move (.tmp 0), 3, "", ⟨[]⟩, none⟩, none, false⟩,
     ⟨⟨(some 8), .move (.tmp 1), 3, "", ⟨[]⟩, none⟩, none, false⟩,
     ⟨⟨(some 9), .binOp .leq 3 (.tmp 7) (.tmp 8) 3, 4, "", ⟨[]⟩, none⟩, none, false⟩,
     ⟨⟨(some 10), .move (.tmp 9), 4, "", ⟨[]⟩, none⟩, none, false⟩,
     ⟨⟨(some 11), .move (.tmp 1), 3, "", ⟨[]⟩, none⟩, some ((some 10), true), false⟩,
     ⟨⟨(some 12), .move (.tmp 2), 3, "", ⟨[]⟩, none⟩, some ((some 10), true), false⟩,
     ⟨⟨(some 13), .binOp .leq 3 (.tmp 11) (.tmp 12) 3, 4, "", ⟨[]⟩, none⟩, some ((some 10), true), false⟩,
     ⟨⟨(some 14), .pick (.tmp 10) (.tmp 13) (.const (.bool false)), 4, "", ⟨[]⟩, none⟩, none, false⟩,
     ⟨⟨(some 6), .assign (.tmp 14), 4, "", ⟨[]⟩, none⟩, none, false⟩])
   .ret))
def Tryz.s31 : SC :=
 (.seq
  (.ops false [
    ⟨⟨(some 6), .assign (.const (.int .i64 0)), 27, "", ⟨[]⟩, none⟩, none, false⟩])
  (.seq
   (.seq
    (.ops false [
      ⟨⟨(some 10), .move (.tmp 0), 22, "", ⟨[]⟩, none⟩, none, false⟩,
      ⟨⟨(some 11), .call ⟨.value (.func 12), ⟨[(.tmp 10)]⟩, ⟨[22]⟩⟩, 27, "", ⟨[]⟩, none⟩, none, false⟩,
      ⟨⟨(some 7), .assign (.tmp 11), 27, "", ⟨[]⟩, none⟩, none, false⟩])
    (.seq
     (.ops false [
       ⟨⟨(some 12), .move (.tmp 7), 27, "", ⟨[]⟩, none⟩, none, false⟩,
       ⟨⟨(some 13), .binOp .neq 27 (.tmp 12) (.const (.int .i64 0)) 27, 4, "", ⟨[]⟩, none⟩, none, false⟩])
     (.cond (.tmp 13)
      (.seq
       (.ops false [
         ⟨⟨(some 14), .move (.tmp 7), 27, "", ⟨[]⟩, none⟩, none, false⟩,
         ⟨⟨(some 6), .assign (.tmp 14), 27, "", ⟨[]⟩, none⟩, none, false⟩])
       .ret)
      .skip)))
   (.seq
    (.seq
     (.ops false [
       ⟨⟨(some 15), .move (.tmp 2), 23, "", ⟨[]⟩, none⟩, none, false⟩,
       ⟨⟨(some 16), .call ⟨.builtin .len, ⟨[(.tmp 15)]⟩, ⟨[23]⟩⟩, 3, "", ⟨[]⟩, none⟩, none, false⟩,
       ⟨⟨(some 17), .move (.const (.int .i64 0)), 3, "", ⟨[]⟩, none⟩, none, false⟩])
     (.block 0
      (.loop
       (.seq
        (.ops false [
          ⟨⟨(some 18), .binOp .lss 3 (.tmp 17) (.tmp 16) 3, 0, "", ⟨[]⟩, none⟩, none, false⟩])
        (.seq
         (.cond (.tmp 18)
          .skip
          (.exit 0))
         (.seq
          (.block 1
           (.seq
            (.ops false [
              ⟨⟨(some 19), .indexAddr 23 (.tmp 15) (.tmp 17), 0, "", ⟨[]⟩, none⟩, none, false⟩,
              ⟨⟨(some 20), .load 24 (.tmp 19), 24, "", ⟨[]⟩, none⟩, none, false⟩,
              ⟨⟨(some 9), .assign (.tmp 20), 24, "", ⟨[]⟩, none⟩, none, false⟩])
            (.seq
             (.ops false [
               ⟨⟨(some 21), .move (.tmp 0), 22, "", ⟨[]⟩, none⟩, none, false⟩,
               ⟨⟨(some 22), .move (.tmp 9), 24, "", ⟨[]⟩, none⟩, none, false⟩,
               ⟨⟨(some 23), .call ⟨.value (.func 62), ⟨[(.tmp 21), (.tmp 22)]⟩, ⟨[22, 24]⟩⟩, 4, "", ⟨[]⟩, none⟩, none, false⟩,
               ⟨⟨(some 24), .unOp .not 4 (.tmp 23), 4, "", ⟨[]⟩, none⟩, none, false⟩])
             (.cond (.tmp 24)
              (.seq
               (.ops false [
                 ⟨⟨(some 6), .assign (.const (.int .i64 13)), 27, "", ⟨[]⟩, none⟩, none, false⟩])
               .ret)
              .skip))))
          (.ops false [
            ⟨⟨(some 25), .binOp .add 3 (.tmp 17) (.const (.int .i64 1)) 3, 3, "", ⟨[]⟩, none⟩, none, false⟩,
            ⟨⟨(some 17), .move (.tmp 25), 3, "", ⟨[]⟩, none⟩, none, false⟩])))))))
    (.seq
     (.seq
      (.ops false [
        ⟨⟨(some 26), .move (.tmp 0), 22, "", ⟨[]⟩, none⟩, none, false⟩,
        ⟨⟨(some 27), .move (.tmp 1), 36, "", ⟨[]⟩, none⟩, none, false⟩,
        ⟨⟨(some 28), .call ⟨.value (.func 63), ⟨[(.tmp 26), (.tmp 27)]⟩, ⟨[22, 36]⟩⟩, 4, "", ⟨[]⟩, none⟩, none, false⟩,
        ⟨⟨(some 29), .unOp .not 4 (.tmp 28), 4, "", ⟨[]⟩, none⟩, none, false⟩])
      (.cond (.tmp 29)
       (.seq
        (.ops false [
          ⟨⟨(some 6), .assign (.const (.int .i64 14)), 27, "", ⟨[]⟩, none⟩, none, false⟩])
        .ret)
       .skip))
     (.seq
      (.ops false [
        ⟨⟨(some 6), .assign (.const (.int .i64 0)), 27, "", ⟨[]⟩, none⟩, none, false⟩])
      .ret)))))
def Tryz.s32 : SC :=
 (.seq
  (.ops false [
    ⟨⟨(some 2), .box 58 (.tmp 0), 0, "", ⟨[]⟩, none⟩, none, false⟩,
    ⟨⟨(some 3), .box 58 (.tmp 1), 0, "", ⟨[]⟩, none⟩, none, false⟩,
    ⟨⟨(some 4), .alloc 58, 0, "", ⟨[]⟩, none⟩, none, false⟩])
  (.seq
   (.ops false [
     ⟨⟨(some 5), .fieldAddr 58 (.tmp 2) 0, 0, "", ⟨[]⟩, none⟩, none, false⟩,
     ⟨⟨(some 6), .load 3 (.tmp 5), 3, "", ⟨[]⟩, none⟩, none, false⟩,
     ⟨⟨(some 7), .fieldAddr 58 (.tmp 3) 0, 0, "", ⟨[]⟩, none⟩, none, false⟩,
     ⟨⟨(some 8), .load 3 (.tmp 7), 3, "", ⟨[]⟩, none⟩, none, false⟩,
     ⟨⟨(some 9), .call ⟨.builtin .max, ⟨[(.tmp 6), (.tmp 8)]⟩, ⟨[3, 3]⟩⟩, 3, "", ⟨[]⟩, none⟩, none, false⟩,
     ⟨⟨(some 10), .fieldAddr 58 (.tmp 2) 1, 0, "", ⟨[]⟩, none⟩, none, false⟩,
     ⟨⟨(some 11), .load 3 (.tmp 10), 3, "", ⟨[]⟩, none⟩, none, false⟩,
     ⟨⟨(some 12), .fieldAddr 58 (.tmp 3) 1, 0, "", ⟨[]⟩, none⟩, none, false⟩,
     ⟨⟨(some 13), .load 3 (.tmp 12), 3, "", ⟨[]⟩, none⟩, none, false⟩,
     ⟨⟨(some 14), .call ⟨.builtin .min, ⟨[(.tmp 11), (.tmp 13)]⟩, ⟨[3, 3]⟩⟩, 3, "", ⟨[]⟩, none⟩, none, false⟩,
     ⟨⟨(some 15), .build 58 ⟨[(0, (.tmp 9)), (1, (.tmp 14))]⟩, 58, "", ⟨[]⟩, none⟩, none, false⟩,
     ⟨⟨none, .store 58 (.tmp 4) (.tmp 15), 0, "", ⟨[]⟩, none⟩, none, false⟩])
   .ret))
def Tryz.s33 : SC :=
 (.seq
  (.ops false [
    ⟨⟨(some 4), .alloc 58, 0, "", ⟨[]⟩, none⟩, none, false⟩])
  (.seq
   (.ops false [
     ⟨⟨(some 5), .move (.tmp 0), 3, "", ⟨[]⟩, none⟩, none, false⟩,
     ⟨⟨(some 6), .move (.tmp 1), 3, "", ⟨[]⟩, none⟩, none, false⟩,
     ⟨⟨(some 7), .binOp .sub 3 (.tmp 5) (.tmp 6) 3, 3, "", ⟨[]⟩, none⟩, none, false⟩,
     ⟨⟨(some 8), .move (.tmp 0), 3, "", ⟨[]⟩, none⟩, none, false⟩,
     ⟨⟨(some 9), .move (.tmp 1), 3, "", ⟨[]⟩, none⟩, none, false⟩,
     ⟨⟨(some 10), .binOp .add 3 (.tmp 8) (.tmp 9) 3, 3, "", ⟨[]⟩, none⟩, none, false⟩,
     ⟨⟨(some 11), .build 58 ⟨[(0, (.tmp 7)), (1, (.tmp 10))]⟩, 58, "", ⟨[]⟩, none⟩, none, false⟩,
     ⟨⟨none, .store 58 (.tmp 4) (.tmp 11), 0, "", ⟨[]⟩, none⟩, none, false⟩])
   .ret))
def Tryz.s34 : SC :=
 (.seq
  (.ops false [
    ⟨⟨(some 1), .box 58 (.tmp 0), 0, "", ⟨[]⟩, none⟩, none, false⟩,
    ⟨⟨(some 2), .assign (.const (.bool false)), 4, "", ⟨[]⟩, none⟩, none, false⟩])
  (.seq
   (.ops false [
     ⟨⟨(some 3), .fieldAddr 58 (.tmp 1) 0, 0, "", ⟨[]⟩, none⟩, none, false⟩,
     ⟨⟨(some 4), .load 3 (.tmp 3), 3, "", ⟨[]⟩, none⟩, none, false⟩,
     ⟨⟨(some 5), .fieldAddr 58 (.tmp 1) 1, 0, "", ⟨[]⟩, none⟩, none, false⟩,
     ⟨⟨(some 6), .load 3 (.tmp 5), 3, "", ⟨[]⟩, none⟩, none, false⟩,
     ⟨⟨(some 7), .binOp .gtr 3 (.tmp 4) (.tmp 6) 3, 4, "", ⟨[]⟩, none⟩, none, false⟩,
     ⟨⟨(some 2), .assign (.tmp 7), 4, "", ⟨[]⟩, none⟩, none, false⟩])
   .ret))
def Tryz.s35 : SC :=
 (.seq
  (.ops false [
    ⟨⟨(some 4), .assign (.const (.bool false)), 4, "", ⟨[]⟩, none⟩, none, false⟩])
  (.seq
   (.seq
    (.ops false [
      ⟨⟨(some 5), .assign (.const (.int .i64 0)), 3, "", ⟨[]⟩, none⟩, none, false⟩])
    (.block 0
     (.loop
      (.seq
       (.seq
        (.ops false [
          ⟨⟨(some 6), .move (.tmp 5), 3, "", ⟨[]⟩, none⟩, none, false⟩,
          ⟨⟨(some 7), .move (.tmp 0), 24, "", ⟨[]⟩, none⟩, none, false⟩,
          ⟨⟨(some 8), .call ⟨.builtin .len, ⟨[(.tmp 7)]⟩, ⟨[24]⟩⟩, 3, "", ⟨[]⟩, none⟩, none, false⟩,
          ⟨⟨(some 9), .binOp .lss 3 (.tmp 6) (.tmp 8) 3, 4, "", ⟨[]⟩, none⟩, none, false⟩])
        (.cond (.tmp 9)
         .skip
         (.exit 0)))
       (.seq
        (.block 1
         (.seq
          (.ops false [
            ⟨⟨(some 12), .move (.tmp 0), 24, "", ⟨[]⟩, none⟩, none, false⟩,
            ⟨⟨(some 13), .move (.tmp 5), 3, "", ⟨[]⟩, none⟩, none, false⟩,
            ⟨⟨(some 14), .indexAddr 24 (.tmp 12) (.tmp 13), 0, "", ⟨[]⟩, none⟩, none, false⟩,
            ⟨⟨(some 15), .load 3 (.tmp 14), 3, "", ⟨[]⟩, none⟩, none, false⟩,
            ⟨⟨(some 16), .call ⟨.value (.func 29), ⟨[(.const (.int .i64 (-1))), (.tmp 15), (.const (.int .i64 100000))]⟩, ⟨[3, 3, 3]⟩⟩, 4, "", ⟨[]⟩, none⟩, none, false⟩,
            ⟨⟨(some 17), .unOp .not 4 (.tmp 16), 4, "", ⟨[]⟩, none⟩, none, false⟩])
          (.cond (.tmp 17)
           (.seq
            (.ops false [
              ⟨⟨(some 4), .assign (.const (.bool false)), 4, "", ⟨[]⟩, none⟩, none, false⟩])
            .ret)
           .skip)))
        (.ops false [
          ⟨⟨(some 10), .move (.tmp 5), 3, "", ⟨[]⟩, none⟩, none, false⟩,
          ⟨⟨(some 11), .binOp .add 3 (.tmp 10) (.const (.int .i64 1)) 3, 3, "", ⟨[]⟩, none⟩, none, false⟩,
          ⟨⟨(some 5), .assign (.tmp 11), 3, "", ⟨[]⟩, none⟩, none, false⟩]))))))
   (.seq
    (.ops false [
      ⟨⟨(some 18), .move (.tmp 0), 24, "", ⟨[]⟩, none⟩, none, false⟩,
      ⟨⟨(some 19), .call ⟨.builtin .len, ⟨[(.tmp 18)]⟩, ⟨[24]⟩⟩, 3, "", ⟨[]⟩, none⟩, none, false⟩,
      ⟨⟨(some 20), .move (.tmp 1), 3, "", ⟨[]⟩, none⟩, none, false⟩,
      ⟨⟨(some 21), .binOp .eql 3 (.tmp 19) (.tmp 20) 3, 4, "", ⟨[]⟩, none⟩, none, false⟩,
      ⟨⟨(some 4), .assign (.tmp 21), 4, "", ⟨[]⟩, none⟩, none, false⟩])
    .ret)))
def Tryz.s36 : SC :=
 (.seq
  (.ops false [
    ⟨⟨(some 6), .assign (.const (.bool false)), 4, "", ⟨[]⟩, none⟩, none, false⟩])
  (.seq
   (.ops false [
     ⟨⟨(some 7), .move (.tmp 1), 3, "", ⟨[]⟩, none⟩, none, false⟩,
     ⟨⟨(some 8), .move (.tmp 0), 3, "", ⟨[]⟩, none⟩, none, false⟩,
     ⟨⟨(some 9), .binOp .leq 3 (.tmp 7) (.tmp 8) 3, 4, "", ⟨[]⟩, none⟩, none, false⟩,
     ⟨⟨(some 10), .move (.tmp 9), 4, "", ⟨[]⟩, none⟩, none, false⟩,
     ⟨⟨(some 11), .move (.tmp 0), 3, "", ⟨[]⟩, none⟩, some ((some 10), true), false⟩,
     ⟨⟨(some 12), .move (.tmp 2), 3, "", ⟨[]⟩, none⟩, some ((some 10), true), false⟩,
     ⟨⟨(some 13), .binOp .leq 3 (.tmp 11) (.tmp 12) 3, 4, "", ⟨[]⟩, none⟩, some ((some 10), true), false⟩,
     ⟨⟨(some 14), .pick (.tmp 10) (.tmp 13) (.const (.bool false)), 4, "", ⟨[]⟩, none⟩, none, false⟩,
     ⟨⟨(some 6), .assign (.tmp 14), 4, "", ⟨[]⟩, none⟩, none, false⟩])
   .ret))
def Tryz.s37 : SC :=
 (.seq
  (.ops false [
    ⟨⟨(some 2), .assign (.const (.int .i64 0)), 3, "", ⟨[]⟩, none⟩, none, false⟩])
  (.seq
   (.ops false [
     ⟨⟨(some 3), .move (.tmp 0), 3, "", ⟨[]⟩, none⟩, none, false⟩,
     ⟨⟨(some 4), .move (.tmp 0), 3, "", ⟨[]⟩, none⟩, none, false⟩,
     ⟨⟨(some 5), .unOp .neg 3 (.tmp 4), 3, "", ⟨[]⟩, none⟩, none, false⟩,
     ⟨⟨(some 6), .call ⟨.builtin .max, ⟨[(.tmp 3), (.tmp 5)]⟩, ⟨[3, 3]⟩⟩, 3, "", ⟨[]⟩, none⟩, none, false⟩,
     ⟨⟨(some 2), .assign (.tmp 6), 3, "", ⟨[]⟩, none⟩, none, false⟩])
   .ret))
def Tryz.s62 : SC :=
 (.seq
  (.ops false [
    ⟨⟨(some 4), .assign (.const (.bool false)), 4, "", ⟨[]⟩, none⟩, none, false⟩])
  (.seq
   (.seq
    (.ops false [
      ⟨⟨(some 7), .move (.tmp 1), 24, "", ⟨[]⟩, none⟩, none, false⟩,
      ⟨⟨(some 8), .call ⟨.builtin .len, ⟨[(.tmp 7)]⟩, ⟨[24]⟩⟩, 3, "", ⟨[]⟩, none⟩, none, false⟩,
      ⟨⟨(some 9), .move (.tmp 0), 22, "", ⟨[]⟩, none⟩, none, false⟩,
      ⟨⟨(some 10), .call ⟨.builtin .len, ⟨[(.tmp 9)]⟩, ⟨[22]⟩⟩, 3, "", ⟨[]⟩, none⟩, none, false⟩,
      ⟨⟨(some 11), .binOp .neq 3 (.tmp 8) (.tmp 10) 3, 4, "", ⟨[]⟩, none⟩, none, false⟩])
    (.cond (.tmp 11)
     (.seq
      (.ops false [
        ⟨⟨(some 4), .assign (.const (.bool false)), 4, "", ⟨[]⟩, none⟩, none, false⟩])
      .ret)
     .skip))
   (.seq
    (.seq
     (.ops false [
       ⟨⟨(some 12), .move (.tmp 1), 24, "", ⟨[]⟩, none⟩, none, false⟩,
       ⟨⟨(some 13), .call ⟨.builtin .len, ⟨[(.tmp 12)]⟩, ⟨[24]⟩⟩, 3, "", ⟨[]⟩, none⟩, none, false⟩,
       ⟨⟨(some 14), .move (.const (.int .i64 0)), 3, "", ⟨[]⟩, none⟩, none, false⟩])
     (.block 0
      (.loop
       (.seq
        (.ops false [
          ⟨⟨(some 15), .binOp .lss 3 (.tmp 14) (.tmp 13) 3, 0, "", ⟨[]⟩, none⟩, none, false⟩])
        (.seq
         (.cond (.tmp 15)
          .skip
          (.exit 0))
         (.seq
          (.block 1
           (.seq
            (.ops false [
              ⟨⟨(some 16), .indexAddr 24 (.tmp 12) (.tmp 14), 0, "", ⟨[]⟩, none⟩, none, false⟩,
              ⟨⟨(some 17), .load 3 (.tmp 16), 3, "", ⟨[]⟩, none⟩, none, false⟩,
              ⟨⟨(some 6), .assign (.tmp 17), 3, "", ⟨[]⟩, none⟩, none, false⟩])
            (.seq
             (.ops false [
               ⟨⟨(some 18), .move (.tmp 6), 3, "", ⟨[]⟩, none⟩, none, false⟩,
               ⟨⟨(some 19), .binOp .neq 3 (.tmp 18) (.const (.int .i64 (-1))) 3, 4, "", ⟨[]⟩, none⟩, none, false⟩,
               ⟨⟨(some 20), .move (.tmp 19), 4, "", ⟨[]⟩, none⟩, none, false⟩,
               ⟨⟨(some 21), .move (.tmp 6), 3, "", ⟨[]⟩, none⟩, some ((some 20), true), false⟩,
               ⟨⟨(some 22), .call ⟨.value (.func 36), ⟨[(.tmp 21), (.const (.int .i64 0)), (.const (.int .i64 100000))]⟩, ⟨[3, 3, 3]⟩⟩, 4, "", ⟨[]⟩, none⟩, some ((some 20), true), false⟩,
               ⟨⟨(some 23), .unOp .not 4 (.tmp 22), 4, "", ⟨[]⟩, none⟩, some ((some 20), true), false⟩,
               ⟨⟨(some 24), .pick (.tmp 20) (.tmp 23) (.const (.bool false)), 4, "", ⟨[]⟩, none⟩, none, false⟩])
             (.cond (.tmp 24)
              (.seq
               (.ops false [
                 ⟨⟨(some 4), .assign (.const (.bool false)), 4, "", ⟨[]⟩, none⟩, none, false⟩])
               .ret)
              .skip))))
          (.ops false [
            ⟨⟨(some 25), .binOp .add 3 (.tmp 14) (.const (.int .i64 1)) 3, 3, "", ⟨[]⟩, none⟩, none, false⟩,
            ⟨⟨(some 14), .move (.tmp 25), 3, "", ⟨[]⟩, none⟩, none, false⟩])))))))
    (.seq
     (.ops false [
       ⟨⟨(some 4), .assign (.const (.bool true)), 4, "", ⟨[]⟩, none⟩, none, false⟩])
     .ret))))
def Tryz.s63 : SC :=
 (.seq
  (.ops false [
    ⟨⟨(some 4), .assign (.const (.bool false)), 4, "", ⟨[]⟩, none⟩, none, false⟩])
  (.seq
   (.seq
    (.ops false [
      ⟨⟨(some 9), .move (.tmp 1), 36, "", ⟨[]⟩, none⟩, none, false⟩,
      ⟨⟨(some 10), .call ⟨.builtin .len, ⟨[(.tmp 9)]⟩, ⟨[36]⟩⟩, 3, "", ⟨[]⟩, none⟩, none, false⟩,
      ⟨⟨(some 11), .binOp .gtr 3 (.tmp 10) (.const (.int .i64 10)) 3, 4, "", ⟨[]⟩, none⟩, none, false⟩])
    (.cond (.tmp 11)
     (.seq
      (.ops false [
        ⟨⟨(some 4), .assign (.const (.bool false)), 4, "", ⟨[]⟩, none⟩, none, false⟩])
      .ret)
     .skip))
   (.seq
    (.seq
     (.ops false [
       ⟨⟨(some 12), .move (.tmp 1), 36, "", ⟨[]⟩, none⟩, none, false⟩,
       ⟨⟨(some 13), .call ⟨.builtin .len, ⟨[(.tmp 12)]⟩, ⟨[36]⟩⟩, 3, "", ⟨[]⟩, none⟩, none, false⟩,
       ⟨⟨(some 14), .move (.const (.int .i64 0)), 3, "", ⟨[]⟩, none⟩, none, false⟩])
     (.block 0
      (.loop
       (.seq
        (.ops false [
          ⟨⟨(some 15), .binOp .lss 3 (.tmp 14) (.tmp 13) 3, 0, "", ⟨[]⟩, none⟩, none, false⟩])
        (.seq
         (.cond (.tmp 15)
          .skip
          (.exit 0))
         (.seq
          (.block 1
           (.seq
            (.ops false [
              ⟨⟨(some 16), .indexAddr 36 (.tmp 12) (.tmp 14), 0, "", ⟨[]⟩, none⟩, none, false⟩,
              ⟨⟨(some 17), .load 40 (.tmp 16), 40, "", ⟨[]⟩, none⟩, none, false⟩,
              ⟨⟨(some 6), .alloc 40, 0, "", ⟨[]⟩, none⟩, none, false⟩,
              ⟨⟨none, .store 40 (.tmp 6) (.tmp 17), 0, "", ⟨[]⟩, none⟩, none, false⟩])
            (.seq
             (.seq
              (.ops false [
                ⟨⟨(some 18), .fieldAddr 40 (.tmp 6) 0, 0, "", ⟨[]⟩, none⟩, none, false⟩,
                ⟨⟨(some 19), .load 26 (.tmp 18), 26, "", ⟨[]⟩, none⟩, none, false⟩,
                ⟨⟨(some 20), .call ⟨.builtin .len, ⟨[(.tmp 19)]⟩, ⟨[26]⟩⟩, 3, "", ⟨[]⟩, none⟩, none, false⟩,
                ⟨⟨(some 21), .move (.tmp 0), 22, "", ⟨[]⟩, none⟩, none, false⟩,
                ⟨⟨(some 22), .call ⟨.builtin .len, ⟨[(.tmp 21)]⟩, ⟨[22]⟩⟩, 3, "", ⟨[]⟩, none⟩, none, false⟩,
                ⟨⟨(some 23), .binOp .neq 3 (.tmp 20) (.tmp 22) 3, 4, "", ⟨[]⟩, none⟩, none, false⟩])
              (.cond (.tmp 23)
               (.seq
                (.ops false [
                  ⟨⟨(some 4), .assign (.const (.bool false)), 4, "", ⟨[]⟩, none⟩, none, false⟩])
                .ret)
               .skip))
             (.seq
              (.ops false [
                ⟨⟨(some 24), .fieldAddr 40 (.tmp 6) 0, 0, "", ⟨[]⟩, none⟩, none, false⟩,
                ⟨⟨(some 25), .load 26 (.tmp 24), 26, "", ⟨[]⟩, none⟩, none, false⟩,
                ⟨⟨(some 26), .call ⟨.builtin .len, ⟨[(.tmp 25)]⟩, ⟨[26]⟩⟩, 3, "", ⟨[]⟩, none⟩, none, false⟩,
                ⟨⟨(some 27), .move (.const (.int .i64 0)), 3, "", ⟨[]⟩, none⟩, none, false⟩])
              (.block 2
               (.loop
                (.seq
                 (.ops false [
                   ⟨⟨(some 28), .binOp .lss 3 (.tmp 27) (.tmp 26) 3, 0, "", ⟨[]⟩, none⟩, none, false⟩])
                 (.seq
                  (.cond (.tmp 28)
                   .skip
                   (.exit 2))
                  (.seq
                   (.block 3
                    (.seq
                     (.ops false [
                       ⟨⟨(some 29), .indexAddr 26 (.tmp 25) (.tmp 27), 0, "", ⟨[]⟩, none⟩, none, false⟩,
                       ⟨⟨(some 30), .load 58 (.tmp 29), 58, "", ⟨[]⟩, none⟩, none, false⟩,
                       ⟨⟨(some 8), .alloc 58, 0, "", ⟨[]⟩, none⟩, none, false⟩,
                       ⟨⟨none, .store 58 (.tmp 8) (.tmp 30), 0, "", ⟨[]⟩, none⟩, none, false⟩])
                     (.seq
                      (.ops false [
                        ⟨⟨(some 31), .fieldAddr 58 (.tmp 8) 0, 0, "", ⟨[]⟩, none⟩, none, false⟩,
                        ⟨⟨(some 32), .load 3 (.tmp 31), 3, "", ⟨[]⟩, none⟩, none, false⟩,
                        ⟨⟨(some 33), .binOp .lss 3 (.tmp 32) (.const (.int .i64 0)) 3, 4, "", ⟨[]⟩, none⟩, none, false⟩,
                        ⟨⟨(some 34), .move (.tmp 33), 4, "", ⟨[]⟩, none⟩, none, false⟩,
                        ⟨⟨(some 35), .load 58 (.tmp 8), 58, "", ⟨[]⟩, none⟩, some ((some 34), false), false⟩,
                        ⟨⟨(some 36), .call ⟨.value (.func 34), ⟨[(.tmp 35)]⟩, ⟨[58]⟩⟩, 4, "", ⟨[]⟩, none⟩, some ((some 34), false), false⟩,
                        ⟨⟨(some 37), .pick (.tmp 34) (.const (.bool true)) (.tmp 36), 4, "", ⟨[]⟩, none⟩, none, false⟩,
                        ⟨⟨(some 38), .move (.tmp 37), 4, "", ⟨[]⟩, none⟩, none, false⟩,
                        ⟨⟨(some 39), .fieldAddr 58 (.tmp 8) 1, 0, "", ⟨[]⟩, none⟩, some ((some 38), false), false⟩,
                        ⟨⟨(some 40), .load 3 (.tmp 39), 3, "", ⟨[]⟩, none⟩, some ((some 38), false), false⟩,
                        ⟨⟨(some 41), .binOp .gtr 3 (.tmp 40) (.const (.int .i64 100000)) 3, 4, "", ⟨[]⟩, none⟩, some ((some 38), false), false⟩,
                        ⟨⟨(some 42), .pick (.tmp 38) (.const (.bool true)) (.tmp 41), 4, "", ⟨[]⟩, none⟩, none, false⟩])
                      (.cond (.tmp 42)
                       (.seq
                        (.ops false [
                          ⟨⟨(some 4), .assign (.const (.bool false)), 4, "", ⟨[]⟩, none⟩, none, false⟩])
                        .ret)
                       .skip))))
                   (.ops false [
                     ⟨⟨(some 43), .binOp .add 3 (.tmp 27) (.const (.int .i64 1)) 3, 3, "", ⟨[]⟩, none⟩, none, false⟩,
                     ⟨⟨(some 27), .move (.tmp 43), 3, "", ⟨[]⟩, none⟩, none, false⟩]))))))))))
          (.ops false [
            ⟨⟨(some 44), .binOp .add 3 (.tmp 14) (.const (.int .i64 1)) 3, 3, "", ⟨[]⟩, none⟩, none, false⟩,
            ⟨⟨(some 14), .move (.tmp 44), 3, "", ⟨[]⟩, none⟩, none, false⟩])))))))
    (.seq
     (.ops false [
       ⟨⟨(some 4), .assign (.const (.bool true)), 4, "", ⟨[]⟩, none⟩, none, false⟩])
     .ret))))
theorem Tryz.s3_eq : Tryz.f3.body.map sOf = some Tryz.s3 := by kernel_rfl
theorem Tryz.s9_eq : Tryz.f9.body.map sOf = some Tryz.s9 := by kernel_rfl
theorem Tryz.s10_eq : Tryz.f10.body.map sOf = some Tryz.s10 := by kernel_rfl
theorem Tryz.s11_eq : Tryz.f11.body.map sOf = some Tryz.s11 := by kernel_rfl
theorem Tryz.s12_eq : Tryz.f12.body.map sOf = some Tryz.s12 := by kernel_rfl
theorem Tryz.s13_eq : Tryz.f13.body.map sOf = some Tryz.s13 := by kernel_rfl
theorem Tryz.s14_eq : Tryz.f14.body.map sOf = some Tryz.s14 := by kernel_rfl
theorem Tryz.s15_eq : Tryz.f15.body.map sOf = some Tryz.s15 := by kernel_rfl
theorem Tryz.s29_eq : Tryz.f29.body.map sOf = some Tryz.s29 := by kernel_rfl
theorem Tryz.s31_eq : Tryz.f31.body.map sOf = some Tryz.s31 := by kernel_rfl
theorem Tryz.s32_eq : Tryz.f32.body.map sOf = some Tryz.s32 := by kernel_rfl
theorem Tryz.s33_eq : Tryz.f33.body.map sOf = some Tryz.s33 := by kernel_rfl
theorem Tryz.s34_eq : Tryz.f34.body.map sOf = some Tryz.s34 := by kernel_rfl
theorem Tryz.s35_eq : Tryz.f35.body.map sOf = some Tryz.s35 := by kernel_rfl
theorem Tryz.s36_eq : Tryz.f36.body.map sOf = some Tryz.s36 := by kernel_rfl
theorem Tryz.s37_eq : Tryz.f37.body.map sOf = some Tryz.s37 := by kernel_rfl
theorem Tryz.s62_eq : Tryz.f62.body.map sOf = some Tryz.s62 := by kernel_rfl
theorem Tryz.s63_eq : Tryz.f63.body.map sOf = some Tryz.s63 := by kernel_rfl
end Go.Proofs
