/- The stripped code of the laws. -/
import Derived.Test.YtbmgalmnjaimeaaTa
import Derived.Test.YtbmgalmnjaimeaaNa
set_option linter.unusedVariables false
set_option linter.unusedSimpArgs false
/- Functions' code, as the machine reads it. -/
namespace Go.Proofs
open Go Go.RowKit Go.Sim
set_option maxRecDepth 100000
def Try.s3 : SC :=
 (.seq
  (.ops false [
    ⟨⟨(some 6), .assign (.const (.bool false)), 4, "", ⟨[]⟩, none⟩, none, false⟩])
  (.seq
   (.ops false [
     ⟨⟨(some 14), .move (.tmp 0), 22, "", ⟨[]⟩, none⟩, none, false⟩,
     ⟨⟨(some 15), .move (.tmp 2), 3, "", ⟨[]⟩, none⟩, none, false⟩,
     ⟨⟨(some 16), .call ⟨.value (.func 14), ⟨[(.tmp 14), (.tmp 15)]⟩, ⟨[22, 3]⟩⟩, 25, "", ⟨[]⟩, none⟩, none, false⟩,
     ⟨⟨(some 13), .move (.tmp 16), 25, "", ⟨[]⟩, none⟩, none, false⟩,
     ⟨⟨(some 17), .extract (.tmp 13) 0, 22, "", ⟨[]⟩, none⟩, none, false⟩,
     ⟨⟨(some 18), .extract (.tmp 13) 1, 24, "", ⟨[]⟩, none⟩, none, false⟩,
     ⟨⟨(some 7), .assign (.tmp 17), 22, "", ⟨[]⟩, none⟩, none, false⟩,
     ⟨⟨(some 8), .assign (.tmp 18), 24, "", ⟨[]⟩, none⟩, none, false⟩])
   (.seq
    (.ops false [
      ⟨⟨(some 20), .move (.tmp 0), 22, "", ⟨[]⟩, none⟩, none, false⟩,
      ⟨⟨(some 21), .move (.tmp 2), 3, "", ⟨[]⟩, none⟩, none, false⟩,
      ⟨⟨(some 22), .call ⟨.value (.func 15), ⟨[(.tmp 20), (.tmp 21)]⟩, ⟨[22, 3]⟩⟩, 25, "", ⟨[]⟩, none⟩, none, false⟩,
      ⟨⟨(some 19), .move (.tmp 22), 25, "", ⟨[]⟩, none⟩, none, false⟩,
      ⟨⟨(some 23), .extract (.tmp 19) 0, 22, "", ⟨[]⟩, none⟩, none, false⟩,
      ⟨⟨(some 24), .extract (.tmp 19) 1, 24, "", ⟨[]⟩, none⟩, none, false⟩,
      ⟨⟨(some 9), .assign (.tmp 23), 22, "", ⟨[]⟩, none⟩, none, false⟩,
      ⟨⟨(some 10), .assign (.tmp 24), 24, "", ⟨[]⟩, none⟩, none, false⟩])
    (.seq
     (.seq
      (.ops false [
        ⟨⟨(some 25), .move (.tmp 7), 22, "", ⟨[]⟩, none⟩, none, false⟩,
        ⟨⟨(some 26), .move (.tmp 9), 22, "", ⟨[]⟩, none⟩, none, false⟩,
        ⟨⟨(some 27), .call ⟨.value (.func 16), ⟨[(.tmp 25), (.tmp 26)]⟩, ⟨[22, 22]⟩⟩, 4, "", ⟨[]⟩, none⟩, none, false⟩,
        ⟨⟨(some 28), .unOp .not 4 (.tmp 27), 4, "", ⟨[]⟩, none⟩, none, false⟩,
        ⟨⟨(some 29), .move (.tmp 28), 4, "", ⟨[]⟩, none⟩, none, false⟩,
        ⟨⟨(some 30), .move (.tmp 8), 24, "", ⟨[]⟩, none⟩, some ((some 29), false), false⟩,
        ⟨⟨(some 31), .move (.tmp 10), 24, "", ⟨[]⟩, none⟩, some ((some 29), false), false⟩,
        ⟨⟨(some 32), .binOp .neq 24 (.tmp 30) (.tmp 31) 24, 4, "", ⟨[]⟩, none⟩, some ((some 29), false), false⟩,
        ⟨⟨(some 33), .pick (.tmp 29) (.const (.bool true)) (.tmp 32), 4, "", ⟨[]⟩, none⟩, none, false⟩])
      (.cond (.tmp 33)
       (.seq
        (.ops false [
          ⟨⟨(some 6), .assign (.const (.bool false)), 4, "", ⟨[]⟩, none⟩, none, false⟩])
        .ret)
       .skip))
     (.seq
      (.ops false [
        ⟨⟨(some 35), .move (.tmp 1), 23, "", ⟨[]⟩, none⟩, none, false⟩,
        ⟨⟨(some 36), .move (.tmp 2), 3, "", ⟨[]⟩, none⟩, none, false⟩,
        ⟨⟨(some 37), .call ⟨.value (.func 17), ⟨[(.tmp 35), (.tmp 36)]⟩, ⟨[23, 3]⟩⟩, 28, "", ⟨[]⟩, none⟩, none, false⟩,
        ⟨⟨(some 34), .move (.tmp 37), 28, "", ⟨[]⟩, none⟩, none, false⟩,
        ⟨⟨(some 38), .extract (.tmp 34) 0, 22, "", ⟨[]⟩, none⟩, none, false⟩,
        ⟨⟨(some 39), .extract (.tmp 34) 1, 3, "", ⟨[]⟩, none⟩, none, false⟩,
        ⟨⟨(some 40), .extract (.tmp 34) 2, 24, "", ⟨[]⟩, none⟩, none, false⟩,
        ⟨⟨(some 7), .assign (.tmp 38), 22, "", ⟨[]⟩, none⟩, none, false⟩,
        ⟨⟨(some 11), .assign (.tmp 39), 3, "", ⟨[]⟩, none⟩, none, false⟩,
        ⟨⟨(some 8), .assign (.tmp 40), 24, "", ⟨[]⟩, none⟩, none, false⟩])
      (.seq
       (.ops false [
         ⟨⟨(some 42), .move (.tmp 1), 23, "", ⟨[]⟩, none⟩, none, false⟩,
         ⟨⟨(some 43), .move (.tmp 2), 3, "", ⟨[]⟩, none⟩, none, false⟩,
         ⟨⟨(some 44), .call ⟨.value (.func 18), ⟨[(.tmp 42), (.tmp 43)]⟩, ⟨[23, 3]⟩⟩, 28, "", ⟨[]⟩, none⟩, none, false⟩,
         ⟨⟨(some 41), .move (.tmp 44), 28, "", ⟨[]⟩, none⟩, none, false⟩,
         ⟨⟨(some 45), .extract (.tmp 41) 0, 22, "", ⟨[]⟩, none⟩, none, false⟩,
         ⟨⟨(some 46), .extract (.tmp 41) 1, 3, "", ⟨[]⟩, none⟩, none, false⟩,
         ⟨⟨(some 47), .extract (.tmp 41) 2, 24, "", ⟨[]⟩, none⟩, none, false⟩,
         ⟨⟨(some 9), .assign (.tmp 45), 22, "", ⟨[]⟩, none⟩, none, false⟩,
         ⟨⟨(some 12), .assign (.tmp 46), 3, "", ⟨[]⟩, none⟩, none, false⟩,
         ⟨⟨(some 10), .assign (.tmp 47), 24, "", ⟨[]⟩, none⟩, none, false⟩])
       (.seq
        (.ops false [
          ⟨⟨(some 48), .move (.tmp 7), 22, "", ⟨[]⟩, none⟩, none, false⟩,
          ⟨⟨(some 49), .move (.tmp 9), 22, "", ⟨[]⟩, none⟩, none, false⟩,
          ⟨⟨(some 50), .call ⟨.value (.func 16), ⟨[(.tmp 48), (.tmp 49)]⟩, ⟨[22, 22]⟩⟩, 4, "", ⟨[]⟩, none⟩, none, false⟩,
          ⟨⟨(some 51), .move (.tmp 50), 4, "", ⟨[]⟩, none⟩, none, false⟩,
          ⟨⟨(some 52), .move (.tmp 11), 3, "", ⟨[]⟩, none⟩, some ((some 51), true), false⟩,
          ⟨⟨(some 53), .move (.tmp 12), 3, "", ⟨[]⟩, none⟩, some ((some 51), true), false⟩,
          ⟨⟨(some 54), .binOp .eql 3 (.tmp 52) (.tmp 53) 3, 4, "", ⟨[]⟩, none⟩, some ((some 51), true), false⟩,
          ⟨⟨(some 55), .pick (.tmp 51) (.tmp 54) (.const (.bool false)), 4, "", ⟨[]⟩, none⟩, none, false⟩,
          ⟨⟨(some 56), .move (.tmp 55), 4, "", ⟨[]⟩, none⟩, none, false⟩,
          ⟨⟨(some 57), .move (.tmp 8), 24, "", ⟨[]⟩, none⟩, some ((some 56), true), false⟩,
          ⟨⟨(some 58), .move (.tmp 10), 24, "", ⟨[]⟩, none⟩, some ((some 56), true), false⟩,
          ⟨⟨(some 59), .binOp .eql 24 (.tmp 57) (.tmp 58) 24, 4, "", ⟨[]⟩, none⟩, some ((some 56), true), false⟩,
          ⟨⟨(some 60), .pick (.tmp 56) (.tmp 59) (.const (.bool false)), 4, "", ⟨[]⟩, none⟩, none, false⟩,
          ⟨⟨(some 61), .move (.tmp 60), 4, "", ⟨[]⟩, none⟩, none, false⟩,
          ⟨⟨(some 62), .call ⟨.value (.func 19), ⟨[]⟩, ⟨[]⟩⟩, 4, "", ⟨[]⟩, none⟩, some ((some 61), true), false⟩,
          ⟨⟨(some 63), .pick (.tmp 61) (.tmp 62) (.const (.bool false)), 4, "", ⟨[]⟩, none⟩, none, false⟩,
          ⟨⟨(some 6), .assign (.tmp 63), 4, "", ⟨[]⟩, none⟩, none, false⟩])
        .ret)))))))
def Try.s6 : SC :=
 (.seq
  (.ops false [
    ⟨⟨(some 4), .assign (.const (.bool false)), 4, "", ⟨[]⟩, none⟩, none, false⟩])
  (.seq
   (.ops false [
     ⟨⟨(some 13), .move (.tmp 0), 22, "", ⟨[]⟩, none⟩, none, false⟩,
     ⟨⟨(some 14), .move (.tmp 1), 3, "", ⟨[]⟩, none⟩, none, false⟩,
     ⟨⟨(some 15), .call ⟨.value (.func 14), ⟨[(.tmp 13), (.tmp 14)]⟩, ⟨[22, 3]⟩⟩, 25, "", ⟨[]⟩, none⟩, none, false⟩,
     ⟨⟨(some 12), .move (.tmp 15), 25, "", ⟨[]⟩, none⟩, none, false⟩,
     ⟨⟨(some 16), .extract (.tmp 12) 0, 22, "", ⟨[]⟩, none⟩, none, false⟩,
     ⟨⟨(some 17), .extract (.tmp 12) 1, 24, "", ⟨[]⟩, none⟩, none, false⟩,
     ⟨⟨(some 5), .assign (.tmp 16), 22, "", ⟨[]⟩, none⟩, none, false⟩,
     ⟨⟨(some 6), .assign (.tmp 17), 24, "", ⟨[]⟩, none⟩, none, false⟩])
   (.seq
    (.seq
     (.ops false [
       ⟨⟨(some 18), .move (.tmp 6), 24, "", ⟨[]⟩, none⟩, none, false⟩,
       ⟨⟨(some 19), .binOp .neq 24 (.tmp 18) (.const (.int .i64 0)) 24, 4, "", ⟨[]⟩, none⟩, none, false⟩])
     (.cond (.tmp 19)
      (.seq
       (.ops false [
         ⟨⟨(some 20), .move (.tmp 5), 22, "", ⟨[]⟩, none⟩, none, false⟩,
         ⟨⟨(some 21), .call ⟨.builtin .len, ⟨[(.tmp 20)]⟩, ⟨[22]⟩⟩, 3, "", ⟨[]⟩, none⟩, none, false⟩,
         ⟨⟨(some 22), .binOp .eql 3 (.tmp 21) (.const (.int .i64 0)) 3, 4, "", ⟨[]⟩, none⟩, none, false⟩,
         ⟨⟨(some 23), .move (.tmp 22), 4, "", ⟨[]⟩, none⟩, none, false⟩,
         ⟨⟨(some 24), .call ⟨.value (.func 19), ⟨[]⟩, ⟨[]⟩⟩, 4, "", ⟨[]⟩, none⟩, some ((some 23), true), false⟩,
         ⟨⟨(some 25), .pick (.tmp 23) (.tmp 24) (.const (.bool false)), 4, "", ⟨[]⟩, none⟩, none, false⟩,
         ⟨⟨(some 4), .assign (.tmp 25), 4, "", ⟨[]⟩, none⟩, none, false⟩])
       .ret)
      .skip))
    (.seq
     (.ops false [
       ⟨⟨(some 26), .move (.tmp 0), 22, "", ⟨[]⟩, none⟩, none, false⟩,
       ⟨⟨(some 27), .call ⟨.value (.func 35), ⟨[(.tmp 26)]⟩, ⟨[22]⟩⟩, 3, "", ⟨[]⟩, none⟩, none, false⟩,
       ⟨⟨(some 7), .assign (.tmp 27), 3, "", ⟨[]⟩, none⟩, none, false⟩])
     (.seq
      (.seq
       (.ops false [
         ⟨⟨(some 28), .move (.tmp 5), 22, "", ⟨[]⟩, none⟩, none, false⟩,
         ⟨⟨(some 29), .call ⟨.builtin .len, ⟨[(.tmp 28)]⟩, ⟨[22]⟩⟩, 3, "", ⟨[]⟩, none⟩, none, false⟩,
         ⟨⟨(some 30), .move (.tmp 0), 22, "", ⟨[]⟩, none⟩, none, false⟩,
         ⟨⟨(some 31), .call ⟨.builtin .len, ⟨[(.tmp 30)]⟩, ⟨[22]⟩⟩, 3, "", ⟨[]⟩, none⟩, none, false⟩,
         ⟨⟨(some 32), .binOp .neq 3 (.tmp 29) (.tmp 31) 3, 4, "", ⟨[]⟩, none⟩, none, false⟩,
         ⟨⟨(some 33), .move (.tmp 32), 4, "", ⟨[]⟩, none⟩, none, false⟩,
         ⟨⟨(some 34), .move (.tmp 5), 22, "", ⟨[]⟩, none⟩, some ((some 33), false), false⟩,
         ⟨⟨(some 35), .call ⟨.value (.func 35), ⟨[(.tmp 34)]⟩, ⟨[22]⟩⟩, 3, "", ⟨[]⟩, none⟩, some ((some 33), false), false⟩,
         ⟨⟨(some 36), .move (.tmp 1), 3, "", ⟨[]⟩, none⟩, some ((some 33), false), false⟩,
         ⟨⟨(some 37), .binOp .neq 3 (.tmp 35) (.tmp 36) 3, 4, "", ⟨[]⟩, none⟩, some ((some 33), false), false⟩,
         ⟨⟨(some 38), .pick (.tmp 33) (.const (.bool true)) (.tmp 37), 4, "", ⟨[]⟩, none⟩, none, false⟩])
       (.cond (.tmp 38)
        (.seq
         (.ops false [
           ⟨⟨(some 4), .assign (.const (.bool false)), 4, "", ⟨[]⟩, none⟩, none, false⟩])
         .ret)
        .skip))
      (.seq
       (.seq
        (.ops false [
          ⟨⟨(some 8), .assign (.const (.int .i64 0)), 3, "", ⟨[]⟩, none⟩, none, false⟩])
        (.block 0
         (.loop
          (.seq
           (.seq
            (.ops false [
              ⟨⟨(some 39), .move (.tmp 8), 3, "", ⟨[]⟩, none⟩, none, false⟩,
              ⟨⟨(some 40), .move (.tmp 0), 22, "", ⟨[]⟩, none⟩, none, false⟩,
              ⟨⟨(some 41), .call ⟨.builtin .len, ⟨[(.tmp 40)]⟩, ⟨[22]⟩⟩, 3, "", ⟨[]⟩, none⟩, none, false⟩,
              ⟨⟨(some 42), .binOp .lss 3 (.tmp 39) (.tmp 41) 3, 4, "", ⟨[]⟩, none⟩, none, false⟩])
            (.cond (.tmp 42)
             .skip
             (.exit 0)))
           (.seq
            (.block 1
             (.seq
              (.seq
               (.ops true [
                 ⟨⟨(some 45), .move (.tmp 5), 22, "", ⟨[]⟩, none⟩, none, true⟩,
                 ⟨⟨(some 46), .move (.tmp 8), 3, "", ⟨[]⟩, none⟩, none, true⟩,
                 ⟨⟨(some 47), .indexAddr 22 (.tmp 45) (.tmp 46), 0, "", ⟨[]⟩, none⟩, none, true⟩,
                 ⟨⟨(some 48), .load 3 (.tmp 47), 3, "", ⟨[]⟩, none⟩, none, true⟩,
                 ⟨⟨(some 49), .move (.tmp 1), 3, "", ⟨[]⟩, none⟩, none, true⟩,
                 ⟨⟨(some 50), .call ⟨.value (.func 36), ⟨[(.const (.int .i64 0)), (.tmp 48), (.tmp 49)]⟩, ⟨[3, 3, 3]⟩⟩, 4, "", ⟨[]⟩, none⟩, none, false⟩,
                 ⟨⟨(some 51), .unOp .not 4 (.tmp 50), 4, "", ⟨[]⟩, none⟩, none, true⟩,
                 ⟨⟨(some 52), .move (.tmp 51), 4, "", ⟨[]⟩, none⟩, none, true⟩,
                 ⟨⟨(some 53), .move (.tmp 5), 22, "", ⟨[]⟩, none⟩, some ((some 52), false), true⟩,
                 ⟨⟨(some 54), .move (.tmp 8), 3, "", ⟨[]⟩, none⟩, some ((some 52), false), true⟩,
                 ⟨⟨(some 55), .indexAddr 22 (.tmp 53) (.tmp 54), 0, "", ⟨[]⟩, none⟩, some ((some 52), false), true⟩,
                 ⟨⟨(some 56), .load 3 (.tmp 55), 3, "", ⟨[]⟩, none⟩, some ((some 52), false), true⟩,
                 ⟨⟨(some 57), .move (.tmp 1), 3, "", ⟨[]⟩, none⟩, some ((some 52), false), true⟩,
                 ⟨⟨(some 58), .move (.tmp 0), 22, "", ⟨[]⟩, none⟩, some ((some 52), false), true⟩,
                 ⟨⟨(some 59), .move (.tmp 8), 3, "", ⟨[]⟩, none⟩, some ((some 52), false), true⟩,
                 ⟨⟨(some 60), .indexAddr 22 (.tmp 58) (.tmp 59), 0, "", ⟨[]⟩, none⟩, some ((some 52), false), true⟩,
                 ⟨⟨(some 61), .load 3 (.tmp 60), 3, "", ⟨[]⟩, none⟩, some ((some 52), false), true⟩,
                 ⟨⟨(some 62), .binOp .mul 3 (.tmp 57) (.tmp 61) 3, 3, "", ⟨[]⟩, none⟩, some ((some 52), false), true⟩,
                 ⟨⟨(some 63), .move (.tmp 7), 3, "", ⟨[]⟩, none⟩, some ((some 52), false), true⟩,
                 ⟨⟨(some 64), .call ⟨.value (.func 37), ⟨[(.tmp 62), (.tmp 63)]⟩, ⟨[3, 3]⟩⟩, 3, "", ⟨[]⟩, none⟩, some ((some 52), false), true⟩,
                 ⟨⟨(some 65), .binOp .lss 3 (.tmp 56) (.tmp 64) 3, 4, "", ⟨[]⟩, none⟩, some ((some 52), false), true⟩,
                 ⟨⟨(some 66), .pick (.tmp 52) (.const (.bool true)) (.tmp 65), 4, "", ⟨[]⟩, none⟩, none, true⟩,
                 ⟨⟨(some 67), .move (.tmp 66), 4, "", ⟨[]⟩, none⟩, none, true⟩,
                 ⟨⟨(some 68), .move (.tmp 1), 3, "", ⟨[]⟩, none⟩, some ((some 67), false), true⟩,
                 ⟨⟨(some 69), .move (.tmp 7), 3, "", ⟨[]⟩, none⟩, some ((some 67), false), true⟩,
                 ⟨⟨(some 70), .binOp .leq 3 (.tmp 68) (.tmp 69) 3, 4, "", ⟨[]⟩, none⟩, some ((some 67), false), true⟩,
                 ⟨⟨(some 71), .move (.tmp 70), 4, "", ⟨[]⟩, none⟩, some ((some 67), false), true⟩,
                 ⟨⟨(some 72), .move (.tmp 5), 22, "", ⟨[]⟩, none⟩, some ((some 71), true), true⟩,
                 ⟨⟨(some 73), .move (.tmp 8), 3, "", ⟨[]⟩, none⟩, some ((some 71), true), true⟩,
                 ⟨⟨(some 74), .indexAddr 22 (.tmp 72) (.tmp 73), 0, "", ⟨[]⟩, none⟩, some ((some 71), true), true⟩,
                 ⟨⟨(some 75), .load 3 (.tmp 74), 3, "", ⟨[]⟩, none⟩, some ((some 71), true), true⟩,
                 ⟨⟨(some 76), .move (.tmp 0), 22, "", ⟨[]⟩, none⟩, some ((some 71), true), true⟩,
                 ⟨⟨(some 77), .move (.tmp 8), 3, "", ⟨[]⟩, none⟩, some ((some 71), true), true⟩,
                 ⟨⟨(some 78), .indexAddr 22 (.tmp 76) (.tmp 77), 0, "", ⟨[]⟩, none⟩, some ((some 71), true), true⟩,
                 ⟨⟨(some 79), .load 3 (.tmp 78), 3, "", ⟨[]⟩, none⟩, some ((some 71), true), true⟩,
                 ⟨⟨(some 80), .binOp .gtr 3 (.tmp 75) (.tmp 79) 3, 4, "", ⟨[]⟩, none⟩, some ((some 71), true), true⟩,
                 ⟨⟨(some 81), .pick (.tmp 71) (.tmp 80) (.const (.bool false)), 4, "", ⟨[]⟩, none⟩, some ((some 67), false), true⟩,
                 ⟨⟨(some 82), .pick (.tmp 67) (.const (.bool true)) (.tmp 81), 4, "", ⟨[]⟩, none⟩, none, true⟩])
               (.cond (.tmp 82)
                (.seq
                 (.ops false [
                   ⟨⟨(some 4), .assign (.const (.bool false)), 4, "", ⟨[]⟩, none⟩, none, false⟩])
                 .ret)
                .skip))
              (.seq
               (.ops false [
                 ⟨⟨(some 9), .assign (.const (.int .i64 0)), 3, "", ⟨[]⟩, none⟩, none, false⟩])
               (.block 2
                (.loop
                 (.seq
                  (.seq
                   (.ops false [
                     ⟨⟨(some 83), .move (.tmp 9), 3, "", ⟨[]⟩, none⟩, none, false⟩,
                     ⟨⟨(some 84), .move (.tmp 0), 22, "", ⟨[]⟩, none⟩, none, false⟩,
                     ⟨⟨(some 85), .call ⟨.builtin .len, ⟨[(.tmp 84)]⟩, ⟨[22]⟩⟩, 3, "", ⟨[]⟩, none⟩, none, false⟩,
                     ⟨⟨(some 86), .binOp .lss 3 (.tmp 83) (.tmp 85) 3, 4, "", ⟨[]⟩, none⟩, none, false⟩])
                   (.cond (.tmp 86)
                    .skip
                    (.exit 2)))
                  (.seq
                   (.block 3
                    (.seq
                     (.ops true [
                       ⟨⟨(some 89), .move (.tmp 0), 22, "", ⟨[]⟩, none⟩, none, true⟩,
                       ⟨⟨(some 90), .move (.tmp 8), 3, "", ⟨[]⟩, none⟩, none, true⟩,
                       ⟨⟨(some 91), .indexAddr 22 (.tmp 89) (.tmp 90), 0, "", ⟨[]⟩, none⟩, none, true⟩,
                       ⟨⟨(some 92), .load 3 (.tmp 91), 3, "", ⟨[]⟩, none⟩, none, true⟩,
                       ⟨⟨(some 93), .move (.tmp 5), 22, "", ⟨[]⟩, none⟩, none, true⟩,
                       ⟨⟨(some 94), .move (.tmp 9), 3, "", ⟨[]⟩, none⟩, none, true⟩,
                       ⟨⟨(some 95), .indexAddr 22 (.tmp 93) (.tmp 94), 0, "", ⟨[]⟩, none⟩, none, true⟩,
                       ⟨⟨(some 96), .load 3 (.tmp 95), 3, "", ⟨[]⟩, none⟩, none, true⟩,
                       ⟨⟨(some 97), .binOp .add 3 (.tmp 96) (.const (.int .i64 1)) 3, 3, "", ⟨[]⟩, none⟩, none, true⟩,
                       ⟨⟨(some 98), .binOp .mul 3 (.tmp 92) (.tmp 97) 3, 3, "", ⟨[]⟩, none⟩, none, true⟩,
                       ⟨⟨(some 99), .move (.tmp 0), 22, "", ⟨[]⟩, none⟩, none, true⟩,
                       ⟨⟨(some 100), .move (.tmp 9), 3, "", ⟨[]⟩, none⟩, none, true⟩,
                       ⟨⟨(some 101), .indexAddr 22 (.tmp 99) (.tmp 100), 0, "", ⟨[]⟩, none⟩, none, true⟩,
                       ⟨⟨(some 102), .load 3 (.tmp 101), 3, "", ⟨[]⟩, none⟩, none, true⟩,
                       ⟨⟨(some 103), .move (.tmp 5), 22, "", ⟨[]⟩, none⟩, none, true⟩,
                       ⟨⟨(some 104), .move (.tmp 8), 3, "", ⟨[]⟩, none⟩, none, true⟩,
                       ⟨⟨(some 105), .indexAddr 22 (.tmp 103) (.tmp 104), 0, "", ⟨[]⟩, none⟩, none, true⟩,
                       ⟨⟨(some 106), .load 3 (.tmp 105), 3, "", ⟨[]⟩, none⟩, none, true⟩,
                       ⟨⟨(some 107), .binOp .mul 3 (.tmp 102) (.tmp 106) 3, 3, "", ⟨[]⟩, none⟩, none, true⟩,
                       ⟨⟨(some 10), .assign (.tmp 98), 3, "", ⟨[]⟩, none⟩, none, true⟩,
                       ⟨⟨(some 11), .assign (.tmp 107), 3, "", ⟨[]⟩, none⟩, none, true⟩])
                     (.seq
                      (.ops false [
                        ⟨⟨(some 108), .move (.tmp 8), 3, "", ⟨[]⟩, none⟩, none, false⟩,
                        ⟨⟨(some 109), .move (.tmp 9), 3, "", ⟨[]⟩, none⟩, none, false⟩,
                        ⟨⟨(some 110), .binOp .neq 3 (.tmp 108) (.tmp 109) 3, 4, "", ⟨[]⟩, none⟩, none, false⟩,
                        ⟨⟨(some 111), .move (.tmp 110), 4, "", ⟨[]⟩, none⟩, none, false⟩,
                        ⟨⟨(some 112), .move (.tmp 5), 22, "", ⟨[]⟩, none⟩, some ((some 111), true), false⟩,
                        ⟨⟨(some 113), .move (.tmp 8), 3, "", ⟨[]⟩, none⟩, some ((some 111), true), false⟩,
                        ⟨⟨(some 114), .indexAddr 22 (.tmp 112) (.tmp 113), 0, "", ⟨[]⟩, none⟩, some ((some 111), true), false⟩,
                        ⟨⟨(some 115), .load 3 (.tmp 114), 3, "", ⟨[]⟩, none⟩, some ((some 111), true), false⟩,
                        ⟨⟨(some 116), .binOp .gtr 3 (.tmp 115) (.const (.int .i64 0)) 3, 4, "", ⟨[]⟩, none⟩, some ((some 111), true), false⟩,
                        ⟨⟨(some 117), .pick (.tmp 111) (.tmp 116) (.const (.bool false)), 4, "", ⟨[]⟩, none⟩, none, false⟩,
                        ⟨⟨(some 118), .move (.tmp 117), 4, "", ⟨[]⟩, none⟩, none, false⟩,
                        ⟨⟨(some 119), .move (.tmp 10), 3, "", ⟨[]⟩, none⟩, some ((some 118), true), false⟩,
                        ⟨⟨(some 120), .move (.tmp 11), 3, "", ⟨[]⟩, none⟩, some ((some 118), true), false⟩,
                        ⟨⟨(some 121), .binOp .lss 3 (.tmp 119) (.tmp 120) 3, 4, "", ⟨[]⟩, none⟩, some ((some 118), true), false⟩,
                        ⟨⟨(some 122), .move (.tmp 121), 4, "", ⟨[]⟩, none⟩, some ((some 118), true), false⟩,
                        ⟨⟨(some 123), .move (.tmp 10), 3, "", ⟨[]⟩, none⟩, some ((some 122), false), false⟩,
                        ⟨⟨(some 124), .move (.tmp 11), 3, "", ⟨[]⟩, none⟩, some ((some 122), false), false⟩,
                        ⟨⟨(some 125), .binOp .eql 3 (.tmp 123) (.tmp 124) 3, 4, "", ⟨[]⟩, none⟩, some ((some 122), false), false⟩,
                        ⟨⟨(some 126), .move (.tmp 125), 4, "", ⟨[]⟩, none⟩, some ((some 122), false), false⟩,
                        ⟨⟨(some 127), .move (.tmp 9), 3, "", ⟨[]⟩, none⟩, some ((some 126), true), false⟩,
                        ⟨⟨(some 128), .move (.tmp 8), 3, "", ⟨[]⟩, none⟩, some ((some 126), true), false⟩,
                        ⟨⟨(some 129), .binOp .lss 3 (.tmp 127) (.tmp 128) 3, 4, "", ⟨[]⟩, none⟩, some ((some 126), true), false⟩,
                        ⟨⟨(some 130), .pick (.tmp 126) (.tmp 129) (.const (.bool false)), 4, "", ⟨[]⟩, none⟩, some ((some 122), false), false⟩,
                        ⟨⟨(some 131), .pick (.tmp 122) (.const (.bool true)) (.tmp 130), 4, "", ⟨[]⟩, none⟩, some ((some 118), true), false⟩,
                        ⟨⟨(some 132), .pick (.tmp 118) (.tmp 131) (.const (.bool false)), 4, "", ⟨[]⟩, none⟩, none, false⟩])
                      (.cond (.tmp 132)
                       (.seq
                        (.ops false [
                          ⟨⟨(some 4), .assign (.const (.bool false)), 4, "", ⟨[]⟩, none⟩, none, false⟩])
                        .ret)
                       .skip))))
                   (.ops false [
                     ⟨⟨(some 87), .move (.tmp 9), 3, "", ⟨[]⟩, none⟩, none, false⟩,
                     ⟨⟨(some 88), .binOp .add 3 (.tmp 87) (.const (.int .i64 1)) 3, 3, "", ⟨[]⟩, none⟩, none, false⟩,
                     ⟨⟨(some 9), .assign (.tmp 88), 3, "", ⟨[]⟩, none⟩, none, false⟩]))))))))
            (.ops false [
              ⟨⟨(some 43), .move (.tmp 8), 3, "", ⟨[]⟩, none⟩, none, false⟩,
              ⟨⟨(some 44), .binOp .add 3 (.tmp 43) (.const (.int .i64 1)) 3, 3, "", ⟨[]⟩, none⟩, none, false⟩,
              ⟨⟨(some 8), .assign (.tmp 44), 3, "", ⟨[]⟩, none⟩, none, false⟩]))))))
       (.seq
        (.ops false [
          ⟨⟨(some 133), .call ⟨.value (.func 19), ⟨[]⟩, ⟨[]⟩⟩, 4, "", ⟨[]⟩, none⟩, none, false⟩,
          ⟨⟨(some 4), .assign (.tmp 133), 4, "", ⟨[]⟩, none⟩, none, false⟩])
        .ret)))))))
def Try.s7 : SC :=
 (.seq
  (.ops false [
    ⟨⟨(some 5), .box 70 (.tmp 2), 0, "", ⟨[]⟩, none⟩, none, false⟩,
    ⟨⟨(some 6), .assign (.const (.bool false)), 4, "", ⟨[]⟩, none⟩, none, false⟩])
  (.seq
   (.ops false [
     ⟨⟨(some 15), .move (.tmp 0), 22, "", ⟨[]⟩, none⟩, none, false⟩,
     ⟨⟨(some 16), .move (.tmp 1), 3, "", ⟨[]⟩, none⟩, none, false⟩,
     ⟨⟨(some 17), .call ⟨.value (.func 14), ⟨[(.tmp 15), (.tmp 16)]⟩, ⟨[22, 3]⟩⟩, 25, "", ⟨[]⟩, none⟩, none, false⟩,
     ⟨⟨(some 14), .move (.tmp 17), 25, "", ⟨[]⟩, none⟩, none, false⟩,
     ⟨⟨(some 18), .extract (.tmp 14) 0, 22, "", ⟨[]⟩, none⟩, none, false⟩,
     ⟨⟨(some 19), .extract (.tmp 14) 1, 24, "", ⟨[]⟩, none⟩, none, false⟩,
     ⟨⟨(some 7), .assign (.tmp 18), 22, "", ⟨[]⟩, none⟩, none, false⟩,
     ⟨⟨(some 8), .assign (.tmp 19), 24, "", ⟨[]⟩, none⟩, none, false⟩])
   (.seq
    (.seq
     (.ops false [
       ⟨⟨(some 20), .move (.tmp 8), 24, "", ⟨[]⟩, none⟩, none, false⟩,
       ⟨⟨(some 21), .binOp .neq 24 (.tmp 20) (.const (.int .i64 0)) 24, 4, "", ⟨[]⟩, none⟩, none, false⟩,
       ⟨⟨(some 22), .move (.tmp 21), 4, "", ⟨[]⟩, none⟩, none, false⟩,
       ⟨⟨(some 23), .move (.tmp 7), 22, "", ⟨[]⟩, none⟩, some ((some 22), false), false⟩,
       ⟨⟨(some 24), .call ⟨.builtin .len, ⟨[(.tmp 23)]⟩, ⟨[22]⟩⟩, 3, "", ⟨[]⟩, none⟩, some ((some 22), false), false⟩,
       ⟨⟨(some 25), .move (.tmp 0), 22, "", ⟨[]⟩, none⟩, some ((some 22), false), false⟩,
       ⟨⟨(some 26), .call ⟨.builtin .len, ⟨[(.tmp 25)]⟩, ⟨[22]⟩⟩, 3, "", ⟨[]⟩, none⟩, some ((some 22), false), false⟩,
       ⟨⟨(some 27), .binOp .neq 3 (.tmp 24) (.tmp 26) 3, 4, "", ⟨[]⟩, none⟩, some ((some 22), false), false⟩,
       ⟨⟨(some 28), .pick (.tmp 22) (.const (.bool true)) (.tmp 27), 4, "", ⟨[]⟩, none⟩, none, false⟩])
     (.cond (.tmp 28)
      (.seq
       (.ops false [
         ⟨⟨(some 29), .move (.tmp 8), 24, "", ⟨[]⟩, none⟩, none, false⟩,
         ⟨⟨(some 30), .binOp .neq 24 (.tmp 29) (.const (.int .i64 0)) 24, 4, "", ⟨[]⟩, none⟩, none, false⟩,
         ⟨⟨(some 31), .move (.tmp 30), 4, "", ⟨[]⟩, none⟩, none, false⟩,
         ⟨⟨(some 32), .call ⟨.value (.func 19), ⟨[]⟩, ⟨[]⟩⟩, 4, "", ⟨[]⟩, none⟩, some ((some 31), true), false⟩,
         ⟨⟨(some 33), .pick (.tmp 31) (.tmp 32) (.const (.bool false)), 4, "", ⟨[]⟩, none⟩, none, false⟩,
         ⟨⟨(some 6), .assign (.tmp 33), 4, "", ⟨[]⟩, none⟩, none, false⟩])
       .ret)
      .skip))
    (.seq
     (.ops false [
       ⟨⟨(some 35), .move (.tmp 0), 22, "", ⟨[]⟩, none⟩, none, false⟩,
       ⟨⟨(some 36), .move (.tmp 1), 3, "", ⟨[]⟩, none⟩, none, false⟩,
       ⟨⟨(some 37), .indexAddr 70 (.tmp 5) (.const (.int .i64 0)), 0, "", ⟨[]⟩, none⟩, none, false⟩,
       ⟨⟨(some 38), .load 3 (.tmp 37), 3, "", ⟨[]⟩, none⟩, none, false⟩,
       ⟨⟨(some 39), .call ⟨.value (.func 38), ⟨[(.tmp 38), (.const (.int .i64 1000))]⟩, ⟨[3, 3]⟩⟩, 3, "", ⟨[]⟩, none⟩, none, false⟩,
       ⟨⟨(some 40), .binOp .add 3 (.tmp 36) (.tmp 39) 3, 3, "", ⟨[]⟩, none⟩, none, false⟩,
       ⟨⟨(some 41), .call ⟨.builtin .min, ⟨[(.const (.int .i64 34359738368)), (.tmp 40)]⟩, ⟨[3, 3]⟩⟩, 3, "", ⟨[]⟩, none⟩, none, false⟩,
       ⟨⟨(some 42), .call ⟨.value (.func 14), ⟨[(.tmp 35), (.tmp 41)]⟩, ⟨[22, 3]⟩⟩, 25, "", ⟨[]⟩, none⟩, none, false⟩,
       ⟨⟨(some 34), .move (.tmp 42), 25, "", ⟨[]⟩, none⟩, none, false⟩,
       ⟨⟨(some 43), .extract (.tmp 34) 0, 22, "", ⟨[]⟩, none⟩, none, false⟩,
       ⟨⟨(some 44), .extract (.tmp 34) 1, 24, "", ⟨[]⟩, none⟩, none, false⟩,
       ⟨⟨(some 9), .assign (.tmp 43), 22, "", ⟨[]⟩, none⟩, none, false⟩,
       ⟨⟨(some 8), .assign (.tmp 44), 24, "", ⟨[]⟩, none⟩, none, false⟩])
     (.seq
      (.seq
       (.ops false [
         ⟨⟨(some 45), .move (.tmp 8), 24, "", ⟨[]⟩, none⟩, none, false⟩,
         ⟨⟨(some 46), .binOp .neq 24 (.tmp 45) (.const (.int .i64 0)) 24, 4, "", ⟨[]⟩, none⟩, none, false⟩,
         ⟨⟨(some 47), .move (.tmp 46), 4, "", ⟨[]⟩, none⟩, none, false⟩,
         ⟨⟨(some 48), .move (.tmp 9), 22, "", ⟨[]⟩, none⟩, some ((some 47), false), false⟩,
         ⟨⟨(some 49), .call ⟨.builtin .len, ⟨[(.tmp 48)]⟩, ⟨[22]⟩⟩, 3, "", ⟨[]⟩, none⟩, some ((some 47), false), false⟩,
         ⟨⟨(some 50), .move (.tmp 0), 22, "", ⟨[]⟩, none⟩, some ((some 47), false), false⟩,
         ⟨⟨(some 51), .call ⟨.builtin .len, ⟨[(.tmp 50)]⟩, ⟨[22]⟩⟩, 3, "", ⟨[]⟩, none⟩, some ((some 47), false), false⟩,
         ⟨⟨(some 52), .binOp .neq 3 (.tmp 49) (.tmp 51) 3, 4, "", ⟨[]⟩, none⟩, some ((some 47), false), false⟩,
         ⟨⟨(some 53), .pick (.tmp 47) (.const (.bool true)) (.tmp 52), 4, "", ⟨[]⟩, none⟩, none, false⟩])
       (.cond (.tmp 53)
        (.seq
         (.ops false [
           ⟨⟨(some 6), .assign (.const (.bool false)), 4, "", ⟨[]⟩, none⟩, none, false⟩])
         .ret)
        .skip))
      (.seq
       (.ops false [
         ⟨⟨(some 54), .indexAddr 70 (.tmp 5) (.const (.int .i64 1)), 0, "", ⟨[]⟩, none⟩, none, false⟩,
         ⟨⟨(some 55), .load 3 (.tmp 54), 3, "", ⟨[]⟩, none⟩, none, false⟩,
         ⟨⟨(some 56), .move (.tmp 0), 22, "", ⟨[]⟩, none⟩, none, false⟩,
         ⟨⟨(some 57), .call ⟨.builtin .len, ⟨[(.tmp 56)]⟩, ⟨[22]⟩⟩, 3, "", ⟨[]⟩, none⟩, none, false⟩,
         ⟨⟨(some 58), .call ⟨.value (.func 38), ⟨[(.tmp 55), (.tmp 57)]⟩, ⟨[3, 3]⟩⟩, 3, "", ⟨[]⟩, none⟩, none, false⟩,
         ⟨⟨(some 10), .assign (.tmp 58), 3, "", ⟨[]⟩, none⟩, none, false⟩])
       (.seq
        (.ops false [
          ⟨⟨(some 59), .move (.tmp 0), 22, "", ⟨[]⟩, none⟩, none, false⟩,
          ⟨⟨(some 60), .call ⟨.value (.func 39), ⟨[(.tmp 59)]⟩, ⟨[22]⟩⟩, 22, "", ⟨[]⟩, none⟩, none, false⟩,
          ⟨⟨(some 11), .assign (.tmp 60), 22, "", ⟨[]⟩, none⟩, none, false⟩])
        (.seq
         (.ops true [
           ⟨⟨(some 61), .move (.tmp 11), 22, "", ⟨[]⟩, none⟩, none, true⟩,
           ⟨⟨(some 62), .move (.tmp 10), 3, "", ⟨[]⟩, none⟩, none, true⟩,
           ⟨⟨(some 63), .move (.tmp 11), 22, "", ⟨[]⟩, none⟩, none, true⟩,
           ⟨⟨(some 64), .move (.tmp 10), 3, "", ⟨[]⟩, none⟩, none, true⟩,
           ⟨⟨(some 65), .indexAddr 22 (.tmp 63) (.tmp 64), 0, "", ⟨[]⟩, none⟩, none, true⟩,
           ⟨⟨(some 66), .load 3 (.tmp 65), 3, "", ⟨[]⟩, none⟩, none, true⟩,
           ⟨⟨(some 67), .indexAddr 70 (.tmp 5) (.const (.int .i64 2)), 0, "", ⟨[]⟩, none⟩, none, true⟩,
           ⟨⟨(some 68), .load 3 (.tmp 67), 3, "", ⟨[]⟩, none⟩, none, true⟩,
           ⟨⟨(some 69), .call ⟨.value (.func 38), ⟨[(.tmp 68), (.const (.int .i64 5000))]⟩, ⟨[3, 3]⟩⟩, 3, "", ⟨[]⟩, none⟩, none, true⟩,
           ⟨⟨(some 70), .binOp .add 3 (.tmp 66) (.tmp 69) 3, 3, "", ⟨[]⟩, none⟩, none, true⟩,
           ⟨⟨(some 71), .call ⟨.builtin .min, ⟨[(.const (.int .i64 67108864)), (.tmp 70)]⟩, ⟨[3, 3]⟩⟩, 3, "", ⟨[]⟩, none⟩, none, true⟩,
           ⟨⟨(some 72), .indexAddr 22 (.tmp 61) (.tmp 62), 0, "", ⟨[]⟩, none⟩, none, true⟩,
           ⟨⟨none, .store 3 (.tmp 72) (.tmp 71), 0, "", ⟨[]⟩, none⟩, none, false⟩])
         (.seq
          (.ops false [
            ⟨⟨(some 74), .move (.tmp 11), 22, "", ⟨[]⟩, none⟩, none, false⟩,
            ⟨⟨(some 75), .move (.tmp 1), 3, "", ⟨[]⟩, none⟩, none, false⟩,
            ⟨⟨(some 76), .call ⟨.value (.func 14), ⟨[(.tmp 74), (.tmp 75)]⟩, ⟨[22, 3]⟩⟩, 25, "", ⟨[]⟩, none⟩, none, false⟩,
            ⟨⟨(some 73), .move (.tmp 76), 25, "", ⟨[]⟩, none⟩, none, false⟩,
            ⟨⟨(some 77), .extract (.tmp 73) 0, 22, "", ⟨[]⟩, none⟩, none, false⟩,
            ⟨⟨(some 78), .extract (.tmp 73) 1, 24, "", ⟨[]⟩, none⟩, none, false⟩,
            ⟨⟨(some 12), .assign (.tmp 77), 22, "", ⟨[]⟩, none⟩, none, false⟩,
            ⟨⟨(some 8), .assign (.tmp 78), 24, "", ⟨[]⟩, none⟩, none, false⟩])
          (.seq
           (.seq
            (.ops false [
              ⟨⟨(some 79), .move (.tmp 8), 24, "", ⟨[]⟩, none⟩, none, false⟩,
              ⟨⟨(some 80), .binOp .neq 24 (.tmp 79) (.const (.int .i64 0)) 24, 4, "", ⟨[]⟩, none⟩, none, false⟩,
              ⟨⟨(some 81), .move (.tmp 80), 4, "", ⟨[]⟩, none⟩, none, false⟩,
              ⟨⟨(some 82), .move (.tmp 12), 22, "", ⟨[]⟩, none⟩, some ((some 81), false), false⟩,
              ⟨⟨(some 83), .call ⟨.builtin .len, ⟨[(.tmp 82)]⟩, ⟨[22]⟩⟩, 3, "", ⟨[]⟩, none⟩, some ((some 81), false), false⟩,
              ⟨⟨(some 84), .move (.tmp 0), 22, "", ⟨[]⟩, none⟩, some ((some 81), false), false⟩,
              ⟨⟨(some 85), .call ⟨.builtin .len, ⟨[(.tmp 84)]⟩, ⟨[22]⟩⟩, 3, "", ⟨[]⟩, none⟩, some ((some 81), false), false⟩,
              ⟨⟨(some 86), .binOp .neq 3 (.tmp 83) (.tmp 85) 3, 4, "", ⟨[]⟩, none⟩, some ((some 81), false), false⟩,
              ⟨⟨(some 87), .pick (.tmp 81) (.const (.bool true)) (.tmp 86), 4, "", ⟨[]⟩, none⟩, none, false⟩])
            (.cond (.tmp 87)
             (.seq
              (.ops false [
                ⟨⟨(some 6), .assign (.const (.bool false)), 4, "", ⟨[]⟩, none⟩, none, false⟩])
              .ret)
             .skip))
           (.seq
            (.seq
             (.ops false [
               ⟨⟨(some 13), .assign (.const (.int .i64 0)), 3, "", ⟨[]⟩, none⟩, none, false⟩])
             (.block 0
              (.loop
               (.seq
                (.seq
                 (.ops false [
                   ⟨⟨(some 88), .move (.tmp 13), 3, "", ⟨[]⟩, none⟩, none, false⟩,
                   ⟨⟨(some 89), .move (.tmp 0), 22, "", ⟨[]⟩, none⟩, none, false⟩,
                   ⟨⟨(some 90), .call ⟨.builtin .len, ⟨[(.tmp 89)]⟩, ⟨[22]⟩⟩, 3, "", ⟨[]⟩, none⟩, none, false⟩,
                   ⟨⟨(some 91), .binOp .lss 3 (.tmp 88) (.tmp 90) 3, 4, "", ⟨[]⟩, none⟩, none, false⟩])
                 (.cond (.tmp 91)
                  .skip
                  (.exit 0)))
                (.seq
                 (.block 1
                  (.seq
                   (.ops true [
                     ⟨⟨(some 94), .move (.tmp 9), 22, "", ⟨[]⟩, none⟩, none, true⟩,
                     ⟨⟨(some 95), .move (.tmp 13), 3, "", ⟨[]⟩, none⟩, none, true⟩,
                     ⟨⟨(some 96), .indexAddr 22 (.tmp 94) (.tmp 95), 0, "", ⟨[]⟩, none⟩, none, true⟩,
                     ⟨⟨(some 97), .load 3 (.tmp 96), 3, "", ⟨[]⟩, none⟩, none, true⟩,
                     ⟨⟨(some 98), .move (.tmp 7), 22, "", ⟨[]⟩, none⟩, none, true⟩,
                     ⟨⟨(some 99), .move (.tmp 13), 3, "", ⟨[]⟩, none⟩, none, true⟩,
                     ⟨⟨(some 100), .indexAddr 22 (.tmp 98) (.tmp 99), 0, "", ⟨[]⟩, none⟩, none, true⟩,
                     ⟨⟨(some 101), .load 3 (.tmp 100), 3, "", ⟨[]⟩, none⟩, none, true⟩,
                     ⟨⟨(some 102), .binOp .lss 3 (.tmp 97) (.tmp 101) 3, 4, "", ⟨[]⟩, none⟩, none, true⟩,
                     ⟨⟨(some 103), .move (.tmp 102), 4, "", ⟨[]⟩, none⟩, none, true⟩,
                     ⟨⟨(some 104), .move (.tmp 13), 3, "", ⟨[]⟩, none⟩, some ((some 103), false), true⟩,
                     ⟨⟨(some 105), .move (.tmp 10), 3, "", ⟨[]⟩, none⟩, some ((some 103), false), true⟩,
                     ⟨⟨(some 106), .binOp .eql 3 (.tmp 104) (.tmp 105) 3, 4, "", ⟨[]⟩, none⟩, some ((some 103), false), true⟩,
                     ⟨⟨(some 107), .move (.tmp 106), 4, "", ⟨[]⟩, none⟩, some ((some 103), false), true⟩,
                     ⟨⟨(some 108), .move (.tmp 12), 22, "", ⟨[]⟩, none⟩, some ((some 107), true), true⟩,
                     ⟨⟨(some 109), .move (.tmp 13), 3, "", ⟨[]⟩, none⟩, some ((some 107), true), true⟩,
                     ⟨⟨(some 110), .indexAddr 22 (.tmp 108) (.tmp 109), 0, "", ⟨[]⟩, none⟩, some ((some 107), true), true⟩,
                     ⟨⟨(some 111), .load 3 (.tmp 110), 3, "", ⟨[]⟩, none⟩, some ((some 107), true), true⟩,
                     ⟨⟨(some 112), .move (.tmp 7), 22, "", ⟨[]⟩, none⟩, some ((some 107), true), true⟩,
                     ⟨⟨(some 113), .move (.tmp 13), 3, "", ⟨[]⟩, none⟩, some ((some 107), true), true⟩,
                     ⟨⟨(some 114), .indexAddr 22 (.tmp 112) (.tmp 113), 0, "", ⟨[]⟩, none⟩, some ((some 107), true), true⟩,
                     ⟨⟨(some 115), .load 3 (.tmp 114), 3, "", ⟨[]⟩, none⟩, some ((some 107), true), true⟩,
                     ⟨⟨(some 116), .binOp .lss 3 (.tmp 111) (.tmp 115) 3, 4, "", ⟨[]⟩, none⟩, some ((some 107), true), true⟩,
                     ⟨⟨(some 117), .pick (.tmp 107) (.tmp 116) (.const (.bool false)), 4, "", ⟨[]⟩, none⟩, some ((some 103), false), true⟩,
                     ⟨⟨(some 118), .pick (.tmp 103) (.const (.bool true)) (.tmp 117), 4, "", ⟨[]⟩, none⟩, none, true⟩,
                     ⟨⟨(some 119), .move (.tmp 118), 4, "", ⟨[]⟩, none⟩, none, true⟩,
                     ⟨⟨(some 120), .move (.tmp 13), 3, "", ⟨[]⟩, none⟩, some ((some 119), false), true⟩,
                     ⟨⟨(some 121), .move (.tmp 10), 3, "", ⟨[]⟩, none⟩, some ((some 119), false), true⟩,
                     ⟨⟨(some 122), .binOp .neq 3 (.tmp 120) (.tmp 121) 3, 4, "", ⟨[]⟩, none⟩, some ((some 119), false), true⟩,
                     ⟨⟨(some 123), .move (.tmp 122), 4, "", ⟨[]⟩, none⟩, some ((some 119), false), true⟩,
                     ⟨⟨(some 124), .move (.tmp 12), 22, "", ⟨[]⟩, none⟩, some ((some 123), true), true⟩,
                     ⟨⟨(some 125), .move (.tmp 13), 3, "", ⟨[]⟩, none⟩, some ((some 123), true), true⟩,
                     ⟨⟨(some 126), .indexAddr 22 (.tmp 124) (.tmp 125), 0, "", ⟨[]⟩, none⟩, some ((some 123), true), true⟩,
                     ⟨⟨(some 127), .load 3 (.tmp 126), 3, "", ⟨[]⟩, none⟩, some ((some 123), true), true⟩,
                     ⟨⟨(some 128), .move (.tmp 7), 22, "", ⟨[]⟩, none⟩, some ((some 123), true), true⟩,
                     ⟨⟨(some 129), .move (.tmp 13), 3, "", ⟨[]⟩, none⟩, some ((some 123), true), true⟩,
                     ⟨⟨(some 130), .indexAddr 22 (.tmp 128) (.tmp 129), 0, "", ⟨[]⟩, none⟩, some ((some 123), true), true⟩,
                     ⟨⟨(some 131), .load 3 (.tmp 130), 3, "", ⟨[]⟩, none⟩, some ((some 123), true), true⟩,
                     ⟨⟨(some 132), .binOp .gtr 3 (.tmp 127) (.tmp 131) 3, 4, "", ⟨[]⟩, none⟩, some ((some 123), true), true⟩,
                     ⟨⟨(some 133), .pick (.tmp 123) (.tmp 132) (.const (.bool false)), 4, "", ⟨[]⟩, none⟩, some ((some 119), false), true⟩,
                     ⟨⟨(some 134), .pick (.tmp 119) (.const (.bool true)) (.tmp 133), 4, "", ⟨[]⟩, none⟩, none, true⟩])
                   (.cond (.tmp 134)
                    (.seq
                     (.ops false [
                       ⟨⟨(some 6), .assign (.const (.bool false)), 4, "", ⟨[]⟩, none⟩, none, false⟩])
                     .ret)
                    .skip)))
                 (.ops false [
                   ⟨⟨(some 92), .move (.tmp 13), 3, "", ⟨[]⟩, none⟩, none, false⟩,
                   ⟨⟨(some 93), .binOp .add 3 (.tmp 92) (.const (.int .i64 1)) 3, 3, "", ⟨[]⟩, none⟩, none, false⟩,
                   ⟨⟨(some 13), .assign (.tmp 93), 3, "", ⟨[]⟩, none⟩, none, false⟩]))))))
            (.seq
             (.ops false [
               ⟨⟨(some 135), .call ⟨.value (.func 19), ⟨[]⟩, ⟨[]⟩⟩, 4, "", ⟨[]⟩, none⟩, none, false⟩,
               ⟨⟨(some 6), .assign (.tmp 135), 4, "", ⟨[]⟩, none⟩, none, false⟩])
             .ret))))))))))))
def Try.s8 : SC :=
 (.seq
  (.ops false [
    ⟨⟨(some 6), .assign (.const (.bool false)), 4, "", ⟨[]⟩, none⟩, none, false⟩])
  (.seq
   (.ops false [
     ⟨⟨(some 14), .move (.tmp 0), 22, "", ⟨[]⟩, none⟩, none, false⟩,
     ⟨⟨(some 15), .move (.tmp 1), 3, "", ⟨[]⟩, none⟩, none, false⟩,
     ⟨⟨(some 16), .call ⟨.value (.func 14), ⟨[(.tmp 14), (.tmp 15)]⟩, ⟨[22, 3]⟩⟩, 25, "", ⟨[]⟩, none⟩, none, false⟩,
     ⟨⟨(some 13), .move (.tmp 16), 25, "", ⟨[]⟩, none⟩, none, false⟩,
     ⟨⟨(some 17), .extract (.tmp 13) 0, 22, "", ⟨[]⟩, none⟩, none, false⟩,
     ⟨⟨(some 18), .extract (.tmp 13) 1, 24, "", ⟨[]⟩, none⟩, none, false⟩,
     ⟨⟨(some 7), .assign (.tmp 17), 22, "", ⟨[]⟩, none⟩, none, false⟩,
     ⟨⟨(some 8), .assign (.tmp 18), 24, "", ⟨[]⟩, none⟩, none, false⟩])
   (.seq
    (.seq
     (.ops false [
       ⟨⟨(some 19), .move (.tmp 8), 24, "", ⟨[]⟩, none⟩, none, false⟩,
       ⟨⟨(some 20), .binOp .neq 24 (.tmp 19) (.const (.int .i64 0)) 24, 4, "", ⟨[]⟩, none⟩, none, false⟩,
       ⟨⟨(some 21), .move (.tmp 20), 4, "", ⟨[]⟩, none⟩, none, false⟩,
       ⟨⟨(some 22), .move (.tmp 7), 22, "", ⟨[]⟩, none⟩, some ((some 21), false), false⟩,
       ⟨⟨(some 23), .call ⟨.builtin .len, ⟨[(.tmp 22)]⟩, ⟨[22]⟩⟩, 3, "", ⟨[]⟩, none⟩, some ((some 21), false), false⟩,
       ⟨⟨(some 24), .move (.tmp 0), 22, "", ⟨[]⟩, none⟩, some ((some 21), false), false⟩,
       ⟨⟨(some 25), .call ⟨.builtin .len, ⟨[(.tmp 24)]⟩, ⟨[22]⟩⟩, 3, "", ⟨[]⟩, none⟩, some ((some 21), false), false⟩,
       ⟨⟨(some 26), .binOp .neq 3 (.tmp 23) (.tmp 25) 3, 4, "", ⟨[]⟩, none⟩, some ((some 21), false), false⟩,
       ⟨⟨(some 27), .pick (.tmp 21) (.const (.bool true)) (.tmp 26), 4, "", ⟨[]⟩, none⟩, none, false⟩])
     (.cond (.tmp 27)
      (.seq
       (.ops false [
         ⟨⟨(some 28), .move (.tmp 8), 24, "", ⟨[]⟩, none⟩, none, false⟩,
         ⟨⟨(some 29), .binOp .neq 24 (.tmp 28) (.const (.int .i64 0)) 24, 4, "", ⟨[]⟩, none⟩, none, false⟩,
         ⟨⟨(some 30), .move (.tmp 29), 4, "", ⟨[]⟩, none⟩, none, false⟩,
         ⟨⟨(some 31), .call ⟨.value (.func 19), ⟨[]⟩, ⟨[]⟩⟩, 4, "", ⟨[]⟩, none⟩, some ((some 30), true), false⟩,
         ⟨⟨(some 32), .pick (.tmp 30) (.tmp 31) (.const (.bool false)), 4, "", ⟨[]⟩, none⟩, none, false⟩,
         ⟨⟨(some 6), .assign (.tmp 32), 4, "", ⟨[]⟩, none⟩, none, false⟩])
       .ret)
      .skip))
    (.seq
     (.ops false [
       ⟨⟨(some 9), .assign (.const (.slice none 0 0)), 22, "", ⟨[]⟩, none⟩, none, false⟩,
       ⟨⟨(some 10), .assign (.const (.slice none 0 0)), 22, "", ⟨[]⟩, none⟩, none, false⟩])
     (.seq
      (.seq
       (.ops false [
         ⟨⟨(some 11), .assign (.const (.int .i64 0)), 3, "", ⟨[]⟩, none⟩, none, false⟩])
       (.block 0
        (.loop
         (.seq
          (.seq
           (.ops false [
             ⟨⟨(some 33), .move (.tmp 11), 3, "", ⟨[]⟩, none⟩, none, false⟩,
             ⟨⟨(some 34), .move (.tmp 0), 22, "", ⟨[]⟩, none⟩, none, false⟩,
             ⟨⟨(some 35), .call ⟨.builtin .len, ⟨[(.tmp 34)]⟩, ⟨[22]⟩⟩, 3, "", ⟨[]⟩, none⟩, none, false⟩,
             ⟨⟨(some 36), .binOp .lss 3 (.tmp 33) (.tmp 35) 3, 4, "", ⟨[]⟩, none⟩, none, false⟩])
           (.cond (.tmp 36)
            .skip
            (.exit 0)))
          (.seq
           (.block 1
            (.seq
             (.ops false [
               ⟨⟨(some 39), .move (.tmp 2), 22, "", ⟨[]⟩, none⟩, none, false⟩,
               ⟨⟨(some 40), .move (.tmp 11), 3, "", ⟨[]⟩, none⟩, none, false⟩,
               ⟨⟨(some 41), .call ⟨.value (.func 40), ⟨[(.tmp 39), (.tmp 40)]⟩, ⟨[22, 3]⟩⟩, 3, "", ⟨[]⟩, none⟩, none, false⟩,
               ⟨⟨(some 42), .call ⟨.value (.func 38), ⟨[(.tmp 41), (.const (.int .i64 2))]⟩, ⟨[3, 3]⟩⟩, 3, "", ⟨[]⟩, none⟩, none, false⟩,
               ⟨⟨(some 43), .binOp .eql 3 (.tmp 42) (.const (.int .i64 1)) 3, 4, "", ⟨[]⟩, none⟩, none, false⟩])
             (.cond (.tmp 43)
              (.ops true [
                ⟨⟨(some 44), .move (.tmp 9), 22, "", ⟨[]⟩, none⟩, none, true⟩,
                ⟨⟨(some 45), .move (.tmp 0), 22, "", ⟨[]⟩, none⟩, none, true⟩,
                ⟨⟨(some 46), .move (.tmp 11), 3, "", ⟨[]⟩, none⟩, none, true⟩,
                ⟨⟨(some 47), .indexAddr 22 (.tmp 45) (.tmp 46), 0, "", ⟨[]⟩, none⟩, none, true⟩,
                ⟨⟨(some 48), .load 3 (.tmp 47), 3, "", ⟨[]⟩, none⟩, none, true⟩,
                ⟨⟨(some 49), .buildSlice 22 1 ⟨[(0, (.tmp 48))]⟩, 22, "", ⟨[]⟩, none⟩, none, true⟩,
                ⟨⟨(some 51), .move (.tmp 10), 22, "", ⟨[]⟩, none⟩, none, true⟩,
                ⟨⟨(some 52), .move (.tmp 7), 22, "", ⟨[]⟩, none⟩, none, true⟩,
                ⟨⟨(some 53), .move (.tmp 11), 3, "", ⟨[]⟩, none⟩, none, true⟩,
                ⟨⟨(some 54), .indexAddr 22 (.tmp 52) (.tmp 53), 0, "", ⟨[]⟩, none⟩, none, true⟩,
                ⟨⟨(some 55), .load 3 (.tmp 54), 3, "", ⟨[]⟩, none⟩, none, true⟩,
                ⟨⟨(some 56), .buildSlice 22 1 ⟨[(0, (.tmp 55))]⟩, 22, "", ⟨[]⟩, none⟩, none, true⟩,
                ⟨⟨(some 50), .call ⟨.builtin .append, ⟨[(.tmp 44), (.tmp 49)]⟩, ⟨[22, 22]⟩⟩, 22, "", ⟨[]⟩, none⟩, none, true⟩,
                ⟨⟨(some 57), .call ⟨.builtin .append, ⟨[(.tmp 51), (.tmp 56)]⟩, ⟨[22, 22]⟩⟩, 22, "", ⟨[]⟩, none⟩, none, false⟩,
                ⟨⟨(some 9), .assign (.tmp 50), 22, "", ⟨[]⟩, none⟩, none, true⟩,
                ⟨⟨(some 10), .assign (.tmp 57), 22, "", ⟨[]⟩, none⟩, none, true⟩])
              .skip)))
           (.ops false [
             ⟨⟨(some 37), .move (.tmp 11), 3, "", ⟨[]⟩, none⟩, none, false⟩,
             ⟨⟨(some 38), .binOp .add 3 (.tmp 37) (.const (.int .i64 1)) 3, 3, "", ⟨[]⟩, none⟩, none, false⟩,
             ⟨⟨(some 11), .assign (.tmp 38), 3, "", ⟨[]⟩, none⟩, none, false⟩]))))))
      (.seq
       (.seq
        (.ops false [
          ⟨⟨(some 58), .move (.tmp 9), 22, "", ⟨[]⟩, none⟩, none, false⟩,
          ⟨⟨(some 59), .call ⟨.value (.func 35), ⟨[(.tmp 58)]⟩, ⟨[22]⟩⟩, 3, "", ⟨[]⟩, none⟩, none, false⟩,
          ⟨⟨(some 60), .binOp .eql 3 (.tmp 59) (.const (.int .i64 0)) 3, 4, "", ⟨[]⟩, none⟩, none, false⟩])
        (.cond (.tmp 60)
         (.seq
          (.ops false [
            ⟨⟨(some 61), .move (.tmp 10), 22, "", ⟨[]⟩, none⟩, none, false⟩,
            ⟨⟨(some 62), .call ⟨.value (.func 35), ⟨[(.tmp 61)]⟩, ⟨[22]⟩⟩, 3, "", ⟨[]⟩, none⟩, none, false⟩,
            ⟨⟨(some 63), .binOp .eql 3 (.tmp 62) (.const (.int .i64 0)) 3, 4, "", ⟨[]⟩, none⟩, none, false⟩,
            ⟨⟨(some 64), .move (.tmp 63), 4, "", ⟨[]⟩, none⟩, none, false⟩,
            ⟨⟨(some 65), .call ⟨.value (.func 19), ⟨[]⟩, ⟨[]⟩⟩, 4, "", ⟨[]⟩, none⟩, some ((some 64), true), false⟩,
            ⟨⟨(some 66), .pick (.tmp 64) (.tmp 65) (.const (.bool false)), 4, "", ⟨[]⟩, none⟩, none, false⟩,
            ⟨⟨(some 6), .assign (.tmp 66), 4, "", ⟨[]⟩, none⟩, none, false⟩])
          .ret)
         .skip))
       (.seq
        (.ops false [
          ⟨⟨(some 68), .move (.tmp 9), 22, "", ⟨[]⟩, none⟩, none, false⟩,
          ⟨⟨(some 69), .move (.tmp 10), 22, "", ⟨[]⟩, none⟩, none, false⟩,
          ⟨⟨(some 70), .call ⟨.value (.func 35), ⟨[(.tmp 69)]⟩, ⟨[22]⟩⟩, 3, "", ⟨[]⟩, none⟩, none, false⟩,
          ⟨⟨(some 71), .call ⟨.value (.func 14), ⟨[(.tmp 68), (.tmp 70)]⟩, ⟨[22, 3]⟩⟩, 25, "", ⟨[]⟩, none⟩, none, false⟩,
          ⟨⟨(some 67), .move (.tmp 71), 25, "", ⟨[]⟩, none⟩, none, false⟩,
          ⟨⟨(some 72), .extract (.tmp 67) 0, 22, "", ⟨[]⟩, none⟩, none, false⟩,
          ⟨⟨(some 73), .extract (.tmp 67) 1, 24, "", ⟨[]⟩, none⟩, none, false⟩,
          ⟨⟨(some 12), .assign (.tmp 72), 22, "", ⟨[]⟩, none⟩, none, false⟩,
          ⟨⟨(some 8), .assign (.tmp 73), 24, "", ⟨[]⟩, none⟩, none, false⟩])
        (.seq
         (.ops false [
           ⟨⟨(some 74), .move (.tmp 8), 24, "", ⟨[]⟩, none⟩, none, false⟩,
           ⟨⟨(some 75), .binOp .eql 24 (.tmp 74) (.const (.int .i64 0)) 24, 4, "", ⟨[]⟩, none⟩, none, false⟩,
           ⟨⟨(some 76), .move (.tmp 75), 4, "", ⟨[]⟩, none⟩, none, false⟩,
           ⟨⟨(some 77), .move (.tmp 12), 22, "", ⟨[]⟩, none⟩, some ((some 76), true), false⟩,
           ⟨⟨(some 78), .move (.tmp 10), 22, "", ⟨[]⟩, none⟩, some ((some 76), true), false⟩,
           ⟨⟨(some 79), .call ⟨.value (.func 16), ⟨[(.tmp 77), (.tmp 78)]⟩, ⟨[22, 22]⟩⟩, 4, "", ⟨[]⟩, none⟩, some ((some 76), true), false⟩,
           ⟨⟨(some 80), .pick (.tmp 76) (.tmp 79) (.const (.bool false)), 4, "", ⟨[]⟩, none⟩, none, false⟩,
           ⟨⟨(some 81), .move (.tmp 80), 4, "", ⟨[]⟩, none⟩, none, false⟩,
           ⟨⟨(some 82), .call ⟨.value (.func 19), ⟨[]⟩, ⟨[]⟩⟩, 4, "", ⟨[]⟩, none⟩, some ((some 81), true), false⟩,
           ⟨⟨(some 83), .pick (.tmp 81) (.tmp 82) (.const (.bool false)), 4, "", ⟨[]⟩, none⟩, none, false⟩,
           ⟨⟨(some 6), .assign (.tmp 83), 4, "", ⟨[]⟩, none⟩, none, false⟩])
         .ret))))))))
def Try.s9 : SC :=
 (.seq
  (.ops false [
    ⟨⟨(some 6), .assign (.const (.bool false)), 4, "", ⟨[]⟩, none⟩, none, false⟩])
  (.seq
   (.ops false [
     ⟨⟨(some 15), .move (.tmp 0), 23, "", ⟨[]⟩, none⟩, none, false⟩,
     ⟨⟨(some 16), .move (.tmp 1), 3, "", ⟨[]⟩, none⟩, none, false⟩,
     ⟨⟨(some 17), .call ⟨.value (.func 17), ⟨[(.tmp 15), (.tmp 16)]⟩, ⟨[23, 3]⟩⟩, 28, "", ⟨[]⟩, none⟩, none, false⟩,
     ⟨⟨(some 14), .move (.tmp 17), 28, "", ⟨[]⟩, none⟩, none, false⟩,
     ⟨⟨(some 18), .extract (.tmp 14) 0, 22, "", ⟨[]⟩, none⟩, none, false⟩,
     ⟨⟨(some 19), .extract (.tmp 14) 1, 3, "", ⟨[]⟩, none⟩, none, false⟩,
     ⟨⟨(some 20), .extract (.tmp 14) 2, 24, "", ⟨[]⟩, none⟩, none, false⟩,
     ⟨⟨(some 7), .assign (.tmp 18), 22, "", ⟨[]⟩, none⟩, none, false⟩,
     ⟨⟨(some 8), .assign (.tmp 19), 3, "", ⟨[]⟩, none⟩, none, false⟩,
     ⟨⟨(some 9), .assign (.tmp 20), 24, "", ⟨[]⟩, none⟩, none, false⟩])
   (.seq
    (.seq
     (.ops false [
       ⟨⟨(some 21), .move (.tmp 9), 24, "", ⟨[]⟩, none⟩, none, false⟩,
       ⟨⟨(some 22), .binOp .neq 24 (.tmp 21) (.const (.int .i64 0)) 24, 4, "", ⟨[]⟩, none⟩, none, false⟩])
     (.cond (.tmp 22)
      (.seq
       (.ops false [
         ⟨⟨(some 23), .move (.tmp 7), 22, "", ⟨[]⟩, none⟩, none, false⟩,
         ⟨⟨(some 24), .call ⟨.builtin .len, ⟨[(.tmp 23)]⟩, ⟨[22]⟩⟩, 3, "", ⟨[]⟩, none⟩, none, false⟩,
         ⟨⟨(some 25), .binOp .eql 3 (.tmp 24) (.const (.int .i64 0)) 3, 4, "", ⟨[]⟩, none⟩, none, false⟩,
         ⟨⟨(some 26), .move (.tmp 25), 4, "", ⟨[]⟩, none⟩, none, false⟩,
         ⟨⟨(some 27), .move (.tmp 8), 3, "", ⟨[]⟩, none⟩, some ((some 26), true), false⟩,
         ⟨⟨(some 28), .binOp .eql 3 (.tmp 27) (.const (.int .i64 0)) 3, 4, "", ⟨[]⟩, none⟩, some ((some 26), true), false⟩,
         ⟨⟨(some 29), .pick (.tmp 26) (.tmp 28) (.const (.bool false)), 4, "", ⟨[]⟩, none⟩, none, false⟩,
         ⟨⟨(some 30), .move (.tmp 29), 4, "", ⟨[]⟩, none⟩, none, false⟩,
         ⟨⟨(some 31), .call ⟨.value (.func 19), ⟨[]⟩, ⟨[]⟩⟩, 4, "", ⟨[]⟩, none⟩, some ((some 30), true), false⟩,
         ⟨⟨(some 32), .pick (.tmp 30) (.tmp 31) (.const (.bool false)), 4, "", ⟨[]⟩, none⟩, none, false⟩,
         ⟨⟨(some 6), .assign (.tmp 32), 4, "", ⟨[]⟩, none⟩, none, false⟩])
       .ret)
      .skip))
    (.seq
     (.seq
      (.ops false [
        ⟨⟨(some 33), .move (.tmp 7), 22, "", ⟨[]⟩, none⟩, none, false⟩,
        ⟨⟨(some 34), .call ⟨.builtin .len, ⟨[(.tmp 33)]⟩, ⟨[22]⟩⟩, 3, "", ⟨[]⟩, none⟩, none, false⟩,
        ⟨⟨(some 35), .move (.tmp 0), 23, "", ⟨[]⟩, none⟩, none, false⟩,
        ⟨⟨(some 36), .call ⟨.builtin .len, ⟨[(.tmp 35)]⟩, ⟨[23]⟩⟩, 3, "", ⟨[]⟩, none⟩, none, false⟩,
        ⟨⟨(some 37), .binOp .neq 3 (.tmp 34) (.tmp 36) 3, 4, "", ⟨[]⟩, none⟩, none, false⟩,
        ⟨⟨(some 38), .move (.tmp 37), 4, "", ⟨[]⟩, none⟩, none, false⟩,
        ⟨⟨(some 39), .move (.tmp 7), 22, "", ⟨[]⟩, none⟩, some ((some 38), false), false⟩,
        ⟨⟨(some 40), .call ⟨.value (.func 35), ⟨[(.tmp 39)]⟩, ⟨[22]⟩⟩, 3, "", ⟨[]⟩, none⟩, some ((some 38), false), false⟩,
        ⟨⟨(some 41), .move (.tmp 8), 3, "", ⟨[]⟩, none⟩, some ((some 38), false), false⟩,
        ⟨⟨(some 42), .binOp .add 3 (.tmp 40) (.tmp 41) 3, 3, "", ⟨[]⟩, none⟩, some ((some 38), false), false⟩,
        ⟨⟨(some 43), .move (.tmp 1), 3, "", ⟨[]⟩, none⟩, some ((some 38), false), false⟩,
        ⟨⟨(some 44), .binOp .neq 3 (.tmp 42) (.tmp 43) 3, 4, "", ⟨[]⟩, none⟩, some ((some 38), false), false⟩,
        ⟨⟨(some 45), .pick (.tmp 38) (.const (.bool true)) (.tmp 44), 4, "", ⟨[]⟩, none⟩, none, false⟩,
        ⟨⟨(some 46), .move (.tmp 45), 4, "", ⟨[]⟩, none⟩, none, false⟩,
        ⟨⟨(some 47), .move (.tmp 8), 3, "", ⟨[]⟩, none⟩, some ((some 46), false), false⟩,
        ⟨⟨(some 48), .binOp .lss 3 (.tmp 47) (.const (.int .i64 0)) 3, 4, "", ⟨[]⟩, none⟩, some ((some 46), false), false⟩,
        ⟨⟨(some 49), .pick (.tmp 46) (.const (.bool true)) (.tmp 48), 4, "", ⟨[]⟩, none⟩, none, false⟩])
      (.cond (.tmp 49)
       (.seq
        (.ops false [
          ⟨⟨(some 6), .assign (.const (.bool false)), 4, "", ⟨[]⟩, none⟩, none, false⟩])
        .ret)
       .skip))
     (.seq
      (.ops false [
        ⟨⟨(some 51), .move (.tmp 0), 23, "", ⟨[]⟩, none⟩, none, false⟩,
        ⟨⟨(some 52), .move (.tmp 1), 3, "", ⟨[]⟩, none⟩, none, false⟩,
        ⟨⟨(some 53), .move (.tmp 2), 3, "", ⟨[]⟩, none⟩, none, false⟩,
        ⟨⟨(some 54), .call ⟨.value (.func 38), ⟨[(.tmp 53), (.const (.int .i64 1000))]⟩, ⟨[3, 3]⟩⟩, 3, "", ⟨[]⟩, none⟩, none, false⟩,
        ⟨⟨(some 55), .binOp .add 3 (.tmp 52) (.tmp 54) 3, 3, "", ⟨[]⟩, none⟩, none, false⟩,
        ⟨⟨(some 56), .call ⟨.builtin .min, ⟨[(.const (.int .i64 34359738368)), (.tmp 55)]⟩, ⟨[3, 3]⟩⟩, 3, "", ⟨[]⟩, none⟩, none, false⟩,
        ⟨⟨(some 57), .call ⟨.value (.func 17), ⟨[(.tmp 51), (.tmp 56)]⟩, ⟨[23, 3]⟩⟩, 28, "", ⟨[]⟩, none⟩, none, false⟩,
        ⟨⟨(some 50), .move (.tmp 57), 28, "", ⟨[]⟩, none⟩, none, false⟩,
        ⟨⟨(some 58), .extract (.tmp 50) 0, 22, "", ⟨[]⟩, none⟩, none, false⟩,
        ⟨⟨(some 59), .extract (.tmp 50) 1, 3, "", ⟨[]⟩, none⟩, none, false⟩,
        ⟨⟨(some 60), .extract (.tmp 50) 2, 24, "", ⟨[]⟩, none⟩, none, false⟩,
        ⟨⟨(some 10), .assign (.tmp 58), 22, "", ⟨[]⟩, none⟩, none, false⟩,
        ⟨⟨(some 11), .assign (.tmp 59), 3, "", ⟨[]⟩, none⟩, none, false⟩,
        ⟨⟨(some 9), .assign (.tmp 60), 24, "", ⟨[]⟩, none⟩, none, false⟩])
      (.seq
       (.seq
        (.ops false [
          ⟨⟨(some 61), .move (.tmp 9), 24, "", ⟨[]⟩, none⟩, none, false⟩,
          ⟨⟨(some 62), .binOp .neq 24 (.tmp 61) (.const (.int .i64 0)) 24, 4, "", ⟨[]⟩, none⟩, none, false⟩,
          ⟨⟨(some 63), .move (.tmp 62), 4, "", ⟨[]⟩, none⟩, none, false⟩,
          ⟨⟨(some 64), .move (.tmp 10), 22, "", ⟨[]⟩, none⟩, some ((some 63), false), false⟩,
          ⟨⟨(some 65), .call ⟨.builtin .len, ⟨[(.tmp 64)]⟩, ⟨[22]⟩⟩, 3, "", ⟨[]⟩, none⟩, some ((some 63), false), false⟩,
          ⟨⟨(some 66), .move (.tmp 0), 23, "", ⟨[]⟩, none⟩, some ((some 63), false), false⟩,
          ⟨⟨(some 67), .call ⟨.builtin .len, ⟨[(.tmp 66)]⟩, ⟨[23]⟩⟩, 3, "", ⟨[]⟩, none⟩, some ((some 63), false), false⟩,
          ⟨⟨(some 68), .binOp .neq 3 (.tmp 65) (.tmp 67) 3, 4, "", ⟨[]⟩, none⟩, some ((some 63), false), false⟩,
          ⟨⟨(some 69), .pick (.tmp 63) (.const (.bool true)) (.tmp 68), 4, "", ⟨[]⟩, none⟩, none, false⟩,
          ⟨⟨(some 70), .move (.tmp 69), 4, "", ⟨[]⟩, none⟩, none, false⟩,
          ⟨⟨(some 71), .move (.tmp 11), 3, "", ⟨[]⟩, none⟩, some ((some 70), false), false⟩,
          ⟨⟨(some 72), .move (.tmp 8), 3, "", ⟨[]⟩, none⟩, some ((some 70), false), false⟩,
          ⟨⟨(some 73), .binOp .lss 3 (.tmp 71) (.tmp 72) 3, 4, "", ⟨[]⟩, none⟩, some ((some 70), false), false⟩,
          ⟨⟨(some 74), .pick (.tmp 70) (.const (.bool true)) (.tmp 73), 4, "", ⟨[]⟩, none⟩, none, false⟩])
        (.cond (.tmp 74)
         (.seq
          (.ops false [
            ⟨⟨(some 6), .assign (.const (.bool false)), 4, "", ⟨[]⟩, none⟩, none, false⟩])
          .ret)
         .skip))
       (.seq
        (.seq
         (.ops false [
           ⟨⟨(some 12), .assign (.const (.int .i64 0)), 3, "", ⟨[]⟩, none⟩, none, false⟩])
         (.block 0
          (.loop
           (.seq
            (.seq
             (.ops false [
               ⟨⟨(some 75), .move (.tmp 12), 3, "", ⟨[]⟩, none⟩, none, false⟩,
               ⟨⟨(some 76), .move (.tmp 0), 23, "", ⟨[]⟩, none⟩, none, false⟩,
               ⟨⟨(some 77), .call ⟨.builtin .len, ⟨[(.tmp 76)]⟩, ⟨[23]⟩⟩, 3, "", ⟨[]⟩, none⟩, none, false⟩,
               ⟨⟨(some 78), .binOp .lss 3 (.tmp 75) (.tmp 77) 3, 4, "", ⟨[]⟩, none⟩, none, false⟩])
             (.cond (.tmp 78)
              .skip
              (.exit 0)))
            (.seq
             (.block 1
              (.seq
               (.seq
                (.ops true [
                  ⟨⟨(some 81), .move (.tmp 7), 22, "", ⟨[]⟩, none⟩, none, true⟩,
                  ⟨⟨(some 82), .move (.tmp 12), 3, "", ⟨[]⟩, none⟩, none, true⟩,
                  ⟨⟨(some 83), .indexAddr 22 (.tmp 81) (.tmp 82), 0, "", ⟨[]⟩, none⟩, none, true⟩,
                  ⟨⟨(some 84), .load 3 (.tmp 83), 3, "", ⟨[]⟩, none⟩, none, true⟩,
                  ⟨⟨(some 85), .move (.tmp 0), 23, "", ⟨[]⟩, none⟩, none, true⟩,
                  ⟨⟨(some 86), .move (.tmp 12), 3, "", ⟨[]⟩, none⟩, none, true⟩,
                  ⟨⟨(some 87), .indexAddr 23 (.tmp 85) (.tmp 86), 0, "", ⟨[]⟩, none⟩, none, true⟩,
                  ⟨⟨(some 88), .fieldAddr 76 (.tmp 87) 1, 0, "", ⟨[]⟩, none⟩, none, true⟩,
                  ⟨⟨(some 89), .load 3 (.tmp 88), 3, "", ⟨[]⟩, none⟩, none, true⟩,
                  ⟨⟨(some 90), .call ⟨.value (.func 36), ⟨[(.const (.int .i64 0)), (.tmp 84), (.tmp 89)]⟩, ⟨[3, 3, 3]⟩⟩, 4, "", ⟨[]⟩, none⟩, none, false⟩,
                  ⟨⟨(some 91), .unOp .not 4 (.tmp 90), 4, "", ⟨[]⟩, none⟩, none, true⟩,
                  ⟨⟨(some 92), .move (.tmp 91), 4, "", ⟨[]⟩, none⟩, none, true⟩,
                  ⟨⟨(some 93), .move (.tmp 7), 22, "", ⟨[]⟩, none⟩, some ((some 92), false), true⟩,
                  ⟨⟨(some 94), .move (.tmp 12), 3, "", ⟨[]⟩, none⟩, some ((some 92), false), true⟩,
                  ⟨⟨(some 95), .indexAddr 22 (.tmp 93) (.tmp 94), 0, "", ⟨[]⟩, none⟩, some ((some 92), false), true⟩,
                  ⟨⟨(some 96), .load 3 (.tmp 95), 3, "", ⟨[]⟩, none⟩, some ((some 92), false), true⟩,
                  ⟨⟨(some 97), .move (.tmp 0), 23, "", ⟨[]⟩, none⟩, some ((some 92), false), true⟩,
                  ⟨⟨(some 98), .move (.tmp 12), 3, "", ⟨[]⟩, none⟩, some ((some 92), false), true⟩,
                  ⟨⟨(some 99), .indexAddr 23 (.tmp 97) (.tmp 98), 0, "", ⟨[]⟩, none⟩, some ((some 92), false), true⟩,
                  ⟨⟨(some 100), .fieldAddr 76 (.tmp 99) 1, 0, "", ⟨[]⟩, none⟩, some ((some 92), false), true⟩,
                  ⟨⟨(some 101), .load 3 (.tmp 100), 3, "", ⟨[]⟩, none⟩, some ((some 92), false), true⟩,
                  ⟨⟨(some 102), .binOp .lss 3 (.tmp 96) (.tmp 101) 3, 4, "", ⟨[]⟩, none⟩, some ((some 92), false), true⟩,
                  ⟨⟨(some 103), .move (.tmp 102), 4, "", ⟨[]⟩, none⟩, some ((some 92), false), true⟩,
                  ⟨⟨(some 104), .move (.tmp 8), 3, "", ⟨[]⟩, none⟩, some ((some 103), true), true⟩,
                  ⟨⟨(some 105), .binOp .gtr 3 (.tmp 104) (.const (.int .i64 0)) 3, 4, "", ⟨[]⟩, none⟩, some ((some 103), true), true⟩,
                  ⟨⟨(some 106), .pick (.tmp 103) (.tmp 105) (.const (.bool false)), 4, "", ⟨[]⟩, none⟩, some ((some 92), false), true⟩,
                  ⟨⟨(some 107), .pick (.tmp 92) (.const (.bool true)) (.tmp 106), 4, "", ⟨[]⟩, none⟩, none, true⟩,
                  ⟨⟨(some 108), .move (.tmp 107), 4, "", ⟨[]⟩, none⟩, none, true⟩,
                  ⟨⟨(some 109), .move (.tmp 10), 22, "", ⟨[]⟩, none⟩, some ((some 108), false), true⟩,
                  ⟨⟨(some 110), .move (.tmp 12), 3, "", ⟨[]⟩, none⟩, some ((some 108), false), true⟩,
                  ⟨⟨(some 111), .indexAddr 22 (.tmp 109) (.tmp 110), 0, "", ⟨[]⟩, none⟩, some ((some 108), false), true⟩,
                  ⟨⟨(some 112), .load 3 (.tmp 111), 3, "", ⟨[]⟩, none⟩, some ((some 108), false), true⟩,
                  ⟨⟨(some 113), .move (.tmp 7), 22, "", ⟨[]⟩, none⟩, some ((some 108), false), true⟩,
                  ⟨⟨(some 114), .move (.tmp 12), 3, "", ⟨[]⟩, none⟩, some ((some 108), false), true⟩,
                  ⟨⟨(some 115), .indexAddr 22 (.tmp 113) (.tmp 114), 0, "", ⟨[]⟩, none⟩, some ((some 108), false), true⟩,
                  ⟨⟨(some 116), .load 3 (.tmp 115), 3, "", ⟨[]⟩, none⟩, some ((some 108), false), true⟩,
                  ⟨⟨(some 117), .binOp .lss 3 (.tmp 112) (.tmp 116) 3, 4, "", ⟨[]⟩, none⟩, some ((some 108), false), true⟩,
                  ⟨⟨(some 118), .pick (.tmp 108) (.const (.bool true)) (.tmp 117), 4, "", ⟨[]⟩, none⟩, none, true⟩])
                (.cond (.tmp 118)
                 (.seq
                  (.ops false [
                    ⟨⟨(some 6), .assign (.const (.bool false)), 4, "", ⟨[]⟩, none⟩, none, false⟩])
                  .ret)
                 .skip))
               (.seq
                (.ops false [
                  ⟨⟨(some 13), .assign (.const (.int .i64 0)), 3, "", ⟨[]⟩, none⟩, none, false⟩])
                (.block 2
                 (.loop
                  (.seq
                   (.seq
                    (.ops false [
                      ⟨⟨(some 119), .move (.tmp 13), 3, "", ⟨[]⟩, none⟩, none, false⟩,
                      ⟨⟨(some 120), .move (.tmp 0), 23, "", ⟨[]⟩, none⟩, none, false⟩,
                      ⟨⟨(some 121), .call ⟨.builtin .len, ⟨[(.tmp 120)]⟩, ⟨[23]⟩⟩, 3, "", ⟨[]⟩, none⟩, none, false⟩,
                      ⟨⟨(some 122), .binOp .lss 3 (.tmp 119) (.tmp 121) 3, 4, "", ⟨[]⟩, none⟩, none, false⟩])
                    (.cond (.tmp 122)
                     .skip
                     (.exit 2)))
                   (.seq
                    (.block 3
                     (.seq
                      (.ops true [
                        ⟨⟨(some 125), .move (.tmp 0), 23, "", ⟨[]⟩, none⟩, none, true⟩,
                        ⟨⟨(some 126), .move (.tmp 13), 3, "", ⟨[]⟩, none⟩, none, true⟩,
                        ⟨⟨(some 127), .indexAddr 23 (.tmp 125) (.tmp 126), 0, "", ⟨[]⟩, none⟩, none, true⟩,
                        ⟨⟨(some 128), .fieldAddr 76 (.tmp 127) 0, 0, "", ⟨[]⟩, none⟩, none, true⟩,
                        ⟨⟨(some 129), .load 3 (.tmp 128), 3, "", ⟨[]⟩, none⟩, none, true⟩,
                        ⟨⟨(some 130), .move (.tmp 0), 23, "", ⟨[]⟩, none⟩, none, true⟩,
                        ⟨⟨(some 131), .move (.tmp 12), 3, "", ⟨[]⟩, none⟩, none, true⟩,
                        ⟨⟨(some 132), .indexAddr 23 (.tmp 130) (.tmp 131), 0, "", ⟨[]⟩, none⟩, none, true⟩,
                        ⟨⟨(some 133), .fieldAddr 76 (.tmp 132) 0, 0, "", ⟨[]⟩, none⟩, none, true⟩,
                        ⟨⟨(some 134), .load 3 (.tmp 133), 3, "", ⟨[]⟩, none⟩, none, true⟩,
                        ⟨⟨(some 135), .binOp .gtr 3 (.tmp 129) (.tmp 134) 3, 4, "", ⟨[]⟩, none⟩, none, true⟩,
                        ⟨⟨(some 136), .move (.tmp 135), 4, "", ⟨[]⟩, none⟩, none, true⟩,
                        ⟨⟨(some 137), .move (.tmp 7), 22, "", ⟨[]⟩, none⟩, some ((some 136), true), true⟩,
                        ⟨⟨(some 138), .move (.tmp 12), 3, "", ⟨[]⟩, none⟩, some ((some 136), true), true⟩,
                        ⟨⟨(some 139), .indexAddr 22 (.tmp 137) (.tmp 138), 0, "", ⟨[]⟩, none⟩, some ((some 136), true), true⟩,
                        ⟨⟨(some 140), .load 3 (.tmp 139), 3, "", ⟨[]⟩, none⟩, some ((some 136), true), true⟩,
                        ⟨⟨(some 141), .move (.tmp 0), 23, "", ⟨[]⟩, none⟩, some ((some 136), true), true⟩,
                        ⟨⟨(some 142), .move (.tmp 12), 3, "", ⟨[]⟩, none⟩, some ((some 136), true), true⟩,
                        ⟨⟨(some 143), .indexAddr 23 (.tmp 141) (.tmp 142), 0, "", ⟨[]⟩, none⟩, some ((some 136), true), true⟩,
                        ⟨⟨(some 144), .fieldAddr 76 (.tmp 143) 1, 0, "", ⟨[]⟩, none⟩, some ((some 136), true), true⟩,
                        ⟨⟨(some 145), .load 3 (.tmp 144), 3, "", ⟨[]⟩, none⟩, some ((some 136), true), true⟩,
                        ⟨⟨(some 146), .binOp .lss 3 (.tmp 140) (.tmp 145) 3, 4, "", ⟨[]⟩, none⟩, some ((some 136), true), true⟩,
                        ⟨⟨(some 147), .pick (.tmp 136) (.tmp 146) (.const (.bool false)), 4, "", ⟨[]⟩, none⟩, none, true⟩,
                        ⟨⟨(some 148), .move (.tmp 147), 4, "", ⟨[]⟩, none⟩, none, true⟩,
                        ⟨⟨(some 149), .move (.tmp 7), 22, "", ⟨[]⟩, none⟩, some ((some 148), true), true⟩,
                        ⟨⟨(some 150), .move (.tmp 13), 3, "", ⟨[]⟩, none⟩, some ((some 148), true), true⟩,
                        ⟨⟨(some 151), .indexAddr 22 (.tmp 149) (.tmp 150), 0, "", ⟨[]⟩, none⟩, some ((some 148), true), true⟩,
                        ⟨⟨(some 152), .load 3 (.tmp 151), 3, "", ⟨[]⟩, none⟩, some ((some 148), true), true⟩,
                        ⟨⟨(some 153), .binOp .gtr 3 (.tmp 152) (.const (.int .i64 0)) 3, 4, "", ⟨[]⟩, none⟩, some ((some 148), true), true⟩,
                        ⟨⟨(some 154), .pick (.tmp 148) (.tmp 153) (.const (.bool false)), 4, "", ⟨[]⟩, none⟩, none, true⟩])
                      (.cond (.tmp 154)
                       (.seq
                        (.ops false [
                          ⟨⟨(some 6), .assign (.const (.bool false)), 4, "", ⟨[]⟩, none⟩, none, false⟩])
                        .ret)
                       .skip)))
                    (.ops false [
                      ⟨⟨(some 123), .move (.tmp 13), 3, "", ⟨[]⟩, none⟩, none, false⟩,
                      ⟨⟨(some 124), .binOp .add 3 (.tmp 123) (.const (.int .i64 1)) 3, 3, "", ⟨[]⟩, none⟩, none, false⟩,
                      ⟨⟨(some 13), .assign (.tmp 124), 3, "", ⟨[]⟩, none⟩, none, false⟩]))))))))
             (.ops false [
               ⟨⟨(some 79), .move (.tmp 12), 3, "", ⟨[]⟩, none⟩, none, false⟩,
               ⟨⟨(some 80), .binOp .add 3 (.tmp 79) (.const (.int .i64 1)) 3, 3, "", ⟨[]⟩, none⟩, none, false⟩,
               ⟨⟨(some 12), .assign (.tmp 80), 3, "", ⟨[]⟩, none⟩, none, false⟩]))))))
        (.seq
         (.ops false [
           ⟨⟨(some 155), .call ⟨.value (.func 19), ⟨[]⟩, ⟨[]⟩⟩, 4, "", ⟨[]⟩, none⟩, none, false⟩,
           ⟨⟨(some 6), .assign (.tmp 155), 4, "", ⟨[]⟩, none⟩, none, false⟩])
         .ret))))))))
theorem Try.s3_eq : Try.f3.body.map sOf = some Try.s3 := by kernel_rfl
theorem Try.s6_eq : Try.f6.body.map sOf = some Try.s6 := by kernel_rfl
theorem Try.s7_eq : Try.f7.body.map sOf = some Try.s7 := by kernel_rfl
theorem Try.s8_eq : Try.f8.body.map sOf = some Try.s8 := by kernel_rfl
theorem Try.s9_eq : Try.f9.body.map sOf = some Try.s9 := by kernel_rfl
end Go.Proofs
