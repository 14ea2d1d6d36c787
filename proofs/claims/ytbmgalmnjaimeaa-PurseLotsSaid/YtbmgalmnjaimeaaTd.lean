/- The stripped code of the functions of lots. -/
import Derived.Test.YtbmgalmnjaimeaaTa
import Derived.Test.YtbmgalmnjaimeaaNa
set_option linter.unusedVariables false
set_option linter.unusedSimpArgs false
/- Functions' code, as the machine reads it. -/
namespace Go.Proofs
open Go Go.RowKit Go.Sim
set_option maxRecDepth 100000
def Try.s4 : SC :=
 (.seq
  (.ops false [
    ⟨⟨(some 4), .assign (.const (.bool false)), 4, "", ⟨[]⟩, none⟩, none, false⟩])
  (.seq
   (.ops false [
     ⟨⟨(some 10), .move (.tmp 0), 3, "", ⟨[]⟩, none⟩, none, false⟩,
     ⟨⟨(some 11), .move (.tmp 1), 32, "", ⟨[]⟩, none⟩, none, false⟩,
     ⟨⟨(some 12), .call ⟨.value (.func 20), ⟨[(.tmp 10), (.tmp 11)]⟩, ⟨[3, 32]⟩⟩, 34, "", ⟨[]⟩, none⟩, none, false⟩,
     ⟨⟨(some 9), .move (.tmp 12), 34, "", ⟨[]⟩, none⟩, none, false⟩,
     ⟨⟨(some 13), .extract (.tmp 9) 0, 33, "", ⟨[]⟩, none⟩, none, false⟩,
     ⟨⟨(some 14), .extract (.tmp 9) 1, 24, "", ⟨[]⟩, none⟩, none, false⟩,
     ⟨⟨(some 5), .assign (.tmp 13), 33, "", ⟨[]⟩, none⟩, none, false⟩,
     ⟨⟨(some 6), .assign (.tmp 14), 24, "", ⟨[]⟩, none⟩, none, false⟩])
   (.seq
    (.ops false [
      ⟨⟨(some 16), .move (.tmp 0), 3, "", ⟨[]⟩, none⟩, none, false⟩,
      ⟨⟨(some 17), .move (.tmp 1), 32, "", ⟨[]⟩, none⟩, none, false⟩,
      ⟨⟨(some 18), .call ⟨.value (.func 21), ⟨[(.tmp 16), (.tmp 17)]⟩, ⟨[3, 32]⟩⟩, 34, "", ⟨[]⟩, none⟩, none, false⟩,
      ⟨⟨(some 15), .move (.tmp 18), 34, "", ⟨[]⟩, none⟩, none, false⟩,
      ⟨⟨(some 19), .extract (.tmp 15) 0, 33, "", ⟨[]⟩, none⟩, none, false⟩,
      ⟨⟨(some 20), .extract (.tmp 15) 1, 24, "", ⟨[]⟩, none⟩, none, false⟩,
      ⟨⟨(some 7), .assign (.tmp 19), 33, "", ⟨[]⟩, none⟩, none, false⟩,
      ⟨⟨(some 8), .assign (.tmp 20), 24, "", ⟨[]⟩, none⟩, none, false⟩])
    (.seq
     (.ops false [
       ⟨⟨(some 21), .move (.tmp 5), 33, "", ⟨[]⟩, none⟩, none, false⟩,
       ⟨⟨(some 22), .move (.tmp 7), 33, "", ⟨[]⟩, none⟩, none, false⟩,
       ⟨⟨(some 23), .call ⟨.value (.func 22), ⟨[(.tmp 21), (.tmp 22)]⟩, ⟨[33, 33]⟩⟩, 4, "", ⟨[]⟩, none⟩, none, false⟩,
       ⟨⟨(some 24), .move (.tmp 23), 4, "", ⟨[]⟩, none⟩, none, false⟩,
       ⟨⟨(some 25), .move (.tmp 6), 24, "", ⟨[]⟩, none⟩, some ((some 24), true), false⟩,
       ⟨⟨(some 26), .move (.tmp 8), 24, "", ⟨[]⟩, none⟩, some ((some 24), true), false⟩,
       ⟨⟨(some 27), .binOp .eql 24 (.tmp 25) (.tmp 26) 24, 4, "", ⟨[]⟩, none⟩, some ((some 24), true), false⟩,
       ⟨⟨(some 28), .pick (.tmp 24) (.tmp 27) (.const (.bool false)), 4, "", ⟨[]⟩, none⟩, none, false⟩,
       ⟨⟨(some 29), .move (.tmp 28), 4, "", ⟨[]⟩, none⟩, none, false⟩,
       ⟨⟨(some 30), .call ⟨.value (.func 19), ⟨[]⟩, ⟨[]⟩⟩, 4, "", ⟨[]⟩, none⟩, some ((some 29), true), false⟩,
       ⟨⟨(some 31), .pick (.tmp 29) (.tmp 30) (.const (.bool false)), 4, "", ⟨[]⟩, none⟩, none, false⟩,
       ⟨⟨(some 4), .assign (.tmp 31), 4, "", ⟨[]⟩, none⟩, none, false⟩])
     .ret))))
def Try.s10 : SC :=
 (.seq
  (.ops false [
    ⟨⟨(some 4), .assign (.const (.bool false)), 4, "", ⟨[]⟩, none⟩, none, false⟩])
  (.seq
   (.ops false [
     ⟨⟨(some 13), .move (.tmp 0), 3, "", ⟨[]⟩, none⟩, none, false⟩,
     ⟨⟨(some 14), .move (.tmp 1), 32, "", ⟨[]⟩, none⟩, none, false⟩,
     ⟨⟨(some 15), .call ⟨.value (.func 20), ⟨[(.tmp 13), (.tmp 14)]⟩, ⟨[3, 32]⟩⟩, 34, "", ⟨[]⟩, none⟩, none, false⟩,
     ⟨⟨(some 12), .move (.tmp 15), 34, "", ⟨[]⟩, none⟩, none, false⟩,
     ⟨⟨(some 16), .extract (.tmp 12) 0, 33, "", ⟨[]⟩, none⟩, none, false⟩,
     ⟨⟨(some 17), .extract (.tmp 12) 1, 24, "", ⟨[]⟩, none⟩, none, false⟩,
     ⟨⟨(some 5), .assign (.tmp 16), 33, "", ⟨[]⟩, none⟩, none, false⟩,
     ⟨⟨(some 6), .assign (.tmp 17), 24, "", ⟨[]⟩, none⟩, none, false⟩])
   (.seq
    (.seq
     (.ops false [
       ⟨⟨(some 18), .move (.tmp 6), 24, "", ⟨[]⟩, none⟩, none, false⟩,
       ⟨⟨(some 19), .binOp .neq 24 (.tmp 18) (.const (.int .i64 0)) 24, 4, "", ⟨[]⟩, none⟩, none, false⟩])
     (.cond (.tmp 19)
      (.seq
       (.ops false [
         ⟨⟨(some 20), .move (.tmp 5), 33, "", ⟨[]⟩, none⟩, none, false⟩,
         ⟨⟨(some 21), .call ⟨.builtin .len, ⟨[(.tmp 20)]⟩, ⟨[33]⟩⟩, 3, "", ⟨[]⟩, none⟩, none, false⟩,
         ⟨⟨(some 22), .binOp .eql 3 (.tmp 21) (.const (.int .i64 0)) 3, 4, "", ⟨[]⟩, none⟩, none, false⟩,
         ⟨⟨(some 23), .move (.tmp 22), 4, "", ⟨[]⟩, none⟩, none, false⟩,
         ⟨⟨(some 24), .call ⟨.value (.func 19), ⟨[]⟩, ⟨[]⟩⟩, 4, "", ⟨[]⟩, none⟩, some ((some 23), true), false⟩,
         ⟨⟨(some 25), .pick (.tmp 23) (.tmp 24) (.const (.bool false)), 4, "", ⟨[]⟩, none⟩, none, false⟩,
         ⟨⟨(some 4), .assign (.tmp 25), 4, "", ⟨[]⟩, none⟩, none, false⟩])
       .ret)
      .skip))
    (.seq
     (.ops false [
       ⟨⟨(some 7), .assign (.const (.int .i64 0)), 3, "", ⟨[]⟩, none⟩, none, false⟩])
     (.seq
      (.seq
       (.ops false [
         ⟨⟨(some 26), .move (.tmp 5), 33, "", ⟨[]⟩, none⟩, none, false⟩,
         ⟨⟨(some 27), .call ⟨.builtin .len, ⟨[(.tmp 26)]⟩, ⟨[33]⟩⟩, 3, "", ⟨[]⟩, none⟩, none, false⟩,
         ⟨⟨(some 28), .move (.tmp 1), 32, "", ⟨[]⟩, none⟩, none, false⟩,
         ⟨⟨(some 29), .call ⟨.builtin .len, ⟨[(.tmp 28)]⟩, ⟨[32]⟩⟩, 3, "", ⟨[]⟩, none⟩, none, false⟩,
         ⟨⟨(some 30), .binOp .neq 3 (.tmp 27) (.tmp 29) 3, 4, "", ⟨[]⟩, none⟩, none, false⟩])
       (.cond (.tmp 30)
        (.seq
         (.ops false [
           ⟨⟨(some 4), .assign (.const (.bool false)), 4, "", ⟨[]⟩, none⟩, none, false⟩])
         .ret)
        .skip))
      (.seq
       (.seq
        (.ops false [
          ⟨⟨(some 8), .assign (.const (.int .i64 0)), 3, "", ⟨[]⟩, none⟩, none, false⟩])
        (.block 0
         (.loop
          (.seq
           (.seq
            (.ops false [
              ⟨⟨(some 31), .move (.tmp 8), 3, "", ⟨[]⟩, none⟩, none, false⟩,
              ⟨⟨(some 32), .move (.tmp 5), 33, "", ⟨[]⟩, none⟩, none, false⟩,
              ⟨⟨(some 33), .call ⟨.builtin .len, ⟨[(.tmp 32)]⟩, ⟨[33]⟩⟩, 3, "", ⟨[]⟩, none⟩, none, false⟩,
              ⟨⟨(some 34), .binOp .lss 3 (.tmp 31) (.tmp 33) 3, 4, "", ⟨[]⟩, none⟩, none, false⟩])
            (.cond (.tmp 34)
             .skip
             (.exit 0)))
           (.seq
            (.block 1
             (.seq
              (.ops true [
                ⟨⟨(some 38), .move (.tmp 1), 32, "", ⟨[]⟩, none⟩, none, true⟩,
                ⟨⟨(some 39), .move (.tmp 8), 3, "", ⟨[]⟩, none⟩, none, true⟩,
                ⟨⟨(some 40), .indexAddr 32 (.tmp 38) (.tmp 39), 0, "", ⟨[]⟩, none⟩, none, true⟩,
                ⟨⟨(some 41), .fieldAddr 79 (.tmp 40) 2, 0, "", ⟨[]⟩, none⟩, none, true⟩,
                ⟨⟨(some 42), .load 23 (.tmp 41), 23, "", ⟨[]⟩, none⟩, none, true⟩,
                ⟨⟨(some 43), .move (.tmp 5), 33, "", ⟨[]⟩, none⟩, none, true⟩,
                ⟨⟨(some 44), .move (.tmp 8), 3, "", ⟨[]⟩, none⟩, none, true⟩,
                ⟨⟨(some 45), .indexAddr 33 (.tmp 43) (.tmp 44), 0, "", ⟨[]⟩, none⟩, none, true⟩,
                ⟨⟨(some 46), .fieldAddr 81 (.tmp 45) 0, 0, "", ⟨[]⟩, none⟩, none, true⟩,
                ⟨⟨(some 47), .load 3 (.tmp 46), 3, "", ⟨[]⟩, none⟩, none, true⟩,
                ⟨⟨(some 48), .call ⟨.value (.func 17), ⟨[(.tmp 42), (.tmp 47)]⟩, ⟨[23, 3]⟩⟩, 28, "", ⟨[]⟩, none⟩, none, false⟩,
                ⟨⟨(some 37), .move (.tmp 48), 28, "", ⟨[]⟩, none⟩, none, true⟩,
                ⟨⟨(some 49), .extract (.tmp 37) 0, 22, "", ⟨[]⟩, none⟩, none, true⟩,
                ⟨⟨(some 50), .extract (.tmp 37) 1, 3, "", ⟨[]⟩, none⟩, none, true⟩,
                ⟨⟨(some 51), .extract (.tmp 37) 2, 24, "", ⟨[]⟩, none⟩, none, true⟩,
                ⟨⟨(some 9), .assign (.tmp 49), 22, "", ⟨[]⟩, none⟩, none, true⟩,
                ⟨⟨(some 10), .assign (.tmp 50), 3, "", ⟨[]⟩, none⟩, none, true⟩,
                ⟨⟨(some 11), .assign (.tmp 51), 24, "", ⟨[]⟩, none⟩, none, true⟩])
              (.seq
               (.seq
                (.ops true [
                  ⟨⟨(some 52), .move (.tmp 11), 24, "", ⟨[]⟩, none⟩, none, true⟩,
                  ⟨⟨(some 53), .binOp .neq 24 (.tmp 52) (.const (.int .i64 0)) 24, 4, "", ⟨[]⟩, none⟩, none, true⟩,
                  ⟨⟨(some 54), .move (.tmp 53), 4, "", ⟨[]⟩, none⟩, none, true⟩,
                  ⟨⟨(some 55), .move (.tmp 9), 22, "", ⟨[]⟩, none⟩, some ((some 54), false), true⟩,
                  ⟨⟨(some 56), .move (.tmp 5), 33, "", ⟨[]⟩, none⟩, some ((some 54), false), true⟩,
                  ⟨⟨(some 57), .move (.tmp 8), 3, "", ⟨[]⟩, none⟩, some ((some 54), false), true⟩,
                  ⟨⟨(some 58), .indexAddr 33 (.tmp 56) (.tmp 57), 0, "", ⟨[]⟩, none⟩, some ((some 54), false), true⟩,
                  ⟨⟨(some 59), .fieldAddr 81 (.tmp 58) 1, 0, "", ⟨[]⟩, none⟩, some ((some 54), false), true⟩,
                  ⟨⟨(some 60), .load 22 (.tmp 59), 22, "", ⟨[]⟩, none⟩, some ((some 54), false), true⟩,
                  ⟨⟨(some 61), .call ⟨.value (.func 16), ⟨[(.tmp 55), (.tmp 60)]⟩, ⟨[22, 22]⟩⟩, 4, "", ⟨[]⟩, none⟩, some ((some 54), false), false⟩,
                  ⟨⟨(some 62), .unOp .not 4 (.tmp 61), 4, "", ⟨[]⟩, none⟩, some ((some 54), false), true⟩,
                  ⟨⟨(some 63), .pick (.tmp 54) (.const (.bool true)) (.tmp 62), 4, "", ⟨[]⟩, none⟩, none, true⟩,
                  ⟨⟨(some 64), .move (.tmp 63), 4, "", ⟨[]⟩, none⟩, none, true⟩,
                  ⟨⟨(some 65), .move (.tmp 10), 3, "", ⟨[]⟩, none⟩, some ((some 64), false), true⟩,
                  ⟨⟨(some 66), .move (.tmp 5), 33, "", ⟨[]⟩, none⟩, some ((some 64), false), true⟩,
                  ⟨⟨(some 67), .move (.tmp 8), 3, "", ⟨[]⟩, none⟩, some ((some 64), false), true⟩,
                  ⟨⟨(some 68), .indexAddr 33 (.tmp 66) (.tmp 67), 0, "", ⟨[]⟩, none⟩, some ((some 64), false), true⟩,
                  ⟨⟨(some 69), .fieldAddr 81 (.tmp 68) 2, 0, "", ⟨[]⟩, none⟩, some ((some 64), false), true⟩,
                  ⟨⟨(some 70), .load 3 (.tmp 69), 3, "", ⟨[]⟩, none⟩, some ((some 64), false), true⟩,
                  ⟨⟨(some 71), .binOp .neq 3 (.tmp 65) (.tmp 70) 3, 4, "", ⟨[]⟩, none⟩, some ((some 64), false), true⟩,
                  ⟨⟨(some 72), .pick (.tmp 64) (.const (.bool true)) (.tmp 71), 4, "", ⟨[]⟩, none⟩, none, true⟩,
                  ⟨⟨(some 73), .move (.tmp 72), 4, "", ⟨[]⟩, none⟩, none, true⟩,
                  ⟨⟨(some 74), .move (.tmp 5), 33, "", ⟨[]⟩, none⟩, some ((some 73), false), true⟩,
                  ⟨⟨(some 75), .move (.tmp 8), 3, "", ⟨[]⟩, none⟩, some ((some 73), false), true⟩,
                  ⟨⟨(some 76), .indexAddr 33 (.tmp 74) (.tmp 75), 0, "", ⟨[]⟩, none⟩, some ((some 73), false), true⟩,
                  ⟨⟨(some 77), .fieldAddr 81 (.tmp 76) 1, 0, "", ⟨[]⟩, none⟩, some ((some 73), false), true⟩,
                  ⟨⟨(some 78), .load 22 (.tmp 77), 22, "", ⟨[]⟩, none⟩, some ((some 73), false), true⟩,
                  ⟨⟨(some 80), .move (.tmp 5), 33, "", ⟨[]⟩, none⟩, some ((some 73), false), true⟩,
                  ⟨⟨(some 81), .move (.tmp 8), 3, "", ⟨[]⟩, none⟩, some ((some 73), false), true⟩,
                  ⟨⟨(some 82), .indexAddr 33 (.tmp 80) (.tmp 81), 0, "", ⟨[]⟩, none⟩, some ((some 73), false), true⟩,
                  ⟨⟨(some 83), .fieldAddr 81 (.tmp 82) 2, 0, "", ⟨[]⟩, none⟩, some ((some 73), false), true⟩,
                  ⟨⟨(some 84), .load 3 (.tmp 83), 3, "", ⟨[]⟩, none⟩, some ((some 73), false), true⟩,
                  ⟨⟨(some 86), .move (.tmp 5), 33, "", ⟨[]⟩, none⟩, some ((some 73), false), true⟩,
                  ⟨⟨(some 87), .move (.tmp 8), 3, "", ⟨[]⟩, none⟩, some ((some 73), false), true⟩,
                  ⟨⟨(some 88), .indexAddr 33 (.tmp 86) (.tmp 87), 0, "", ⟨[]⟩, none⟩, some ((some 73), false), true⟩,
                  ⟨⟨(some 89), .fieldAddr 81 (.tmp 88) 0, 0, "", ⟨[]⟩, none⟩, some ((some 73), false), true⟩,
                  ⟨⟨(some 90), .load 3 (.tmp 89), 3, "", ⟨[]⟩, none⟩, some ((some 73), false), true⟩,
                  ⟨⟨(some 79), .call ⟨.value (.func 35), ⟨[(.tmp 78)]⟩, ⟨[22]⟩⟩, 3, "", ⟨[]⟩, none⟩, some ((some 73), false), true⟩,
                  ⟨⟨(some 85), .binOp .add 3 (.tmp 79) (.tmp 84) 3, 3, "", ⟨[]⟩, none⟩, some ((some 73), false), true⟩,
                  ⟨⟨(some 91), .binOp .neq 3 (.tmp 85) (.tmp 90) 3, 4, "", ⟨[]⟩, none⟩, some ((some 73), false), true⟩,
                  ⟨⟨(some 92), .pick (.tmp 73) (.const (.bool true)) (.tmp 91), 4, "", ⟨[]⟩, none⟩, none, true⟩])
                (.cond (.tmp 92)
                 (.seq
                  (.ops false [
                    ⟨⟨(some 4), .assign (.const (.bool false)), 4, "", ⟨[]⟩, none⟩, none, false⟩])
                  .ret)
                 .skip))
               (.ops false [
                 ⟨⟨(some 93), .move (.tmp 7), 3, "", ⟨[]⟩, none⟩, none, false⟩,
                 ⟨⟨(some 94), .move (.tmp 5), 33, "", ⟨[]⟩, none⟩, none, false⟩,
                 ⟨⟨(some 95), .move (.tmp 8), 3, "", ⟨[]⟩, none⟩, none, false⟩,
                 ⟨⟨(some 96), .indexAddr 33 (.tmp 94) (.tmp 95), 0, "", ⟨[]⟩, none⟩, none, false⟩,
                 ⟨⟨(some 97), .fieldAddr 81 (.tmp 96) 0, 0, "", ⟨[]⟩, none⟩, none, false⟩,
                 ⟨⟨(some 98), .load 3 (.tmp 97), 3, "", ⟨[]⟩, none⟩, none, false⟩,
                 ⟨⟨(some 99), .binOp .add 3 (.tmp 93) (.tmp 98) 3, 3, "", ⟨[]⟩, none⟩, none, false⟩,
                 ⟨⟨(some 7), .assign (.tmp 99), 3, "", ⟨[]⟩, none⟩, none, false⟩]))))
            (.ops false [
              ⟨⟨(some 35), .move (.tmp 8), 3, "", ⟨[]⟩, none⟩, none, false⟩,
              ⟨⟨(some 36), .binOp .add 3 (.tmp 35) (.const (.int .i64 1)) 3, 3, "", ⟨[]⟩, none⟩, none, false⟩,
              ⟨⟨(some 8), .assign (.tmp 36), 3, "", ⟨[]⟩, none⟩, none, false⟩]))))))
       (.seq
        (.ops false [
          ⟨⟨(some 100), .move (.tmp 7), 3, "", ⟨[]⟩, none⟩, none, false⟩,
          ⟨⟨(some 101), .move (.tmp 0), 3, "", ⟨[]⟩, none⟩, none, false⟩,
          ⟨⟨(some 102), .binOp .eql 3 (.tmp 100) (.tmp 101) 3, 4, "", ⟨[]⟩, none⟩, none, false⟩,
          ⟨⟨(some 103), .move (.tmp 102), 4, "", ⟨[]⟩, none⟩, none, false⟩,
          ⟨⟨(some 104), .call ⟨.value (.func 19), ⟨[]⟩, ⟨[]⟩⟩, 4, "", ⟨[]⟩, none⟩, some ((some 103), true), false⟩,
          ⟨⟨(some 105), .pick (.tmp 103) (.tmp 104) (.const (.bool false)), 4, "", ⟨[]⟩, none⟩, none, false⟩,
          ⟨⟨(some 4), .assign (.tmp 105), 4, "", ⟨[]⟩, none⟩, none, false⟩])
        .ret)))))))
def Try.s20 : SC :=
 (.seq
  (.ops false [
    ⟨⟨(some 4), .assign (.const (.slice none 0 0)), 33, "", ⟨[]⟩, none⟩, none, false⟩,
    ⟨⟨(some 5), .assign (.const (.int .i64 0)), 24, "", ⟨[]⟩, none⟩, none, false⟩])
  (.seq
   (.block 0
    (.seq
     (.ops false [
       ⟨⟨(some 10), .move (.tmp 0), 3, "", ⟨[]⟩, none⟩, none, false⟩,
       ⟨⟨(some 11), .call ⟨.value (.func 56), ⟨[(.tmp 10)]⟩, ⟨[3]⟩⟩, 4, "", ⟨[]⟩, none⟩, none, false⟩,
       ⟨⟨(some 12), .unOp .not 4 (.tmp 11), 4, "", ⟨[]⟩, none⟩, none, false⟩,
       ⟨⟨(some 9), .assign (.tmp 12), 4, "", ⟨[]⟩, none⟩, none, false⟩])
     (.cond (.tmp 9)
      (.seq
       (.ops false [
         ⟨⟨(some 4), .assign (.const (.slice none 0 0)), 33, "", ⟨[]⟩, none⟩, none, false⟩,
         ⟨⟨(some 5), .assign (.const (.int .i64 7)), 24, "", ⟨[]⟩, none⟩, none, false⟩])
       .ret)
      (.seq
       (.ops false [
         ⟨⟨(some 14), .move (.tmp 1), 32, "", ⟨[]⟩, none⟩, none, false⟩,
         ⟨⟨(some 15), .call ⟨.value (.func 57), ⟨[(.tmp 14)]⟩, ⟨[32]⟩⟩, 4, "", ⟨[]⟩, none⟩, none, false⟩,
         ⟨⟨(some 16), .unOp .not 4 (.tmp 15), 4, "", ⟨[]⟩, none⟩, none, false⟩,
         ⟨⟨(some 13), .assign (.tmp 16), 4, "", ⟨[]⟩, none⟩, none, false⟩])
       (.cond (.tmp 13)
        (.seq
         (.ops false [
           ⟨⟨(some 4), .assign (.const (.slice none 0 0)), 33, "", ⟨[]⟩, none⟩, none, false⟩,
           ⟨⟨(some 5), .assign (.const (.int .i64 72)), 24, "", ⟨[]⟩, none⟩, none, false⟩])
         .ret)
        (.seq
         (.ops false [
           ⟨⟨(some 18), .move (.tmp 1), 32, "", ⟨[]⟩, none⟩, none, false⟩,
           ⟨⟨(some 19), .call ⟨.value (.func 58), ⟨[(.tmp 18), (.func 59)]⟩, ⟨[32, 108]⟩⟩, 4, "", ⟨[]⟩, none⟩, none, false⟩,
           ⟨⟨(some 20), .unOp .not 4 (.tmp 19), 4, "", ⟨[]⟩, none⟩, none, false⟩,
           ⟨⟨(some 17), .assign (.tmp 20), 4, "", ⟨[]⟩, none⟩, none, false⟩])
         (.cond (.tmp 17)
          (.seq
           (.ops false [
             ⟨⟨(some 4), .assign (.const (.slice none 0 0)), 33, "", ⟨[]⟩, none⟩, none, false⟩,
             ⟨⟨(some 5), .assign (.const (.int .i64 71)), 24, "", ⟨[]⟩, none⟩, none, false⟩])
           .ret)
          .skip)))))))
   (.seq
    (.ops false [
      ⟨⟨(some 6), .assign (.const (.slice none 0 0)), 33, "", ⟨[]⟩, none⟩, none, false⟩])
    (.seq
     (.seq
      (.ops false [
        ⟨⟨(some 21), .move (.tmp 1), 32, "", ⟨[]⟩, none⟩, none, false⟩,
        ⟨⟨(some 22), .call ⟨.value (.func 60), ⟨[(.tmp 21), (.func 61)]⟩, ⟨[32, 110]⟩⟩, 22, "", ⟨[]⟩, none⟩, none, false⟩,
        ⟨⟨(some 23), .move (.tmp 0), 3, "", ⟨[]⟩, none⟩, none, false⟩,
        ⟨⟨(some 24), .call ⟨.value (.func 49), ⟨[(.tmp 22), (.tmp 23)]⟩, ⟨[22, 3]⟩⟩, 22, "", ⟨[]⟩, none⟩, none, false⟩,
        ⟨⟨(some 25), .call ⟨.builtin .len, ⟨[(.tmp 24)]⟩, ⟨[22]⟩⟩, 3, "", ⟨[]⟩, none⟩, none, false⟩,
        ⟨⟨(some 26), .move (.const (.int .i64 0)), 3, "", ⟨[]⟩, none⟩, none, false⟩])
      (.block 1
       (.loop
        (.seq
         (.ops false [
           ⟨⟨(some 27), .binOp .lss 3 (.tmp 26) (.tmp 25) 3, 0, "", ⟨[]⟩, none⟩, none, false⟩])
         (.seq
          (.cond (.tmp 27)
           .skip
           (.exit 1))
          (.seq
           (.block 2
            (.seq
             (.ops false [
               ⟨⟨(some 28), .move (.tmp 26), 3, "", ⟨[]⟩, none⟩, none, false⟩,
               ⟨⟨(some 29), .indexAddr 22 (.tmp 24) (.tmp 26), 0, "", ⟨[]⟩, none⟩, none, false⟩,
               ⟨⟨(some 30), .load 3 (.tmp 29), 3, "", ⟨[]⟩, none⟩, none, false⟩,
               ⟨⟨(some 7), .assign (.tmp 28), 3, "", ⟨[]⟩, none⟩, none, false⟩,
               ⟨⟨(some 8), .assign (.tmp 30), 3, "", ⟨[]⟩, none⟩, none, false⟩])
             (.ops false [
               ⟨⟨(some 31), .move (.tmp 6), 33, "", ⟨[]⟩, none⟩, none, false⟩,
               ⟨⟨(some 32), .move (.tmp 1), 32, "", ⟨[]⟩, none⟩, none, false⟩,
               ⟨⟨(some 33), .move (.tmp 7), 3, "", ⟨[]⟩, none⟩, none, false⟩,
               ⟨⟨(some 34), .indexAddr 32 (.tmp 32) (.tmp 33), 0, "", ⟨[]⟩, none⟩, none, false⟩,
               ⟨⟨(some 35), .load 79 (.tmp 34), 79, "", ⟨[]⟩, none⟩, none, false⟩,
               ⟨⟨(some 36), .move (.tmp 8), 3, "", ⟨[]⟩, none⟩, none, false⟩,
               ⟨⟨(some 37), .call ⟨.value (.func 62), ⟨[(.tmp 35), (.tmp 36)]⟩, ⟨[79, 3]⟩⟩, 81, "", ⟨[]⟩, none⟩, none, false⟩,
               ⟨⟨(some 38), .buildSlice 33 1 ⟨[(0, (.tmp 37))]⟩, 33, "", ⟨[]⟩, none⟩, none, false⟩,
               ⟨⟨(some 39), .call ⟨.builtin .append, ⟨[(.tmp 31), (.tmp 38)]⟩, ⟨[33, 33]⟩⟩, 33, "", ⟨[]⟩, none⟩, none, false⟩,
               ⟨⟨(some 6), .assign (.tmp 39), 33, "", ⟨[]⟩, none⟩, none, false⟩])))
           (.ops false [
             ⟨⟨(some 40), .binOp .add 3 (.tmp 26) (.const (.int .i64 1)) 3, 3, "", ⟨[]⟩, none⟩, none, false⟩,
             ⟨⟨(some 26), .move (.tmp 40), 3, "", ⟨[]⟩, none⟩, none, false⟩])))))))
     (.seq
      (.ops false [
        ⟨⟨(some 41), .move (.tmp 6), 33, "", ⟨[]⟩, none⟩, none, false⟩,
        ⟨⟨(some 4), .assign (.tmp 41), 33, "", ⟨[]⟩, none⟩, none, false⟩,
        ⟨⟨(some 5), .assign (.const (.int .i64 0)), 24, "", ⟨[]⟩, none⟩, none, false⟩])
      .ret)))))
def Try.s21 : SC :=
 (.seq
  (.ops false [
    ⟨⟨(some 4), .assign (.const (.slice none 0 0)), 33, "", ⟨[]⟩, none⟩, none, false⟩,
    ⟨⟨(some 5), .assign (.const (.int .i64 0)), 24, "", ⟨[]⟩, none⟩, none, false⟩])
  (.seq
   (.seq
    (.ops false [
      ⟨⟨(some 16), .move (.tmp 0), 3, "", ⟨[]⟩, none⟩, none, false⟩,
      ⟨⟨(some 17), .call ⟨.value (.func 36), ⟨[(.const (.int .i64 0)), (.tmp 16), (.const (.int .i64 67108864))]⟩, ⟨[3, 3, 3]⟩⟩, 4, "", ⟨[]⟩, none⟩, none, false⟩,
      ⟨⟨(some 18), .unOp .not 4 (.tmp 17), 4, "", ⟨[]⟩, none⟩, none, false⟩])
    (.cond (.tmp 18)
     (.seq
      (.ops false [
        ⟨⟨(some 4), .assign (.const (.slice none 0 0)), 33, "", ⟨[]⟩, none⟩, none, false⟩,
        ⟨⟨(some 5), .assign (.const (.int .i64 7)), 24, "", ⟨[]⟩, none⟩, none, false⟩])
      .ret)
     .skip))
   (.seq
    (.ops false [
      ⟨⟨(some 6), .assign (.const (.slice none 0 0)), 112, "", ⟨[]⟩, none⟩, none, false⟩])
    (.seq
     (.ops false [
       ⟨⟨(some 7), .assign (.const (.slice none 0 0)), 22, "", ⟨[]⟩, none⟩, none, false⟩])
     (.seq
      (.ops false [
        ⟨⟨(some 19), .move (.tmp 1), 32, "", ⟨[]⟩, none⟩, none, false⟩,
        ⟨⟨(some 20), .call ⟨.builtin .len, ⟨[(.tmp 19)]⟩, ⟨[32]⟩⟩, 3, "", ⟨[]⟩, none⟩, none, false⟩,
        ⟨⟨(some 21), .call ⟨.value (.func 36), ⟨[(.const (.int .i64 1)), (.tmp 20), (.const (.int .i64 8))]⟩, ⟨[3, 3, 3]⟩⟩, 4, "", ⟨[]⟩, none⟩, none, false⟩,
        ⟨⟨(some 8), .assign (.tmp 21), 4, "", ⟨[]⟩, none⟩, none, false⟩])
      (.seq
       (.seq
        (.ops false [
          ⟨⟨(some 9), .assign (.const (.int .i64 0)), 3, "", ⟨[]⟩, none⟩, none, false⟩])
        (.block 0
         (.loop
          (.seq
           (.seq
            (.ops false [
              ⟨⟨(some 22), .move (.tmp 8), 4, "", ⟨[]⟩, none⟩, none, false⟩,
              ⟨⟨(some 23), .move (.tmp 22), 4, "", ⟨[]⟩, none⟩, none, false⟩,
              ⟨⟨(some 24), .move (.tmp 9), 3, "", ⟨[]⟩, none⟩, some ((some 23), true), false⟩,
              ⟨⟨(some 25), .move (.tmp 1), 32, "", ⟨[]⟩, none⟩, some ((some 23), true), false⟩,
              ⟨⟨(some 26), .call ⟨.builtin .len, ⟨[(.tmp 25)]⟩, ⟨[32]⟩⟩, 3, "", ⟨[]⟩, none⟩, some ((some 23), true), false⟩,
              ⟨⟨(some 27), .binOp .lss 3 (.tmp 24) (.tmp 26) 3, 4, "", ⟨[]⟩, none⟩, some ((some 23), true), false⟩,
              ⟨⟨(some 28), .pick (.tmp 23) (.tmp 27) (.const (.bool false)), 4, "", ⟨[]⟩, none⟩, none, false⟩])
            (.cond (.tmp 28)
             .skip
             (.exit 0)))
           (.seq
            (.block 1
             (.seq
              (.ops false [
                ⟨⟨(some 31), .move (.tmp 1), 32, "", ⟨[]⟩, none⟩, none, false⟩,
                ⟨⟨(some 32), .move (.tmp 9), 3, "", ⟨[]⟩, none⟩, none, false⟩,
                ⟨⟨(some 33), .indexAddr 32 (.tmp 31) (.tmp 32), 0, "", ⟨[]⟩, none⟩, none, false⟩,
                ⟨⟨(some 34), .fieldAddr 79 (.tmp 33) 0, 0, "", ⟨[]⟩, none⟩, none, false⟩,
                ⟨⟨(some 35), .load 9 (.tmp 34), 9, "", ⟨[]⟩, none⟩, none, false⟩,
                ⟨⟨(some 36), .call ⟨.value (.func 63), ⟨[(.tmp 35)]⟩, ⟨[9]⟩⟩, 4, "", ⟨[]⟩, none⟩, none, false⟩,
                ⟨⟨(some 37), .move (.tmp 36), 4, "", ⟨[]⟩, none⟩, none, false⟩,
                ⟨⟨(some 38), .move (.tmp 6), 112, "", ⟨[]⟩, none⟩, some ((some 37), true), false⟩,
                ⟨⟨(some 39), .move (.tmp 1), 32, "", ⟨[]⟩, none⟩, some ((some 37), true), false⟩,
                ⟨⟨(some 40), .move (.tmp 9), 3, "", ⟨[]⟩, none⟩, some ((some 37), true), false⟩,
                ⟨⟨(some 41), .indexAddr 32 (.tmp 39) (.tmp 40), 0, "", ⟨[]⟩, none⟩, some ((some 37), true), false⟩,
                ⟨⟨(some 42), .fieldAddr 79 (.tmp 41) 0, 0, "", ⟨[]⟩, none⟩, some ((some 37), true), false⟩,
                ⟨⟨(some 43), .load 9 (.tmp 42), 9, "", ⟨[]⟩, none⟩, some ((some 37), true), false⟩,
                ⟨⟨(some 44), .call ⟨.value (.func 64), ⟨[(.tmp 38), (.tmp 43)]⟩, ⟨[112, 9]⟩⟩, 3, "", ⟨[]⟩, none⟩, some ((some 37), true), false⟩,
                ⟨⟨(some 45), .binOp .lss 3 (.tmp 44) (.const (.int .i64 0)) 3, 4, "", ⟨[]⟩, none⟩, some ((some 37), true), false⟩,
                ⟨⟨(some 46), .pick (.tmp 37) (.tmp 45) (.const (.bool false)), 4, "", ⟨[]⟩, none⟩, none, false⟩,
                ⟨⟨(some 8), .assign (.tmp 46), 4, "", ⟨[]⟩, none⟩, none, false⟩])
              (.ops true [
                ⟨⟨(some 47), .move (.tmp 6), 112, "", ⟨[]⟩, none⟩, none, true⟩,
                ⟨⟨(some 48), .move (.tmp 1), 32, "", ⟨[]⟩, none⟩, none, true⟩,
                ⟨⟨(some 49), .move (.tmp 9), 3, "", ⟨[]⟩, none⟩, none, true⟩,
                ⟨⟨(some 50), .indexAddr 32 (.tmp 48) (.tmp 49), 0, "", ⟨[]⟩, none⟩, none, true⟩,
                ⟨⟨(some 51), .fieldAddr 79 (.tmp 50) 0, 0, "", ⟨[]⟩, none⟩, none, true⟩,
                ⟨⟨(some 52), .load 9 (.tmp 51), 9, "", ⟨[]⟩, none⟩, none, true⟩,
                ⟨⟨(some 53), .buildSlice 112 1 ⟨[(0, (.tmp 52))]⟩, 112, "", ⟨[]⟩, none⟩, none, true⟩,
                ⟨⟨(some 55), .move (.tmp 7), 22, "", ⟨[]⟩, none⟩, none, true⟩,
                ⟨⟨(some 56), .move (.tmp 1), 32, "", ⟨[]⟩, none⟩, none, true⟩,
                ⟨⟨(some 57), .move (.tmp 9), 3, "", ⟨[]⟩, none⟩, none, true⟩,
                ⟨⟨(some 58), .indexAddr 32 (.tmp 56) (.tmp 57), 0, "", ⟨[]⟩, none⟩, none, true⟩,
                ⟨⟨(some 59), .fieldAddr 79 (.tmp 58) 1, 0, "", ⟨[]⟩, none⟩, none, true⟩,
                ⟨⟨(some 60), .load 3 (.tmp 59), 3, "", ⟨[]⟩, none⟩, none, true⟩,
                ⟨⟨(some 61), .buildSlice 22 1 ⟨[(0, (.tmp 60))]⟩, 22, "", ⟨[]⟩, none⟩, none, true⟩,
                ⟨⟨(some 54), .call ⟨.builtin .append, ⟨[(.tmp 47), (.tmp 53)]⟩, ⟨[112, 112]⟩⟩, 112, "", ⟨[]⟩, none⟩, none, true⟩,
                ⟨⟨(some 62), .call ⟨.builtin .append, ⟨[(.tmp 55), (.tmp 61)]⟩, ⟨[22, 22]⟩⟩, 22, "", ⟨[]⟩, none⟩, none, false⟩,
                ⟨⟨(some 6), .assign (.tmp 54), 112, "", ⟨[]⟩, none⟩, none, true⟩,
                ⟨⟨(some 7), .assign (.tmp 62), 22, "", ⟨[]⟩, none⟩, none, true⟩])))
            (.ops false [
              ⟨⟨(some 29), .move (.tmp 9), 3, "", ⟨[]⟩, none⟩, none, false⟩,
              ⟨⟨(some 30), .binOp .add 3 (.tmp 29) (.const (.int .i64 1)) 3, 3, "", ⟨[]⟩, none⟩, none, false⟩,
              ⟨⟨(some 9), .assign (.tmp 30), 3, "", ⟨[]⟩, none⟩, none, false⟩]))))))
       (.seq
        (.seq
         (.ops false [
           ⟨⟨(some 63), .move (.tmp 8), 4, "", ⟨[]⟩, none⟩, none, false⟩,
           ⟨⟨(some 64), .unOp .not 4 (.tmp 63), 4, "", ⟨[]⟩, none⟩, none, false⟩,
           ⟨⟨(some 65), .move (.tmp 64), 4, "", ⟨[]⟩, none⟩, none, false⟩,
           ⟨⟨(some 66), .move (.tmp 7), 22, "", ⟨[]⟩, none⟩, some ((some 65), false), false⟩,
           ⟨⟨(some 67), .call ⟨.value (.func 50), ⟨[(.tmp 66)]⟩, ⟨[22]⟩⟩, 4, "", ⟨[]⟩, none⟩, some ((some 65), false), false⟩,
           ⟨⟨(some 68), .unOp .not 4 (.tmp 67), 4, "", ⟨[]⟩, none⟩, some ((some 65), false), false⟩,
           ⟨⟨(some 69), .pick (.tmp 65) (.const (.bool true)) (.tmp 68), 4, "", ⟨[]⟩, none⟩, none, false⟩])
         (.cond (.tmp 69)
          (.seq
           (.ops false [
             ⟨⟨(some 4), .assign (.const (.slice none 0 0)), 33, "", ⟨[]⟩, none⟩, none, false⟩,
             ⟨⟨(some 5), .assign (.const (.int .i64 72)), 24, "", ⟨[]⟩, none⟩, none, false⟩])
           .ret)
          .skip))
        (.seq
         (.seq
          (.ops false [
            ⟨⟨(some 10), .assign (.const (.int .i64 0)), 3, "", ⟨[]⟩, none⟩, none, false⟩])
          (.block 2
           (.loop
            (.seq
             (.seq
              (.ops false [
                ⟨⟨(some 70), .move (.tmp 10), 3, "", ⟨[]⟩, none⟩, none, false⟩,
                ⟨⟨(some 71), .move (.tmp 1), 32, "", ⟨[]⟩, none⟩, none, false⟩,
                ⟨⟨(some 72), .call ⟨.builtin .len, ⟨[(.tmp 71)]⟩, ⟨[32]⟩⟩, 3, "", ⟨[]⟩, none⟩, none, false⟩,
                ⟨⟨(some 73), .binOp .lss 3 (.tmp 70) (.tmp 72) 3, 4, "", ⟨[]⟩, none⟩, none, false⟩])
              (.cond (.tmp 73)
               .skip
               (.exit 2)))
             (.seq
              (.block 3
               (.seq
                (.ops false [
                  ⟨⟨(some 76), .move (.tmp 1), 32, "", ⟨[]⟩, none⟩, none, false⟩,
                  ⟨⟨(some 77), .move (.tmp 10), 3, "", ⟨[]⟩, none⟩, none, false⟩,
                  ⟨⟨(some 78), .indexAddr 32 (.tmp 76) (.tmp 77), 0, "", ⟨[]⟩, none⟩, none, false⟩,
                  ⟨⟨(some 79), .fieldAddr 79 (.tmp 78) 2, 0, "", ⟨[]⟩, none⟩, none, false⟩,
                  ⟨⟨(some 80), .load 23 (.tmp 79), 23, "", ⟨[]⟩, none⟩, none, false⟩,
                  ⟨⟨(some 81), .call ⟨.value (.func 54), ⟨[(.tmp 80)]⟩, ⟨[23]⟩⟩, 4, "", ⟨[]⟩, none⟩, none, false⟩,
                  ⟨⟨(some 82), .unOp .not 4 (.tmp 81), 4, "", ⟨[]⟩, none⟩, none, false⟩])
                (.cond (.tmp 82)
                 (.seq
                  (.ops false [
                    ⟨⟨(some 4), .assign (.const (.slice none 0 0)), 33, "", ⟨[]⟩, none⟩, none, false⟩,
                    ⟨⟨(some 5), .assign (.const (.int .i64 71)), 24, "", ⟨[]⟩, none⟩, none, false⟩])
                  .ret)
                 .skip)))
              (.ops false [
                ⟨⟨(some 74), .move (.tmp 10), 3, "", ⟨[]⟩, none⟩, none, false⟩,
                ⟨⟨(some 75), .binOp .add 3 (.tmp 74) (.const (.int .i64 1)) 3, 3, "", ⟨[]⟩, none⟩, none, false⟩,
                ⟨⟨(some 10), .assign (.tmp 75), 3, "", ⟨[]⟩, none⟩, none, false⟩]))))))
         (.seq
          (.ops false [
            ⟨⟨(some 83), .move (.tmp 7), 22, "", ⟨[]⟩, none⟩, none, false⟩,
            ⟨⟨(some 84), .move (.tmp 0), 3, "", ⟨[]⟩, none⟩, none, false⟩,
            ⟨⟨(some 85), .call ⟨.value (.func 51), ⟨[(.tmp 83), (.tmp 84)]⟩, ⟨[22, 3]⟩⟩, 22, "", ⟨[]⟩, none⟩, none, false⟩,
            ⟨⟨(some 11), .assign (.tmp 85), 22, "", ⟨[]⟩, none⟩, none, false⟩])
          (.seq
           (.ops false [
             ⟨⟨(some 12), .assign (.const (.slice none 0 0)), 33, "", ⟨[]⟩, none⟩, none, false⟩])
           (.seq
            (.seq
             (.ops false [
               ⟨⟨(some 13), .assign (.const (.int .i64 0)), 3, "", ⟨[]⟩, none⟩, none, false⟩])
             (.block 4
              (.loop
               (.seq
                (.seq
                 (.ops false [
                   ⟨⟨(some 86), .move (.tmp 13), 3, "", ⟨[]⟩, none⟩, none, false⟩,
                   ⟨⟨(some 87), .move (.tmp 1), 32, "", ⟨[]⟩, none⟩, none, false⟩,
                   ⟨⟨(some 88), .call ⟨.builtin .len, ⟨[(.tmp 87)]⟩, ⟨[32]⟩⟩, 3, "", ⟨[]⟩, none⟩, none, false⟩,
                   ⟨⟨(some 89), .binOp .lss 3 (.tmp 86) (.tmp 88) 3, 4, "", ⟨[]⟩, none⟩, none, false⟩])
                 (.cond (.tmp 89)
                  .skip
                  (.exit 4)))
                (.seq
                 (.block 5
                  (.seq
                   (.ops true [
                     ⟨⟨(some 93), .move (.tmp 1), 32, "", ⟨[]⟩, none⟩, none, true⟩,
                     ⟨⟨(some 94), .move (.tmp 13), 3, "", ⟨[]⟩, none⟩, none, true⟩,
                     ⟨⟨(some 95), .indexAddr 32 (.tmp 93) (.tmp 94), 0, "", ⟨[]⟩, none⟩, none, true⟩,
                     ⟨⟨(some 96), .fieldAddr 79 (.tmp 95) 2, 0, "", ⟨[]⟩, none⟩, none, true⟩,
                     ⟨⟨(some 97), .load 23 (.tmp 96), 23, "", ⟨[]⟩, none⟩, none, true⟩,
                     ⟨⟨(some 98), .move (.tmp 11), 22, "", ⟨[]⟩, none⟩, none, true⟩,
                     ⟨⟨(some 99), .move (.tmp 13), 3, "", ⟨[]⟩, none⟩, none, true⟩,
                     ⟨⟨(some 100), .indexAddr 22 (.tmp 98) (.tmp 99), 0, "", ⟨[]⟩, none⟩, none, true⟩,
                     ⟨⟨(some 101), .load 3 (.tmp 100), 3, "", ⟨[]⟩, none⟩, none, true⟩,
                     ⟨⟨(some 102), .call ⟨.value (.func 55), ⟨[(.tmp 97), (.tmp 101)]⟩, ⟨[23, 3]⟩⟩, 104, "", ⟨[]⟩, none⟩, none, false⟩,
                     ⟨⟨(some 92), .move (.tmp 102), 104, "", ⟨[]⟩, none⟩, none, true⟩,
                     ⟨⟨(some 103), .extract (.tmp 92) 0, 22, "", ⟨[]⟩, none⟩, none, true⟩,
                     ⟨⟨(some 104), .extract (.tmp 92) 1, 3, "", ⟨[]⟩, none⟩, none, true⟩,
                     ⟨⟨(some 14), .assign (.tmp 103), 22, "", ⟨[]⟩, none⟩, none, true⟩,
                     ⟨⟨(some 15), .assign (.tmp 104), 3, "", ⟨[]⟩, none⟩, none, true⟩])
                   (.ops false [
                     ⟨⟨(some 105), .move (.tmp 12), 33, "", ⟨[]⟩, none⟩, none, false⟩,
                     ⟨⟨(some 106), .move (.tmp 11), 22, "", ⟨[]⟩, none⟩, none, false⟩,
                     ⟨⟨(some 107), .move (.tmp 13), 3, "", ⟨[]⟩, none⟩, none, false⟩,
                     ⟨⟨(some 108), .indexAddr 22 (.tmp 106) (.tmp 107), 0, "", ⟨[]⟩, none⟩, none, false⟩,
                     ⟨⟨(some 109), .load 3 (.tmp 108), 3, "", ⟨[]⟩, none⟩, none, false⟩,
                     ⟨⟨(some 110), .move (.tmp 14), 22, "", ⟨[]⟩, none⟩, none, false⟩,
                     ⟨⟨(some 111), .move (.tmp 15), 3, "", ⟨[]⟩, none⟩, none, false⟩,
                     ⟨⟨(some 112), .build 81 ⟨[(0, (.tmp 109)), (1, (.tmp 110)), (2, (.tmp 111))]⟩, 81, "", ⟨[]⟩, none⟩, none, false⟩,
                     ⟨⟨(some 113), .buildSlice 33 1 ⟨[(0, (.tmp 112))]⟩, 33, "", ⟨[]⟩, none⟩, none, false⟩,
                     ⟨⟨(some 114), .call ⟨.builtin .append, ⟨[(.tmp 105), (.tmp 113)]⟩, ⟨[33, 33]⟩⟩, 33, "", ⟨[]⟩, none⟩, none, false⟩,
                     ⟨⟨(some 12), .assign (.tmp 114), 33, "", ⟨[]⟩, none⟩, none, false⟩])))
                 (.ops false [
                   ⟨⟨(some 90), .move (.tmp 13), 3, "", ⟨[]⟩, none⟩, none, false⟩,
                   ⟨⟨(some 91), .binOp .add 3 (.tmp 90) (.const (.int .i64 1)) 3, 3, "", ⟨[]⟩, none⟩, none, false⟩,
                   ⟨⟨(some 13), .assign (.tmp 91), 3, "", ⟨[]⟩, none⟩, none, false⟩]))))))
            (.seq
             (.ops false [
               ⟨⟨(some 115), .move (.tmp 12), 33, "", ⟨[]⟩, none⟩, none, false⟩,
               ⟨⟨(some 4), .assign (.tmp 115), 33, "", ⟨[]⟩, none⟩, none, false⟩,
               ⟨⟨(some 5), .assign (.const (.int .i64 0)), 24, "", ⟨[]⟩, none⟩, none, false⟩])
             .ret))))))))))))
def Try.s22 : SC :=
 (.seq
  (.ops false [
    ⟨⟨(some 4), .assign (.const (.bool false)), 4, "", ⟨[]⟩, none⟩, none, false⟩])
  (.seq
   (.seq
    (.ops false [
      ⟨⟨(some 6), .move (.tmp 0), 33, "", ⟨[]⟩, none⟩, none, false⟩,
      ⟨⟨(some 7), .call ⟨.builtin .len, ⟨[(.tmp 6)]⟩, ⟨[33]⟩⟩, 3, "", ⟨[]⟩, none⟩, none, false⟩,
      ⟨⟨(some 8), .move (.tmp 1), 33, "", ⟨[]⟩, none⟩, none, false⟩,
      ⟨⟨(some 9), .call ⟨.builtin .len, ⟨[(.tmp 8)]⟩, ⟨[33]⟩⟩, 3, "", ⟨[]⟩, none⟩, none, false⟩,
      ⟨⟨(some 10), .binOp .neq 3 (.tmp 7) (.tmp 9) 3, 4, "", ⟨[]⟩, none⟩, none, false⟩])
    (.cond (.tmp 10)
     (.seq
      (.ops false [
        ⟨⟨(some 4), .assign (.const (.bool false)), 4, "", ⟨[]⟩, none⟩, none, false⟩])
      .ret)
     .skip))
   (.seq
    (.seq
     (.ops false [
       ⟨⟨(some 5), .assign (.const (.int .i64 0)), 3, "", ⟨[]⟩, none⟩, none, false⟩])
     (.block 0
      (.loop
       (.seq
        (.seq
         (.ops false [
           ⟨⟨(some 11), .move (.tmp 5), 3, "", ⟨[]⟩, none⟩, none, false⟩,
           ⟨⟨(some 12), .move (.tmp 0), 33, "", ⟨[]⟩, none⟩, none, false⟩,
           ⟨⟨(some 13), .call ⟨.builtin .len, ⟨[(.tmp 12)]⟩, ⟨[33]⟩⟩, 3, "", ⟨[]⟩, none⟩, none, false⟩,
           ⟨⟨(some 14), .binOp .lss 3 (.tmp 11) (.tmp 13) 3, 4, "", ⟨[]⟩, none⟩, none, false⟩])
         (.cond (.tmp 14)
          .skip
          (.exit 0)))
        (.seq
         (.block 1
          (.seq
           (.ops true [
             ⟨⟨(some 17), .move (.tmp 0), 33, "", ⟨[]⟩, none⟩, none, true⟩,
             ⟨⟨(some 18), .move (.tmp 5), 3, "", ⟨[]⟩, none⟩, none, true⟩,
             ⟨⟨(some 19), .indexAddr 33 (.tmp 17) (.tmp 18), 0, "", ⟨[]⟩, none⟩, none, true⟩,
             ⟨⟨(some 20), .fieldAddr 81 (.tmp 19) 0, 0, "", ⟨[]⟩, none⟩, none, true⟩,
             ⟨⟨(some 21), .load 3 (.tmp 20), 3, "", ⟨[]⟩, none⟩, none, true⟩,
             ⟨⟨(some 22), .move (.tmp 1), 33, "", ⟨[]⟩, none⟩, none, true⟩,
             ⟨⟨(some 23), .move (.tmp 5), 3, "", ⟨[]⟩, none⟩, none, true⟩,
             ⟨⟨(some 24), .indexAddr 33 (.tmp 22) (.tmp 23), 0, "", ⟨[]⟩, none⟩, none, true⟩,
             ⟨⟨(some 25), .fieldAddr 81 (.tmp 24) 0, 0, "", ⟨[]⟩, none⟩, none, true⟩,
             ⟨⟨(some 26), .load 3 (.tmp 25), 3, "", ⟨[]⟩, none⟩, none, true⟩,
             ⟨⟨(some 27), .binOp .neq 3 (.tmp 21) (.tmp 26) 3, 4, "", ⟨[]⟩, none⟩, none, true⟩,
             ⟨⟨(some 28), .move (.tmp 27), 4, "", ⟨[]⟩, none⟩, none, true⟩,
             ⟨⟨(some 29), .move (.tmp 0), 33, "", ⟨[]⟩, none⟩, some ((some 28), false), true⟩,
             ⟨⟨(some 30), .move (.tmp 5), 3, "", ⟨[]⟩, none⟩, some ((some 28), false), true⟩,
             ⟨⟨(some 31), .indexAddr 33 (.tmp 29) (.tmp 30), 0, "", ⟨[]⟩, none⟩, some ((some 28), false), true⟩,
             ⟨⟨(some 32), .fieldAddr 81 (.tmp 31) 2, 0, "", ⟨[]⟩, none⟩, some ((some 28), false), true⟩,
             ⟨⟨(some 33), .load 3 (.tmp 32), 3, "", ⟨[]⟩, none⟩, some ((some 28), false), true⟩,
             ⟨⟨(some 34), .move (.tmp 1), 33, "", ⟨[]⟩, none⟩, some ((some 28), false), true⟩,
             ⟨⟨(some 35), .move (.tmp 5), 3, "", ⟨[]⟩, none⟩, some ((some 28), false), true⟩,
             ⟨⟨(some 36), .indexAddr 33 (.tmp 34) (.tmp 35), 0, "", ⟨[]⟩, none⟩, some ((some 28), false), true⟩,
             ⟨⟨(some 37), .fieldAddr 81 (.tmp 36) 2, 0, "", ⟨[]⟩, none⟩, some ((some 28), false), true⟩,
             ⟨⟨(some 38), .load 3 (.tmp 37), 3, "", ⟨[]⟩, none⟩, some ((some 28), false), true⟩,
             ⟨⟨(some 39), .binOp .neq 3 (.tmp 33) (.tmp 38) 3, 4, "", ⟨[]⟩, none⟩, some ((some 28), false), true⟩,
             ⟨⟨(some 40), .pick (.tmp 28) (.const (.bool true)) (.tmp 39), 4, "", ⟨[]⟩, none⟩, none, true⟩,
             ⟨⟨(some 41), .move (.tmp 40), 4, "", ⟨[]⟩, none⟩, none, true⟩,
             ⟨⟨(some 42), .move (.tmp 0), 33, "", ⟨[]⟩, none⟩, some ((some 41), false), true⟩,
             ⟨⟨(some 43), .move (.tmp 5), 3, "", ⟨[]⟩, none⟩, some ((some 41), false), true⟩,
             ⟨⟨(some 44), .indexAddr 33 (.tmp 42) (.tmp 43), 0, "", ⟨[]⟩, none⟩, some ((some 41), false), true⟩,
             ⟨⟨(some 45), .fieldAddr 81 (.tmp 44) 1, 0, "", ⟨[]⟩, none⟩, some ((some 41), false), true⟩,
             ⟨⟨(some 46), .load 22 (.tmp 45), 22, "", ⟨[]⟩, none⟩, some ((some 41), false), true⟩,
             ⟨⟨(some 47), .move (.tmp 1), 33, "", ⟨[]⟩, none⟩, some ((some 41), false), true⟩,
             ⟨⟨(some 48), .move (.tmp 5), 3, "", ⟨[]⟩, none⟩, some ((some 41), false), true⟩,
             ⟨⟨(some 49), .indexAddr 33 (.tmp 47) (.tmp 48), 0, "", ⟨[]⟩, none⟩, some ((some 41), false), true⟩,
             ⟨⟨(some 50), .fieldAddr 81 (.tmp 49) 1, 0, "", ⟨[]⟩, none⟩, some ((some 41), false), true⟩,
             ⟨⟨(some 51), .load 22 (.tmp 50), 22, "", ⟨[]⟩, none⟩, some ((some 41), false), true⟩,
             ⟨⟨(some 52), .call ⟨.value (.func 16), ⟨[(.tmp 46), (.tmp 51)]⟩, ⟨[22, 22]⟩⟩, 4, "", ⟨[]⟩, none⟩, some ((some 41), false), false⟩,
             ⟨⟨(some 53), .unOp .not 4 (.tmp 52), 4, "", ⟨[]⟩, none⟩, some ((some 41), false), true⟩,
             ⟨⟨(some 54), .pick (.tmp 41) (.const (.bool true)) (.tmp 53), 4, "", ⟨[]⟩, none⟩, none, true⟩])
           (.cond (.tmp 54)
            (.seq
             (.ops false [
               ⟨⟨(some 4), .assign (.const (.bool false)), 4, "", ⟨[]⟩, none⟩, none, false⟩])
             .ret)
            .skip)))
         (.ops false [
           ⟨⟨(some 15), .move (.tmp 5), 3, "", ⟨[]⟩, none⟩, none, false⟩,
           ⟨⟨(some 16), .binOp .add 3 (.tmp 15) (.const (.int .i64 1)) 3, 3, "", ⟨[]⟩, none⟩, none, false⟩,
           ⟨⟨(some 5), .assign (.tmp 16), 3, "", ⟨[]⟩, none⟩, none, false⟩]))))))
    (.seq
     (.ops false [
       ⟨⟨(some 4), .assign (.const (.bool true)), 4, "", ⟨[]⟩, none⟩, none, false⟩])
     .ret))))
def Try.s57 : SC :=
 (.seq
  (.ops false [
    ⟨⟨(some 2), .assign (.const (.bool false)), 4, "", ⟨[]⟩, none⟩, none, false⟩])
  (.seq
   (.seq
    (.ops false [
      ⟨⟨(some 6), .move (.tmp 0), 32, "", ⟨[]⟩, none⟩, none, false⟩,
      ⟨⟨(some 7), .call ⟨.builtin .len, ⟨[(.tmp 6)]⟩, ⟨[32]⟩⟩, 3, "", ⟨[]⟩, none⟩, none, false⟩,
      ⟨⟨(some 8), .call ⟨.value (.func 65), ⟨[(.tmp 7), (.const (.int .i64 1)), (.const (.int .i64 8))]⟩, ⟨[3, 3, 3]⟩⟩, 4, "", ⟨[]⟩, none⟩, none, false⟩,
      ⟨⟨(some 9), .unOp .not 4 (.tmp 8), 4, "", ⟨[]⟩, none⟩, none, false⟩])
    (.cond (.tmp 9)
     (.seq
      (.ops false [
        ⟨⟨(some 2), .assign (.const (.bool false)), 4, "", ⟨[]⟩, none⟩, none, false⟩])
      .ret)
     .skip))
   (.seq
    (.ops false [
      ⟨⟨(some 10), .makeMap 133 none, 133, "", ⟨[]⟩, none⟩, none, false⟩,
      ⟨⟨(some 3), .assign (.tmp 10), 133, "", ⟨[]⟩, none⟩, none, false⟩])
    (.seq
     (.seq
      (.ops false [
        ⟨⟨(some 11), .move (.tmp 0), 32, "", ⟨[]⟩, none⟩, none, false⟩,
        ⟨⟨(some 12), .call ⟨.builtin .len, ⟨[(.tmp 11)]⟩, ⟨[32]⟩⟩, 3, "", ⟨[]⟩, none⟩, none, false⟩,
        ⟨⟨(some 13), .move (.const (.int .i64 0)), 3, "", ⟨[]⟩, none⟩, none, false⟩])
      (.block 0
       (.loop
        (.seq
         (.ops false [
           ⟨⟨(some 14), .binOp .lss 3 (.tmp 13) (.tmp 12) 3, 0, "", ⟨[]⟩, none⟩, none, false⟩])
         (.seq
          (.cond (.tmp 14)
           .skip
           (.exit 0))
          (.seq
           (.block 1
            (.seq
             (.ops false [
               ⟨⟨(some 15), .indexAddr 32 (.tmp 11) (.tmp 13), 0, "", ⟨[]⟩, none⟩, none, false⟩,
               ⟨⟨(some 16), .load 79 (.tmp 15), 79, "", ⟨[]⟩, none⟩, none, false⟩,
               ⟨⟨(some 5), .alloc 79, 0, "", ⟨[]⟩, none⟩, none, false⟩,
               ⟨⟨none, .store 79 (.tmp 5) (.tmp 16), 0, "", ⟨[]⟩, none⟩, none, false⟩])
             (.seq
              (.seq
               (.ops false [
                 ⟨⟨(some 17), .fieldAddr 79 (.tmp 5) 0, 0, "", ⟨[]⟩, none⟩, none, false⟩,
                 ⟨⟨(some 18), .load 9 (.tmp 17), 9, "", ⟨[]⟩, none⟩, none, false⟩,
                 ⟨⟨(some 19), .call ⟨.value (.func 95), ⟨[(.tmp 18)]⟩, ⟨[9]⟩⟩, 4, "", ⟨[]⟩, none⟩, none, false⟩,
                 ⟨⟨(some 20), .unOp .not 4 (.tmp 19), 4, "", ⟨[]⟩, none⟩, none, false⟩,
                 ⟨⟨(some 21), .move (.tmp 20), 4, "", ⟨[]⟩, none⟩, none, false⟩,
                 ⟨⟨(some 22), .move (.tmp 3), 133, "", ⟨[]⟩, none⟩, some ((some 21), false), false⟩,
                 ⟨⟨(some 23), .fieldAddr 79 (.tmp 5) 0, 0, "", ⟨[]⟩, none⟩, some ((some 21), false), false⟩,
                 ⟨⟨(some 24), .load 9 (.tmp 23), 9, "", ⟨[]⟩, none⟩, some ((some 21), false), false⟩,
                 ⟨⟨(some 25), .lookup 133 (.tmp 22) (.tmp 24) false, 4, "", ⟨[]⟩, none⟩, some ((some 21), false), false⟩,
                 ⟨⟨(some 26), .pick (.tmp 21) (.const (.bool true)) (.tmp 25), 4, "", ⟨[]⟩, none⟩, none, false⟩])
               (.cond (.tmp 26)
                (.seq
                 (.ops false [
                   ⟨⟨(some 2), .assign (.const (.bool false)), 4, "", ⟨[]⟩, none⟩, none, false⟩])
                 .ret)
                .skip))
              (.ops false [
                ⟨⟨(some 27), .move (.tmp 3), 133, "", ⟨[]⟩, none⟩, none, false⟩,
                ⟨⟨(some 28), .fieldAddr 79 (.tmp 5) 0, 0, "", ⟨[]⟩, none⟩, none, false⟩,
                ⟨⟨(some 29), .load 9 (.tmp 28), 9, "", ⟨[]⟩, none⟩, none, false⟩,
                ⟨⟨none, .mapUpdate 133 (.tmp 27) (.tmp 29) (.const (.bool true)), 0, "", ⟨[]⟩, none⟩, none, false⟩]))))
           (.ops false [
             ⟨⟨(some 30), .binOp .add 3 (.tmp 13) (.const (.int .i64 1)) 3, 3, "", ⟨[]⟩, none⟩, none, false⟩,
             ⟨⟨(some 13), .move (.tmp 30), 3, "", ⟨[]⟩, none⟩, none, false⟩])))))))
     (.seq
      (.ops false [
        ⟨⟨(some 31), .move (.tmp 0), 32, "", ⟨[]⟩, none⟩, none, false⟩,
        ⟨⟨(some 32), .call ⟨.value (.func 60), ⟨[(.tmp 31), (.func 61)]⟩, ⟨[32, 110]⟩⟩, 22, "", ⟨[]⟩, none⟩, none, false⟩,
        ⟨⟨(some 33), .call ⟨.value (.func 47), ⟨[(.tmp 32)]⟩, ⟨[22]⟩⟩, 4, "", ⟨[]⟩, none⟩, none, false⟩,
        ⟨⟨(some 2), .assign (.tmp 33), 4, "", ⟨[]⟩, none⟩, none, false⟩])
      .ret)))))
def Try.s58 : SC :=
 (.seq
  (.ops false [
    ⟨⟨(some 4), .assign (.const (.bool false)), 4, "", ⟨[]⟩, none⟩, none, false⟩])
  (.seq
   (.ops false [
     ⟨⟨(some 5), .move (.tmp 0), 32, "", ⟨[]⟩, none⟩, none, false⟩,
     ⟨⟨(some 6), .move (.tmp 1), 108, "", ⟨[]⟩, none⟩, none, false⟩,
     ⟨⟨(some 7), .call ⟨.value (.func 96), ⟨[(.tmp 5), (.tmp 6)]⟩, ⟨[32, 108]⟩⟩, 22, "", ⟨[]⟩, none⟩, none, false⟩,
     ⟨⟨(some 8), .call ⟨.builtin .len, ⟨[(.tmp 7)]⟩, ⟨[22]⟩⟩, 3, "", ⟨[]⟩, none⟩, none, false⟩,
     ⟨⟨(some 9), .move (.tmp 0), 32, "", ⟨[]⟩, none⟩, none, false⟩,
     ⟨⟨(some 10), .call ⟨.builtin .len, ⟨[(.tmp 9)]⟩, ⟨[32]⟩⟩, 3, "", ⟨[]⟩, none⟩, none, false⟩,
     ⟨⟨(some 11), .binOp .eql 3 (.tmp 8) (.tmp 10) 3, 4, "", ⟨[]⟩, none⟩, none, false⟩,
     ⟨⟨(some 4), .assign (.tmp 11), 4, "", ⟨[]⟩, none⟩, none, false⟩])
   .ret))
def Try.s59 : SC :=
 (.seq
  (.ops false [
    ⟨⟨(some 1), .box 79 (.tmp 0), 0, "", ⟨[]⟩, none⟩, none, false⟩,
    ⟨⟨(some 2), .assign (.const (.bool false)), 4, "", ⟨[]⟩, none⟩, none, false⟩])
  (.seq
   (.ops false [
     ⟨⟨(some 3), .fieldAddr 79 (.tmp 1) 2, 0, "", ⟨[]⟩, none⟩, none, false⟩,
     ⟨⟨(some 4), .load 23 (.tmp 3), 23, "", ⟨[]⟩, none⟩, none, false⟩,
     ⟨⟨(some 5), .call ⟨.value (.func 52), ⟨[(.tmp 4)]⟩, ⟨[23]⟩⟩, 4, "", ⟨[]⟩, none⟩, none, false⟩,
     ⟨⟨(some 2), .assign (.tmp 5), 4, "", ⟨[]⟩, none⟩, none, false⟩])
   .ret))
def Try.s60 : SC :=
 (.seq
  (.ops false [
    ⟨⟨(some 4), .assign (.const (.slice none 0 0)), 22, "", ⟨[]⟩, none⟩, none, false⟩])
  (.seq
   (.ops false [
     ⟨⟨(some 8), .move (.tmp 0), 32, "", ⟨[]⟩, none⟩, none, false⟩,
     ⟨⟨(some 9), .call ⟨.builtin .len, ⟨[(.tmp 8)]⟩, ⟨[32]⟩⟩, 3, "", ⟨[]⟩, none⟩, none, false⟩,
     ⟨⟨(some 10), .makeSlice 22 (.const (.int .i64 0)) (.tmp 9), 22, "", ⟨[]⟩, none⟩, none, false⟩,
     ⟨⟨(some 5), .assign (.tmp 10), 22, "", ⟨[]⟩, none⟩, none, false⟩])
   (.seq
    (.seq
     (.ops false [
       ⟨⟨(some 11), .move (.tmp 0), 32, "", ⟨[]⟩, none⟩, none, false⟩,
       ⟨⟨(some 12), .call ⟨.builtin .len, ⟨[(.tmp 11)]⟩, ⟨[32]⟩⟩, 3, "", ⟨[]⟩, none⟩, none, false⟩,
       ⟨⟨(some 13), .move (.const (.int .i64 0)), 3, "", ⟨[]⟩, none⟩, none, false⟩])
     (.block 0
      (.loop
       (.seq
        (.ops false [
          ⟨⟨(some 14), .binOp .lss 3 (.tmp 13) (.tmp 12) 3, 0, "", ⟨[]⟩, none⟩, none, false⟩])
        (.seq
         (.cond (.tmp 14)
          .skip
          (.exit 0))
         (.seq
          (.block 1
           (.seq
            (.ops false [
              ⟨⟨(some 15), .indexAddr 32 (.tmp 11) (.tmp 13), 0, "", ⟨[]⟩, none⟩, none, false⟩,
              ⟨⟨(some 16), .load 79 (.tmp 15), 79, "", ⟨[]⟩, none⟩, none, false⟩,
              ⟨⟨(some 7), .alloc 79, 0, "", ⟨[]⟩, none⟩, none, false⟩,
              ⟨⟨none, .store 79 (.tmp 7) (.tmp 16), 0, "", ⟨[]⟩, none⟩, none, false⟩])
            (.ops false [
              ⟨⟨(some 17), .move (.tmp 5), 22, "", ⟨[]⟩, none⟩, none, false⟩,
              ⟨⟨(some 18), .move (.tmp 1), 110, "", ⟨[]⟩, none⟩, none, false⟩,
              ⟨⟨(some 19), .load 79 (.tmp 7), 79, "", ⟨[]⟩, none⟩, none, false⟩,
              ⟨⟨(some 20), .call ⟨.value (.tmp 18), ⟨[(.tmp 19)]⟩, ⟨[79]⟩⟩, 3, "", ⟨[]⟩, none⟩, none, false⟩,
              ⟨⟨(some 21), .buildSlice 22 1 ⟨[(0, (.tmp 20))]⟩, 22, "", ⟨[]⟩, none⟩, none, false⟩,
              ⟨⟨(some 22), .call ⟨.builtin .append, ⟨[(.tmp 17), (.tmp 21)]⟩, ⟨[22, 22]⟩⟩, 22, "", ⟨[]⟩, none⟩, none, false⟩,
              ⟨⟨(some 5), .assign (.tmp 22), 22, "", ⟨[]⟩, none⟩, none, false⟩])))
          (.ops false [
            ⟨⟨(some 23), .binOp .add 3 (.tmp 13) (.const (.int .i64 1)) 3, 3, "", ⟨[]⟩, none⟩, none, false⟩,
            ⟨⟨(some 13), .move (.tmp 23), 3, "", ⟨[]⟩, none⟩, none, false⟩])))))))
    (.seq
     (.ops false [
       ⟨⟨(some 24), .move (.tmp 5), 22, "", ⟨[]⟩, none⟩, none, false⟩,
       ⟨⟨(some 4), .assign (.tmp 24), 22, "", ⟨[]⟩, none⟩, none, false⟩])
     .ret))))
def Try.s61 : SC :=
 (.seq
  (.ops false [
    ⟨⟨(some 1), .box 79 (.tmp 0), 0, "", ⟨[]⟩, none⟩, none, false⟩,
    ⟨⟨(some 2), .assign (.const (.int .i64 0)), 3, "", ⟨[]⟩, none⟩, none, false⟩])
  (.seq
   (.ops false [
     ⟨⟨(some 3), .fieldAddr 79 (.tmp 1) 1, 0, "", ⟨[]⟩, none⟩, none, false⟩,
     ⟨⟨(some 4), .load 3 (.tmp 3), 3, "", ⟨[]⟩, none⟩, none, false⟩,
     ⟨⟨(some 2), .assign (.tmp 4), 3, "", ⟨[]⟩, none⟩, none, false⟩])
   .ret))
def Try.s62 : SC :=
 (.seq
  (.ops false [
    ⟨⟨(some 2), .box 79 (.tmp 0), 0, "", ⟨[]⟩, none⟩, none, false⟩,
    ⟨⟨(some 4), .alloc 81, 0, "", ⟨[]⟩, none⟩, none, false⟩])
  (.seq
   (.ops false [
     ⟨⟨(some 8), .fieldAddr 79 (.tmp 2) 2, 0, "", ⟨[]⟩, none⟩, none, false⟩,
     ⟨⟨(some 9), .load 23 (.tmp 8), 23, "", ⟨[]⟩, none⟩, none, false⟩,
     ⟨⟨(some 10), .move (.tmp 1), 3, "", ⟨[]⟩, none⟩, none, false⟩,
     ⟨⟨(some 11), .call ⟨.value (.func 53), ⟨[(.tmp 9), (.tmp 10)]⟩, ⟨[23, 3]⟩⟩, 104, "", ⟨[]⟩, none⟩, none, false⟩,
     ⟨⟨(some 7), .move (.tmp 11), 104, "", ⟨[]⟩, none⟩, none, false⟩,
     ⟨⟨(some 12), .extract (.tmp 7) 0, 22, "", ⟨[]⟩, none⟩, none, false⟩,
     ⟨⟨(some 13), .extract (.tmp 7) 1, 3, "", ⟨[]⟩, none⟩, none, false⟩,
     ⟨⟨(some 5), .assign (.tmp 12), 22, "", ⟨[]⟩, none⟩, none, false⟩,
     ⟨⟨(some 6), .assign (.tmp 13), 3, "", ⟨[]⟩, none⟩, none, false⟩])
   (.seq
    (.ops false [
      ⟨⟨(some 14), .move (.tmp 1), 3, "", ⟨[]⟩, none⟩, none, false⟩,
      ⟨⟨(some 15), .move (.tmp 5), 22, "", ⟨[]⟩, none⟩, none, false⟩,
      ⟨⟨(some 16), .move (.tmp 6), 3, "", ⟨[]⟩, none⟩, none, false⟩,
      ⟨⟨(some 17), .build 81 ⟨[(0, (.tmp 14)), (1, (.tmp 15)), (2, (.tmp 16))]⟩, 81, "", ⟨[]⟩, none⟩, none, false⟩,
      ⟨⟨none, .store 81 (.tmp 4) (.tmp 17), 0, "", ⟨[]⟩, none⟩, none, false⟩])
    .ret)))
def Try.s63 : SC :=
 (.seq
  (.ops false [
    ⟨⟨(some 2), .assign (.const (.bool false)), 4, "", ⟨[]⟩, none⟩, none, false⟩])
  (.seq
   (.seq
    (.ops false [
      ⟨⟨(some 3), .assign (.const (.int .i64 0)), 3, "", ⟨[]⟩, none⟩, none, false⟩])
    (.block 0
     (.loop
      (.seq
       (.seq
        (.ops false [
          ⟨⟨(some 6), .move (.tmp 3), 3, "", ⟨[]⟩, none⟩, none, false⟩,
          ⟨⟨(some 7), .move (.tmp 0), 9, "", ⟨[]⟩, none⟩, none, false⟩,
          ⟨⟨(some 8), .call ⟨.builtin .len, ⟨[(.tmp 7)]⟩, ⟨[9]⟩⟩, 3, "", ⟨[]⟩, none⟩, none, false⟩,
          ⟨⟨(some 9), .binOp .lss 3 (.tmp 6) (.tmp 8) 3, 4, "", ⟨[]⟩, none⟩, none, false⟩])
        (.cond (.tmp 9)
         .skip
         (.exit 0)))
       (.seq
        (.block 1
         (.seq
          (.ops false [
            ⟨⟨(some 12), .move (.tmp 0), 9, "", ⟨[]⟩, none⟩, none, false⟩,
            ⟨⟨(some 13), .move (.tmp 3), 3, "", ⟨[]⟩, none⟩, none, false⟩,
            ⟨⟨(some 14), .index 9 (.tmp 12) (.tmp 13), 5, "", ⟨[]⟩, none⟩, none, false⟩,
            ⟨⟨(some 4), .assign (.tmp 14), 5, "", ⟨[]⟩, none⟩, none, false⟩])
          (.seq
           (.ops false [
             ⟨⟨(some 15), .move (.tmp 4), 5, "", ⟨[]⟩, none⟩, none, false⟩,
             ⟨⟨(some 16), .binOp .leq 5 (.const (.int .u8 97)) (.tmp 15) 5, 4, "", ⟨[]⟩, none⟩, none, false⟩,
             ⟨⟨(some 17), .move (.tmp 16), 4, "", ⟨[]⟩, none⟩, none, false⟩,
             ⟨⟨(some 18), .move (.tmp 4), 5, "", ⟨[]⟩, none⟩, some ((some 17), true), false⟩,
             ⟨⟨(some 19), .binOp .leq 5 (.tmp 18) (.const (.int .u8 122)) 5, 4, "", ⟨[]⟩, none⟩, some ((some 17), true), false⟩,
             ⟨⟨(some 20), .pick (.tmp 17) (.tmp 19) (.const (.bool false)), 4, "", ⟨[]⟩, none⟩, none, false⟩,
             ⟨⟨(some 5), .assign (.tmp 20), 4, "", ⟨[]⟩, none⟩, none, false⟩])
           (.seq
            (.ops false [
              ⟨⟨(some 21), .move (.tmp 5), 4, "", ⟨[]⟩, none⟩, none, false⟩,
              ⟨⟨(some 22), .unOp .not 4 (.tmp 21), 4, "", ⟨[]⟩, none⟩, none, false⟩,
              ⟨⟨(some 23), .move (.tmp 22), 4, "", ⟨[]⟩, none⟩, none, false⟩,
              ⟨⟨(some 24), .move (.tmp 3), 3, "", ⟨[]⟩, none⟩, some ((some 23), true), false⟩,
              ⟨⟨(some 25), .binOp .eql 3 (.tmp 24) (.const (.int .i64 0)) 3, 4, "", ⟨[]⟩, none⟩, some ((some 23), true), false⟩,
              ⟨⟨(some 26), .move (.tmp 25), 4, "", ⟨[]⟩, none⟩, some ((some 23), true), false⟩,
              ⟨⟨(some 27), .move (.tmp 4), 5, "", ⟨[]⟩, none⟩, some ((some 26), false), false⟩,
              ⟨⟨(some 28), .binOp .neq 5 (.tmp 27) (.const (.int .u8 45)) 5, 4, "", ⟨[]⟩, none⟩, some ((some 26), false), false⟩,
              ⟨⟨(some 29), .move (.tmp 28), 4, "", ⟨[]⟩, none⟩, some ((some 26), false), false⟩,
              ⟨⟨(some 30), .move (.tmp 4), 5, "", ⟨[]⟩, none⟩, some ((some 29), true), false⟩,
              ⟨⟨(some 31), .binOp .leq 5 (.const (.int .u8 48)) (.tmp 30) 5, 4, "", ⟨[]⟩, none⟩, some ((some 29), true), false⟩,
              ⟨⟨(some 32), .move (.tmp 31), 4, "", ⟨[]⟩, none⟩, some ((some 29), true), false⟩,
              ⟨⟨(some 33), .move (.tmp 4), 5, "", ⟨[]⟩, none⟩, some ((some 32), true), false⟩,
              ⟨⟨(some 34), .binOp .leq 5 (.tmp 33) (.const (.int .u8 57)) 5, 4, "", ⟨[]⟩, none⟩, some ((some 32), true), false⟩,
              ⟨⟨(some 35), .pick (.tmp 32) (.tmp 34) (.const (.bool false)), 4, "", ⟨[]⟩, none⟩, some ((some 29), true), false⟩,
              ⟨⟨(some 36), .unOp .not 4 (.tmp 35), 4, "", ⟨[]⟩, none⟩, some ((some 29), true), false⟩,
              ⟨⟨(some 37), .pick (.tmp 29) (.tmp 36) (.const (.bool false)), 4, "", ⟨[]⟩, none⟩, some ((some 26), false), false⟩,
              ⟨⟨(some 38), .pick (.tmp 26) (.const (.bool true)) (.tmp 37), 4, "", ⟨[]⟩, none⟩, some ((some 23), true), false⟩,
              ⟨⟨(some 39), .pick (.tmp 23) (.tmp 38) (.const (.bool false)), 4, "", ⟨[]⟩, none⟩, none, false⟩])
            (.cond (.tmp 39)
             (.seq
              (.ops false [
                ⟨⟨(some 2), .assign (.const (.bool false)), 4, "", ⟨[]⟩, none⟩, none, false⟩])
              .ret)
             .skip)))))
        (.ops false [
          ⟨⟨(some 10), .move (.tmp 3), 3, "", ⟨[]⟩, none⟩, none, false⟩,
          ⟨⟨(some 11), .binOp .add 3 (.tmp 10) (.const (.int .i64 1)) 3, 3, "", ⟨[]⟩, none⟩, none, false⟩,
          ⟨⟨(some 3), .assign (.tmp 11), 3, "", ⟨[]⟩, none⟩, none, false⟩]))))))
   (.seq
    (.ops false [
      ⟨⟨(some 40), .move (.tmp 0), 9, "", ⟨[]⟩, none⟩, none, false⟩,
      ⟨⟨(some 41), .call ⟨.builtin .len, ⟨[(.tmp 40)]⟩, ⟨[9]⟩⟩, 3, "", ⟨[]⟩, none⟩, none, false⟩,
      ⟨⟨(some 42), .call ⟨.value (.func 36), ⟨[(.const (.int .i64 1)), (.tmp 41), (.const (.int .i64 16))]⟩, ⟨[3, 3, 3]⟩⟩, 4, "", ⟨[]⟩, none⟩, none, false⟩,
      ⟨⟨(some 2), .assign (.tmp 42), 4, "", ⟨[]⟩, none⟩, none, false⟩])
    .ret)))
def Try.s64 : SC :=
 (.seq
  (.ops false [
    ⟨⟨(some 4), .assign (.const (.int .i64 0)), 3, "", ⟨[]⟩, none⟩, none, false⟩])
  (.seq
   (.seq
    (.ops false [
      ⟨⟨(some 5), .assign (.const (.int .i64 0)), 3, "", ⟨[]⟩, none⟩, none, false⟩])
    (.block 0
     (.loop
      (.seq
       (.seq
        (.ops false [
          ⟨⟨(some 6), .move (.tmp 5), 3, "", ⟨[]⟩, none⟩, none, false⟩,
          ⟨⟨(some 7), .move (.tmp 0), 112, "", ⟨[]⟩, none⟩, none, false⟩,
          ⟨⟨(some 8), .call ⟨.builtin .len, ⟨[(.tmp 7)]⟩, ⟨[112]⟩⟩, 3, "", ⟨[]⟩, none⟩, none, false⟩,
          ⟨⟨(some 9), .binOp .lss 3 (.tmp 6) (.tmp 8) 3, 4, "", ⟨[]⟩, none⟩, none, false⟩])
        (.cond (.tmp 9)
         .skip
         (.exit 0)))
       (.seq
        (.block 1
         (.seq
          (.ops false [
            ⟨⟨(some 12), .move (.tmp 0), 112, "", ⟨[]⟩, none⟩, none, false⟩,
            ⟨⟨(some 13), .move (.tmp 5), 3, "", ⟨[]⟩, none⟩, none, false⟩,
            ⟨⟨(some 14), .indexAddr 112 (.tmp 12) (.tmp 13), 0, "", ⟨[]⟩, none⟩, none, false⟩,
            ⟨⟨(some 15), .load 9 (.tmp 14), 9, "", ⟨[]⟩, none⟩, none, false⟩,
            ⟨⟨(some 16), .move (.tmp 1), 9, "", ⟨[]⟩, none⟩, none, false⟩,
            ⟨⟨(some 17), .binOp .eql 9 (.tmp 15) (.tmp 16) 9, 4, "", ⟨[]⟩, none⟩, none, false⟩])
          (.cond (.tmp 17)
           (.seq
            (.ops false [
              ⟨⟨(some 18), .move (.tmp 5), 3, "", ⟨[]⟩, none⟩, none, false⟩,
              ⟨⟨(some 4), .assign (.tmp 18), 3, "", ⟨[]⟩, none⟩, none, false⟩])
            .ret)
           .skip)))
        (.ops false [
          ⟨⟨(some 10), .move (.tmp 5), 3, "", ⟨[]⟩, none⟩, none, false⟩,
          ⟨⟨(some 11), .binOp .add 3 (.tmp 10) (.const (.int .i64 1)) 3, 3, "", ⟨[]⟩, none⟩, none, false⟩,
          ⟨⟨(some 5), .assign (.tmp 11), 3, "", ⟨[]⟩, none⟩, none, false⟩]))))))
   (.seq
    (.ops false [
      ⟨⟨(some 4), .assign (.const (.int .i64 (-1))), 3, "", ⟨[]⟩, none⟩, none, false⟩])
    .ret)))
def Try.s95 : SC :=
 (.seq
  (.ops false [
    ⟨⟨(some 2), .assign (.const (.bool false)), 4, "", ⟨[]⟩, none⟩, none, false⟩])
  (.seq
   (.seq
    (.ops false [
      ⟨⟨(some 5), .move (.tmp 0), 9, "", ⟨[]⟩, none⟩, none, false⟩,
      ⟨⟨(some 6), .call ⟨.builtin .len, ⟨[(.tmp 5)]⟩, ⟨[9]⟩⟩, 3, "", ⟨[]⟩, none⟩, none, false⟩,
      ⟨⟨(some 7), .binOp .eql 3 (.tmp 6) (.const (.int .i64 0)) 3, 4, "", ⟨[]⟩, none⟩, none, false⟩,
      ⟨⟨(some 8), .move (.tmp 7), 4, "", ⟨[]⟩, none⟩, none, false⟩,
      ⟨⟨(some 9), .move (.tmp 0), 9, "", ⟨[]⟩, none⟩, some ((some 8), false), false⟩,
      ⟨⟨(some 10), .call ⟨.builtin .len, ⟨[(.tmp 9)]⟩, ⟨[9]⟩⟩, 3, "", ⟨[]⟩, none⟩, some ((some 8), false), false⟩,
      ⟨⟨(some 11), .binOp .gtr 3 (.tmp 10) (.const (.int .i64 16)) 3, 4, "", ⟨[]⟩, none⟩, some ((some 8), false), false⟩,
      ⟨⟨(some 12), .pick (.tmp 8) (.const (.bool true)) (.tmp 11), 4, "", ⟨[]⟩, none⟩, none, false⟩,
      ⟨⟨(some 13), .move (.tmp 12), 4, "", ⟨[]⟩, none⟩, none, false⟩,
      ⟨⟨(some 14), .move (.tmp 0), 9, "", ⟨[]⟩, none⟩, some ((some 13), false), false⟩,
      ⟨⟨(some 15), .index 9 (.tmp 14) (.const (.int .i64 0)), 5, "", ⟨[]⟩, none⟩, some ((some 13), false), false⟩,
      ⟨⟨(some 16), .call ⟨.value (.func 115), ⟨[(.tmp 15)]⟩, ⟨[5]⟩⟩, 4, "", ⟨[]⟩, none⟩, some ((some 13), false), false⟩,
      ⟨⟨(some 17), .unOp .not 4 (.tmp 16), 4, "", ⟨[]⟩, none⟩, some ((some 13), false), false⟩,
      ⟨⟨(some 18), .pick (.tmp 13) (.const (.bool true)) (.tmp 17), 4, "", ⟨[]⟩, none⟩, none, false⟩])
    (.cond (.tmp 18)
     (.seq
      (.ops false [
        ⟨⟨(some 2), .assign (.const (.bool false)), 4, "", ⟨[]⟩, none⟩, none, false⟩])
      .ret)
     .skip))
   (.seq
    (.seq
     (.ops false [
       ⟨⟨(some 19), .move (.tmp 0), 9, "", ⟨[]⟩, none⟩, none, false⟩,
       ⟨⟨(some 20), .call ⟨.builtin .len, ⟨[(.tmp 19)]⟩, ⟨[9]⟩⟩, 3, "", ⟨[]⟩, none⟩, none, false⟩,
       ⟨⟨(some 21), .move (.const (.int .i64 0)), 3, "", ⟨[]⟩, none⟩, none, false⟩])
     (.block 0
      (.loop
       (.seq
        (.ops false [
          ⟨⟨(some 22), .binOp .lss 3 (.tmp 21) (.tmp 20) 3, 4, "", ⟨[]⟩, none⟩, none, false⟩])
        (.seq
         (.cond (.tmp 22)
          .skip
          (.exit 0))
         (.seq
          (.block 1
           (.seq
            (.ops false [
              ⟨⟨(some 23), .move (.tmp 21), 3, "", ⟨[]⟩, none⟩, none, false⟩,
              ⟨⟨(some 3), .assign (.tmp 23), 3, "", ⟨[]⟩, none⟩, none, false⟩])
            (.seq
             (.ops false [
               ⟨⟨(some 24), .move (.tmp 0), 9, "", ⟨[]⟩, none⟩, none, false⟩,
               ⟨⟨(some 25), .move (.tmp 3), 3, "", ⟨[]⟩, none⟩, none, false⟩,
               ⟨⟨(some 26), .index 9 (.tmp 24) (.tmp 25), 5, "", ⟨[]⟩, none⟩, none, false⟩,
               ⟨⟨(some 4), .assign (.tmp 26), 5, "", ⟨[]⟩, none⟩, none, false⟩])
             (.seq
              (.ops false [
                ⟨⟨(some 27), .move (.tmp 4), 5, "", ⟨[]⟩, none⟩, none, false⟩,
                ⟨⟨(some 28), .call ⟨.value (.func 115), ⟨[(.tmp 27)]⟩, ⟨[5]⟩⟩, 4, "", ⟨[]⟩, none⟩, none, false⟩,
                ⟨⟨(some 29), .unOp .not 4 (.tmp 28), 4, "", ⟨[]⟩, none⟩, none, false⟩,
                ⟨⟨(some 30), .move (.tmp 29), 4, "", ⟨[]⟩, none⟩, none, false⟩,
                ⟨⟨(some 31), .move (.tmp 4), 5, "", ⟨[]⟩, none⟩, some ((some 30), true), false⟩,
                ⟨⟨(some 32), .call ⟨.value (.func 116), ⟨[(.tmp 31)]⟩, ⟨[5]⟩⟩, 4, "", ⟨[]⟩, none⟩, some ((some 30), true), false⟩,
                ⟨⟨(some 33), .unOp .not 4 (.tmp 32), 4, "", ⟨[]⟩, none⟩, some ((some 30), true), false⟩,
                ⟨⟨(some 34), .pick (.tmp 30) (.tmp 33) (.const (.bool false)), 4, "", ⟨[]⟩, none⟩, none, false⟩,
                ⟨⟨(some 35), .move (.tmp 34), 4, "", ⟨[]⟩, none⟩, none, false⟩,
                ⟨⟨(some 36), .move (.tmp 4), 5, "", ⟨[]⟩, none⟩, some ((some 35), true), false⟩,
                ⟨⟨(some 37), .binOp .neq 5 (.tmp 36) (.const (.int .u8 45)) 5, 4, "", ⟨[]⟩, none⟩, some ((some 35), true), false⟩,
                ⟨⟨(some 38), .pick (.tmp 35) (.tmp 37) (.const (.bool false)), 4, "", ⟨[]⟩, none⟩, none, false⟩])
              (.cond (.tmp 38)
               (.seq
                (.ops false [
                  ⟨⟨(some 2), .assign (.const (.bool false)), 4, "", ⟨[]⟩, none⟩, none, false⟩])
                .ret)
               .skip)))))
          (.ops false [
            ⟨⟨(some 39), .binOp .add 3 (.tmp 21) (.const (.int .i64 1)) 3, 3, "", ⟨[]⟩, none⟩, none, false⟩,
            ⟨⟨(some 21), .move (.tmp 39), 3, "", ⟨[]⟩, none⟩, none, false⟩])))))))
    (.seq
     (.ops false [
       ⟨⟨(some 2), .assign (.const (.bool true)), 4, "", ⟨[]⟩, none⟩, none, false⟩])
     .ret))))
def Try.s96 : SC :=
 (.seq
  (.ops false [
    ⟨⟨(some 4), .assign (.const (.slice none 0 0)), 22, "", ⟨[]⟩, none⟩, none, false⟩])
  (.seq
   (.ops false [
     ⟨⟨(some 5), .assign (.const (.slice none 0 0)), 22, "", ⟨[]⟩, none⟩, none, false⟩])
   (.seq
    (.seq
     (.ops false [
       ⟨⟨(some 8), .move (.tmp 0), 32, "", ⟨[]⟩, none⟩, none, false⟩,
       ⟨⟨(some 9), .call ⟨.builtin .len, ⟨[(.tmp 8)]⟩, ⟨[32]⟩⟩, 3, "", ⟨[]⟩, none⟩, none, false⟩,
       ⟨⟨(some 10), .move (.const (.int .i64 0)), 3, "", ⟨[]⟩, none⟩, none, false⟩])
     (.block 0
      (.loop
       (.seq
        (.ops false [
          ⟨⟨(some 11), .binOp .lss 3 (.tmp 10) (.tmp 9) 3, 0, "", ⟨[]⟩, none⟩, none, false⟩])
        (.seq
         (.cond (.tmp 11)
          .skip
          (.exit 0))
         (.seq
          (.block 1
           (.seq
            (.ops false [
              ⟨⟨(some 12), .move (.tmp 10), 3, "", ⟨[]⟩, none⟩, none, false⟩,
              ⟨⟨(some 13), .indexAddr 32 (.tmp 8) (.tmp 10), 0, "", ⟨[]⟩, none⟩, none, false⟩,
              ⟨⟨(some 14), .load 79 (.tmp 13), 79, "", ⟨[]⟩, none⟩, none, false⟩,
              ⟨⟨(some 7), .alloc 79, 0, "", ⟨[]⟩, none⟩, none, false⟩,
              ⟨⟨(some 6), .assign (.tmp 12), 3, "", ⟨[]⟩, none⟩, none, false⟩,
              ⟨⟨none, .store 79 (.tmp 7) (.tmp 14), 0, "", ⟨[]⟩, none⟩, none, false⟩])
            (.seq
             (.ops false [
               ⟨⟨(some 15), .move (.tmp 1), 108, "", ⟨[]⟩, none⟩, none, false⟩,
               ⟨⟨(some 16), .load 79 (.tmp 7), 79, "", ⟨[]⟩, none⟩, none, false⟩,
               ⟨⟨(some 17), .call ⟨.value (.tmp 15), ⟨[(.tmp 16)]⟩, ⟨[79]⟩⟩, 4, "", ⟨[]⟩, none⟩, none, false⟩])
             (.cond (.tmp 17)
              (.ops false [
                ⟨⟨(some 18), .move (.tmp 5), 22, "", ⟨[]⟩, none⟩, none, false⟩,
                ⟨⟨(some 19), .move (.tmp 6), 3, "", ⟨[]⟩, none⟩, none, false⟩,
                ⟨⟨(some 20), .buildSlice 22 1 ⟨[(0, (.tmp 19))]⟩, 22, "", ⟨[]⟩, none⟩, none, false⟩,
                ⟨⟨(some 21), .call ⟨.builtin .append, ⟨[(.tmp 18), (.tmp 20)]⟩, ⟨[22, 22]⟩⟩, 22, "", ⟨[]⟩, none⟩, none, false⟩,
                ⟨⟨(some 5), .assign (.tmp 21), 22, "", ⟨[]⟩, none⟩, none, false⟩])
              .skip))))
          (.ops false [
            ⟨⟨(some 22), .binOp .add 3 (.tmp 10) (.const (.int .i64 1)) 3, 3, "", ⟨[]⟩, none⟩, none, false⟩,
            ⟨⟨(some 10), .move (.tmp 22), 3, "", ⟨[]⟩, none⟩, none, false⟩])))))))
    (.seq
     (.ops false [
       ⟨⟨(some 23), .move (.tmp 5), 22, "", ⟨[]⟩, none⟩, none, false⟩,
       ⟨⟨(some 4), .assign (.tmp 23), 22, "", ⟨[]⟩, none⟩, none, false⟩])
     .ret))))
def Try.s115 : SC :=
 (.seq
  (.ops false [
    ⟨⟨(some 2), .assign (.const (.bool false)), 4, "", ⟨[]⟩, none⟩, none, false⟩])
  (.seq
   (.ops false [
     ⟨⟨(some 3), .move (.tmp 0), 5, "", ⟨[]⟩, none⟩, none, false⟩,
     ⟨⟨(some 4), .binOp .leq 5 (.const (.int .u8 97)) (.tmp 3) 5, 4, "", ⟨[]⟩, none⟩, none, false⟩,
     ⟨⟨(some 5), .move (.tmp 4), 4, "", ⟨[]⟩, none⟩, none, false⟩,
     ⟨⟨(some 6), .move (.tmp 0), 5, "", ⟨[]⟩, none⟩, some ((some 5), true), false⟩,
     ⟨⟨(some 7), .binOp .leq 5 (.tmp 6) (.const (.int .u8 122)) 5, 4, "", ⟨[]⟩, none⟩, some ((some 5), true), false⟩,
     ⟨⟨(some 8), .pick (.tmp 5) (.tmp 7) (.const (.bool false)), 4, "", ⟨[]⟩, none⟩, none, false⟩,
     ⟨⟨(some 2), .assign (.tmp 8), 4, "", ⟨[]⟩, none⟩, none, false⟩])
   .ret))
def Try.s116 : SC :=
 (.seq
  (.ops false [
    ⟨⟨(some 2), .assign (.const (.bool false)), 4, "", ⟨[]⟩, none⟩, none, false⟩])
  (.seq
   (.ops false [
     ⟨⟨(some 3), .move (.tmp 0), 5, "", ⟨[]⟩, none⟩, none, false⟩,
     ⟨⟨(some 4), .binOp .leq 5 (.const (.int .u8 48)) (.tmp 3) 5, 4, "", ⟨[]⟩, none⟩, none, false⟩,
     ⟨⟨(some 5), .move (.tmp 4), 4, "", ⟨[]⟩, none⟩, none, false⟩,
     ⟨⟨(some 6), .move (.tmp 0), 5, "", ⟨[]⟩, none⟩, some ((some 5), true), false⟩,
     ⟨⟨(some 7), .binOp .leq 5 (.tmp 6) (.const (.int .u8 57)) 5, 4, "", ⟨[]⟩, none⟩, some ((some 5), true), false⟩,
     ⟨⟨(some 8), .pick (.tmp 5) (.tmp 7) (.const (.bool false)), 4, "", ⟨[]⟩, none⟩, none, false⟩,
     ⟨⟨(some 2), .assign (.tmp 8), 4, "", ⟨[]⟩, none⟩, none, false⟩])
   .ret))
theorem Try.s4_eq : Try.f4.body.map sOf = some Try.s4 := by kernel_rfl
theorem Try.s10_eq : Try.f10.body.map sOf = some Try.s10 := by kernel_rfl
theorem Try.s20_eq : Try.f20.body.map sOf = some Try.s20 := by kernel_rfl
theorem Try.s21_eq : Try.f21.body.map sOf = some Try.s21 := by kernel_rfl
theorem Try.s22_eq : Try.f22.body.map sOf = some Try.s22 := by kernel_rfl
theorem Try.s57_eq : Try.f57.body.map sOf = some Try.s57 := by kernel_rfl
theorem Try.s58_eq : Try.f58.body.map sOf = some Try.s58 := by kernel_rfl
theorem Try.s59_eq : Try.f59.body.map sOf = some Try.s59 := by kernel_rfl
theorem Try.s60_eq : Try.f60.body.map sOf = some Try.s60 := by kernel_rfl
theorem Try.s61_eq : Try.f61.body.map sOf = some Try.s61 := by kernel_rfl
theorem Try.s62_eq : Try.f62.body.map sOf = some Try.s62 := by kernel_rfl
theorem Try.s63_eq : Try.f63.body.map sOf = some Try.s63 := by kernel_rfl
theorem Try.s64_eq : Try.f64.body.map sOf = some Try.s64 := by kernel_rfl
theorem Try.s95_eq : Try.f95.body.map sOf = some Try.s95 := by kernel_rfl
theorem Try.s96_eq : Try.f96.body.map sOf = some Try.s96 := by kernel_rfl
theorem Try.s115_eq : Try.f115.body.map sOf = some Try.s115 := by kernel_rfl
theorem Try.s116_eq : Try.f116.body.map sOf = some Try.s116 := by kernel_rfl
end Go.Proofs
