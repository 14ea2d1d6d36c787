/- The stripped code of the laws on loans. -/
import Derived.Test.YtdbeiefgokocnaaTa
import Derived.Test.YtdbeiefgokocnaaNa
set_option linter.unusedVariables false
set_option linter.unusedSimpArgs false
/- Functions' code, as the machine reads it. -/
namespace Go.Proofs
open Go Go.RowKit Go.Sim
set_option maxRecDepth 100000
def Try.s8 : SC :=
 (.seq
  (.ops false [
    ⟨⟨(some 3), .box 56 (.tmp 0), 0, "", ⟨[]⟩, none⟩, none, false⟩,
    ⟨⟨(some 6), .assign (.const (.bool false)), 4, "", ⟨[]⟩, none⟩, none, false⟩])
  (.seq
   (.ops false [
     ⟨⟨(some 21), .load 56 (.tmp 3), 56, "", ⟨[]⟩, none⟩, none, false⟩,
     ⟨⟨(some 22), .move (.tmp 1), 68, "", ⟨[]⟩, none⟩, none, false⟩,
     ⟨⟨(some 23), .move (.tmp 2), 3, "", ⟨[]⟩, none⟩, none, false⟩,
     ⟨⟨(some 24), .call ⟨.value (.func 35), ⟨[(.tmp 21), (.tmp 22), (.tmp 23)]⟩, ⟨[56, 68, 3]⟩⟩, 71, "", ⟨[]⟩, none⟩, none, false⟩,
     ⟨⟨(some 20), .move (.tmp 24), 71, "", ⟨[]⟩, none⟩, none, false⟩,
     ⟨⟨(some 25), .extract (.tmp 20) 0, 70, "", ⟨[]⟩, none⟩, none, false⟩,
     ⟨⟨(some 26), .extract (.tmp 20) 1, 30, "", ⟨[]⟩, none⟩, none, false⟩,
     ⟨⟨(some 7), .alloc 70, 0, "", ⟨[]⟩, none⟩, none, false⟩,
     ⟨⟨none, .store 70 (.tmp 7) (.tmp 25), 0, "", ⟨[]⟩, none⟩, none, false⟩,
     ⟨⟨(some 8), .assign (.tmp 26), 30, "", ⟨[]⟩, none⟩, none, false⟩])
   (.seq
    (.seq
     (.ops false [
       ⟨⟨(some 27), .move (.tmp 8), 30, "", ⟨[]⟩, none⟩, none, false⟩,
       ⟨⟨(some 28), .binOp .neq 30 (.tmp 27) (.const (.int .i64 0)) 30, 4, "", ⟨[]⟩, none⟩, none, false⟩])
     (.cond (.tmp 28)
      (.seq
       (.ops false [
         ⟨⟨(some 29), .load 70 (.tmp 7), 70, "", ⟨[]⟩, none⟩, none, false⟩,
         ⟨⟨(some 30), .build 70 ⟨[]⟩, 70, "", ⟨[]⟩, none⟩, none, false⟩,
         ⟨⟨(some 31), .binOp .eql 70 (.tmp 29) (.tmp 30) 70, 4, "", ⟨[]⟩, none⟩, none, false⟩,
         ⟨⟨(some 32), .move (.tmp 31), 4, "", ⟨[]⟩, none⟩, none, false⟩,
         ⟨⟨(some 33), .call ⟨.value (.func 21), ⟨[]⟩, ⟨[]⟩⟩, 4, "", ⟨[]⟩, none⟩, some ((some 32), true), false⟩,
         ⟨⟨(some 34), .pick (.tmp 32) (.tmp 33) (.const (.bool false)), 4, "", ⟨[]⟩, none⟩, none, false⟩,
         ⟨⟨(some 6), .assign (.tmp 34), 4, "", ⟨[]⟩, none⟩, none, false⟩])
       .ret)
      .skip))
    (.seq
     (.ops false [
       ⟨⟨(some 36), .load 56 (.tmp 3), 56, "", ⟨[]⟩, none⟩, none, false⟩,
       ⟨⟨(some 37), .move (.tmp 1), 68, "", ⟨[]⟩, none⟩, none, false⟩,
       ⟨⟨(some 38), .call ⟨.value (.func 36), ⟨[(.tmp 36), (.tmp 37)]⟩, ⟨[56, 68]⟩⟩, 74, "", ⟨[]⟩, none⟩, none, false⟩,
       ⟨⟨(some 35), .move (.tmp 38), 74, "", ⟨[]⟩, none⟩, none, false⟩,
       ⟨⟨(some 39), .extract (.tmp 35) 0, 73, "", ⟨[]⟩, none⟩, none, false⟩,
       ⟨⟨(some 40), .extract (.tmp 35) 1, 3, "", ⟨[]⟩, none⟩, none, false⟩,
       ⟨⟨(some 41), .extract (.tmp 35) 2, 30, "", ⟨[]⟩, none⟩, none, false⟩,
       ⟨⟨(some 9), .assign (.tmp 39), 73, "", ⟨[]⟩, none⟩, none, false⟩,
       ⟨⟨(some 10), .assign (.tmp 40), 3, "", ⟨[]⟩, none⟩, none, false⟩,
       ⟨⟨(some 8), .assign (.tmp 41), 30, "", ⟨[]⟩, none⟩, none, false⟩])
     (.seq
      (.seq
       (.ops false [
         ⟨⟨(some 42), .move (.tmp 8), 30, "", ⟨[]⟩, none⟩, none, false⟩,
         ⟨⟨(some 43), .binOp .neq 30 (.tmp 42) (.const (.int .i64 0)) 30, 4, "", ⟨[]⟩, none⟩, none, false⟩,
         ⟨⟨(some 44), .move (.tmp 43), 4, "", ⟨[]⟩, none⟩, none, false⟩,
         ⟨⟨(some 45), .move (.tmp 10), 3, "", ⟨[]⟩, none⟩, some ((some 44), false), false⟩,
         ⟨⟨(some 46), .move (.tmp 1), 68, "", ⟨[]⟩, none⟩, some ((some 44), false), false⟩,
         ⟨⟨(some 47), .call ⟨.builtin .len, ⟨[(.tmp 46)]⟩, ⟨[68]⟩⟩, 3, "", ⟨[]⟩, none⟩, some ((some 44), false), false⟩,
         ⟨⟨(some 48), .binOp .neq 3 (.tmp 45) (.tmp 47) 3, 4, "", ⟨[]⟩, none⟩, some ((some 44), false), false⟩,
         ⟨⟨(some 49), .pick (.tmp 44) (.const (.bool true)) (.tmp 48), 4, "", ⟨[]⟩, none⟩, none, false⟩,
         ⟨⟨(some 50), .move (.tmp 49), 4, "", ⟨[]⟩, none⟩, none, false⟩,
         ⟨⟨(some 51), .move (.tmp 9), 73, "", ⟨[]⟩, none⟩, some ((some 50), false), false⟩,
         ⟨⟨(some 52), .call ⟨.builtin .len, ⟨[(.tmp 51)]⟩, ⟨[73]⟩⟩, 3, "", ⟨[]⟩, none⟩, some ((some 50), false), false⟩,
         ⟨⟨(some 53), .move (.tmp 1), 68, "", ⟨[]⟩, none⟩, some ((some 50), false), false⟩,
         ⟨⟨(some 54), .call ⟨.builtin .len, ⟨[(.tmp 53)]⟩, ⟨[68]⟩⟩, 3, "", ⟨[]⟩, none⟩, some ((some 50), false), false⟩,
         ⟨⟨(some 55), .binOp .neq 3 (.tmp 52) (.tmp 54) 3, 4, "", ⟨[]⟩, none⟩, some ((some 50), false), false⟩,
         ⟨⟨(some 56), .pick (.tmp 50) (.const (.bool true)) (.tmp 55), 4, "", ⟨[]⟩, none⟩, none, false⟩,
         ⟨⟨(some 57), .move (.tmp 56), 4, "", ⟨[]⟩, none⟩, none, false⟩,
         ⟨⟨(some 58), .fieldAddr 56 (.tmp 3) 0, 0, "", ⟨[]⟩, none⟩, some ((some 57), false), false⟩,
         ⟨⟨(some 59), .fieldAddr 52 (.tmp 58) 0, 0, "", ⟨[]⟩, none⟩, some ((some 57), false), false⟩,
         ⟨⟨(some 60), .load 3 (.tmp 59), 3, "", ⟨[]⟩, none⟩, some ((some 57), false), false⟩,
         ⟨⟨(some 61), .call ⟨.value (.func 32), ⟨[(.const (.int .i64 0)), (.tmp 60), (.const (.int .i64 10000))]⟩, ⟨[3, 3, 3]⟩⟩, 4, "", ⟨[]⟩, none⟩, some ((some 57), false), false⟩,
         ⟨⟨(some 62), .unOp .not 4 (.tmp 61), 4, "", ⟨[]⟩, none⟩, some ((some 57), false), false⟩,
         ⟨⟨(some 63), .pick (.tmp 57) (.const (.bool true)) (.tmp 62), 4, "", ⟨[]⟩, none⟩, none, false⟩,
         ⟨⟨(some 64), .move (.tmp 63), 4, "", ⟨[]⟩, none⟩, none, false⟩,
         ⟨⟨(some 65), .fieldAddr 56 (.tmp 3) 0, 0, "", ⟨[]⟩, none⟩, some ((some 64), false), false⟩,
         ⟨⟨(some 66), .fieldAddr 52 (.tmp 65) 1, 0, "", ⟨[]⟩, none⟩, some ((some 64), false), false⟩,
         ⟨⟨(some 67), .load 3 (.tmp 66), 3, "", ⟨[]⟩, none⟩, some ((some 64), false), false⟩,
         ⟨⟨(some 68), .call ⟨.value (.func 32), ⟨[(.const (.int .i64 0)), (.tmp 67), (.const (.int .i64 64))]⟩, ⟨[3, 3, 3]⟩⟩, 4, "", ⟨[]⟩, none⟩, some ((some 64), false), false⟩,
         ⟨⟨(some 69), .unOp .not 4 (.tmp 68), 4, "", ⟨[]⟩, none⟩, some ((some 64), false), false⟩,
         ⟨⟨(some 70), .pick (.tmp 64) (.const (.bool true)) (.tmp 69), 4, "", ⟨[]⟩, none⟩, none, false⟩,
         ⟨⟨(some 71), .move (.tmp 70), 4, "", ⟨[]⟩, none⟩, none, false⟩,
         ⟨⟨(some 72), .move (.tmp 2), 3, "", ⟨[]⟩, none⟩, some ((some 71), false), false⟩,
         ⟨⟨(some 73), .call ⟨.value (.func 32), ⟨[(.const (.int .i64 0)), (.tmp 72), (.const (.int .i64 36500))]⟩, ⟨[3, 3, 3]⟩⟩, 4, "", ⟨[]⟩, none⟩, some ((some 71), false), false⟩,
         ⟨⟨(some 74), .unOp .not 4 (.tmp 73), 4, "", ⟨[]⟩, none⟩, some ((some 71), false), false⟩,
         ⟨⟨(some 75), .pick (.tmp 71) (.const (.bool true)) (.tmp 74), 4, "", ⟨[]⟩, none⟩, none, false⟩])
       (.cond (.tmp 75)
        (.seq
         (.ops false [
           ⟨⟨(some 6), .assign (.const (.bool false)), 4, "", ⟨[]⟩, none⟩, none, false⟩])
         .ret)
        .skip))
      (.seq
       (.ops false [
         ⟨⟨(some 76), .fieldAddr 56 (.tmp 3) 4, 0, "", ⟨[]⟩, none⟩, none, false⟩,
         ⟨⟨(some 77), .load 3 (.tmp 76), 3, "", ⟨[]⟩, none⟩, none, false⟩,
         ⟨⟨(some 11), .assign (.tmp 77), 3, "", ⟨[]⟩, none⟩, none, false⟩,
         ⟨⟨(some 12), .assign (.const (.int .i64 0)), 3, "", ⟨[]⟩, none⟩, none, false⟩,
         ⟨⟨(some 13), .assign (.const (.int .i64 0)), 3, "", ⟨[]⟩, none⟩, none, false⟩,
         ⟨⟨(some 14), .assign (.const (.bool true)), 4, "", ⟨[]⟩, none⟩, none, false⟩])
       (.seq
        (.ops false [
          ⟨⟨(some 78), .fieldAddr 56 (.tmp 3) 4, 0, "", ⟨[]⟩, none⟩, none, false⟩,
          ⟨⟨(some 79), .load 3 (.tmp 78), 3, "", ⟨[]⟩, none⟩, none, false⟩,
          ⟨⟨(some 80), .build 70 ⟨[(0, (.tmp 79)), (4, (.const (.bool true)))]⟩, 70, "", ⟨[]⟩, none⟩, none, false⟩,
          ⟨⟨(some 15), .alloc 70, 0, "", ⟨[]⟩, none⟩, none, false⟩,
          ⟨⟨none, .store 70 (.tmp 15) (.tmp 80), 0, "", ⟨[]⟩, none⟩, none, false⟩])
        (.seq
         (.seq
          (.ops false [
            ⟨⟨(some 81), .fieldAddr 56 (.tmp 3) 3, 0, "", ⟨[]⟩, none⟩, none, false⟩,
            ⟨⟨(some 82), .load 3 (.tmp 81), 3, "", ⟨[]⟩, none⟩, none, false⟩,
            ⟨⟨(some 83), .call ⟨.builtin .max, ⟨[(.const (.int .i64 0)), (.tmp 82)]⟩, ⟨[3, 3]⟩⟩, 3, "", ⟨[]⟩, none⟩, none, false⟩,
            ⟨⟨(some 16), .assign (.tmp 83), 3, "", ⟨[]⟩, none⟩, none, false⟩])
          (.block 0
           (.loop
            (.seq
             (.seq
              (.ops false [
                ⟨⟨(some 84), .move (.tmp 16), 3, "", ⟨[]⟩, none⟩, none, false⟩,
                ⟨⟨(some 85), .move (.tmp 2), 3, "", ⟨[]⟩, none⟩, none, false⟩,
                ⟨⟨(some 86), .binOp .leq 3 (.tmp 84) (.tmp 85) 3, 4, "", ⟨[]⟩, none⟩, none, false⟩])
              (.cond (.tmp 86)
               .skip
               (.exit 0)))
             (.seq
              (.block 1
               (.seq
                (.seq
                 (.ops false [
                   ⟨⟨(some 89), .move (.tmp 16), 3, "", ⟨[]⟩, none⟩, none, false⟩,
                   ⟨⟨(some 90), .fieldAddr 56 (.tmp 3) 3, 0, "", ⟨[]⟩, none⟩, none, false⟩,
                   ⟨⟨(some 91), .load 3 (.tmp 90), 3, "", ⟨[]⟩, none⟩, none, false⟩,
                   ⟨⟨(some 92), .binOp .gtr 3 (.tmp 89) (.tmp 91) 3, 4, "", ⟨[]⟩, none⟩, none, false⟩,
                   ⟨⟨(some 93), .move (.tmp 92), 4, "", ⟨[]⟩, none⟩, none, false⟩,
                   ⟨⟨(some 94), .move (.tmp 14), 4, "", ⟨[]⟩, none⟩, some ((some 93), true), false⟩,
                   ⟨⟨(some 95), .pick (.tmp 93) (.tmp 94) (.const (.bool false)), 4, "", ⟨[]⟩, none⟩, none, false⟩,
                   ⟨⟨(some 96), .move (.tmp 95), 4, "", ⟨[]⟩, none⟩, none, false⟩,
                   ⟨⟨(some 97), .fieldAddr 56 (.tmp 3) 2, 0, "", ⟨[]⟩, none⟩, some ((some 96), true), false⟩,
                   ⟨⟨(some 98), .load 23 (.tmp 97), 23, "", ⟨[]⟩, none⟩, some ((some 96), true), false⟩,
                   ⟨⟨(some 99), .move (.tmp 16), 3, "", ⟨[]⟩, none⟩, some ((some 96), true), false⟩,
                   ⟨⟨(some 100), .call ⟨.value (.func 37), ⟨[(.tmp 98), (.tmp 99)]⟩, ⟨[23, 3]⟩⟩, 3, "", ⟨[]⟩, none⟩, some ((some 96), true), false⟩,
                   ⟨⟨(some 101), .binOp .lss 3 (.tmp 100) (.const (.int .i64 0)) 3, 4, "", ⟨[]⟩, none⟩, some ((some 96), true), false⟩,
                   ⟨⟨(some 102), .pick (.tmp 96) (.tmp 101) (.const (.bool false)), 4, "", ⟨[]⟩, none⟩, none, false⟩,
                   ⟨⟨(some 103), .move (.tmp 102), 4, "", ⟨[]⟩, none⟩, none, false⟩,
                   ⟨⟨(some 104), .move (.tmp 1), 68, "", ⟨[]⟩, none⟩, some ((some 103), true), false⟩,
                   ⟨⟨(some 105), .move (.tmp 13), 3, "", ⟨[]⟩, none⟩, some ((some 103), true), false⟩,
                   ⟨⟨(some 106), .move (.tmp 16), 3, "", ⟨[]⟩, none⟩, some ((some 103), true), false⟩,
                   ⟨⟨(some 107), .call ⟨.value (.func 38), ⟨[(.tmp 104), (.tmp 105), (.tmp 106)]⟩, ⟨[68, 3, 3]⟩⟩, 4, "", ⟨[]⟩, none⟩, some ((some 103), true), false⟩,
                   ⟨⟨(some 108), .unOp .not 4 (.tmp 107), 4, "", ⟨[]⟩, none⟩, some ((some 103), true), false⟩,
                   ⟨⟨(some 109), .pick (.tmp 103) (.tmp 108) (.const (.bool false)), 4, "", ⟨[]⟩, none⟩, none, false⟩])
                 (.cond (.tmp 109)
                  (.ops false [
                    ⟨⟨(some 110), .move (.tmp 12), 3, "", ⟨[]⟩, none⟩, none, false⟩,
                    ⟨⟨(some 111), .move (.tmp 11), 3, "", ⟨[]⟩, none⟩, none, false⟩,
                    ⟨⟨(some 112), .binOp .add 3 (.tmp 110) (.tmp 111) 3, 3, "", ⟨[]⟩, none⟩, none, false⟩,
                    ⟨⟨(some 12), .assign (.tmp 112), 3, "", ⟨[]⟩, none⟩, none, false⟩])
                  .skip))
                (.seq
                 (.ops true [
                   ⟨⟨(some 113), .move (.tmp 12), 3, "", ⟨[]⟩, none⟩, none, true⟩,
                   ⟨⟨(some 114), .fieldAddr 56 (.tmp 3) 0, 0, "", ⟨[]⟩, none⟩, none, true⟩,
                   ⟨⟨(some 115), .fieldAddr 52 (.tmp 114) 0, 0, "", ⟨[]⟩, none⟩, none, true⟩,
                   ⟨⟨(some 116), .load 3 (.tmp 115), 3, "", ⟨[]⟩, none⟩, none, true⟩,
                   ⟨⟨(some 117), .binOp .mul 3 (.tmp 113) (.tmp 116) 3, 3, "", ⟨[]⟩, none⟩, none, true⟩,
                   ⟨⟨(some 119), .fieldAddr 56 (.tmp 3) 4, 0, "", ⟨[]⟩, none⟩, none, true⟩,
                   ⟨⟨(some 120), .load 3 (.tmp 119), 3, "", ⟨[]⟩, none⟩, none, true⟩,
                   ⟨⟨(some 121), .fieldAddr 56 (.tmp 3) 0, 0, "", ⟨[]⟩, none⟩, none, true⟩,
                   ⟨⟨(some 122), .fieldAddr 52 (.tmp 121) 1, 0, "", ⟨[]⟩, none⟩, none, true⟩,
                   ⟨⟨(some 123), .load 3 (.tmp 122), 3, "", ⟨[]⟩, none⟩, none, true⟩,
                   ⟨⟨(some 124), .binOp .mul 3 (.tmp 120) (.tmp 123) 3, 3, "", ⟨[]⟩, none⟩, none, true⟩,
                   ⟨⟨(some 118), .call ⟨.value (.func 34), ⟨[(.tmp 117), (.const (.int .i64 1000000))]⟩, ⟨[3, 3]⟩⟩, 3, "", ⟨[]⟩, none⟩, none, true⟩,
                   ⟨⟨(some 125), .call ⟨.value (.func 34), ⟨[(.tmp 124), (.const (.int .i64 64))]⟩, ⟨[3, 3]⟩⟩, 3, "", ⟨[]⟩, none⟩, none, false⟩,
                   ⟨⟨(some 126), .call ⟨.builtin .min, ⟨[(.tmp 118), (.tmp 125)]⟩, ⟨[3, 3]⟩⟩, 3, "", ⟨[]⟩, none⟩, none, true⟩,
                   ⟨⟨(some 17), .assign (.tmp 126), 3, "", ⟨[]⟩, none⟩, none, true⟩])
                 (.seq
                  (.block 2
                   (.loop
                    (.seq
                     (.seq
                      (.ops false [
                        ⟨⟨(some 127), .move (.tmp 13), 3, "", ⟨[]⟩, none⟩, none, false⟩,
                        ⟨⟨(some 128), .move (.tmp 1), 68, "", ⟨[]⟩, none⟩, none, false⟩,
                        ⟨⟨(some 129), .call ⟨.builtin .len, ⟨[(.tmp 128)]⟩, ⟨[68]⟩⟩, 3, "", ⟨[]⟩, none⟩, none, false⟩,
                        ⟨⟨(some 130), .binOp .lss 3 (.tmp 127) (.tmp 129) 3, 4, "", ⟨[]⟩, none⟩, none, false⟩,
                        ⟨⟨(some 131), .move (.tmp 130), 4, "", ⟨[]⟩, none⟩, none, false⟩,
                        ⟨⟨(some 132), .move (.tmp 1), 68, "", ⟨[]⟩, none⟩, some ((some 131), true), false⟩,
                        ⟨⟨(some 133), .move (.tmp 13), 3, "", ⟨[]⟩, none⟩, some ((some 131), true), false⟩,
                        ⟨⟨(some 134), .indexAddr 68 (.tmp 132) (.tmp 133), 0, "", ⟨[]⟩, none⟩, some ((some 131), true), false⟩,
                        ⟨⟨(some 135), .fieldAddr 79 (.tmp 134) 0, 0, "", ⟨[]⟩, none⟩, some ((some 131), true), false⟩,
                        ⟨⟨(some 136), .load 3 (.tmp 135), 3, "", ⟨[]⟩, none⟩, some ((some 131), true), false⟩,
                        ⟨⟨(some 137), .move (.tmp 16), 3, "", ⟨[]⟩, none⟩, some ((some 131), true), false⟩,
                        ⟨⟨(some 138), .binOp .eql 3 (.tmp 136) (.tmp 137) 3, 4, "", ⟨[]⟩, none⟩, some ((some 131), true), false⟩,
                        ⟨⟨(some 139), .pick (.tmp 131) (.tmp 138) (.const (.bool false)), 4, "", ⟨[]⟩, none⟩, none, false⟩])
                      (.cond (.tmp 139)
                       .skip
                       (.exit 2)))
                     (.block 3
                      (.seq
                       (.ops false [
                         ⟨⟨(some 140), .move (.tmp 9), 73, "", ⟨[]⟩, none⟩, none, false⟩,
                         ⟨⟨(some 141), .move (.tmp 13), 3, "", ⟨[]⟩, none⟩, none, false⟩,
                         ⟨⟨(some 142), .indexAddr 73 (.tmp 140) (.tmp 141), 0, "", ⟨[]⟩, none⟩, none, false⟩,
                         ⟨⟨(some 143), .load 70 (.tmp 142), 70, "", ⟨[]⟩, none⟩, none, false⟩,
                         ⟨⟨(some 18), .alloc 70, 0, "", ⟨[]⟩, none⟩, none, false⟩,
                         ⟨⟨none, .store 70 (.tmp 18) (.tmp 143), 0, "", ⟨[]⟩, none⟩, none, false⟩])
                       (.seq
                        (.seq
                         (.ops false [
                           ⟨⟨(some 144), .fieldAddr 70 (.tmp 18) 1, 0, "", ⟨[]⟩, none⟩, none, false⟩,
                           ⟨⟨(some 145), .load 3 (.tmp 144), 3, "", ⟨[]⟩, none⟩, none, false⟩,
                           ⟨⟨(some 146), .move (.tmp 17), 3, "", ⟨[]⟩, none⟩, none, false⟩,
                           ⟨⟨(some 147), .binOp .gtr 3 (.tmp 145) (.tmp 146) 3, 4, "", ⟨[]⟩, none⟩, none, false⟩,
                           ⟨⟨(some 148), .move (.tmp 147), 4, "", ⟨[]⟩, none⟩, none, false⟩,
                           ⟨⟨(some 149), .fieldAddr 70 (.tmp 18) 1, 0, "", ⟨[]⟩, none⟩, some ((some 148), false), false⟩,
                           ⟨⟨(some 150), .load 3 (.tmp 149), 3, "", ⟨[]⟩, none⟩, some ((some 148), false), false⟩,
                           ⟨⟨(some 151), .fieldAddr 70 (.tmp 15) 1, 0, "", ⟨[]⟩, none⟩, some ((some 148), false), false⟩,
                           ⟨⟨(some 152), .load 3 (.tmp 151), 3, "", ⟨[]⟩, none⟩, some ((some 148), false), false⟩,
                           ⟨⟨(some 153), .binOp .lss 3 (.tmp 150) (.tmp 152) 3, 4, "", ⟨[]⟩, none⟩, some ((some 148), false), false⟩,
                           ⟨⟨(some 154), .pick (.tmp 148) (.const (.bool true)) (.tmp 153), 4, "", ⟨[]⟩, none⟩, none, false⟩,
                           ⟨⟨(some 155), .move (.tmp 154), 4, "", ⟨[]⟩, none⟩, none, false⟩,
                           ⟨⟨(some 156), .fieldAddr 70 (.tmp 18) 2, 0, "", ⟨[]⟩, none⟩, some ((some 155), false), false⟩,
                           ⟨⟨(some 157), .load 3 (.tmp 156), 3, "", ⟨[]⟩, none⟩, some ((some 155), false), false⟩,
                           ⟨⟨(some 158), .fieldAddr 70 (.tmp 18) 1, 0, "", ⟨[]⟩, none⟩, some ((some 155), false), false⟩,
                           ⟨⟨(some 159), .load 3 (.tmp 158), 3, "", ⟨[]⟩, none⟩, some ((some 155), false), false⟩,
                           ⟨⟨(some 160), .binOp .gtr 3 (.tmp 157) (.tmp 159) 3, 4, "", ⟨[]⟩, none⟩, some ((some 155), false), false⟩,
                           ⟨⟨(some 161), .pick (.tmp 155) (.const (.bool true)) (.tmp 160), 4, "", ⟨[]⟩, none⟩, none, false⟩,
                           ⟨⟨(some 162), .move (.tmp 161), 4, "", ⟨[]⟩, none⟩, none, false⟩,
                           ⟨⟨(some 163), .fieldAddr 70 (.tmp 18) 2, 0, "", ⟨[]⟩, none⟩, some ((some 162), false), false⟩,
                           ⟨⟨(some 164), .load 3 (.tmp 163), 3, "", ⟨[]⟩, none⟩, some ((some 162), false), false⟩,
                           ⟨⟨(some 165), .fieldAddr 70 (.tmp 15) 2, 0, "", ⟨[]⟩, none⟩, some ((some 162), false), false⟩,
                           ⟨⟨(some 166), .load 3 (.tmp 165), 3, "", ⟨[]⟩, none⟩, some ((some 162), false), false⟩,
                           ⟨⟨(some 167), .binOp .lss 3 (.tmp 164) (.tmp 166) 3, 4, "", ⟨[]⟩, none⟩, some ((some 162), false), false⟩,
                           ⟨⟨(some 168), .pick (.tmp 162) (.const (.bool true)) (.tmp 167), 4, "", ⟨[]⟩, none⟩, none, false⟩,
                           ⟨⟨(some 169), .move (.tmp 168), 4, "", ⟨[]⟩, none⟩, none, false⟩,
                           ⟨⟨(some 170), .fieldAddr 70 (.tmp 18) 0, 0, "", ⟨[]⟩, none⟩, some ((some 169), false), false⟩,
                           ⟨⟨(some 171), .load 3 (.tmp 170), 3, "", ⟨[]⟩, none⟩, some ((some 169), false), false⟩,
                           ⟨⟨(some 172), .fieldAddr 70 (.tmp 15) 0, 0, "", ⟨[]⟩, none⟩, some ((some 169), false), false⟩,
                           ⟨⟨(some 173), .load 3 (.tmp 172), 3, "", ⟨[]⟩, none⟩, some ((some 169), false), false⟩,
                           ⟨⟨(some 174), .call ⟨.value (.func 32), ⟨[(.const (.int .i64 0)), (.tmp 171), (.tmp 173)]⟩, ⟨[3, 3, 3]⟩⟩, 4, "", ⟨[]⟩, none⟩, some ((some 169), false), false⟩,
                           ⟨⟨(some 175), .unOp .not 4 (.tmp 174), 4, "", ⟨[]⟩, none⟩, some ((some 169), false), false⟩,
                           ⟨⟨(some 176), .pick (.tmp 169) (.const (.bool true)) (.tmp 175), 4, "", ⟨[]⟩, none⟩, none, false⟩,
                           ⟨⟨(some 177), .move (.tmp 176), 4, "", ⟨[]⟩, none⟩, none, false⟩,
                           ⟨⟨(some 178), .fieldAddr 70 (.tmp 15) 4, 0, "", ⟨[]⟩, none⟩, some ((some 177), false), false⟩,
                           ⟨⟨(some 179), .load 4 (.tmp 178), 4, "", ⟨[]⟩, none⟩, some ((some 177), false), false⟩,
                           ⟨⟨(some 180), .unOp .not 4 (.tmp 179), 4, "", ⟨[]⟩, none⟩, some ((some 177), false), false⟩,
                           ⟨⟨(some 181), .pick (.tmp 177) (.const (.bool true)) (.tmp 180), 4, "", ⟨[]⟩, none⟩, none, false⟩])
                         (.cond (.tmp 181)
                          (.seq
                           (.ops false [
                             ⟨⟨(some 6), .assign (.const (.bool false)), 4, "", ⟨[]⟩, none⟩, none, false⟩])
                           .ret)
                          .skip))
                        (.seq
                         (.ops true [
                           ⟨⟨(some 182), .fieldAddr 70 (.tmp 18) 0, 0, "", ⟨[]⟩, none⟩, none, true⟩,
                           ⟨⟨(some 183), .load 3 (.tmp 182), 3, "", ⟨[]⟩, none⟩, none, true⟩,
                           ⟨⟨(some 184), .fieldAddr 70 (.tmp 18) 4, 0, "", ⟨[]⟩, none⟩, none, true⟩,
                           ⟨⟨(some 185), .load 4 (.tmp 184), 4, "", ⟨[]⟩, none⟩, none, true⟩,
                           ⟨⟨(some 186), .load 70 (.tmp 18), 70, "", ⟨[]⟩, none⟩, none, true⟩,
                           ⟨⟨(some 11), .assign (.tmp 183), 3, "", ⟨[]⟩, none⟩, none, true⟩,
                           ⟨⟨(some 14), .assign (.tmp 185), 4, "", ⟨[]⟩, none⟩, none, true⟩,
                           ⟨⟨none, .store 70 (.tmp 15) (.tmp 186), 0, "", ⟨[]⟩, none⟩, none, false⟩])
                         (.ops false [
                           ⟨⟨(some 187), .move (.tmp 13), 3, "", ⟨[]⟩, none⟩, none, false⟩,
                           ⟨⟨(some 188), .binOp .add 3 (.tmp 187) (.const (.int .i64 1)) 3, 3, "", ⟨[]⟩, none⟩, none, false⟩,
                           ⟨⟨(some 13), .assign (.tmp 188), 3, "", ⟨[]⟩, none⟩, none, false⟩]))))))))
                  (.seq
                   (.ops false [
                     ⟨⟨(some 189), .move (.tmp 16), 3, "", ⟨[]⟩, none⟩, none, false⟩,
                     ⟨⟨(some 190), .move (.tmp 2), 3, "", ⟨[]⟩, none⟩, none, false⟩,
                     ⟨⟨(some 191), .binOp .eql 3 (.tmp 189) (.tmp 190) 3, 4, "", ⟨[]⟩, none⟩, none, false⟩,
                     ⟨⟨(some 192), .move (.tmp 191), 4, "", ⟨[]⟩, none⟩, none, false⟩,
                     ⟨⟨(some 193), .fieldAddr 70 (.tmp 7) 1, 0, "", ⟨[]⟩, none⟩, some ((some 192), true), false⟩,
                     ⟨⟨(some 194), .load 3 (.tmp 193), 3, "", ⟨[]⟩, none⟩, some ((some 192), true), false⟩,
                     ⟨⟨(some 195), .move (.tmp 17), 3, "", ⟨[]⟩, none⟩, some ((some 192), true), false⟩,
                     ⟨⟨(some 196), .binOp .gtr 3 (.tmp 194) (.tmp 195) 3, 4, "", ⟨[]⟩, none⟩, some ((some 192), true), false⟩,
                     ⟨⟨(some 197), .move (.tmp 196), 4, "", ⟨[]⟩, none⟩, some ((some 192), true), false⟩,
                     ⟨⟨(some 198), .fieldAddr 70 (.tmp 7) 1, 0, "", ⟨[]⟩, none⟩, some ((some 197), false), false⟩,
                     ⟨⟨(some 199), .load 3 (.tmp 198), 3, "", ⟨[]⟩, none⟩, some ((some 197), false), false⟩,
                     ⟨⟨(some 200), .fieldAddr 70 (.tmp 15) 1, 0, "", ⟨[]⟩, none⟩, some ((some 197), false), false⟩,
                     ⟨⟨(some 201), .load 3 (.tmp 200), 3, "", ⟨[]⟩, none⟩, some ((some 197), false), false⟩,
                     ⟨⟨(some 202), .binOp .lss 3 (.tmp 199) (.tmp 201) 3, 4, "", ⟨[]⟩, none⟩, some ((some 197), false), false⟩,
                     ⟨⟨(some 203), .pick (.tmp 197) (.const (.bool true)) (.tmp 202), 4, "", ⟨[]⟩, none⟩, some ((some 192), true), false⟩,
                     ⟨⟨(some 204), .move (.tmp 203), 4, "", ⟨[]⟩, none⟩, some ((some 192), true), false⟩,
                     ⟨⟨(some 205), .fieldAddr 70 (.tmp 7) 2, 0, "", ⟨[]⟩, none⟩, some ((some 204), false), false⟩,
                     ⟨⟨(some 206), .load 3 (.tmp 205), 3, "", ⟨[]⟩, none⟩, some ((some 204), false), false⟩,
                     ⟨⟨(some 207), .fieldAddr 70 (.tmp 15) 2, 0, "", ⟨[]⟩, none⟩, some ((some 204), false), false⟩,
                     ⟨⟨(some 208), .load 3 (.tmp 207), 3, "", ⟨[]⟩, none⟩, some ((some 204), false), false⟩,
                     ⟨⟨(some 209), .binOp .neq 3 (.tmp 206) (.tmp 208) 3, 4, "", ⟨[]⟩, none⟩, some ((some 204), false), false⟩,
                     ⟨⟨(some 210), .pick (.tmp 204) (.const (.bool true)) (.tmp 209), 4, "", ⟨[]⟩, none⟩, some ((some 192), true), false⟩,
                     ⟨⟨(some 211), .move (.tmp 210), 4, "", ⟨[]⟩, none⟩, some ((some 192), true), false⟩,
                     ⟨⟨(some 212), .fieldAddr 70 (.tmp 7) 0, 0, "", ⟨[]⟩, none⟩, some ((some 211), false), false⟩,
                     ⟨⟨(some 213), .load 3 (.tmp 212), 3, "", ⟨[]⟩, none⟩, some ((some 211), false), false⟩,
                     ⟨⟨(some 214), .fieldAddr 70 (.tmp 15) 0, 0, "", ⟨[]⟩, none⟩, some ((some 211), false), false⟩,
                     ⟨⟨(some 215), .load 3 (.tmp 214), 3, "", ⟨[]⟩, none⟩, some ((some 211), false), false⟩,
                     ⟨⟨(some 216), .binOp .neq 3 (.tmp 213) (.tmp 215) 3, 4, "", ⟨[]⟩, none⟩, some ((some 211), false), false⟩,
                     ⟨⟨(some 217), .pick (.tmp 211) (.const (.bool true)) (.tmp 216), 4, "", ⟨[]⟩, none⟩, some ((some 192), true), false⟩,
                     ⟨⟨(some 218), .move (.tmp 217), 4, "", ⟨[]⟩, none⟩, some ((some 192), true), false⟩,
                     ⟨⟨(some 219), .fieldAddr 70 (.tmp 7) 4, 0, "", ⟨[]⟩, none⟩, some ((some 218), false), false⟩,
                     ⟨⟨(some 220), .load 4 (.tmp 219), 4, "", ⟨[]⟩, none⟩, some ((some 218), false), false⟩,
                     ⟨⟨(some 221), .fieldAddr 70 (.tmp 15) 4, 0, "", ⟨[]⟩, none⟩, some ((some 218), false), false⟩,
                     ⟨⟨(some 222), .load 4 (.tmp 221), 4, "", ⟨[]⟩, none⟩, some ((some 218), false), false⟩,
                     ⟨⟨(some 223), .binOp .neq 4 (.tmp 220) (.tmp 222) 4, 4, "", ⟨[]⟩, none⟩, some ((some 218), false), false⟩,
                     ⟨⟨(some 224), .pick (.tmp 218) (.const (.bool true)) (.tmp 223), 4, "", ⟨[]⟩, none⟩, some ((some 192), true), false⟩,
                     ⟨⟨(some 225), .pick (.tmp 192) (.tmp 224) (.const (.bool false)), 4, "", ⟨[]⟩, none⟩, none, false⟩])
                   (.cond (.tmp 225)
                    (.seq
                     (.ops false [
                       ⟨⟨(some 6), .assign (.const (.bool false)), 4, "", ⟨[]⟩, none⟩, none, false⟩])
                     .ret)
                    .skip))))))
              (.ops false [
                ⟨⟨(some 87), .move (.tmp 16), 3, "", ⟨[]⟩, none⟩, none, false⟩,
                ⟨⟨(some 88), .binOp .add 3 (.tmp 87) (.const (.int .i64 1)) 3, 3, "", ⟨[]⟩, none⟩, none, false⟩,
                ⟨⟨(some 16), .assign (.tmp 88), 3, "", ⟨[]⟩, none⟩, none, false⟩]))))))
         (.seq
          (.ops false [
            ⟨⟨(some 227), .load 56 (.tmp 3), 56, "", ⟨[]⟩, none⟩, none, false⟩,
            ⟨⟨(some 228), .move (.tmp 1), 68, "", ⟨[]⟩, none⟩, none, false⟩,
            ⟨⟨(some 229), .move (.tmp 2), 3, "", ⟨[]⟩, none⟩, none, false⟩,
            ⟨⟨(some 230), .call ⟨.value (.func 39), ⟨[(.tmp 227), (.tmp 228), (.tmp 229)]⟩, ⟨[56, 68, 3]⟩⟩, 44, "", ⟨[]⟩, none⟩, none, false⟩,
            ⟨⟨(some 226), .move (.tmp 230), 44, "", ⟨[]⟩, none⟩, none, false⟩,
            ⟨⟨(some 231), .extract (.tmp 226) 0, 3, "", ⟨[]⟩, none⟩, none, false⟩,
            ⟨⟨(some 232), .extract (.tmp 226) 1, 30, "", ⟨[]⟩, none⟩, none, false⟩,
            ⟨⟨(some 19), .assign (.tmp 231), 3, "", ⟨[]⟩, none⟩, none, false⟩,
            ⟨⟨(some 8), .assign (.tmp 232), 30, "", ⟨[]⟩, none⟩, none, false⟩])
          (.seq
           (.ops true [
             ⟨⟨(some 233), .move (.tmp 13), 3, "", ⟨[]⟩, none⟩, none, true⟩,
             ⟨⟨(some 234), .move (.tmp 1), 68, "", ⟨[]⟩, none⟩, none, true⟩,
             ⟨⟨(some 235), .call ⟨.builtin .len, ⟨[(.tmp 234)]⟩, ⟨[68]⟩⟩, 3, "", ⟨[]⟩, none⟩, none, true⟩,
             ⟨⟨(some 236), .binOp .eql 3 (.tmp 233) (.tmp 235) 3, 4, "", ⟨[]⟩, none⟩, none, true⟩,
             ⟨⟨(some 237), .move (.tmp 236), 4, "", ⟨[]⟩, none⟩, none, true⟩,
             ⟨⟨(some 238), .move (.tmp 8), 30, "", ⟨[]⟩, none⟩, some ((some 237), true), true⟩,
             ⟨⟨(some 239), .binOp .eql 30 (.tmp 238) (.const (.int .i64 0)) 30, 4, "", ⟨[]⟩, none⟩, some ((some 237), true), true⟩,
             ⟨⟨(some 240), .pick (.tmp 237) (.tmp 239) (.const (.bool false)), 4, "", ⟨[]⟩, none⟩, none, true⟩,
             ⟨⟨(some 241), .move (.tmp 240), 4, "", ⟨[]⟩, none⟩, none, true⟩,
             ⟨⟨(some 242), .move (.tmp 19), 3, "", ⟨[]⟩, none⟩, some ((some 241), true), true⟩,
             ⟨⟨(some 243), .move (.tmp 12), 3, "", ⟨[]⟩, none⟩, some ((some 241), true), true⟩,
             ⟨⟨(some 244), .fieldAddr 56 (.tmp 3) 0, 0, "", ⟨[]⟩, none⟩, some ((some 241), true), true⟩,
             ⟨⟨(some 245), .fieldAddr 52 (.tmp 244) 0, 0, "", ⟨[]⟩, none⟩, some ((some 241), true), true⟩,
             ⟨⟨(some 246), .load 3 (.tmp 245), 3, "", ⟨[]⟩, none⟩, some ((some 241), true), true⟩,
             ⟨⟨(some 247), .binOp .mul 3 (.tmp 243) (.tmp 246) 3, 3, "", ⟨[]⟩, none⟩, some ((some 241), true), true⟩,
             ⟨⟨(some 249), .fieldAddr 56 (.tmp 3) 4, 0, "", ⟨[]⟩, none⟩, some ((some 241), true), true⟩,
             ⟨⟨(some 250), .load 3 (.tmp 249), 3, "", ⟨[]⟩, none⟩, some ((some 241), true), true⟩,
             ⟨⟨(some 251), .fieldAddr 56 (.tmp 3) 0, 0, "", ⟨[]⟩, none⟩, some ((some 241), true), true⟩,
             ⟨⟨(some 252), .fieldAddr 52 (.tmp 251) 1, 0, "", ⟨[]⟩, none⟩, some ((some 241), true), true⟩,
             ⟨⟨(some 253), .load 3 (.tmp 252), 3, "", ⟨[]⟩, none⟩, some ((some 241), true), true⟩,
             ⟨⟨(some 254), .binOp .mul 3 (.tmp 250) (.tmp 253) 3, 3, "", ⟨[]⟩, none⟩, some ((some 241), true), true⟩,
             ⟨⟨(some 248), .call ⟨.value (.func 34), ⟨[(.tmp 247), (.const (.int .i64 1000000))]⟩, ⟨[3, 3]⟩⟩, 3, "", ⟨[]⟩, none⟩, some ((some 241), true), true⟩,
             ⟨⟨(some 255), .call ⟨.value (.func 34), ⟨[(.tmp 254), (.const (.int .i64 64))]⟩, ⟨[3, 3]⟩⟩, 3, "", ⟨[]⟩, none⟩, some ((some 241), true), true⟩,
             ⟨⟨(some 256), .call ⟨.builtin .min, ⟨[(.tmp 248), (.tmp 255)]⟩, ⟨[3, 3]⟩⟩, 3, "", ⟨[]⟩, none⟩, some ((some 241), true), true⟩,
             ⟨⟨(some 257), .binOp .eql 3 (.tmp 242) (.tmp 256) 3, 4, "", ⟨[]⟩, none⟩, some ((some 241), true), true⟩,
             ⟨⟨(some 258), .pick (.tmp 241) (.tmp 257) (.const (.bool false)), 4, "", ⟨[]⟩, none⟩, none, true⟩,
             ⟨⟨(some 259), .move (.tmp 258), 4, "", ⟨[]⟩, none⟩, none, true⟩,
             ⟨⟨(some 260), .call ⟨.value (.func 21), ⟨[]⟩, ⟨[]⟩⟩, 4, "", ⟨[]⟩, none⟩, some ((some 259), true), false⟩,
             ⟨⟨(some 261), .pick (.tmp 259) (.tmp 260) (.const (.bool false)), 4, "", ⟨[]⟩, none⟩, none, true⟩,
             ⟨⟨(some 6), .assign (.tmp 261), 4, "", ⟨[]⟩, none⟩, none, true⟩])
           .ret))))))))))
def Try.s9_c185 : SC :=
 (.seq
                     (.ops true [
                       ⟨⟨(some 185), .move (.tmp 14), 30, "", ⟨[]⟩, none⟩, none, true⟩,
                       ⟨⟨(some 186), .binOp .eql 30 (.tmp 185) (.const (.int .i64 0)) 30, 4, "", ⟨[]⟩, none⟩, none, true⟩,
                       ⟨⟨(some 187), .move (.tmp 186), 4, "", ⟨[]⟩, none⟩, none, true⟩,
                       ⟨⟨(some 188), .move (.tmp 20), 73, "", ⟨[]⟩, none⟩, some ((some 187), true), true⟩,
                       ⟨⟨(some 189), .call ⟨.builtin .len, ⟨[(.tmp 188)]⟩, ⟨[73]⟩⟩, 3, "", ⟨[]⟩, none⟩, some ((some 187), true), true⟩,
                       ⟨⟨(some 190), .move (.tmp 17), 68, "", ⟨[]⟩, none⟩, some ((some 187), true), true⟩,
                       ⟨⟨(some 191), .call ⟨.builtin .len, ⟨[(.tmp 190)]⟩, ⟨[68]⟩⟩, 3, "", ⟨[]⟩, none⟩, some ((some 187), true), true⟩,
                       ⟨⟨(some 192), .binOp .eql 3 (.tmp 189) (.tmp 191) 3, 4, "", ⟨[]⟩, none⟩, some ((some 187), true), true⟩,
                       ⟨⟨(some 193), .pick (.tmp 187) (.tmp 192) (.const (.bool false)), 4, "", ⟨[]⟩, none⟩, none, true⟩,
                       ⟨⟨(some 194), .move (.tmp 193), 4, "", ⟨[]⟩, none⟩, none, true⟩,
                       ⟨⟨(some 195), .move (.tmp 22), 73, "", ⟨[]⟩, none⟩, some ((some 194), true), true⟩,
                       ⟨⟨(some 196), .call ⟨.builtin .len, ⟨[(.tmp 195)]⟩, ⟨[73]⟩⟩, 3, "", ⟨[]⟩, none⟩, some ((some 194), true), true⟩,
                       ⟨⟨(some 197), .move (.tmp 19), 68, "", ⟨[]⟩, none⟩, some ((some 194), true), true⟩,
                       ⟨⟨(some 198), .call ⟨.builtin .len, ⟨[(.tmp 197)]⟩, ⟨[68]⟩⟩, 3, "", ⟨[]⟩, none⟩, some ((some 194), true), true⟩,
                       ⟨⟨(some 199), .binOp .eql 3 (.tmp 196) (.tmp 198) 3, 4, "", ⟨[]⟩, none⟩, some ((some 194), true), true⟩,
                       ⟨⟨(some 200), .pick (.tmp 194) (.tmp 199) (.const (.bool false)), 4, "", ⟨[]⟩, none⟩, none, true⟩,
                       ⟨⟨(some 201), .move (.tmp 200), 4, "", ⟨[]⟩, none⟩, none, true⟩,
                       ⟨⟨(some 202), .move (.tmp 20), 73, "", ⟨[]⟩, none⟩, some ((some 201), true), true⟩,
                       ⟨⟨(some 203), .move (.tmp 20), 73, "", ⟨[]⟩, none⟩, some ((some 201), true), true⟩,
                       ⟨⟨(some 204), .call ⟨.builtin .len, ⟨[(.tmp 203)]⟩, ⟨[73]⟩⟩, 3, "", ⟨[]⟩, none⟩, some ((some 201), true), true⟩,
                       ⟨⟨(some 205), .binOp .sub 3 (.tmp 204) (.const (.int .i64 1)) 3, 3, "", ⟨[]⟩, none⟩, some ((some 201), true), true⟩,
                       ⟨⟨(some 206), .indexAddr 73 (.tmp 202) (.tmp 205), 0, "", ⟨[]⟩, none⟩, some ((some 201), true), true⟩,
                       ⟨⟨(some 207), .load 70 (.tmp 206), 70, "", ⟨[]⟩, none⟩, some ((some 201), true), true⟩,
                       ⟨⟨(some 208), .move (.tmp 22), 73, "", ⟨[]⟩, none⟩, some ((some 201), true), true⟩,
                       ⟨⟨(some 209), .move (.tmp 22), 73, "", ⟨[]⟩, none⟩, some ((some 201), true), true⟩,
                       ⟨⟨(some 210), .call ⟨.builtin .len, ⟨[(.tmp 209)]⟩, ⟨[73]⟩⟩, 3, "", ⟨[]⟩, none⟩, some ((some 201), true), true⟩,
                       ⟨⟨(some 211), .binOp .sub 3 (.tmp 210) (.const (.int .i64 1)) 3, 3, "", ⟨[]⟩, none⟩, some ((some 201), true), true⟩,
                       ⟨⟨(some 212), .indexAddr 73 (.tmp 208) (.tmp 211), 0, "", ⟨[]⟩, none⟩, some ((some 201), true), true⟩,
                       ⟨⟨(some 213), .load 70 (.tmp 212), 70, "", ⟨[]⟩, none⟩, some ((some 201), true), true⟩,
                       ⟨⟨(some 214), .binOp .eql 70 (.tmp 207) (.tmp 213) 70, 4, "", ⟨[]⟩, none⟩, some ((some 201), true), true⟩,
                       ⟨⟨(some 215), .pick (.tmp 201) (.tmp 214) (.const (.bool false)), 4, "", ⟨[]⟩, none⟩, none, true⟩,
                       ⟨⟨(some 216), .move (.tmp 215), 4, "", ⟨[]⟩, none⟩, none, true⟩,
                       ⟨⟨(some 217), .call ⟨.value (.func 21), ⟨[]⟩, ⟨[]⟩⟩, 4, "", ⟨[]⟩, none⟩, some ((some 216), true), false⟩,
                       ⟨⟨(some 218), .pick (.tmp 216) (.tmp 217) (.const (.bool false)), 4, "", ⟨[]⟩, none⟩, none, true⟩,
                       ⟨⟨(some 6), .assign (.tmp 218), 4, "", ⟨[]⟩, none⟩, none, true⟩])
                     .ret)
def Try.s9_c123 : SC :=
 (.seq
              (.ops false [
                ⟨⟨(some 123), .indexAddr 59 (.tmp 5) (.const (.int .i64 1)), 0, "", ⟨[]⟩, none⟩, none, false⟩,
                ⟨⟨(some 124), .load 3 (.tmp 123), 3, "", ⟨[]⟩, none⟩, none, false⟩,
                ⟨⟨(some 125), .fieldAddr 56 (.tmp 3) 4, 0, "", ⟨[]⟩, none⟩, none, false⟩,
                ⟨⟨(some 126), .load 3 (.tmp 125), 3, "", ⟨[]⟩, none⟩, none, false⟩,
                ⟨⟨(some 127), .binOp .add 3 (.tmp 126) (.const (.int .i64 1000)) 3, 3, "", ⟨[]⟩, none⟩, none, false⟩,
                ⟨⟨(some 128), .call ⟨.value (.func 33), ⟨[(.tmp 124), (.tmp 127)]⟩, ⟨[3, 3]⟩⟩, 3, "", ⟨[]⟩, none⟩, none, false⟩,
                ⟨⟨(some 129), .binOp .add 3 (.const (.int .i64 2)) (.tmp 128) 3, 3, "", ⟨[]⟩, none⟩, none, false⟩,
                ⟨⟨(some 16), .assign (.tmp 129), 3, "", ⟨[]⟩, none⟩, none, false⟩])
              (.seq
               (.ops true [
                 ⟨⟨(some 130), .buildSlice 68 0 ⟨[]⟩, 68, "", ⟨[]⟩, none⟩, none, true⟩,
                 ⟨⟨(some 131), .move (.tmp 1), 68, "", ⟨[]⟩, none⟩, none, true⟩,
                 ⟨⟨(some 133), .load 56 (.tmp 3), 56, "", ⟨[]⟩, none⟩, none, true⟩,
                 ⟨⟨(some 134), .move (.tmp 1), 68, "", ⟨[]⟩, none⟩, none, true⟩,
                 ⟨⟨(some 136), .move (.tmp 16), 3, "", ⟨[]⟩, none⟩, none, true⟩,
                 ⟨⟨(some 132), .call ⟨.builtin .append, ⟨[(.tmp 130), (.tmp 131)]⟩, ⟨[68, 68]⟩⟩, 68, "", ⟨[]⟩, none⟩, none, true⟩,
                 ⟨⟨(some 135), .call ⟨.value (.func 40), ⟨[(.tmp 133), (.tmp 134)]⟩, ⟨[56, 68]⟩⟩, 3, "", ⟨[]⟩, none⟩, none, true⟩,
                 ⟨⟨(some 137), .build 79 ⟨[(0, (.tmp 135)), (1, (.const (.int .i64 1))), (2, (.tmp 136))]⟩, 79, "", ⟨[]⟩, none⟩, none, true⟩,
                 ⟨⟨(some 138), .buildSlice 68 1 ⟨[(0, (.tmp 137))]⟩, 68, "", ⟨[]⟩, none⟩, none, true⟩,
                 ⟨⟨(some 139), .call ⟨.builtin .append, ⟨[(.tmp 132), (.tmp 138)]⟩, ⟨[68, 68]⟩⟩, 68, "", ⟨[]⟩, none⟩, none, false⟩,
                 ⟨⟨(some 17), .assign (.tmp 139), 68, "", ⟨[]⟩, none⟩, none, true⟩])
               (.seq
                (.ops false [
                  ⟨⟨(some 140), .indexAddr 59 (.tmp 5) (.const (.int .i64 2)), 0, "", ⟨[]⟩, none⟩, none, false⟩,
                  ⟨⟨(some 141), .load 3 (.tmp 140), 3, "", ⟨[]⟩, none⟩, none, false⟩,
                  ⟨⟨(some 142), .move (.tmp 16), 3, "", ⟨[]⟩, none⟩, none, false⟩,
                  ⟨⟨(some 143), .binOp .sub 3 (.tmp 142) (.const (.int .i64 1)) 3, 3, "", ⟨[]⟩, none⟩, none, false⟩,
                  ⟨⟨(some 144), .call ⟨.value (.func 33), ⟨[(.tmp 141), (.tmp 143)]⟩, ⟨[3, 3]⟩⟩, 3, "", ⟨[]⟩, none⟩, none, false⟩,
                  ⟨⟨(some 145), .binOp .add 3 (.const (.int .i64 1)) (.tmp 144) 3, 3, "", ⟨[]⟩, none⟩, none, false⟩,
                  ⟨⟨(some 18), .assign (.tmp 145), 3, "", ⟨[]⟩, none⟩, none, false⟩])
                (.seq
                 (.ops true [
                   ⟨⟨(some 146), .buildSlice 68 0 ⟨[]⟩, 68, "", ⟨[]⟩, none⟩, none, true⟩,
                   ⟨⟨(some 147), .move (.tmp 1), 68, "", ⟨[]⟩, none⟩, none, true⟩,
                   ⟨⟨(some 149), .load 56 (.tmp 3), 56, "", ⟨[]⟩, none⟩, none, true⟩,
                   ⟨⟨(some 150), .move (.tmp 1), 68, "", ⟨[]⟩, none⟩, none, true⟩,
                   ⟨⟨(some 152), .move (.tmp 18), 3, "", ⟨[]⟩, none⟩, none, true⟩,
                   ⟨⟨(some 154), .load 56 (.tmp 3), 56, "", ⟨[]⟩, none⟩, none, true⟩,
                   ⟨⟨(some 155), .move (.tmp 1), 68, "", ⟨[]⟩, none⟩, none, true⟩,
                   ⟨⟨(some 157), .move (.tmp 16), 3, "", ⟨[]⟩, none⟩, none, true⟩,
                   ⟨⟨(some 158), .move (.tmp 18), 3, "", ⟨[]⟩, none⟩, none, true⟩,
                   ⟨⟨(some 159), .binOp .sub 3 (.tmp 157) (.tmp 158) 3, 3, "", ⟨[]⟩, none⟩, none, true⟩,
                   ⟨⟨(some 148), .call ⟨.builtin .append, ⟨[(.tmp 146), (.tmp 147)]⟩, ⟨[68, 68]⟩⟩, 68, "", ⟨[]⟩, none⟩, none, true⟩,
                   ⟨⟨(some 151), .call ⟨.value (.func 40), ⟨[(.tmp 149), (.tmp 150)]⟩, ⟨[56, 68]⟩⟩, 3, "", ⟨[]⟩, none⟩, none, true⟩,
                   ⟨⟨(some 153), .build 79 ⟨[(0, (.tmp 151)), (1, (.const (.int .i64 1))), (2, (.tmp 152))]⟩, 79, "", ⟨[]⟩, none⟩, none, true⟩,
                   ⟨⟨(some 156), .call ⟨.value (.func 40), ⟨[(.tmp 154), (.tmp 155)]⟩, ⟨[56, 68]⟩⟩, 3, "", ⟨[]⟩, none⟩, none, true⟩,
                   ⟨⟨(some 160), .build 79 ⟨[(0, (.tmp 156)), (1, (.const (.int .i64 1))), (2, (.tmp 159))]⟩, 79, "", ⟨[]⟩, none⟩, none, true⟩,
                   ⟨⟨(some 161), .buildSlice 68 2 ⟨[(0, (.tmp 153)), (1, (.tmp 160))]⟩, 68, "", ⟨[]⟩, none⟩, none, true⟩,
                   ⟨⟨(some 162), .call ⟨.builtin .append, ⟨[(.tmp 148), (.tmp 161)]⟩, ⟨[68, 68]⟩⟩, 68, "", ⟨[]⟩, none⟩, none, false⟩,
                   ⟨⟨(some 19), .assign (.tmp 162), 68, "", ⟨[]⟩, none⟩, none, true⟩])
                 (.seq
                  (.ops false [
                    ⟨⟨(some 164), .load 56 (.tmp 3), 56, "", ⟨[]⟩, none⟩, none, false⟩,
                    ⟨⟨(some 165), .move (.tmp 17), 68, "", ⟨[]⟩, none⟩, none, false⟩,
                    ⟨⟨(some 166), .call ⟨.value (.func 36), ⟨[(.tmp 164), (.tmp 165)]⟩, ⟨[56, 68]⟩⟩, 74, "", ⟨[]⟩, none⟩, none, false⟩,
                    ⟨⟨(some 163), .move (.tmp 166), 74, "", ⟨[]⟩, none⟩, none, false⟩,
                    ⟨⟨(some 167), .extract (.tmp 163) 0, 73, "", ⟨[]⟩, none⟩, none, false⟩,
                    ⟨⟨(some 168), .extract (.tmp 163) 1, 3, "", ⟨[]⟩, none⟩, none, false⟩,
                    ⟨⟨(some 169), .extract (.tmp 163) 2, 30, "", ⟨[]⟩, none⟩, none, false⟩,
                    ⟨⟨(some 20), .assign (.tmp 167), 73, "", ⟨[]⟩, none⟩, none, false⟩,
                    ⟨⟨(some 21), .assign (.tmp 168), 3, "", ⟨[]⟩, none⟩, none, false⟩,
                    ⟨⟨(some 8), .assign (.tmp 169), 30, "", ⟨[]⟩, none⟩, none, false⟩])
                  (.seq
                   (.ops false [
                     ⟨⟨(some 171), .load 56 (.tmp 3), 56, "", ⟨[]⟩, none⟩, none, false⟩,
                     ⟨⟨(some 172), .move (.tmp 19), 68, "", ⟨[]⟩, none⟩, none, false⟩,
                     ⟨⟨(some 173), .call ⟨.value (.func 36), ⟨[(.tmp 171), (.tmp 172)]⟩, ⟨[56, 68]⟩⟩, 74, "", ⟨[]⟩, none⟩, none, false⟩,
                     ⟨⟨(some 170), .move (.tmp 173), 74, "", ⟨[]⟩, none⟩, none, false⟩,
                     ⟨⟨(some 174), .extract (.tmp 170) 0, 73, "", ⟨[]⟩, none⟩, none, false⟩,
                     ⟨⟨(some 175), .extract (.tmp 170) 1, 3, "", ⟨[]⟩, none⟩, none, false⟩,
                     ⟨⟨(some 176), .extract (.tmp 170) 2, 30, "", ⟨[]⟩, none⟩, none, false⟩,
                     ⟨⟨(some 22), .assign (.tmp 174), 73, "", ⟨[]⟩, none⟩, none, false⟩,
                     ⟨⟨(some 23), .assign (.tmp 175), 3, "", ⟨[]⟩, none⟩, none, false⟩,
                     ⟨⟨(some 14), .assign (.tmp 176), 30, "", ⟨[]⟩, none⟩, none, false⟩])
                   (.seq
                    (.seq
                     (.ops false [
                       ⟨⟨(some 177), .move (.tmp 8), 30, "", ⟨[]⟩, none⟩, none, false⟩,
                       ⟨⟨(some 178), .binOp .neq 30 (.tmp 177) (.const (.int .i64 0)) 30, 4, "", ⟨[]⟩, none⟩, none, false⟩,
                       ⟨⟨(some 179), .move (.tmp 178), 4, "", ⟨[]⟩, none⟩, none, false⟩,
                       ⟨⟨(some 180), .move (.tmp 19), 68, "", ⟨[]⟩, none⟩, some ((some 179), false), false⟩,
                       ⟨⟨(some 181), .call ⟨.builtin .len, ⟨[(.tmp 180)]⟩, ⟨[68]⟩⟩, 3, "", ⟨[]⟩, none⟩, some ((some 179), false), false⟩,
                       ⟨⟨(some 182), .binOp .gtr 3 (.tmp 181) (.const (.int .i64 32)) 3, 4, "", ⟨[]⟩, none⟩, some ((some 179), false), false⟩,
                       ⟨⟨(some 183), .pick (.tmp 179) (.const (.bool true)) (.tmp 182), 4, "", ⟨[]⟩, none⟩, none, false⟩])
                     (.cond (.tmp 183)
                      (.seq
                       (.ops false [
                         ⟨⟨(some 184), .call ⟨.value (.func 21), ⟨[]⟩, ⟨[]⟩⟩, 4, "", ⟨[]⟩, none⟩, none, false⟩,
                         ⟨⟨(some 6), .assign (.tmp 184), 4, "", ⟨[]⟩, none⟩, none, false⟩])
                       .ret)
                      .skip))
                    Try.s9_c185)))))))
def Try.s9_c93 : SC :=
 (.seq
            (.ops false [
              ⟨⟨(some 93), .load 56 (.tmp 3), 56, "", ⟨[]⟩, none⟩, none, false⟩,
              ⟨⟨(some 94), .move (.tmp 9), 68, "", ⟨[]⟩, none⟩, none, false⟩,
              ⟨⟨(some 95), .indexAddr 59 (.tmp 5) (.const (.int .i64 0)), 0, "", ⟨[]⟩, none⟩, none, false⟩,
              ⟨⟨(some 96), .load 3 (.tmp 95), 3, "", ⟨[]⟩, none⟩, none, false⟩,
              ⟨⟨(some 97), .call ⟨.value (.func 35), ⟨[(.tmp 93), (.tmp 94), (.tmp 96)]⟩, ⟨[56, 68, 3]⟩⟩, 71, "", ⟨[]⟩, none⟩, none, false⟩,
              ⟨⟨(some 92), .move (.tmp 97), 71, "", ⟨[]⟩, none⟩, none, false⟩,
              ⟨⟨(some 98), .extract (.tmp 92) 0, 70, "", ⟨[]⟩, none⟩, none, false⟩,
              ⟨⟨(some 99), .extract (.tmp 92) 1, 30, "", ⟨[]⟩, none⟩, none, false⟩,
              ⟨⟨(some 15), .alloc 70, 0, "", ⟨[]⟩, none⟩, none, false⟩,
              ⟨⟨none, .store 70 (.tmp 15) (.tmp 98), 0, "", ⟨[]⟩, none⟩, none, false⟩,
              ⟨⟨(some 14), .assign (.tmp 99), 30, "", ⟨[]⟩, none⟩, none, false⟩])
            (.seq
             (.seq
              (.ops false [
                ⟨⟨(some 100), .move (.tmp 14), 30, "", ⟨[]⟩, none⟩, none, false⟩,
                ⟨⟨(some 101), .binOp .eql 30 (.tmp 100) (.const (.int .i64 0)) 30, 4, "", ⟨[]⟩, none⟩, none, false⟩,
                ⟨⟨(some 102), .move (.tmp 101), 4, "", ⟨[]⟩, none⟩, none, false⟩,
                ⟨⟨(some 103), .fieldAddr 70 (.tmp 15) 1, 0, "", ⟨[]⟩, none⟩, some ((some 102), true), false⟩,
                ⟨⟨(some 104), .load 3 (.tmp 103), 3, "", ⟨[]⟩, none⟩, some ((some 102), true), false⟩,
                ⟨⟨(some 105), .fieldAddr 70 (.tmp 7) 1, 0, "", ⟨[]⟩, none⟩, some ((some 102), true), false⟩,
                ⟨⟨(some 106), .load 3 (.tmp 105), 3, "", ⟨[]⟩, none⟩, some ((some 102), true), false⟩,
                ⟨⟨(some 107), .binOp .lss 3 (.tmp 104) (.tmp 106) 3, 4, "", ⟨[]⟩, none⟩, some ((some 102), true), false⟩,
                ⟨⟨(some 108), .move (.tmp 107), 4, "", ⟨[]⟩, none⟩, some ((some 102), true), false⟩,
                ⟨⟨(some 109), .fieldAddr 70 (.tmp 15) 1, 0, "", ⟨[]⟩, none⟩, some ((some 108), false), false⟩,
                ⟨⟨(some 110), .load 3 (.tmp 109), 3, "", ⟨[]⟩, none⟩, some ((some 108), false), false⟩,
                ⟨⟨(some 111), .fieldAddr 70 (.tmp 7) 1, 0, "", ⟨[]⟩, none⟩, some ((some 108), false), false⟩,
                ⟨⟨(some 112), .load 3 (.tmp 111), 3, "", ⟨[]⟩, none⟩, some ((some 108), false), false⟩,
                ⟨⟨(some 113), .move (.tmp 9), 68, "", ⟨[]⟩, none⟩, some ((some 108), false), false⟩,
                ⟨⟨(some 114), .call ⟨.builtin .len, ⟨[(.tmp 113)]⟩, ⟨[68]⟩⟩, 3, "", ⟨[]⟩, none⟩, some ((some 108), false), false⟩,
                ⟨⟨(some 115), .fieldAddr 56 (.tmp 3) 1, 0, "", ⟨[]⟩, none⟩, some ((some 108), false), false⟩,
                ⟨⟨(some 116), .fieldAddr 54 (.tmp 115) 2, 0, "", ⟨[]⟩, none⟩, some ((some 108), false), false⟩,
                ⟨⟨(some 117), .load 3 (.tmp 116), 3, "", ⟨[]⟩, none⟩, some ((some 108), false), false⟩,
                ⟨⟨(some 118), .binOp .mul 3 (.tmp 114) (.tmp 117) 3, 3, "", ⟨[]⟩, none⟩, some ((some 108), false), false⟩,
                ⟨⟨(some 119), .binOp .add 3 (.tmp 112) (.tmp 118) 3, 3, "", ⟨[]⟩, none⟩, some ((some 108), false), false⟩,
                ⟨⟨(some 120), .binOp .gtr 3 (.tmp 110) (.tmp 119) 3, 4, "", ⟨[]⟩, none⟩, some ((some 108), false), false⟩,
                ⟨⟨(some 121), .pick (.tmp 108) (.const (.bool true)) (.tmp 120), 4, "", ⟨[]⟩, none⟩, some ((some 102), true), false⟩,
                ⟨⟨(some 122), .pick (.tmp 102) (.tmp 121) (.const (.bool false)), 4, "", ⟨[]⟩, none⟩, none, false⟩])
              (.cond (.tmp 122)
               (.seq
                (.ops false [
                  ⟨⟨(some 6), .assign (.const (.bool false)), 4, "", ⟨[]⟩, none⟩, none, false⟩])
                .ret)
               .skip))
             Try.s9_c123))
def Try.s9 : SC :=
 (.seq
  (.ops false [
    ⟨⟨(some 3), .box 56 (.tmp 0), 0, "", ⟨[]⟩, none⟩, none, false⟩,
    ⟨⟨(some 5), .box 59 (.tmp 2), 0, "", ⟨[]⟩, none⟩, none, false⟩,
    ⟨⟨(some 6), .assign (.const (.bool false)), 4, "", ⟨[]⟩, none⟩, none, false⟩])
  (.seq
   (.ops false [
     ⟨⟨(some 25), .load 56 (.tmp 3), 56, "", ⟨[]⟩, none⟩, none, false⟩,
     ⟨⟨(some 26), .indexAddr 59 (.tmp 5) (.const (.int .i64 0)), 0, "", ⟨[]⟩, none⟩, none, false⟩,
     ⟨⟨(some 27), .load 3 (.tmp 26), 3, "", ⟨[]⟩, none⟩, none, false⟩,
     ⟨⟨(some 28), .call ⟨.value (.func 35), ⟨[(.tmp 25), (.const (.slice none 0 0)), (.tmp 27)]⟩, ⟨[56, 68, 3]⟩⟩, 71, "", ⟨[]⟩, none⟩, none, false⟩,
     ⟨⟨(some 24), .move (.tmp 28), 71, "", ⟨[]⟩, none⟩, none, false⟩,
     ⟨⟨(some 29), .extract (.tmp 24) 0, 70, "", ⟨[]⟩, none⟩, none, false⟩,
     ⟨⟨(some 30), .extract (.tmp 24) 1, 30, "", ⟨[]⟩, none⟩, none, false⟩,
     ⟨⟨(some 7), .alloc 70, 0, "", ⟨[]⟩, none⟩, none, false⟩,
     ⟨⟨none, .store 70 (.tmp 7) (.tmp 29), 0, "", ⟨[]⟩, none⟩, none, false⟩,
     ⟨⟨(some 8), .assign (.tmp 30), 30, "", ⟨[]⟩, none⟩, none, false⟩])
   (.seq
    (.seq
     (.ops false [
       ⟨⟨(some 31), .move (.tmp 8), 30, "", ⟨[]⟩, none⟩, none, false⟩,
       ⟨⟨(some 32), .binOp .neq 30 (.tmp 31) (.const (.int .i64 0)) 30, 4, "", ⟨[]⟩, none⟩, none, false⟩])
     (.cond (.tmp 32)
      (.seq
       (.ops false [
         ⟨⟨(some 33), .move (.tmp 8), 30, "", ⟨[]⟩, none⟩, none, false⟩,
         ⟨⟨(some 34), .binOp .eql 30 (.tmp 33) (.const (.int .i64 23)) 30, 4, "", ⟨[]⟩, none⟩, none, false⟩,
         ⟨⟨(some 35), .move (.tmp 34), 4, "", ⟨[]⟩, none⟩, none, false⟩,
         ⟨⟨(some 36), .move (.tmp 8), 30, "", ⟨[]⟩, none⟩, some ((some 35), false), false⟩,
         ⟨⟨(some 37), .binOp .eql 30 (.tmp 36) (.const (.int .i64 7)) 30, 4, "", ⟨[]⟩, none⟩, some ((some 35), false), false⟩,
         ⟨⟨(some 38), .pick (.tmp 35) (.const (.bool true)) (.tmp 37), 4, "", ⟨[]⟩, none⟩, none, false⟩,
         ⟨⟨(some 39), .move (.tmp 38), 4, "", ⟨[]⟩, none⟩, none, false⟩,
         ⟨⟨(some 40), .call ⟨.value (.func 21), ⟨[]⟩, ⟨[]⟩⟩, 4, "", ⟨[]⟩, none⟩, some ((some 39), true), false⟩,
         ⟨⟨(some 41), .pick (.tmp 39) (.tmp 40) (.const (.bool false)), 4, "", ⟨[]⟩, none⟩, none, false⟩,
         ⟨⟨(some 6), .assign (.tmp 41), 4, "", ⟨[]⟩, none⟩, none, false⟩])
       .ret)
      .skip))
    (.seq
     (.ops false [
       ⟨⟨(some 9), .assign (.const (.slice none 0 0)), 68, "", ⟨[]⟩, none⟩, none, false⟩])
     (.seq
      (.seq
       (.ops false [
         ⟨⟨(some 10), .assign (.const (.int .i64 0)), 3, "", ⟨[]⟩, none⟩, none, false⟩])
       (.block 0
        (.loop
         (.seq
          (.seq
           (.ops false [
             ⟨⟨(some 42), .move (.tmp 10), 3, "", ⟨[]⟩, none⟩, none, false⟩,
             ⟨⟨(some 43), .move (.tmp 1), 68, "", ⟨[]⟩, none⟩, none, false⟩,
             ⟨⟨(some 44), .call ⟨.builtin .len, ⟨[(.tmp 43)]⟩, ⟨[68]⟩⟩, 3, "", ⟨[]⟩, none⟩, none, false⟩,
             ⟨⟨(some 45), .binOp .lss 3 (.tmp 42) (.tmp 44) 3, 4, "", ⟨[]⟩, none⟩, none, false⟩])
           (.cond (.tmp 45)
            .skip
            (.exit 0)))
          (.seq
           (.block 1
            (.seq
             (.ops false [
               ⟨⟨(some 48), .move (.tmp 1), 68, "", ⟨[]⟩, none⟩, none, false⟩,
               ⟨⟨(some 49), .move (.tmp 10), 3, "", ⟨[]⟩, none⟩, none, false⟩,
               ⟨⟨(some 50), .indexAddr 68 (.tmp 48) (.tmp 49), 0, "", ⟨[]⟩, none⟩, none, false⟩,
               ⟨⟨(some 51), .fieldAddr 79 (.tmp 50) 1, 0, "", ⟨[]⟩, none⟩, none, false⟩,
               ⟨⟨(some 52), .load 3 (.tmp 51), 3, "", ⟨[]⟩, none⟩, none, false⟩,
               ⟨⟨(some 53), .binOp .eql 3 (.tmp 52) (.const (.int .i64 2)) 3, 4, "", ⟨[]⟩, none⟩, none, false⟩])
             (.cond (.tmp 53)
              (.ops false [
                ⟨⟨(some 54), .move (.tmp 9), 68, "", ⟨[]⟩, none⟩, none, false⟩,
                ⟨⟨(some 55), .move (.tmp 1), 68, "", ⟨[]⟩, none⟩, none, false⟩,
                ⟨⟨(some 56), .move (.tmp 10), 3, "", ⟨[]⟩, none⟩, none, false⟩,
                ⟨⟨(some 57), .indexAddr 68 (.tmp 55) (.tmp 56), 0, "", ⟨[]⟩, none⟩, none, false⟩,
                ⟨⟨(some 58), .load 79 (.tmp 57), 79, "", ⟨[]⟩, none⟩, none, false⟩,
                ⟨⟨(some 59), .buildSlice 68 1 ⟨[(0, (.tmp 58))]⟩, 68, "", ⟨[]⟩, none⟩, none, false⟩,
                ⟨⟨(some 60), .call ⟨.builtin .append, ⟨[(.tmp 54), (.tmp 59)]⟩, ⟨[68, 68]⟩⟩, 68, "", ⟨[]⟩, none⟩, none, false⟩,
                ⟨⟨(some 9), .assign (.tmp 60), 68, "", ⟨[]⟩, none⟩, none, false⟩])
              .skip)))
           (.ops false [
             ⟨⟨(some 46), .move (.tmp 10), 3, "", ⟨[]⟩, none⟩, none, false⟩,
             ⟨⟨(some 47), .binOp .add 3 (.tmp 46) (.const (.int .i64 1)) 3, 3, "", ⟨[]⟩, none⟩, none, false⟩,
             ⟨⟨(some 10), .assign (.tmp 47), 3, "", ⟨[]⟩, none⟩, none, false⟩]))))))
      (.seq
       (.ops false [
         ⟨⟨(some 61), .load 56 (.tmp 3), 56, "", ⟨[]⟩, none⟩, none, false⟩,
         ⟨⟨(some 11), .alloc 56, 0, "", ⟨[]⟩, none⟩, none, false⟩,
         ⟨⟨none, .store 56 (.tmp 11) (.tmp 61), 0, "", ⟨[]⟩, none⟩, none, false⟩])
       (.seq
        (.ops false [
          ⟨⟨(some 62), .fieldAddr 56 (.tmp 11) 1, 0, "", ⟨[]⟩, none⟩, none, false⟩,
          ⟨⟨(some 63), .fieldAddr 54 (.tmp 62) 2, 0, "", ⟨[]⟩, none⟩, none, false⟩,
          ⟨⟨none, .store 3 (.tmp 63) (.const (.int .i64 0)), 0, "", ⟨[]⟩, none⟩, none, false⟩])
        (.seq
         (.ops false [
           ⟨⟨(some 65), .load 56 (.tmp 11), 56, "", ⟨[]⟩, none⟩, none, false⟩,
           ⟨⟨(some 66), .indexAddr 59 (.tmp 5) (.const (.int .i64 0)), 0, "", ⟨[]⟩, none⟩, none, false⟩,
           ⟨⟨(some 67), .load 3 (.tmp 66), 3, "", ⟨[]⟩, none⟩, none, false⟩,
           ⟨⟨(some 68), .call ⟨.value (.func 35), ⟨[(.tmp 65), (.const (.slice none 0 0)), (.tmp 67)]⟩, ⟨[56, 68, 3]⟩⟩, 71, "", ⟨[]⟩, none⟩, none, false⟩,
           ⟨⟨(some 64), .move (.tmp 68), 71, "", ⟨[]⟩, none⟩, none, false⟩,
           ⟨⟨(some 69), .extract (.tmp 64) 0, 70, "", ⟨[]⟩, none⟩, none, false⟩,
           ⟨⟨(some 70), .extract (.tmp 64) 1, 30, "", ⟨[]⟩, none⟩, none, false⟩,
           ⟨⟨(some 12), .alloc 70, 0, "", ⟨[]⟩, none⟩, none, false⟩,
           ⟨⟨none, .store 70 (.tmp 12) (.tmp 69), 0, "", ⟨[]⟩, none⟩, none, false⟩,
           ⟨⟨(some 8), .assign (.tmp 70), 30, "", ⟨[]⟩, none⟩, none, false⟩])
         (.seq
          (.ops false [
            ⟨⟨(some 72), .load 56 (.tmp 11), 56, "", ⟨[]⟩, none⟩, none, false⟩,
            ⟨⟨(some 73), .move (.tmp 9), 68, "", ⟨[]⟩, none⟩, none, false⟩,
            ⟨⟨(some 74), .indexAddr 59 (.tmp 5) (.const (.int .i64 0)), 0, "", ⟨[]⟩, none⟩, none, false⟩,
            ⟨⟨(some 75), .load 3 (.tmp 74), 3, "", ⟨[]⟩, none⟩, none, false⟩,
            ⟨⟨(some 76), .call ⟨.value (.func 35), ⟨[(.tmp 72), (.tmp 73), (.tmp 75)]⟩, ⟨[56, 68, 3]⟩⟩, 71, "", ⟨[]⟩, none⟩, none, false⟩,
            ⟨⟨(some 71), .move (.tmp 76), 71, "", ⟨[]⟩, none⟩, none, false⟩,
            ⟨⟨(some 77), .extract (.tmp 71) 0, 70, "", ⟨[]⟩, none⟩, none, false⟩,
            ⟨⟨(some 78), .extract (.tmp 71) 1, 30, "", ⟨[]⟩, none⟩, none, false⟩,
            ⟨⟨(some 13), .alloc 70, 0, "", ⟨[]⟩, none⟩, none, false⟩,
            ⟨⟨none, .store 70 (.tmp 13) (.tmp 77), 0, "", ⟨[]⟩, none⟩, none, false⟩,
            ⟨⟨(some 14), .assign (.tmp 78), 30, "", ⟨[]⟩, none⟩, none, false⟩])
          (.seq
           (.seq
            (.ops false [
              ⟨⟨(some 79), .move (.tmp 8), 30, "", ⟨[]⟩, none⟩, none, false⟩,
              ⟨⟨(some 80), .binOp .neq 30 (.tmp 79) (.const (.int .i64 0)) 30, 4, "", ⟨[]⟩, none⟩, none, false⟩,
              ⟨⟨(some 81), .move (.tmp 80), 4, "", ⟨[]⟩, none⟩, none, false⟩,
              ⟨⟨(some 82), .move (.tmp 14), 30, "", ⟨[]⟩, none⟩, some ((some 81), false), false⟩,
              ⟨⟨(some 83), .binOp .eql 30 (.tmp 82) (.const (.int .i64 0)) 30, 4, "", ⟨[]⟩, none⟩, some ((some 81), false), false⟩,
              ⟨⟨(some 84), .move (.tmp 83), 4, "", ⟨[]⟩, none⟩, some ((some 81), false), false⟩,
              ⟨⟨(some 85), .fieldAddr 70 (.tmp 13) 1, 0, "", ⟨[]⟩, none⟩, some ((some 84), true), false⟩,
              ⟨⟨(some 86), .load 3 (.tmp 85), 3, "", ⟨[]⟩, none⟩, some ((some 84), true), false⟩,
              ⟨⟨(some 87), .fieldAddr 70 (.tmp 12) 1, 0, "", ⟨[]⟩, none⟩, some ((some 84), true), false⟩,
              ⟨⟨(some 88), .load 3 (.tmp 87), 3, "", ⟨[]⟩, none⟩, some ((some 84), true), false⟩,
              ⟨⟨(some 89), .binOp .neq 3 (.tmp 86) (.tmp 88) 3, 4, "", ⟨[]⟩, none⟩, some ((some 84), true), false⟩,
              ⟨⟨(some 90), .pick (.tmp 84) (.tmp 89) (.const (.bool false)), 4, "", ⟨[]⟩, none⟩, some ((some 81), false), false⟩,
              ⟨⟨(some 91), .pick (.tmp 81) (.const (.bool true)) (.tmp 90), 4, "", ⟨[]⟩, none⟩, none, false⟩])
            (.cond (.tmp 91)
             (.seq
              (.ops false [
                ⟨⟨(some 6), .assign (.const (.bool false)), 4, "", ⟨[]⟩, none⟩, none, false⟩])
              .ret)
             .skip))
           Try.s9_c93))))))))))
def Try.s10 : SC :=
 (.seq
  (.ops false [
    ⟨⟨(some 2), .box 56 (.tmp 0), 0, "", ⟨[]⟩, none⟩, none, false⟩,
    ⟨⟨(some 3), .box 84 (.tmp 1), 0, "", ⟨[]⟩, none⟩, none, false⟩,
    ⟨⟨(some 4), .assign (.const (.bool false)), 4, "", ⟨[]⟩, none⟩, none, false⟩])
  (.seq
   (.seq
    (.ops false [
      ⟨⟨(some 13), .load 56 (.tmp 2), 56, "", ⟨[]⟩, none⟩, none, false⟩,
      ⟨⟨(some 14), .call ⟨.value (.func 41), ⟨[(.tmp 13)]⟩, ⟨[56]⟩⟩, 30, "", ⟨[]⟩, none⟩, none, false⟩,
      ⟨⟨(some 15), .binOp .neq 30 (.tmp 14) (.const (.int .i64 0)) 30, 4, "", ⟨[]⟩, none⟩, none, false⟩,
      ⟨⟨(some 16), .move (.tmp 15), 4, "", ⟨[]⟩, none⟩, none, false⟩,
      ⟨⟨(some 17), .fieldAddr 56 (.tmp 2) 3, 0, "", ⟨[]⟩, none⟩, some ((some 16), false), false⟩,
      ⟨⟨(some 18), .load 3 (.tmp 17), 3, "", ⟨[]⟩, none⟩, some ((some 16), false), false⟩,
      ⟨⟨(some 19), .call ⟨.value (.func 32), ⟨[(.const (.int .i64 0)), (.tmp 18), (.const (.int .i64 36500))]⟩, ⟨[3, 3, 3]⟩⟩, 4, "", ⟨[]⟩, none⟩, some ((some 16), false), false⟩,
      ⟨⟨(some 20), .unOp .not 4 (.tmp 19), 4, "", ⟨[]⟩, none⟩, some ((some 16), false), false⟩,
      ⟨⟨(some 21), .pick (.tmp 16) (.const (.bool true)) (.tmp 20), 4, "", ⟨[]⟩, none⟩, none, false⟩,
      ⟨⟨(some 22), .move (.tmp 21), 4, "", ⟨[]⟩, none⟩, none, false⟩,
      ⟨⟨(some 23), .fieldAddr 56 (.tmp 2) 4, 0, "", ⟨[]⟩, none⟩, some ((some 22), false), false⟩,
      ⟨⟨(some 24), .load 3 (.tmp 23), 3, "", ⟨[]⟩, none⟩, some ((some 22), false), false⟩,
      ⟨⟨(some 25), .binOp .lss 3 (.tmp 24) (.const (.int .i64 1)) 3, 4, "", ⟨[]⟩, none⟩, some ((some 22), false), false⟩,
      ⟨⟨(some 26), .pick (.tmp 22) (.const (.bool true)) (.tmp 25), 4, "", ⟨[]⟩, none⟩, none, false⟩])
    (.cond (.tmp 26)
     (.seq
      (.ops false [
        ⟨⟨(some 27), .call ⟨.value (.func 21), ⟨[]⟩, ⟨[]⟩⟩, 4, "", ⟨[]⟩, none⟩, none, false⟩,
        ⟨⟨(some 4), .assign (.tmp 27), 4, "", ⟨[]⟩, none⟩, none, false⟩])
      .ret)
     .skip))
   (.seq
    (.ops false [
      ⟨⟨(some 28), .indexAddr 84 (.tmp 3) (.const (.int .i64 0)), 0, "", ⟨[]⟩, none⟩, none, false⟩,
      ⟨⟨(some 29), .load 3 (.tmp 28), 3, "", ⟨[]⟩, none⟩, none, false⟩,
      ⟨⟨(some 30), .fieldAddr 56 (.tmp 2) 4, 0, "", ⟨[]⟩, none⟩, none, false⟩,
      ⟨⟨(some 31), .load 3 (.tmp 30), 3, "", ⟨[]⟩, none⟩, none, false⟩,
      ⟨⟨(some 32), .call ⟨.value (.func 33), ⟨[(.tmp 29), (.tmp 31)]⟩, ⟨[3, 3]⟩⟩, 3, "", ⟨[]⟩, none⟩, none, false⟩,
      ⟨⟨(some 33), .binOp .add 3 (.const (.int .i64 1)) (.tmp 32) 3, 3, "", ⟨[]⟩, none⟩, none, false⟩,
      ⟨⟨(some 5), .assign (.tmp 33), 3, "", ⟨[]⟩, none⟩, none, false⟩])
    (.seq
     (.ops true [
       ⟨⟨(some 34), .fieldAddr 56 (.tmp 2) 3, 0, "", ⟨[]⟩, none⟩, none, true⟩,
       ⟨⟨(some 35), .load 3 (.tmp 34), 3, "", ⟨[]⟩, none⟩, none, true⟩,
       ⟨⟨(some 36), .indexAddr 84 (.tmp 3) (.const (.int .i64 1)), 0, "", ⟨[]⟩, none⟩, none, true⟩,
       ⟨⟨(some 37), .load 3 (.tmp 36), 3, "", ⟨[]⟩, none⟩, none, true⟩,
       ⟨⟨(some 38), .call ⟨.value (.func 33), ⟨[(.tmp 37), (.const (.int .i64 400))]⟩, ⟨[3, 3]⟩⟩, 3, "", ⟨[]⟩, none⟩, none, true⟩,
       ⟨⟨(some 39), .binOp .add 3 (.tmp 35) (.tmp 38) 3, 3, "", ⟨[]⟩, none⟩, none, true⟩,
       ⟨⟨(some 40), .call ⟨.builtin .min, ⟨[(.const (.int .i64 36500)), (.tmp 39)]⟩, ⟨[3, 3]⟩⟩, 3, "", ⟨[]⟩, none⟩, none, true⟩,
       ⟨⟨(some 6), .assign (.tmp 40), 3, "", ⟨[]⟩, none⟩, none, true⟩])
     (.seq
      (.ops false [
        ⟨⟨(some 41), .move (.tmp 6), 3, "", ⟨[]⟩, none⟩, none, false⟩,
        ⟨⟨(some 42), .indexAddr 84 (.tmp 3) (.const (.int .i64 2)), 0, "", ⟨[]⟩, none⟩, none, false⟩,
        ⟨⟨(some 43), .load 3 (.tmp 42), 3, "", ⟨[]⟩, none⟩, none, false⟩,
        ⟨⟨(some 44), .call ⟨.value (.func 33), ⟨[(.tmp 43), (.const (.int .i64 100))]⟩, ⟨[3, 3]⟩⟩, 3, "", ⟨[]⟩, none⟩, none, false⟩,
        ⟨⟨(some 45), .binOp .add 3 (.tmp 41) (.tmp 44) 3, 3, "", ⟨[]⟩, none⟩, none, false⟩,
        ⟨⟨(some 46), .call ⟨.builtin .min, ⟨[(.const (.int .i64 36500)), (.tmp 45)]⟩, ⟨[3, 3]⟩⟩, 3, "", ⟨[]⟩, none⟩, none, false⟩,
        ⟨⟨(some 7), .assign (.tmp 46), 3, "", ⟨[]⟩, none⟩, none, false⟩])
      (.seq
       (.ops false [
         ⟨⟨(some 47), .move (.tmp 7), 3, "", ⟨[]⟩, none⟩, none, false⟩,
         ⟨⟨(some 48), .indexAddr 84 (.tmp 3) (.const (.int .i64 3)), 0, "", ⟨[]⟩, none⟩, none, false⟩,
         ⟨⟨(some 49), .load 3 (.tmp 48), 3, "", ⟨[]⟩, none⟩, none, false⟩,
         ⟨⟨(some 50), .call ⟨.value (.func 33), ⟨[(.tmp 49), (.const (.int .i64 400))]⟩, ⟨[3, 3]⟩⟩, 3, "", ⟨[]⟩, none⟩, none, false⟩,
         ⟨⟨(some 51), .binOp .add 3 (.tmp 47) (.tmp 50) 3, 3, "", ⟨[]⟩, none⟩, none, false⟩,
         ⟨⟨(some 52), .call ⟨.builtin .min, ⟨[(.const (.int .i64 36500)), (.tmp 51)]⟩, ⟨[3, 3]⟩⟩, 3, "", ⟨[]⟩, none⟩, none, false⟩,
         ⟨⟨(some 8), .assign (.tmp 52), 3, "", ⟨[]⟩, none⟩, none, false⟩])
       (.seq
        (.ops false [
          ⟨⟨(some 54), .load 56 (.tmp 2), 56, "", ⟨[]⟩, none⟩, none, false⟩,
          ⟨⟨(some 55), .move (.tmp 6), 3, "", ⟨[]⟩, none⟩, none, false⟩,
          ⟨⟨(some 56), .move (.tmp 5), 3, "", ⟨[]⟩, none⟩, none, false⟩,
          ⟨⟨(some 57), .build 79 ⟨[(0, (.tmp 55)), (1, (.const (.int .i64 1))), (2, (.tmp 56))]⟩, 79, "", ⟨[]⟩, none⟩, none, false⟩,
          ⟨⟨(some 58), .buildSlice 68 1 ⟨[(0, (.tmp 57))]⟩, 68, "", ⟨[]⟩, none⟩, none, false⟩,
          ⟨⟨(some 59), .move (.tmp 8), 3, "", ⟨[]⟩, none⟩, none, false⟩,
          ⟨⟨(some 60), .call ⟨.value (.func 35), ⟨[(.tmp 54), (.tmp 58), (.tmp 59)]⟩, ⟨[56, 68, 3]⟩⟩, 71, "", ⟨[]⟩, none⟩, none, false⟩,
          ⟨⟨(some 53), .move (.tmp 60), 71, "", ⟨[]⟩, none⟩, none, false⟩,
          ⟨⟨(some 61), .extract (.tmp 53) 0, 70, "", ⟨[]⟩, none⟩, none, false⟩,
          ⟨⟨(some 62), .extract (.tmp 53) 1, 30, "", ⟨[]⟩, none⟩, none, false⟩,
          ⟨⟨(some 9), .alloc 70, 0, "", ⟨[]⟩, none⟩, none, false⟩,
          ⟨⟨none, .store 70 (.tmp 9) (.tmp 61), 0, "", ⟨[]⟩, none⟩, none, false⟩,
          ⟨⟨(some 10), .assign (.tmp 62), 30, "", ⟨[]⟩, none⟩, none, false⟩])
        (.seq
         (.ops false [
           ⟨⟨(some 64), .load 56 (.tmp 2), 56, "", ⟨[]⟩, none⟩, none, false⟩,
           ⟨⟨(some 65), .move (.tmp 7), 3, "", ⟨[]⟩, none⟩, none, false⟩,
           ⟨⟨(some 66), .move (.tmp 5), 3, "", ⟨[]⟩, none⟩, none, false⟩,
           ⟨⟨(some 67), .build 79 ⟨[(0, (.tmp 65)), (1, (.const (.int .i64 1))), (2, (.tmp 66))]⟩, 79, "", ⟨[]⟩, none⟩, none, false⟩,
           ⟨⟨(some 68), .buildSlice 68 1 ⟨[(0, (.tmp 67))]⟩, 68, "", ⟨[]⟩, none⟩, none, false⟩,
           ⟨⟨(some 69), .move (.tmp 8), 3, "", ⟨[]⟩, none⟩, none, false⟩,
           ⟨⟨(some 70), .call ⟨.value (.func 35), ⟨[(.tmp 64), (.tmp 68), (.tmp 69)]⟩, ⟨[56, 68, 3]⟩⟩, 71, "", ⟨[]⟩, none⟩, none, false⟩,
           ⟨⟨(some 63), .move (.tmp 70), 71, "", ⟨[]⟩, none⟩, none, false⟩,
           ⟨⟨(some 71), .extract (.tmp 63) 0, 70, "", ⟨[]⟩, none⟩, none, false⟩,
           ⟨⟨(some 72), .extract (.tmp 63) 1, 30, "", ⟨[]⟩, none⟩, none, false⟩,
           ⟨⟨(some 11), .alloc 70, 0, "", ⟨[]⟩, none⟩, none, false⟩,
           ⟨⟨none, .store 70 (.tmp 11) (.tmp 71), 0, "", ⟨[]⟩, none⟩, none, false⟩,
           ⟨⟨(some 12), .assign (.tmp 72), 30, "", ⟨[]⟩, none⟩, none, false⟩])
         (.seq
          (.seq
           (.ops false [
             ⟨⟨(some 73), .move (.tmp 10), 30, "", ⟨[]⟩, none⟩, none, false⟩,
             ⟨⟨(some 74), .binOp .neq 30 (.tmp 73) (.const (.int .i64 0)) 30, 4, "", ⟨[]⟩, none⟩, none, false⟩,
             ⟨⟨(some 75), .move (.tmp 74), 4, "", ⟨[]⟩, none⟩, none, false⟩,
             ⟨⟨(some 76), .move (.tmp 12), 30, "", ⟨[]⟩, none⟩, some ((some 75), false), false⟩,
             ⟨⟨(some 77), .binOp .neq 30 (.tmp 76) (.const (.int .i64 0)) 30, 4, "", ⟨[]⟩, none⟩, some ((some 75), false), false⟩,
             ⟨⟨(some 78), .pick (.tmp 75) (.const (.bool true)) (.tmp 77), 4, "", ⟨[]⟩, none⟩, none, false⟩])
           (.cond (.tmp 78)
            (.seq
             (.ops false [
               ⟨⟨(some 79), .move (.tmp 10), 30, "", ⟨[]⟩, none⟩, none, false⟩,
               ⟨⟨(some 80), .binOp .eql 30 (.tmp 79) (.const (.int .i64 0)) 30, 4, "", ⟨[]⟩, none⟩, none, false⟩,
               ⟨⟨(some 81), .move (.tmp 80), 4, "", ⟨[]⟩, none⟩, none, false⟩,
               ⟨⟨(some 82), .move (.tmp 10), 30, "", ⟨[]⟩, none⟩, some ((some 81), false), false⟩,
               ⟨⟨(some 83), .binOp .eql 30 (.tmp 82) (.const (.int .i64 25)) 30, 4, "", ⟨[]⟩, none⟩, some ((some 81), false), false⟩,
               ⟨⟨(some 84), .pick (.tmp 81) (.const (.bool true)) (.tmp 83), 4, "", ⟨[]⟩, none⟩, none, false⟩,
               ⟨⟨(some 85), .move (.tmp 84), 4, "", ⟨[]⟩, none⟩, none, false⟩,
               ⟨⟨(some 86), .move (.tmp 10), 30, "", ⟨[]⟩, none⟩, some ((some 85), false), false⟩,
               ⟨⟨(some 87), .binOp .eql 30 (.tmp 86) (.const (.int .i64 6)) 30, 4, "", ⟨[]⟩, none⟩, some ((some 85), false), false⟩,
               ⟨⟨(some 88), .pick (.tmp 85) (.const (.bool true)) (.tmp 87), 4, "", ⟨[]⟩, none⟩, none, false⟩,
               ⟨⟨(some 89), .move (.tmp 88), 4, "", ⟨[]⟩, none⟩, none, false⟩,
               ⟨⟨(some 90), .move (.tmp 12), 30, "", ⟨[]⟩, none⟩, some ((some 89), true), false⟩,
               ⟨⟨(some 91), .binOp .eql 30 (.tmp 90) (.const (.int .i64 0)) 30, 4, "", ⟨[]⟩, none⟩, some ((some 89), true), false⟩,
               ⟨⟨(some 92), .move (.tmp 91), 4, "", ⟨[]⟩, none⟩, some ((some 89), true), false⟩,
               ⟨⟨(some 93), .move (.tmp 12), 30, "", ⟨[]⟩, none⟩, some ((some 92), false), false⟩,
               ⟨⟨(some 94), .binOp .eql 30 (.tmp 93) (.const (.int .i64 25)) 30, 4, "", ⟨[]⟩, none⟩, some ((some 92), false), false⟩,
               ⟨⟨(some 95), .pick (.tmp 92) (.const (.bool true)) (.tmp 94), 4, "", ⟨[]⟩, none⟩, some ((some 89), true), false⟩,
               ⟨⟨(some 96), .move (.tmp 95), 4, "", ⟨[]⟩, none⟩, some ((some 89), true), false⟩,
               ⟨⟨(some 97), .move (.tmp 12), 30, "", ⟨[]⟩, none⟩, some ((some 96), false), false⟩,
               ⟨⟨(some 98), .binOp .eql 30 (.tmp 97) (.const (.int .i64 6)) 30, 4, "", ⟨[]⟩, none⟩, some ((some 96), false), false⟩,
               ⟨⟨(some 99), .pick (.tmp 96) (.const (.bool true)) (.tmp 98), 4, "", ⟨[]⟩, none⟩, some ((some 89), true), false⟩,
               ⟨⟨(some 100), .pick (.tmp 89) (.tmp 99) (.const (.bool false)), 4, "", ⟨[]⟩, none⟩, none, false⟩,
               ⟨⟨(some 101), .move (.tmp 100), 4, "", ⟨[]⟩, none⟩, none, false⟩,
               ⟨⟨(some 102), .call ⟨.value (.func 21), ⟨[]⟩, ⟨[]⟩⟩, 4, "", ⟨[]⟩, none⟩, some ((some 101), true), false⟩,
               ⟨⟨(some 103), .pick (.tmp 101) (.tmp 102) (.const (.bool false)), 4, "", ⟨[]⟩, none⟩, none, false⟩,
               ⟨⟨(some 4), .assign (.tmp 103), 4, "", ⟨[]⟩, none⟩, none, false⟩])
             .ret)
            .skip))
          (.seq
           (.ops false [
             ⟨⟨(some 104), .fieldAddr 70 (.tmp 9) 1, 0, "", ⟨[]⟩, none⟩, none, false⟩,
             ⟨⟨(some 105), .load 3 (.tmp 104), 3, "", ⟨[]⟩, none⟩, none, false⟩,
             ⟨⟨(some 106), .fieldAddr 70 (.tmp 11) 1, 0, "", ⟨[]⟩, none⟩, none, false⟩,
             ⟨⟨(some 107), .load 3 (.tmp 106), 3, "", ⟨[]⟩, none⟩, none, false⟩,
             ⟨⟨(some 108), .binOp .leq 3 (.tmp 105) (.tmp 107) 3, 4, "", ⟨[]⟩, none⟩, none, false⟩,
             ⟨⟨(some 109), .move (.tmp 108), 4, "", ⟨[]⟩, none⟩, none, false⟩,
             ⟨⟨(some 110), .fieldAddr 70 (.tmp 9) 0, 0, "", ⟨[]⟩, none⟩, some ((some 109), true), false⟩,
             ⟨⟨(some 111), .load 3 (.tmp 110), 3, "", ⟨[]⟩, none⟩, some ((some 109), true), false⟩,
             ⟨⟨(some 112), .fieldAddr 70 (.tmp 11) 0, 0, "", ⟨[]⟩, none⟩, some ((some 109), true), false⟩,
             ⟨⟨(some 113), .load 3 (.tmp 112), 3, "", ⟨[]⟩, none⟩, some ((some 109), true), false⟩,
             ⟨⟨(some 114), .fieldAddr 70 (.tmp 11) 1, 0, "", ⟨[]⟩, none⟩, some ((some 109), true), false⟩,
             ⟨⟨(some 115), .load 3 (.tmp 114), 3, "", ⟨[]⟩, none⟩, some ((some 109), true), false⟩,
             ⟨⟨(some 116), .binOp .add 3 (.tmp 113) (.tmp 115) 3, 3, "", ⟨[]⟩, none⟩, some ((some 109), true), false⟩,
             ⟨⟨(some 117), .fieldAddr 70 (.tmp 9) 1, 0, "", ⟨[]⟩, none⟩, some ((some 109), true), false⟩,
             ⟨⟨(some 118), .load 3 (.tmp 117), 3, "", ⟨[]⟩, none⟩, some ((some 109), true), false⟩,
             ⟨⟨(some 119), .binOp .sub 3 (.tmp 116) (.tmp 118) 3, 3, "", ⟨[]⟩, none⟩, some ((some 109), true), false⟩,
             ⟨⟨(some 120), .binOp .leq 3 (.tmp 111) (.tmp 119) 3, 4, "", ⟨[]⟩, none⟩, some ((some 109), true), false⟩,
             ⟨⟨(some 121), .pick (.tmp 109) (.tmp 120) (.const (.bool false)), 4, "", ⟨[]⟩, none⟩, none, false⟩,
             ⟨⟨(some 122), .move (.tmp 121), 4, "", ⟨[]⟩, none⟩, none, false⟩,
             ⟨⟨(some 123), .call ⟨.value (.func 21), ⟨[]⟩, ⟨[]⟩⟩, 4, "", ⟨[]⟩, none⟩, some ((some 122), true), false⟩,
             ⟨⟨(some 124), .pick (.tmp 122) (.tmp 123) (.const (.bool false)), 4, "", ⟨[]⟩, none⟩, none, false⟩,
             ⟨⟨(some 4), .assign (.tmp 124), 4, "", ⟨[]⟩, none⟩, none, false⟩])
           .ret))))))))))
def Try.s11 : SC :=
 (.seq
  (.ops false [
    ⟨⟨(some 2), .box 56 (.tmp 0), 0, "", ⟨[]⟩, none⟩, none, false⟩,
    ⟨⟨(some 3), .box 87 (.tmp 1), 0, "", ⟨[]⟩, none⟩, none, false⟩,
    ⟨⟨(some 4), .assign (.const (.bool false)), 4, "", ⟨[]⟩, none⟩, none, false⟩])
  (.seq
   (.seq
    (.ops false [
      ⟨⟨(some 11), .load 56 (.tmp 2), 56, "", ⟨[]⟩, none⟩, none, false⟩,
      ⟨⟨(some 12), .call ⟨.value (.func 41), ⟨[(.tmp 11)]⟩, ⟨[56]⟩⟩, 30, "", ⟨[]⟩, none⟩, none, false⟩,
      ⟨⟨(some 13), .binOp .neq 30 (.tmp 12) (.const (.int .i64 0)) 30, 4, "", ⟨[]⟩, none⟩, none, false⟩,
      ⟨⟨(some 14), .move (.tmp 13), 4, "", ⟨[]⟩, none⟩, none, false⟩,
      ⟨⟨(some 15), .fieldAddr 56 (.tmp 2) 3, 0, "", ⟨[]⟩, none⟩, some ((some 14), false), false⟩,
      ⟨⟨(some 16), .load 3 (.tmp 15), 3, "", ⟨[]⟩, none⟩, some ((some 14), false), false⟩,
      ⟨⟨(some 17), .call ⟨.value (.func 32), ⟨[(.const (.int .i64 0)), (.tmp 16), (.const (.int .i64 36500))]⟩, ⟨[3, 3, 3]⟩⟩, 4, "", ⟨[]⟩, none⟩, some ((some 14), false), false⟩,
      ⟨⟨(some 18), .unOp .not 4 (.tmp 17), 4, "", ⟨[]⟩, none⟩, some ((some 14), false), false⟩,
      ⟨⟨(some 19), .pick (.tmp 14) (.const (.bool true)) (.tmp 18), 4, "", ⟨[]⟩, none⟩, none, false⟩])
    (.cond (.tmp 19)
     (.seq
      (.ops false [
        ⟨⟨(some 20), .call ⟨.value (.func 21), ⟨[]⟩, ⟨[]⟩⟩, 4, "", ⟨[]⟩, none⟩, none, false⟩,
        ⟨⟨(some 4), .assign (.tmp 20), 4, "", ⟨[]⟩, none⟩, none, false⟩])
      .ret)
     .skip))
   (.seq
    (.ops true [
      ⟨⟨(some 21), .fieldAddr 56 (.tmp 2) 3, 0, "", ⟨[]⟩, none⟩, none, true⟩,
      ⟨⟨(some 22), .load 3 (.tmp 21), 3, "", ⟨[]⟩, none⟩, none, true⟩,
      ⟨⟨(some 23), .indexAddr 87 (.tmp 3) (.const (.int .i64 0)), 0, "", ⟨[]⟩, none⟩, none, true⟩,
      ⟨⟨(some 24), .load 3 (.tmp 23), 3, "", ⟨[]⟩, none⟩, none, true⟩,
      ⟨⟨(some 25), .call ⟨.value (.func 33), ⟨[(.tmp 24), (.const (.int .i64 400))]⟩, ⟨[3, 3]⟩⟩, 3, "", ⟨[]⟩, none⟩, none, true⟩,
      ⟨⟨(some 26), .binOp .add 3 (.tmp 22) (.tmp 25) 3, 3, "", ⟨[]⟩, none⟩, none, true⟩,
      ⟨⟨(some 27), .call ⟨.builtin .min, ⟨[(.const (.int .i64 36500)), (.tmp 26)]⟩, ⟨[3, 3]⟩⟩, 3, "", ⟨[]⟩, none⟩, none, true⟩,
      ⟨⟨(some 5), .assign (.tmp 27), 3, "", ⟨[]⟩, none⟩, none, true⟩])
    (.seq
     (.ops false [
       ⟨⟨(some 28), .indexAddr 87 (.tmp 3) (.const (.int .i64 1)), 0, "", ⟨[]⟩, none⟩, none, false⟩,
       ⟨⟨(some 29), .load 3 (.tmp 28), 3, "", ⟨[]⟩, none⟩, none, false⟩,
       ⟨⟨(some 30), .call ⟨.value (.func 33), ⟨[(.tmp 29), (.const (.int .i64 366))]⟩, ⟨[3, 3]⟩⟩, 3, "", ⟨[]⟩, none⟩, none, false⟩,
       ⟨⟨(some 31), .binOp .add 3 (.const (.int .i64 1)) (.tmp 30) 3, 3, "", ⟨[]⟩, none⟩, none, false⟩,
       ⟨⟨(some 6), .assign (.tmp 31), 3, "", ⟨[]⟩, none⟩, none, false⟩])
     (.seq
      (.seq
       (.ops false [
         ⟨⟨(some 32), .move (.tmp 5), 3, "", ⟨[]⟩, none⟩, none, false⟩,
         ⟨⟨(some 33), .move (.tmp 6), 3, "", ⟨[]⟩, none⟩, none, false⟩,
         ⟨⟨(some 34), .binOp .add 3 (.tmp 32) (.tmp 33) 3, 3, "", ⟨[]⟩, none⟩, none, false⟩,
         ⟨⟨(some 35), .binOp .gtr 3 (.tmp 34) (.const (.int .i64 36500)) 3, 4, "", ⟨[]⟩, none⟩, none, false⟩])
       (.cond (.tmp 35)
        (.seq
         (.ops false [
           ⟨⟨(some 36), .call ⟨.value (.func 21), ⟨[]⟩, ⟨[]⟩⟩, 4, "", ⟨[]⟩, none⟩, none, false⟩,
           ⟨⟨(some 4), .assign (.tmp 36), 4, "", ⟨[]⟩, none⟩, none, false⟩])
         .ret)
        .skip))
      (.seq
       (.ops false [
         ⟨⟨(some 38), .load 56 (.tmp 2), 56, "", ⟨[]⟩, none⟩, none, false⟩,
         ⟨⟨(some 39), .move (.tmp 5), 3, "", ⟨[]⟩, none⟩, none, false⟩,
         ⟨⟨(some 40), .call ⟨.value (.func 35), ⟨[(.tmp 38), (.const (.slice none 0 0)), (.tmp 39)]⟩, ⟨[56, 68, 3]⟩⟩, 71, "", ⟨[]⟩, none⟩, none, false⟩,
         ⟨⟨(some 37), .move (.tmp 40), 71, "", ⟨[]⟩, none⟩, none, false⟩,
         ⟨⟨(some 41), .extract (.tmp 37) 0, 70, "", ⟨[]⟩, none⟩, none, false⟩,
         ⟨⟨(some 42), .extract (.tmp 37) 1, 30, "", ⟨[]⟩, none⟩, none, false⟩,
         ⟨⟨(some 7), .alloc 70, 0, "", ⟨[]⟩, none⟩, none, false⟩,
         ⟨⟨none, .store 70 (.tmp 7) (.tmp 41), 0, "", ⟨[]⟩, none⟩, none, false⟩,
         ⟨⟨(some 8), .assign (.tmp 42), 30, "", ⟨[]⟩, none⟩, none, false⟩])
       (.seq
        (.ops false [
          ⟨⟨(some 44), .load 56 (.tmp 2), 56, "", ⟨[]⟩, none⟩, none, false⟩,
          ⟨⟨(some 45), .move (.tmp 5), 3, "", ⟨[]⟩, none⟩, none, false⟩,
          ⟨⟨(some 46), .move (.tmp 6), 3, "", ⟨[]⟩, none⟩, none, false⟩,
          ⟨⟨(some 47), .build 79 ⟨[(0, (.tmp 45)), (1, (.const (.int .i64 3))), (2, (.tmp 46))]⟩, 79, "", ⟨[]⟩, none⟩, none, false⟩,
          ⟨⟨(some 48), .buildSlice 68 1 ⟨[(0, (.tmp 47))]⟩, 68, "", ⟨[]⟩, none⟩, none, false⟩,
          ⟨⟨(some 49), .move (.tmp 5), 3, "", ⟨[]⟩, none⟩, none, false⟩,
          ⟨⟨(some 50), .move (.tmp 6), 3, "", ⟨[]⟩, none⟩, none, false⟩,
          ⟨⟨(some 51), .binOp .add 3 (.tmp 49) (.tmp 50) 3, 3, "", ⟨[]⟩, none⟩, none, false⟩,
          ⟨⟨(some 52), .call ⟨.value (.func 35), ⟨[(.tmp 44), (.tmp 48), (.tmp 51)]⟩, ⟨[56, 68, 3]⟩⟩, 71, "", ⟨[]⟩, none⟩, none, false⟩,
          ⟨⟨(some 43), .move (.tmp 52), 71, "", ⟨[]⟩, none⟩, none, false⟩,
          ⟨⟨(some 53), .extract (.tmp 43) 0, 70, "", ⟨[]⟩, none⟩, none, false⟩,
          ⟨⟨(some 54), .extract (.tmp 43) 1, 30, "", ⟨[]⟩, none⟩, none, false⟩,
          ⟨⟨(some 9), .alloc 70, 0, "", ⟨[]⟩, none⟩, none, false⟩,
          ⟨⟨none, .store 70 (.tmp 9) (.tmp 53), 0, "", ⟨[]⟩, none⟩, none, false⟩,
          ⟨⟨(some 10), .assign (.tmp 54), 30, "", ⟨[]⟩, none⟩, none, false⟩])
        (.seq
         (.seq
          (.ops false [
            ⟨⟨(some 55), .move (.tmp 8), 30, "", ⟨[]⟩, none⟩, none, false⟩,
            ⟨⟨(some 56), .binOp .neq 30 (.tmp 55) (.const (.int .i64 0)) 30, 4, "", ⟨[]⟩, none⟩, none, false⟩])
          (.cond (.tmp 56)
           (.seq
            (.ops false [
              ⟨⟨(some 4), .assign (.const (.bool false)), 4, "", ⟨[]⟩, none⟩, none, false⟩])
            .ret)
           .skip))
         (.seq
          (.seq
           (.ops false [
             ⟨⟨(some 57), .move (.tmp 10), 30, "", ⟨[]⟩, none⟩, none, false⟩,
             ⟨⟨(some 58), .binOp .neq 30 (.tmp 57) (.const (.int .i64 0)) 30, 4, "", ⟨[]⟩, none⟩, none, false⟩])
           (.cond (.tmp 58)
            (.seq
             (.ops false [
               ⟨⟨(some 59), .move (.tmp 10), 30, "", ⟨[]⟩, none⟩, none, false⟩,
               ⟨⟨(some 60), .binOp .eql 30 (.tmp 59) (.const (.int .i64 25)) 30, 4, "", ⟨[]⟩, none⟩, none, false⟩,
               ⟨⟨(some 61), .move (.tmp 60), 4, "", ⟨[]⟩, none⟩, none, false⟩,
               ⟨⟨(some 62), .fieldAddr 70 (.tmp 7) 3, 0, "", ⟨[]⟩, none⟩, some ((some 61), true), false⟩,
               ⟨⟨(some 63), .load 3 (.tmp 62), 3, "", ⟨[]⟩, none⟩, some ((some 61), true), false⟩,
               ⟨⟨(some 64), .fieldAddr 56 (.tmp 2) 1, 0, "", ⟨[]⟩, none⟩, some ((some 61), true), false⟩,
               ⟨⟨(some 65), .fieldAddr 54 (.tmp 64) 3, 0, "", ⟨[]⟩, none⟩, some ((some 61), true), false⟩,
               ⟨⟨(some 66), .load 3 (.tmp 65), 3, "", ⟨[]⟩, none⟩, some ((some 61), true), false⟩,
               ⟨⟨(some 67), .fieldAddr 56 (.tmp 2) 1, 0, "", ⟨[]⟩, none⟩, some ((some 61), true), false⟩,
               ⟨⟨(some 68), .fieldAddr 54 (.tmp 67) 4, 0, "", ⟨[]⟩, none⟩, some ((some 61), true), false⟩,
               ⟨⟨(some 69), .load 3 (.tmp 68), 3, "", ⟨[]⟩, none⟩, some ((some 61), true), false⟩,
               ⟨⟨(some 70), .binOp .add 3 (.tmp 66) (.tmp 69) 3, 3, "", ⟨[]⟩, none⟩, some ((some 61), true), false⟩,
               ⟨⟨(some 71), .binOp .gtr 3 (.tmp 63) (.tmp 70) 3, 4, "", ⟨[]⟩, none⟩, some ((some 61), true), false⟩,
               ⟨⟨(some 72), .pick (.tmp 61) (.tmp 71) (.const (.bool false)), 4, "", ⟨[]⟩, none⟩, none, false⟩,
               ⟨⟨(some 73), .move (.tmp 72), 4, "", ⟨[]⟩, none⟩, none, false⟩,
               ⟨⟨(some 74), .call ⟨.value (.func 21), ⟨[]⟩, ⟨[]⟩⟩, 4, "", ⟨[]⟩, none⟩, some ((some 73), true), false⟩,
               ⟨⟨(some 75), .pick (.tmp 73) (.tmp 74) (.const (.bool false)), 4, "", ⟨[]⟩, none⟩, none, false⟩,
               ⟨⟨(some 4), .assign (.tmp 75), 4, "", ⟨[]⟩, none⟩, none, false⟩])
             .ret)
            .skip))
          (.seq
           (.ops false [
             ⟨⟨(some 76), .load 70 (.tmp 7), 70, "", ⟨[]⟩, none⟩, none, false⟩,
             ⟨⟨(some 77), .load 70 (.tmp 9), 70, "", ⟨[]⟩, none⟩, none, false⟩,
             ⟨⟨(some 78), .binOp .eql 70 (.tmp 76) (.tmp 77) 70, 4, "", ⟨[]⟩, none⟩, none, false⟩,
             ⟨⟨(some 79), .move (.tmp 78), 4, "", ⟨[]⟩, none⟩, none, false⟩,
             ⟨⟨(some 80), .call ⟨.value (.func 21), ⟨[]⟩, ⟨[]⟩⟩, 4, "", ⟨[]⟩, none⟩, some ((some 79), true), false⟩,
             ⟨⟨(some 81), .pick (.tmp 79) (.tmp 80) (.const (.bool false)), 4, "", ⟨[]⟩, none⟩, none, false⟩,
             ⟨⟨(some 4), .assign (.tmp 81), 4, "", ⟨[]⟩, none⟩, none, false⟩])
           .ret))))))))))
def Try.s12 : SC :=
 (.seq
  (.ops false [
    ⟨⟨(some 3), .box 56 (.tmp 0), 0, "", ⟨[]⟩, none⟩, none, false⟩,
    ⟨⟨(some 6), .assign (.const (.bool false)), 4, "", ⟨[]⟩, none⟩, none, false⟩])
  (.seq
   (.ops false [
     ⟨⟨(some 15), .load 56 (.tmp 3), 56, "", ⟨[]⟩, none⟩, none, false⟩,
     ⟨⟨(some 16), .move (.tmp 1), 3, "", ⟨[]⟩, none⟩, none, false⟩,
     ⟨⟨(some 17), .call ⟨.value (.func 30), ⟨[(.tmp 15), (.tmp 16)]⟩, ⟨[56, 3]⟩⟩, 31, "", ⟨[]⟩, none⟩, none, false⟩,
     ⟨⟨(some 14), .move (.tmp 17), 31, "", ⟨[]⟩, none⟩, none, false⟩,
     ⟨⟨(some 18), .extract (.tmp 14) 0, 23, "", ⟨[]⟩, none⟩, none, false⟩,
     ⟨⟨(some 19), .extract (.tmp 14) 1, 30, "", ⟨[]⟩, none⟩, none, false⟩,
     ⟨⟨(some 7), .assign (.tmp 18), 23, "", ⟨[]⟩, none⟩, none, false⟩,
     ⟨⟨(some 8), .assign (.tmp 19), 30, "", ⟨[]⟩, none⟩, none, false⟩])
   (.seq
    (.seq
     (.ops false [
       ⟨⟨(some 20), .move (.tmp 8), 30, "", ⟨[]⟩, none⟩, none, false⟩,
       ⟨⟨(some 21), .binOp .neq 30 (.tmp 20) (.const (.int .i64 0)) 30, 4, "", ⟨[]⟩, none⟩, none, false⟩,
       ⟨⟨(some 22), .move (.tmp 21), 4, "", ⟨[]⟩, none⟩, none, false⟩,
       ⟨⟨(some 23), .move (.tmp 8), 30, "", ⟨[]⟩, none⟩, some ((some 22), true), false⟩,
       ⟨⟨(some 24), .binOp .neq 30 (.tmp 23) (.const (.int .i64 3)) 30, 4, "", ⟨[]⟩, none⟩, some ((some 22), true), false⟩,
       ⟨⟨(some 25), .pick (.tmp 22) (.tmp 24) (.const (.bool false)), 4, "", ⟨[]⟩, none⟩, none, false⟩])
     (.cond (.tmp 25)
      (.seq
       (.ops false [
         ⟨⟨(some 26), .move (.tmp 7), 23, "", ⟨[]⟩, none⟩, none, false⟩,
         ⟨⟨(some 27), .call ⟨.builtin .len, ⟨[(.tmp 26)]⟩, ⟨[23]⟩⟩, 3, "", ⟨[]⟩, none⟩, none, false⟩,
         ⟨⟨(some 28), .binOp .eql 3 (.tmp 27) (.const (.int .i64 0)) 3, 4, "", ⟨[]⟩, none⟩, none, false⟩,
         ⟨⟨(some 29), .move (.tmp 28), 4, "", ⟨[]⟩, none⟩, none, false⟩,
         ⟨⟨(some 30), .call ⟨.value (.func 21), ⟨[]⟩, ⟨[]⟩⟩, 4, "", ⟨[]⟩, none⟩, some ((some 29), true), false⟩,
         ⟨⟨(some 31), .pick (.tmp 29) (.tmp 30) (.const (.bool false)), 4, "", ⟨[]⟩, none⟩, none, false⟩,
         ⟨⟨(some 6), .assign (.tmp 31), 4, "", ⟨[]⟩, none⟩, none, false⟩])
       .ret)
      .skip))
    (.seq
     (.seq
      (.ops false [
        ⟨⟨(some 32), .fieldAddr 56 (.tmp 3) 3, 0, "", ⟨[]⟩, none⟩, none, false⟩,
        ⟨⟨(some 33), .load 3 (.tmp 32), 3, "", ⟨[]⟩, none⟩, none, false⟩,
        ⟨⟨(some 34), .call ⟨.value (.func 32), ⟨[(.const (.int .i64 0)), (.tmp 33), (.const (.int .i64 36500))]⟩, ⟨[3, 3, 3]⟩⟩, 4, "", ⟨[]⟩, none⟩, none, false⟩,
        ⟨⟨(some 35), .unOp .not 4 (.tmp 34), 4, "", ⟨[]⟩, none⟩, none, false⟩,
        ⟨⟨(some 36), .move (.tmp 35), 4, "", ⟨[]⟩, none⟩, none, false⟩,
        ⟨⟨(some 37), .fieldAddr 56 (.tmp 3) 3, 0, "", ⟨[]⟩, none⟩, some ((some 36), false), false⟩,
        ⟨⟨(some 38), .load 3 (.tmp 37), 3, "", ⟨[]⟩, none⟩, some ((some 36), false), false⟩,
        ⟨⟨(some 39), .move (.tmp 1), 3, "", ⟨[]⟩, none⟩, some ((some 36), false), false⟩,
        ⟨⟨(some 40), .call ⟨.value (.func 32), ⟨[(.tmp 38), (.tmp 39), (.const (.int .i64 36500))]⟩, ⟨[3, 3, 3]⟩⟩, 4, "", ⟨[]⟩, none⟩, some ((some 36), false), false⟩,
        ⟨⟨(some 41), .unOp .not 4 (.tmp 40), 4, "", ⟨[]⟩, none⟩, some ((some 36), false), false⟩,
        ⟨⟨(some 42), .pick (.tmp 36) (.const (.bool true)) (.tmp 41), 4, "", ⟨[]⟩, none⟩, none, false⟩,
        ⟨⟨(some 43), .move (.tmp 42), 4, "", ⟨[]⟩, none⟩, none, false⟩,
        ⟨⟨(some 44), .move (.tmp 8), 30, "", ⟨[]⟩, none⟩, some ((some 43), false), false⟩,
        ⟨⟨(some 45), .binOp .eql 30 (.tmp 44) (.const (.int .i64 0)) 30, 4, "", ⟨[]⟩, none⟩, some ((some 43), false), false⟩,
        ⟨⟨(some 46), .move (.tmp 45), 4, "", ⟨[]⟩, none⟩, some ((some 43), false), false⟩,
        ⟨⟨(some 47), .load 56 (.tmp 3), 56, "", ⟨[]⟩, none⟩, some ((some 46), true), false⟩,
        ⟨⟨(some 48), .move (.tmp 1), 3, "", ⟨[]⟩, none⟩, some ((some 46), true), false⟩,
        ⟨⟨(some 49), .move (.tmp 7), 23, "", ⟨[]⟩, none⟩, some ((some 46), true), false⟩,
        ⟨⟨(some 50), .call ⟨.value (.func 42), ⟨[(.tmp 47), (.tmp 48), (.tmp 49)]⟩, ⟨[56, 3, 23]⟩⟩, 4, "", ⟨[]⟩, none⟩, some ((some 46), true), false⟩,
        ⟨⟨(some 51), .pick (.tmp 46) (.tmp 50) (.const (.bool false)), 4, "", ⟨[]⟩, none⟩, some ((some 43), false), false⟩,
        ⟨⟨(some 52), .pick (.tmp 43) (.const (.bool true)) (.tmp 51), 4, "", ⟨[]⟩, none⟩, none, false⟩])
      (.cond (.tmp 52)
       (.seq
        (.ops false [
          ⟨⟨(some 6), .assign (.const (.bool false)), 4, "", ⟨[]⟩, none⟩, none, false⟩])
        .ret)
       .skip))
     (.seq
      (.ops false [
        ⟨⟨(some 9), .assign (.const (.slice none 0 0)), 68, "", ⟨[]⟩, none⟩, none, false⟩])
      (.seq
       (.seq
        (.ops false [
          ⟨⟨(some 10), .assign (.const (.int .i64 0)), 3, "", ⟨[]⟩, none⟩, none, false⟩])
        (.block 0
         (.loop
          (.seq
           (.seq
            (.ops false [
              ⟨⟨(some 53), .move (.tmp 10), 3, "", ⟨[]⟩, none⟩, none, false⟩,
              ⟨⟨(some 54), .move (.tmp 7), 23, "", ⟨[]⟩, none⟩, none, false⟩,
              ⟨⟨(some 55), .call ⟨.builtin .len, ⟨[(.tmp 54)]⟩, ⟨[23]⟩⟩, 3, "", ⟨[]⟩, none⟩, none, false⟩,
              ⟨⟨(some 56), .binOp .lss 3 (.tmp 53) (.tmp 55) 3, 4, "", ⟨[]⟩, none⟩, none, false⟩])
            (.cond (.tmp 56)
             .skip
             (.exit 0)))
           (.seq
            (.block 1
             (.ops false [
               ⟨⟨(some 59), .move (.tmp 9), 68, "", ⟨[]⟩, none⟩, none, false⟩,
               ⟨⟨(some 60), .move (.tmp 7), 23, "", ⟨[]⟩, none⟩, none, false⟩,
               ⟨⟨(some 61), .move (.tmp 10), 3, "", ⟨[]⟩, none⟩, none, false⟩,
               ⟨⟨(some 62), .indexAddr 23 (.tmp 60) (.tmp 61), 0, "", ⟨[]⟩, none⟩, none, false⟩,
               ⟨⟨(some 63), .load 3 (.tmp 62), 3, "", ⟨[]⟩, none⟩, none, false⟩,
               ⟨⟨(some 64), .build 79 ⟨[(0, (.tmp 63)), (1, (.const (.int .i64 2)))]⟩, 79, "", ⟨[]⟩, none⟩, none, false⟩,
               ⟨⟨(some 65), .buildSlice 68 1 ⟨[(0, (.tmp 64))]⟩, 68, "", ⟨[]⟩, none⟩, none, false⟩,
               ⟨⟨(some 66), .call ⟨.builtin .append, ⟨[(.tmp 59), (.tmp 65)]⟩, ⟨[68, 68]⟩⟩, 68, "", ⟨[]⟩, none⟩, none, false⟩,
               ⟨⟨(some 9), .assign (.tmp 66), 68, "", ⟨[]⟩, none⟩, none, false⟩]))
            (.ops false [
              ⟨⟨(some 57), .move (.tmp 10), 3, "", ⟨[]⟩, none⟩, none, false⟩,
              ⟨⟨(some 58), .binOp .add 3 (.tmp 57) (.const (.int .i64 1)) 3, 3, "", ⟨[]⟩, none⟩, none, false⟩,
              ⟨⟨(some 10), .assign (.tmp 58), 3, "", ⟨[]⟩, none⟩, none, false⟩]))))))
       (.seq
        (.seq
         (.ops false [
           ⟨⟨(some 68), .load 56 (.tmp 3), 56, "", ⟨[]⟩, none⟩, none, false⟩,
           ⟨⟨(some 69), .move (.tmp 9), 68, "", ⟨[]⟩, none⟩, none, false⟩,
           ⟨⟨(some 70), .move (.tmp 1), 3, "", ⟨[]⟩, none⟩, none, false⟩,
           ⟨⟨(some 71), .call ⟨.value (.func 35), ⟨[(.tmp 68), (.tmp 69), (.tmp 70)]⟩, ⟨[56, 68, 3]⟩⟩, 71, "", ⟨[]⟩, none⟩, none, false⟩,
           ⟨⟨(some 67), .move (.tmp 71), 71, "", ⟨[]⟩, none⟩, none, false⟩,
           ⟨⟨(some 72), .extract (.tmp 67) 0, 70, "", ⟨[]⟩, none⟩, none, false⟩,
           ⟨⟨(some 73), .extract (.tmp 67) 1, 30, "", ⟨[]⟩, none⟩, none, false⟩,
           ⟨⟨(some 11), .alloc 70, 0, "", ⟨[]⟩, none⟩, none, false⟩,
           ⟨⟨none, .store 70 (.tmp 11) (.tmp 72), 0, "", ⟨[]⟩, none⟩, none, false⟩,
           ⟨⟨(some 12), .assign (.tmp 73), 30, "", ⟨[]⟩, none⟩, none, false⟩])
         (.seq
          (.ops false [
            ⟨⟨(some 74), .move (.tmp 8), 30, "", ⟨[]⟩, none⟩, none, false⟩,
            ⟨⟨(some 75), .binOp .eql 30 (.tmp 74) (.const (.int .i64 0)) 30, 4, "", ⟨[]⟩, none⟩, none, false⟩,
            ⟨⟨(some 76), .move (.tmp 75), 4, "", ⟨[]⟩, none⟩, none, false⟩,
            ⟨⟨(some 77), .move (.tmp 12), 30, "", ⟨[]⟩, none⟩, some ((some 76), true), false⟩,
            ⟨⟨(some 78), .binOp .neq 30 (.tmp 77) (.const (.int .i64 0)) 30, 4, "", ⟨[]⟩, none⟩, some ((some 76), true), false⟩,
            ⟨⟨(some 79), .move (.tmp 78), 4, "", ⟨[]⟩, none⟩, some ((some 76), true), false⟩,
            ⟨⟨(some 80), .fieldAddr 70 (.tmp 11) 3, 0, "", ⟨[]⟩, none⟩, some ((some 79), false), false⟩,
            ⟨⟨(some 81), .load 3 (.tmp 80), 3, "", ⟨[]⟩, none⟩, some ((some 79), false), false⟩,
            ⟨⟨(some 82), .fieldAddr 56 (.tmp 3) 1, 0, "", ⟨[]⟩, none⟩, some ((some 79), false), false⟩,
            ⟨⟨(some 83), .fieldAddr 54 (.tmp 82) 3, 0, "", ⟨[]⟩, none⟩, some ((some 79), false), false⟩,
            ⟨⟨(some 84), .load 3 (.tmp 83), 3, "", ⟨[]⟩, none⟩, some ((some 79), false), false⟩,
            ⟨⟨(some 85), .fieldAddr 56 (.tmp 3) 1, 0, "", ⟨[]⟩, none⟩, some ((some 79), false), false⟩,
            ⟨⟨(some 86), .fieldAddr 54 (.tmp 85) 4, 0, "", ⟨[]⟩, none⟩, some ((some 79), false), false⟩,
            ⟨⟨(some 87), .load 3 (.tmp 86), 3, "", ⟨[]⟩, none⟩, some ((some 79), false), false⟩,
            ⟨⟨(some 88), .binOp .add 3 (.tmp 84) (.tmp 87) 3, 3, "", ⟨[]⟩, none⟩, some ((some 79), false), false⟩,
            ⟨⟨(some 89), .binOp .gtr 3 (.tmp 81) (.tmp 88) 3, 4, "", ⟨[]⟩, none⟩, some ((some 79), false), false⟩,
            ⟨⟨(some 90), .pick (.tmp 79) (.const (.bool true)) (.tmp 89), 4, "", ⟨[]⟩, none⟩, some ((some 76), true), false⟩,
            ⟨⟨(some 91), .pick (.tmp 76) (.tmp 90) (.const (.bool false)), 4, "", ⟨[]⟩, none⟩, none, false⟩])
          (.cond (.tmp 91)
           (.seq
            (.ops false [
              ⟨⟨(some 6), .assign (.const (.bool false)), 4, "", ⟨[]⟩, none⟩, none, false⟩])
            .ret)
           .skip)))
        (.seq
         (.ops false [
           ⟨⟨(some 92), .move (.tmp 8), 30, "", ⟨[]⟩, none⟩, none, false⟩,
           ⟨⟨(some 93), .binOp .eql 30 (.tmp 92) (.const (.int .i64 0)) 30, 4, "", ⟨[]⟩, none⟩, none, false⟩,
           ⟨⟨(some 94), .move (.tmp 93), 4, "", ⟨[]⟩, none⟩, none, false⟩,
           ⟨⟨(some 95), .move (.tmp 2), 23, "", ⟨[]⟩, none⟩, some ((some 94), true), false⟩,
           ⟨⟨(some 96), .call ⟨.builtin .len, ⟨[(.tmp 95)]⟩, ⟨[23]⟩⟩, 3, "", ⟨[]⟩, none⟩, some ((some 94), true), false⟩,
           ⟨⟨(some 97), .move (.tmp 7), 23, "", ⟨[]⟩, none⟩, some ((some 94), true), false⟩,
           ⟨⟨(some 98), .call ⟨.builtin .len, ⟨[(.tmp 97)]⟩, ⟨[23]⟩⟩, 3, "", ⟨[]⟩, none⟩, some ((some 94), true), false⟩,
           ⟨⟨(some 99), .binOp .lss 3 (.tmp 96) (.tmp 98) 3, 4, "", ⟨[]⟩, none⟩, some ((some 94), true), false⟩,
           ⟨⟨(some 100), .pick (.tmp 94) (.tmp 99) (.const (.bool false)), 4, "", ⟨[]⟩, none⟩, none, false⟩,
           ⟨⟨(some 101), .move (.tmp 100), 4, "", ⟨[]⟩, none⟩, none, false⟩,
           ⟨⟨(some 102), .move (.tmp 8), 30, "", ⟨[]⟩, none⟩, some ((some 101), false), false⟩,
           ⟨⟨(some 103), .binOp .eql 30 (.tmp 102) (.const (.int .i64 3)) 30, 4, "", ⟨[]⟩, none⟩, some ((some 101), false), false⟩,
           ⟨⟨(some 104), .move (.tmp 103), 4, "", ⟨[]⟩, none⟩, some ((some 101), false), false⟩,
           ⟨⟨(some 105), .move (.tmp 2), 23, "", ⟨[]⟩, none⟩, some ((some 104), true), false⟩,
           ⟨⟨(some 106), .call ⟨.builtin .len, ⟨[(.tmp 105)]⟩, ⟨[23]⟩⟩, 3, "", ⟨[]⟩, none⟩, some ((some 104), true), false⟩,
           ⟨⟨(some 107), .binOp .leq 3 (.tmp 106) (.const (.int .i64 32)) 3, 4, "", ⟨[]⟩, none⟩, some ((some 104), true), false⟩,
           ⟨⟨(some 108), .pick (.tmp 104) (.tmp 107) (.const (.bool false)), 4, "", ⟨[]⟩, none⟩, some ((some 101), false), false⟩,
           ⟨⟨(some 109), .pick (.tmp 101) (.const (.bool true)) (.tmp 108), 4, "", ⟨[]⟩, none⟩, none, false⟩,
           ⟨⟨(some 13), .assign (.tmp 109), 4, "", ⟨[]⟩, none⟩, none, false⟩])
         (.seq
          (.ops false [
            ⟨⟨(some 110), .move (.tmp 13), 4, "", ⟨[]⟩, none⟩, none, false⟩,
            ⟨⟨(some 111), .unOp .not 4 (.tmp 110), 4, "", ⟨[]⟩, none⟩, none, false⟩,
            ⟨⟨(some 112), .move (.tmp 111), 4, "", ⟨[]⟩, none⟩, none, false⟩,
            ⟨⟨(some 113), .load 56 (.tmp 3), 56, "", ⟨[]⟩, none⟩, some ((some 112), false), false⟩,
            ⟨⟨(some 114), .move (.tmp 1), 3, "", ⟨[]⟩, none⟩, some ((some 112), false), false⟩,
            ⟨⟨(some 115), .move (.tmp 2), 23, "", ⟨[]⟩, none⟩, some ((some 112), false), false⟩,
            ⟨⟨(some 116), .call ⟨.value (.func 42), ⟨[(.tmp 113), (.tmp 114), (.tmp 115)]⟩, ⟨[56, 3, 23]⟩⟩, 4, "", ⟨[]⟩, none⟩, some ((some 112), false), false⟩,
            ⟨⟨(some 117), .pick (.tmp 112) (.const (.bool true)) (.tmp 116), 4, "", ⟨[]⟩, none⟩, none, false⟩,
            ⟨⟨(some 118), .move (.tmp 117), 4, "", ⟨[]⟩, none⟩, none, false⟩,
            ⟨⟨(some 119), .call ⟨.value (.func 21), ⟨[]⟩, ⟨[]⟩⟩, 4, "", ⟨[]⟩, none⟩, some ((some 118), true), false⟩,
            ⟨⟨(some 120), .pick (.tmp 118) (.tmp 119) (.const (.bool false)), 4, "", ⟨[]⟩, none⟩, none, false⟩,
            ⟨⟨(some 6), .assign (.tmp 120), 4, "", ⟨[]⟩, none⟩, none, false⟩])
          .ret)))))))))
def Try.s33 : SC :=
 (.seq
  (.ops false [
    ⟨⟨(some 4), .assign (.const (.int .i64 0)), 3, "", ⟨[]⟩, none⟩, none, false⟩])
  (.seq
   (.seq
    (.ops false [
      ⟨⟨(some 5), .move (.tmp 1), 3, "", ⟨[]⟩, none⟩, none, false⟩,
      ⟨⟨(some 6), .binOp .leq 3 (.tmp 5) (.const (.int .i64 0)) 3, 4, "", ⟨[]⟩, none⟩, none, false⟩])
    (.cond (.tmp 6)
     (.seq
      (.ops false [
        ⟨⟨(some 4), .assign (.const (.int .i64 0)), 3, "", ⟨[]⟩, none⟩, none, false⟩])
      .ret)
     .skip))
   (.seq
    (.ops false [
      ⟨⟨(some 7), .move (.tmp 0), 3, "", ⟨[]⟩, none⟩, none, false⟩,
      ⟨⟨(some 8), .move (.tmp 1), 3, "", ⟨[]⟩, none⟩, none, false⟩,
      ⟨⟨(some 9), .binOp .rem 3 (.tmp 7) (.tmp 8) 3, 3, "", ⟨[]⟩, none⟩, none, false⟩,
      ⟨⟨(some 10), .move (.tmp 1), 3, "", ⟨[]⟩, none⟩, none, false⟩,
      ⟨⟨(some 11), .binOp .add 3 (.tmp 9) (.tmp 10) 3, 3, "", ⟨[]⟩, none⟩, none, false⟩,
      ⟨⟨(some 12), .move (.tmp 1), 3, "", ⟨[]⟩, none⟩, none, false⟩,
      ⟨⟨(some 13), .binOp .rem 3 (.tmp 11) (.tmp 12) 3, 3, "", ⟨[]⟩, none⟩, none, false⟩,
      ⟨⟨(some 4), .assign (.tmp 13), 3, "", ⟨[]⟩, none⟩, none, false⟩])
    .ret)))
def Try.s38 : SC :=
 (.seq
  (.ops false [
    ⟨⟨(some 6), .assign (.const (.bool false)), 4, "", ⟨[]⟩, none⟩, none, false⟩])
  (.seq
   (.seq
    (.ops false [
      ⟨⟨(some 7), .assign (.const (.int .i64 0)), 3, "", ⟨[]⟩, none⟩, none, false⟩])
    (.block 0
     (.loop
      (.seq
       (.seq
        (.ops false [
          ⟨⟨(some 8), .move (.tmp 7), 3, "", ⟨[]⟩, none⟩, none, false⟩,
          ⟨⟨(some 9), .move (.tmp 1), 3, "", ⟨[]⟩, none⟩, none, false⟩,
          ⟨⟨(some 10), .binOp .lss 3 (.tmp 8) (.tmp 9) 3, 4, "", ⟨[]⟩, none⟩, none, false⟩,
          ⟨⟨(some 11), .move (.tmp 10), 4, "", ⟨[]⟩, none⟩, none, false⟩,
          ⟨⟨(some 12), .move (.tmp 7), 3, "", ⟨[]⟩, none⟩, some ((some 11), true), false⟩,
          ⟨⟨(some 13), .move (.tmp 0), 68, "", ⟨[]⟩, none⟩, some ((some 11), true), false⟩,
          ⟨⟨(some 14), .call ⟨.builtin .len, ⟨[(.tmp 13)]⟩, ⟨[68]⟩⟩, 3, "", ⟨[]⟩, none⟩, some ((some 11), true), false⟩,
          ⟨⟨(some 15), .binOp .lss 3 (.tmp 12) (.tmp 14) 3, 4, "", ⟨[]⟩, none⟩, some ((some 11), true), false⟩,
          ⟨⟨(some 16), .pick (.tmp 11) (.tmp 15) (.const (.bool false)), 4, "", ⟨[]⟩, none⟩, none, false⟩])
        (.cond (.tmp 16)
         .skip
         (.exit 0)))
       (.seq
        (.block 1
         (.seq
          (.ops true [
            ⟨⟨(some 19), .move (.tmp 0), 68, "", ⟨[]⟩, none⟩, none, true⟩,
            ⟨⟨(some 20), .move (.tmp 7), 3, "", ⟨[]⟩, none⟩, none, true⟩,
            ⟨⟨(some 21), .indexAddr 68 (.tmp 19) (.tmp 20), 0, "", ⟨[]⟩, none⟩, none, true⟩,
            ⟨⟨(some 22), .fieldAddr 79 (.tmp 21) 1, 0, "", ⟨[]⟩, none⟩, none, true⟩,
            ⟨⟨(some 23), .load 3 (.tmp 22), 3, "", ⟨[]⟩, none⟩, none, true⟩,
            ⟨⟨(some 24), .binOp .eql 3 (.tmp 23) (.const (.int .i64 3)) 3, 4, "", ⟨[]⟩, none⟩, none, true⟩,
            ⟨⟨(some 25), .move (.tmp 24), 4, "", ⟨[]⟩, none⟩, none, true⟩,
            ⟨⟨(some 26), .move (.tmp 0), 68, "", ⟨[]⟩, none⟩, some ((some 25), true), true⟩,
            ⟨⟨(some 27), .move (.tmp 7), 3, "", ⟨[]⟩, none⟩, some ((some 25), true), true⟩,
            ⟨⟨(some 28), .indexAddr 68 (.tmp 26) (.tmp 27), 0, "", ⟨[]⟩, none⟩, some ((some 25), true), true⟩,
            ⟨⟨(some 29), .fieldAddr 79 (.tmp 28) 0, 0, "", ⟨[]⟩, none⟩, some ((some 25), true), true⟩,
            ⟨⟨(some 30), .load 3 (.tmp 29), 3, "", ⟨[]⟩, none⟩, some ((some 25), true), true⟩,
            ⟨⟨(some 31), .move (.tmp 2), 3, "", ⟨[]⟩, none⟩, some ((some 25), true), true⟩,
            ⟨⟨(some 32), .binOp .lss 3 (.tmp 30) (.tmp 31) 3, 4, "", ⟨[]⟩, none⟩, some ((some 25), true), true⟩,
            ⟨⟨(some 33), .pick (.tmp 25) (.tmp 32) (.const (.bool false)), 4, "", ⟨[]⟩, none⟩, none, true⟩,
            ⟨⟨(some 34), .move (.tmp 33), 4, "", ⟨[]⟩, none⟩, none, true⟩,
            ⟨⟨(some 35), .move (.tmp 2), 3, "", ⟨[]⟩, none⟩, some ((some 34), true), true⟩,
            ⟨⟨(some 36), .move (.tmp 0), 68, "", ⟨[]⟩, none⟩, some ((some 34), true), true⟩,
            ⟨⟨(some 37), .move (.tmp 7), 3, "", ⟨[]⟩, none⟩, some ((some 34), true), true⟩,
            ⟨⟨(some 38), .indexAddr 68 (.tmp 36) (.tmp 37), 0, "", ⟨[]⟩, none⟩, some ((some 34), true), true⟩,
            ⟨⟨(some 39), .fieldAddr 79 (.tmp 38) 0, 0, "", ⟨[]⟩, none⟩, some ((some 34), true), true⟩,
            ⟨⟨(some 40), .load 3 (.tmp 39), 3, "", ⟨[]⟩, none⟩, some ((some 34), true), true⟩,
            ⟨⟨(some 41), .binOp .sub 3 (.tmp 35) (.tmp 40) 3, 3, "", ⟨[]⟩, none⟩, some ((some 34), true), true⟩,
            ⟨⟨(some 42), .move (.tmp 0), 68, "", ⟨[]⟩, none⟩, some ((some 34), true), true⟩,
            ⟨⟨(some 43), .move (.tmp 7), 3, "", ⟨[]⟩, none⟩, some ((some 34), true), true⟩,
            ⟨⟨(some 44), .indexAddr 68 (.tmp 42) (.tmp 43), 0, "", ⟨[]⟩, none⟩, some ((some 34), true), true⟩,
            ⟨⟨(some 45), .fieldAddr 79 (.tmp 44) 2, 0, "", ⟨[]⟩, none⟩, some ((some 34), true), true⟩,
            ⟨⟨(some 46), .load 3 (.tmp 45), 3, "", ⟨[]⟩, none⟩, some ((some 34), true), true⟩,
            ⟨⟨(some 47), .binOp .leq 3 (.tmp 41) (.tmp 46) 3, 4, "", ⟨[]⟩, none⟩, some ((some 34), true), true⟩,
            ⟨⟨(some 48), .pick (.tmp 34) (.tmp 47) (.const (.bool false)), 4, "", ⟨[]⟩, none⟩, none, true⟩])
          (.cond (.tmp 48)
           (.seq
            (.ops false [
              ⟨⟨(some 6), .assign (.const (.bool true)), 4, "", ⟨[]⟩, none⟩, none, false⟩])
            .ret)
           .skip)))
        (.ops false [
          ⟨⟨(some 17), .move (.tmp 7), 3, "", ⟨[]⟩, none⟩, none, false⟩,
          ⟨⟨(some 18), .binOp .add 3 (.tmp 17) (.const (.int .i64 1)) 3, 3, "", ⟨[]⟩, none⟩, none, false⟩,
          ⟨⟨(some 7), .assign (.tmp 18), 3, "", ⟨[]⟩, none⟩, none, false⟩]))))))
   (.seq
    (.ops false [
      ⟨⟨(some 6), .assign (.const (.bool false)), 4, "", ⟨[]⟩, none⟩, none, false⟩])
    .ret)))
def Try.s40 : SC :=
 (.seq
  (.ops false [
    ⟨⟨(some 2), .box 56 (.tmp 0), 0, "", ⟨[]⟩, none⟩, none, false⟩,
    ⟨⟨(some 4), .assign (.const (.int .i64 0)), 3, "", ⟨[]⟩, none⟩, none, false⟩])
  (.seq
   (.seq
    (.ops false [
      ⟨⟨(some 5), .move (.tmp 1), 68, "", ⟨[]⟩, none⟩, none, false⟩,
      ⟨⟨(some 6), .call ⟨.builtin .len, ⟨[(.tmp 5)]⟩, ⟨[68]⟩⟩, 3, "", ⟨[]⟩, none⟩, none, false⟩,
      ⟨⟨(some 7), .binOp .eql 3 (.tmp 6) (.const (.int .i64 0)) 3, 4, "", ⟨[]⟩, none⟩, none, false⟩])
    (.cond (.tmp 7)
     (.seq
      (.ops false [
        ⟨⟨(some 8), .fieldAddr 56 (.tmp 2) 3, 0, "", ⟨[]⟩, none⟩, none, false⟩,
        ⟨⟨(some 9), .load 3 (.tmp 8), 3, "", ⟨[]⟩, none⟩, none, false⟩,
        ⟨⟨(some 4), .assign (.tmp 9), 3, "", ⟨[]⟩, none⟩, none, false⟩])
      .ret)
     .skip))
   (.seq
    (.ops false [
      ⟨⟨(some 10), .move (.tmp 1), 68, "", ⟨[]⟩, none⟩, none, false⟩,
      ⟨⟨(some 11), .move (.tmp 1), 68, "", ⟨[]⟩, none⟩, none, false⟩,
      ⟨⟨(some 12), .call ⟨.builtin .len, ⟨[(.tmp 11)]⟩, ⟨[68]⟩⟩, 3, "", ⟨[]⟩, none⟩, none, false⟩,
      ⟨⟨(some 13), .binOp .sub 3 (.tmp 12) (.const (.int .i64 1)) 3, 3, "", ⟨[]⟩, none⟩, none, false⟩,
      ⟨⟨(some 14), .indexAddr 68 (.tmp 10) (.tmp 13), 0, "", ⟨[]⟩, none⟩, none, false⟩,
      ⟨⟨(some 15), .fieldAddr 79 (.tmp 14) 0, 0, "", ⟨[]⟩, none⟩, none, false⟩,
      ⟨⟨(some 16), .load 3 (.tmp 15), 3, "", ⟨[]⟩, none⟩, none, false⟩,
      ⟨⟨(some 4), .assign (.tmp 16), 3, "", ⟨[]⟩, none⟩, none, false⟩])
    .ret)))
def Try.s42 : SC :=
 (.seq
  (.ops false [
    ⟨⟨(some 3), .box 56 (.tmp 0), 0, "", ⟨[]⟩, none⟩, none, false⟩,
    ⟨⟨(some 6), .assign (.const (.bool false)), 4, "", ⟨[]⟩, none⟩, none, false⟩])
  (.seq
   (.ops false [
     ⟨⟨(some 7), .assign (.const (.int .i64 0)), 3, "", ⟨[]⟩, none⟩, none, false⟩])
   (.seq
    (.seq
     (.ops false [
       ⟨⟨(some 9), .fieldAddr 56 (.tmp 3) 3, 0, "", ⟨[]⟩, none⟩, none, false⟩,
       ⟨⟨(some 10), .load 3 (.tmp 9), 3, "", ⟨[]⟩, none⟩, none, false⟩,
       ⟨⟨(some 8), .assign (.tmp 10), 3, "", ⟨[]⟩, none⟩, none, false⟩])
     (.block 0
      (.loop
       (.seq
        (.seq
         (.ops false [
           ⟨⟨(some 11), .move (.tmp 8), 3, "", ⟨[]⟩, none⟩, none, false⟩,
           ⟨⟨(some 12), .move (.tmp 1), 3, "", ⟨[]⟩, none⟩, none, false⟩,
           ⟨⟨(some 13), .binOp .leq 3 (.tmp 11) (.tmp 12) 3, 4, "", ⟨[]⟩, none⟩, none, false⟩])
         (.cond (.tmp 13)
          .skip
          (.exit 0)))
        (.seq
         (.block 1
          (.seq
           (.seq
            (.ops false [
              ⟨⟨(some 16), .move (.tmp 8), 3, "", ⟨[]⟩, none⟩, none, false⟩,
              ⟨⟨(some 17), .fieldAddr 56 (.tmp 3) 3, 0, "", ⟨[]⟩, none⟩, none, false⟩,
              ⟨⟨(some 18), .load 3 (.tmp 17), 3, "", ⟨[]⟩, none⟩, none, false⟩,
              ⟨⟨(some 19), .binOp .gtr 3 (.tmp 16) (.tmp 18) 3, 4, "", ⟨[]⟩, none⟩, none, false⟩,
              ⟨⟨(some 20), .move (.tmp 19), 4, "", ⟨[]⟩, none⟩, none, false⟩,
              ⟨⟨(some 21), .fieldAddr 56 (.tmp 3) 2, 0, "", ⟨[]⟩, none⟩, some ((some 20), true), false⟩,
              ⟨⟨(some 22), .load 23 (.tmp 21), 23, "", ⟨[]⟩, none⟩, some ((some 20), true), false⟩,
              ⟨⟨(some 23), .move (.tmp 8), 3, "", ⟨[]⟩, none⟩, some ((some 20), true), false⟩,
              ⟨⟨(some 24), .call ⟨.value (.func 37), ⟨[(.tmp 22), (.tmp 23)]⟩, ⟨[23, 3]⟩⟩, 3, "", ⟨[]⟩, none⟩, some ((some 20), true), false⟩,
              ⟨⟨(some 25), .binOp .lss 3 (.tmp 24) (.const (.int .i64 0)) 3, 4, "", ⟨[]⟩, none⟩, some ((some 20), true), false⟩,
              ⟨⟨(some 26), .pick (.tmp 20) (.tmp 25) (.const (.bool false)), 4, "", ⟨[]⟩, none⟩, none, false⟩])
            (.cond (.tmp 26)
             (.ops false [
               ⟨⟨(some 27), .move (.tmp 7), 3, "", ⟨[]⟩, none⟩, none, false⟩,
               ⟨⟨(some 28), .binOp .add 3 (.tmp 27) (.const (.int .i64 1)) 3, 3, "", ⟨[]⟩, none⟩, none, false⟩,
               ⟨⟨(some 7), .assign (.tmp 28), 3, "", ⟨[]⟩, none⟩, none, false⟩])
             .skip))
           (.seq
            (.seq
             (.ops false [
               ⟨⟨(some 29), .move (.tmp 7), 3, "", ⟨[]⟩, none⟩, none, false⟩,
               ⟨⟨(some 30), .fieldAddr 56 (.tmp 3) 1, 0, "", ⟨[]⟩, none⟩, none, false⟩,
               ⟨⟨(some 31), .fieldAddr 54 (.tmp 30) 3, 0, "", ⟨[]⟩, none⟩, none, false⟩,
               ⟨⟨(some 32), .load 3 (.tmp 31), 3, "", ⟨[]⟩, none⟩, none, false⟩,
               ⟨⟨(some 33), .fieldAddr 56 (.tmp 3) 1, 0, "", ⟨[]⟩, none⟩, none, false⟩,
               ⟨⟨(some 34), .fieldAddr 54 (.tmp 33) 4, 0, "", ⟨[]⟩, none⟩, none, false⟩,
               ⟨⟨(some 35), .load 3 (.tmp 34), 3, "", ⟨[]⟩, none⟩, none, false⟩,
               ⟨⟨(some 36), .binOp .add 3 (.tmp 32) (.tmp 35) 3, 3, "", ⟨[]⟩, none⟩, none, false⟩,
               ⟨⟨(some 37), .binOp .gtr 3 (.tmp 29) (.tmp 36) 3, 4, "", ⟨[]⟩, none⟩, none, false⟩])
             (.cond (.tmp 37)
              (.seq
               (.ops false [
                 ⟨⟨(some 6), .assign (.const (.bool true)), 4, "", ⟨[]⟩, none⟩, none, false⟩])
               .ret)
              .skip))
            (.seq
             (.ops false [
               ⟨⟨(some 38), .move (.tmp 2), 23, "", ⟨[]⟩, none⟩, none, false⟩,
               ⟨⟨(some 39), .move (.tmp 8), 3, "", ⟨[]⟩, none⟩, none, false⟩,
               ⟨⟨(some 40), .call ⟨.value (.func 37), ⟨[(.tmp 38), (.tmp 39)]⟩, ⟨[23, 3]⟩⟩, 3, "", ⟨[]⟩, none⟩, none, false⟩,
               ⟨⟨(some 41), .binOp .geq 3 (.tmp 40) (.const (.int .i64 0)) 3, 4, "", ⟨[]⟩, none⟩, none, false⟩])
             (.cond (.tmp 41)
              (.ops false [
                ⟨⟨(some 7), .assign (.const (.int .i64 0)), 3, "", ⟨[]⟩, none⟩, none, false⟩])
              .skip)))))
         (.ops false [
           ⟨⟨(some 14), .move (.tmp 8), 3, "", ⟨[]⟩, none⟩, none, false⟩,
           ⟨⟨(some 15), .binOp .add 3 (.tmp 14) (.const (.int .i64 1)) 3, 3, "", ⟨[]⟩, none⟩, none, false⟩,
           ⟨⟨(some 8), .assign (.tmp 15), 3, "", ⟨[]⟩, none⟩, none, false⟩]))))))
    (.seq
     (.ops false [
       ⟨⟨(some 6), .assign (.const (.bool false)), 4, "", ⟨[]⟩, none⟩, none, false⟩])
     .ret))))
theorem Try.s8_eq : Try.f8.body.map sOf = some Try.s8 := by kernel_rfl
theorem Try.s9_eq : Try.f9.body.map sOf = some Try.s9 := by kernel_rfl
theorem Try.s10_eq : Try.f10.body.map sOf = some Try.s10 := by kernel_rfl
theorem Try.s11_eq : Try.f11.body.map sOf = some Try.s11 := by kernel_rfl
theorem Try.s12_eq : Try.f12.body.map sOf = some Try.s12 := by kernel_rfl
theorem Try.s33_eq : Try.f33.body.map sOf = some Try.s33 := by kernel_rfl
theorem Try.s38_eq : Try.f38.body.map sOf = some Try.s38 := by kernel_rfl
theorem Try.s40_eq : Try.f40.body.map sOf = some Try.s40 := by kernel_rfl
theorem Try.s42_eq : Try.f42.body.map sOf = some Try.s42 := by kernel_rfl
end Go.Proofs
