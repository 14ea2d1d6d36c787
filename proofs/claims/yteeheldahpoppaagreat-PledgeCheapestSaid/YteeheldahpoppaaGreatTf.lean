/- The law's stripped code. -/
import Derived.Test.YteeheldahpoppaaGreatTa
import Derived.Test.YteeheldahpoppaaGreatNa
set_option linter.unusedVariables false
set_option linter.unusedSimpArgs false
/- Functions' code, as the machine reads it. -/
namespace Go.Proofs
open Go Go.RowKit Go.Sim
set_option maxRecDepth 100000
def Tryz.s8 : SC :=
 (.seq
  (.ops false [
    ⟨⟨(some 3), .box 38 (.tmp 0), 0, "", ⟨[]⟩, none⟩, none, false⟩,
    ⟨⟨(some 6), .assign (.const (.bool false)), 4, "", ⟨[]⟩, none⟩, none, false⟩])
  (.seq
   (.ops false [
     ⟨⟨(some 23), .fieldAddr 38 (.tmp 3) 0, 0, "", ⟨[]⟩, none⟩, none, false⟩,
     ⟨⟨(some 24), .load 22 (.tmp 23), 22, "", ⟨[]⟩, none⟩, none, false⟩,
     ⟨⟨(some 25), .fieldAddr 38 (.tmp 3) 1, 0, "", ⟨[]⟩, none⟩, none, false⟩,
     ⟨⟨(some 26), .load 24 (.tmp 25), 24, "", ⟨[]⟩, none⟩, none, false⟩,
     ⟨⟨(some 27), .fieldAddr 38 (.tmp 3) 2, 0, "", ⟨[]⟩, none⟩, none, false⟩,
     ⟨⟨(some 28), .load 36 (.tmp 27), 36, "", ⟨[]⟩, none⟩, none, false⟩,
     ⟨⟨(some 29), .call ⟨.value (.func 22), ⟨[(.tmp 24), (.tmp 26), (.tmp 28)]⟩, ⟨[22, 24, 36]⟩⟩, 46, "", ⟨[]⟩, none⟩, none, false⟩,
     ⟨⟨(some 22), .move (.tmp 29), 46, "", ⟨[]⟩, none⟩, none, false⟩,
     ⟨⟨(some 30), .extract (.tmp 22) 0, 24, "", ⟨[]⟩, none⟩, none, false⟩,
     ⟨⟨(some 31), .extract (.tmp 22) 1, 3, "", ⟨[]⟩, none⟩, none, false⟩,
     ⟨⟨(some 32), .extract (.tmp 22) 2, 27, "", ⟨[]⟩, none⟩, none, false⟩,
     ⟨⟨(some 7), .assign (.tmp 30), 24, "", ⟨[]⟩, none⟩, none, false⟩,
     ⟨⟨(some 8), .assign (.tmp 31), 3, "", ⟨[]⟩, none⟩, none, false⟩,
     ⟨⟨(some 9), .assign (.tmp 32), 27, "", ⟨[]⟩, none⟩, none, false⟩])
   (.seq
    (.ops false [
      ⟨⟨(some 34), .fieldAddr 38 (.tmp 3) 0, 0, "", ⟨[]⟩, none⟩, none, false⟩,
      ⟨⟨(some 35), .load 22 (.tmp 34), 22, "", ⟨[]⟩, none⟩, none, false⟩,
      ⟨⟨(some 36), .fieldAddr 38 (.tmp 3) 1, 0, "", ⟨[]⟩, none⟩, none, false⟩,
      ⟨⟨(some 37), .load 24 (.tmp 36), 24, "", ⟨[]⟩, none⟩, none, false⟩,
      ⟨⟨(some 38), .fieldAddr 38 (.tmp 3) 2, 0, "", ⟨[]⟩, none⟩, none, false⟩,
      ⟨⟨(some 39), .load 36 (.tmp 38), 36, "", ⟨[]⟩, none⟩, none, false⟩,
      ⟨⟨(some 40), .move (.tmp 1), 24, "", ⟨[]⟩, none⟩, none, false⟩,
      ⟨⟨(some 41), .call ⟨.value (.func 20), ⟨[(.tmp 35), (.tmp 37), (.tmp 39), (.tmp 40)]⟩, ⟨[22, 24, 36, 24]⟩⟩, 32, "", ⟨[]⟩, none⟩, none, false⟩,
      ⟨⟨(some 33), .move (.tmp 41), 32, "", ⟨[]⟩, none⟩, none, false⟩,
      ⟨⟨(some 42), .extract (.tmp 33) 0, 4, "", ⟨[]⟩, none⟩, none, false⟩,
      ⟨⟨(some 43), .extract (.tmp 33) 1, 27, "", ⟨[]⟩, none⟩, none, false⟩,
      ⟨⟨(some 10), .assign (.tmp 42), 4, "", ⟨[]⟩, none⟩, none, false⟩,
      ⟨⟨(some 11), .assign (.tmp 43), 27, "", ⟨[]⟩, none⟩, none, false⟩])
    (.seq
     (.seq
      (.ops false [
        ⟨⟨(some 44), .move (.tmp 9), 27, "", ⟨[]⟩, none⟩, none, false⟩,
        ⟨⟨(some 45), .binOp .neq 27 (.tmp 44) (.const (.int .i64 0)) 27, 4, "", ⟨[]⟩, none⟩, none, false⟩])
      (.cond (.tmp 45)
       (.seq
        (.ops false [
          ⟨⟨(some 46), .move (.tmp 7), 24, "", ⟨[]⟩, none⟩, none, false⟩,
          ⟨⟨(some 47), .call ⟨.builtin .len, ⟨[(.tmp 46)]⟩, ⟨[24]⟩⟩, 3, "", ⟨[]⟩, none⟩, none, false⟩,
          ⟨⟨(some 48), .binOp .eql 3 (.tmp 47) (.const (.int .i64 0)) 3, 4, "", ⟨[]⟩, none⟩, none, false⟩,
          ⟨⟨(some 49), .move (.tmp 48), 4, "", ⟨[]⟩, none⟩, none, false⟩,
          ⟨⟨(some 50), .move (.tmp 8), 3, "", ⟨[]⟩, none⟩, some ((some 49), true), false⟩,
          ⟨⟨(some 51), .binOp .eql 3 (.tmp 50) (.const (.int .i64 0)) 3, 4, "", ⟨[]⟩, none⟩, some ((some 49), true), false⟩,
          ⟨⟨(some 52), .pick (.tmp 49) (.tmp 51) (.const (.bool false)), 4, "", ⟨[]⟩, none⟩, none, false⟩,
          ⟨⟨(some 53), .move (.tmp 52), 4, "", ⟨[]⟩, none⟩, none, false⟩,
          ⟨⟨(some 54), .move (.tmp 9), 27, "", ⟨[]⟩, none⟩, some ((some 53), true), false⟩,
          ⟨⟨(some 55), .binOp .neq 27 (.tmp 54) (.const (.int .i64 4)) 27, 4, "", ⟨[]⟩, none⟩, some ((some 53), true), false⟩,
          ⟨⟨(some 56), .move (.tmp 55), 4, "", ⟨[]⟩, none⟩, some ((some 53), true), false⟩,
          ⟨⟨(some 57), .move (.tmp 10), 4, "", ⟨[]⟩, none⟩, some ((some 56), false), false⟩,
          ⟨⟨(some 58), .unOp .not 4 (.tmp 57), 4, "", ⟨[]⟩, none⟩, some ((some 56), false), false⟩,
          ⟨⟨(some 59), .pick (.tmp 56) (.const (.bool true)) (.tmp 58), 4, "", ⟨[]⟩, none⟩, some ((some 53), true), false⟩,
          ⟨⟨(some 60), .pick (.tmp 53) (.tmp 59) (.const (.bool false)), 4, "", ⟨[]⟩, none⟩, none, false⟩,
          ⟨⟨(some 61), .move (.tmp 60), 4, "", ⟨[]⟩, none⟩, none, false⟩,
          ⟨⟨(some 62), .call ⟨.value (.func 16), ⟨[]⟩, ⟨[]⟩⟩, 4, "", ⟨[]⟩, none⟩, some ((some 61), true), false⟩,
          ⟨⟨(some 63), .pick (.tmp 61) (.tmp 62) (.const (.bool false)), 4, "", ⟨[]⟩, none⟩, none, false⟩,
          ⟨⟨(some 6), .assign (.tmp 63), 4, "", ⟨[]⟩, none⟩, none, false⟩])
        .ret)
       .skip))
     (.seq
      (.ops false [
        ⟨⟨(some 65), .fieldAddr 38 (.tmp 3) 0, 0, "", ⟨[]⟩, none⟩, none, false⟩,
        ⟨⟨(some 66), .load 22 (.tmp 65), 22, "", ⟨[]⟩, none⟩, none, false⟩,
        ⟨⟨(some 67), .fieldAddr 38 (.tmp 3) 1, 0, "", ⟨[]⟩, none⟩, none, false⟩,
        ⟨⟨(some 68), .load 24 (.tmp 67), 24, "", ⟨[]⟩, none⟩, none, false⟩,
        ⟨⟨(some 69), .fieldAddr 38 (.tmp 3) 2, 0, "", ⟨[]⟩, none⟩, none, false⟩,
        ⟨⟨(some 70), .load 36 (.tmp 69), 36, "", ⟨[]⟩, none⟩, none, false⟩,
        ⟨⟨(some 71), .move (.tmp 7), 24, "", ⟨[]⟩, none⟩, none, false⟩,
        ⟨⟨(some 72), .call ⟨.value (.func 20), ⟨[(.tmp 66), (.tmp 68), (.tmp 70), (.tmp 71)]⟩, ⟨[22, 24, 36, 24]⟩⟩, 32, "", ⟨[]⟩, none⟩, none, false⟩,
        ⟨⟨(some 64), .move (.tmp 72), 32, "", ⟨[]⟩, none⟩, none, false⟩,
        ⟨⟨(some 73), .extract (.tmp 64) 0, 4, "", ⟨[]⟩, none⟩, none, false⟩,
        ⟨⟨(some 74), .extract (.tmp 64) 1, 27, "", ⟨[]⟩, none⟩, none, false⟩,
        ⟨⟨(some 12), .assign (.tmp 73), 4, "", ⟨[]⟩, none⟩, none, false⟩,
        ⟨⟨(some 13), .assign (.tmp 74), 27, "", ⟨[]⟩, none⟩, none, false⟩])
      (.seq
       (.ops false [
         ⟨⟨(some 14), .assign (.const (.int .i64 0)), 3, "", ⟨[]⟩, none⟩, none, false⟩,
         ⟨⟨(some 15), .assign (.const (.int .i64 0)), 3, "", ⟨[]⟩, none⟩, none, false⟩])
       (.seq
        (.seq
         (.ops false [
           ⟨⟨(some 16), .assign (.const (.int .i64 0)), 3, "", ⟨[]⟩, none⟩, none, false⟩])
         (.block 0
          (.loop
           (.seq
            (.seq
             (.ops false [
               ⟨⟨(some 75), .move (.tmp 16), 3, "", ⟨[]⟩, none⟩, none, false⟩,
               ⟨⟨(some 76), .move (.tmp 7), 24, "", ⟨[]⟩, none⟩, none, false⟩,
               ⟨⟨(some 77), .call ⟨.builtin .len, ⟨[(.tmp 76)]⟩, ⟨[24]⟩⟩, 3, "", ⟨[]⟩, none⟩, none, false⟩,
               ⟨⟨(some 78), .binOp .lss 3 (.tmp 75) (.tmp 77) 3, 4, "", ⟨[]⟩, none⟩, none, false⟩])
             (.cond (.tmp 78)
              .skip
              (.exit 0)))
            (.seq
             (.block 1
              (.seq
               (.seq
                (.ops true [
                  ⟨⟨(some 81), .move (.tmp 7), 24, "", ⟨[]⟩, none⟩, none, true⟩,
                  ⟨⟨(some 82), .move (.tmp 16), 3, "", ⟨[]⟩, none⟩, none, true⟩,
                  ⟨⟨(some 83), .indexAddr 24 (.tmp 81) (.tmp 82), 0, "", ⟨[]⟩, none⟩, none, true⟩,
                  ⟨⟨(some 84), .load 3 (.tmp 83), 3, "", ⟨[]⟩, none⟩, none, true⟩,
                  ⟨⟨(some 85), .fieldAddr 38 (.tmp 3) 0, 0, "", ⟨[]⟩, none⟩, none, true⟩,
                  ⟨⟨(some 86), .load 22 (.tmp 85), 22, "", ⟨[]⟩, none⟩, none, true⟩,
                  ⟨⟨(some 87), .call ⟨.builtin .len, ⟨[(.tmp 86)]⟩, ⟨[22]⟩⟩, 3, "", ⟨[]⟩, none⟩, none, true⟩,
                  ⟨⟨(some 88), .binOp .sub 3 (.tmp 87) (.const (.int .i64 1)) 3, 3, "", ⟨[]⟩, none⟩, none, true⟩,
                  ⟨⟨(some 89), .call ⟨.value (.func 29), ⟨[(.const (.int .i64 0)), (.tmp 84), (.tmp 88)]⟩, ⟨[3, 3, 3]⟩⟩, 4, "", ⟨[]⟩, none⟩, none, false⟩,
                  ⟨⟨(some 90), .unOp .not 4 (.tmp 89), 4, "", ⟨[]⟩, none⟩, none, true⟩])
                (.cond (.tmp 90)
                 (.seq
                  (.ops false [
                    ⟨⟨(some 6), .assign (.const (.bool false)), 4, "", ⟨[]⟩, none⟩, none, false⟩])
                  .ret)
                 .skip))
               (.ops true [
                 ⟨⟨(some 91), .move (.tmp 14), 3, "", ⟨[]⟩, none⟩, none, true⟩,
                 ⟨⟨(some 92), .fieldAddr 38 (.tmp 3) 0, 0, "", ⟨[]⟩, none⟩, none, true⟩,
                 ⟨⟨(some 93), .load 22 (.tmp 92), 22, "", ⟨[]⟩, none⟩, none, true⟩,
                 ⟨⟨(some 94), .move (.tmp 7), 24, "", ⟨[]⟩, none⟩, none, true⟩,
                 ⟨⟨(some 95), .move (.tmp 16), 3, "", ⟨[]⟩, none⟩, none, true⟩,
                 ⟨⟨(some 96), .indexAddr 24 (.tmp 94) (.tmp 95), 0, "", ⟨[]⟩, none⟩, none, true⟩,
                 ⟨⟨(some 97), .load 3 (.tmp 96), 3, "", ⟨[]⟩, none⟩, none, true⟩,
                 ⟨⟨(some 98), .indexAddr 22 (.tmp 93) (.tmp 97), 0, "", ⟨[]⟩, none⟩, none, true⟩,
                 ⟨⟨(some 99), .fieldAddr 53 (.tmp 98) 1, 0, "", ⟨[]⟩, none⟩, none, true⟩,
                 ⟨⟨(some 100), .load 3 (.tmp 99), 3, "", ⟨[]⟩, none⟩, none, true⟩,
                 ⟨⟨(some 101), .binOp .add 3 (.tmp 91) (.tmp 100) 3, 3, "", ⟨[]⟩, none⟩, none, true⟩,
                 ⟨⟨(some 14), .assign (.tmp 101), 3, "", ⟨[]⟩, none⟩, none, true⟩])))
             (.ops false [
               ⟨⟨(some 79), .move (.tmp 16), 3, "", ⟨[]⟩, none⟩, none, false⟩,
               ⟨⟨(some 80), .binOp .add 3 (.tmp 79) (.const (.int .i64 1)) 3, 3, "", ⟨[]⟩, none⟩, none, false⟩,
               ⟨⟨(some 16), .assign (.tmp 80), 3, "", ⟨[]⟩, none⟩, none, false⟩]))))))
        (.seq
         (.seq
          (.ops false [
            ⟨⟨(some 17), .assign (.const (.int .i64 0)), 3, "", ⟨[]⟩, none⟩, none, false⟩])
          (.block 2
           (.loop
            (.seq
             (.seq
              (.ops false [
                ⟨⟨(some 102), .move (.tmp 11), 27, "", ⟨[]⟩, none⟩, none, false⟩,
                ⟨⟨(some 103), .binOp .eql 27 (.tmp 102) (.const (.int .i64 0)) 27, 4, "", ⟨[]⟩, none⟩, none, false⟩,
                ⟨⟨(some 104), .move (.tmp 103), 4, "", ⟨[]⟩, none⟩, none, false⟩,
                ⟨⟨(some 105), .move (.tmp 17), 3, "", ⟨[]⟩, none⟩, some ((some 104), true), false⟩,
                ⟨⟨(some 106), .move (.tmp 1), 24, "", ⟨[]⟩, none⟩, some ((some 104), true), false⟩,
                ⟨⟨(some 107), .call ⟨.builtin .len, ⟨[(.tmp 106)]⟩, ⟨[24]⟩⟩, 3, "", ⟨[]⟩, none⟩, some ((some 104), true), false⟩,
                ⟨⟨(some 108), .binOp .lss 3 (.tmp 105) (.tmp 107) 3, 4, "", ⟨[]⟩, none⟩, some ((some 104), true), false⟩,
                ⟨⟨(some 109), .pick (.tmp 104) (.tmp 108) (.const (.bool false)), 4, "", ⟨[]⟩, none⟩, none, false⟩])
              (.cond (.tmp 109)
               .skip
               (.exit 2)))
             (.seq
              (.block 3
               (.seq
                (.seq
                 (.ops true [
                   ⟨⟨(some 112), .move (.tmp 1), 24, "", ⟨[]⟩, none⟩, none, true⟩,
                   ⟨⟨(some 113), .move (.tmp 17), 3, "", ⟨[]⟩, none⟩, none, true⟩,
                   ⟨⟨(some 114), .indexAddr 24 (.tmp 112) (.tmp 113), 0, "", ⟨[]⟩, none⟩, none, true⟩,
                   ⟨⟨(some 115), .load 3 (.tmp 114), 3, "", ⟨[]⟩, none⟩, none, true⟩,
                   ⟨⟨(some 116), .fieldAddr 38 (.tmp 3) 0, 0, "", ⟨[]⟩, none⟩, none, true⟩,
                   ⟨⟨(some 117), .load 22 (.tmp 116), 22, "", ⟨[]⟩, none⟩, none, true⟩,
                   ⟨⟨(some 118), .call ⟨.builtin .len, ⟨[(.tmp 117)]⟩, ⟨[22]⟩⟩, 3, "", ⟨[]⟩, none⟩, none, true⟩,
                   ⟨⟨(some 119), .binOp .sub 3 (.tmp 118) (.const (.int .i64 1)) 3, 3, "", ⟨[]⟩, none⟩, none, true⟩,
                   ⟨⟨(some 120), .call ⟨.value (.func 29), ⟨[(.const (.int .i64 0)), (.tmp 115), (.tmp 119)]⟩, ⟨[3, 3, 3]⟩⟩, 4, "", ⟨[]⟩, none⟩, none, false⟩,
                   ⟨⟨(some 121), .unOp .not 4 (.tmp 120), 4, "", ⟨[]⟩, none⟩, none, true⟩])
                 (.cond (.tmp 121)
                  (.seq
                   (.ops false [
                     ⟨⟨(some 6), .assign (.const (.bool false)), 4, "", ⟨[]⟩, none⟩, none, false⟩])
                   .ret)
                  .skip))
                (.ops true [
                  ⟨⟨(some 122), .move (.tmp 15), 3, "", ⟨[]⟩, none⟩, none, true⟩,
                  ⟨⟨(some 123), .fieldAddr 38 (.tmp 3) 0, 0, "", ⟨[]⟩, none⟩, none, true⟩,
                  ⟨⟨(some 124), .load 22 (.tmp 123), 22, "", ⟨[]⟩, none⟩, none, true⟩,
                  ⟨⟨(some 125), .move (.tmp 1), 24, "", ⟨[]⟩, none⟩, none, true⟩,
                  ⟨⟨(some 126), .move (.tmp 17), 3, "", ⟨[]⟩, none⟩, none, true⟩,
                  ⟨⟨(some 127), .indexAddr 24 (.tmp 125) (.tmp 126), 0, "", ⟨[]⟩, none⟩, none, true⟩,
                  ⟨⟨(some 128), .load 3 (.tmp 127), 3, "", ⟨[]⟩, none⟩, none, true⟩,
                  ⟨⟨(some 129), .indexAddr 22 (.tmp 124) (.tmp 128), 0, "", ⟨[]⟩, none⟩, none, true⟩,
                  ⟨⟨(some 130), .fieldAddr 53 (.tmp 129) 1, 0, "", ⟨[]⟩, none⟩, none, true⟩,
                  ⟨⟨(some 131), .load 3 (.tmp 130), 3, "", ⟨[]⟩, none⟩, none, true⟩,
                  ⟨⟨(some 132), .binOp .add 3 (.tmp 122) (.tmp 131) 3, 3, "", ⟨[]⟩, none⟩, none, true⟩,
                  ⟨⟨(some 15), .assign (.tmp 132), 3, "", ⟨[]⟩, none⟩, none, true⟩])))
              (.ops false [
                ⟨⟨(some 110), .move (.tmp 17), 3, "", ⟨[]⟩, none⟩, none, false⟩,
                ⟨⟨(some 111), .binOp .add 3 (.tmp 110) (.const (.int .i64 1)) 3, 3, "", ⟨[]⟩, none⟩, none, false⟩,
                ⟨⟨(some 17), .assign (.tmp 111), 3, "", ⟨[]⟩, none⟩, none, false⟩]))))))
         (.seq
          (.seq
           (.ops false [
             ⟨⟨(some 133), .move (.tmp 12), 4, "", ⟨[]⟩, none⟩, none, false⟩,
             ⟨⟨(some 134), .unOp .not 4 (.tmp 133), 4, "", ⟨[]⟩, none⟩, none, false⟩,
             ⟨⟨(some 135), .move (.tmp 134), 4, "", ⟨[]⟩, none⟩, none, false⟩,
             ⟨⟨(some 136), .move (.tmp 13), 27, "", ⟨[]⟩, none⟩, some ((some 135), false), false⟩,
             ⟨⟨(some 137), .binOp .neq 27 (.tmp 136) (.const (.int .i64 0)) 27, 4, "", ⟨[]⟩, none⟩, some ((some 135), false), false⟩,
             ⟨⟨(some 138), .pick (.tmp 135) (.const (.bool true)) (.tmp 137), 4, "", ⟨[]⟩, none⟩, none, false⟩,
             ⟨⟨(some 139), .move (.tmp 138), 4, "", ⟨[]⟩, none⟩, none, false⟩,
             ⟨⟨(some 140), .move (.tmp 14), 3, "", ⟨[]⟩, none⟩, some ((some 139), false), false⟩,
             ⟨⟨(some 141), .move (.tmp 8), 3, "", ⟨[]⟩, none⟩, some ((some 139), false), false⟩,
             ⟨⟨(some 142), .binOp .neq 3 (.tmp 140) (.tmp 141) 3, 4, "", ⟨[]⟩, none⟩, some ((some 139), false), false⟩,
             ⟨⟨(some 143), .pick (.tmp 139) (.const (.bool true)) (.tmp 142), 4, "", ⟨[]⟩, none⟩, none, false⟩,
             ⟨⟨(some 144), .move (.tmp 143), 4, "", ⟨[]⟩, none⟩, none, false⟩,
             ⟨⟨(some 145), .move (.tmp 11), 27, "", ⟨[]⟩, none⟩, some ((some 144), false), false⟩,
             ⟨⟨(some 146), .binOp .eql 27 (.tmp 145) (.const (.int .i64 0)) 27, 4, "", ⟨[]⟩, none⟩, some ((some 144), false), false⟩,
             ⟨⟨(some 147), .move (.tmp 146), 4, "", ⟨[]⟩, none⟩, some ((some 144), false), false⟩,
             ⟨⟨(some 148), .move (.tmp 10), 4, "", ⟨[]⟩, none⟩, some ((some 147), true), false⟩,
             ⟨⟨(some 149), .pick (.tmp 147) (.tmp 148) (.const (.bool false)), 4, "", ⟨[]⟩, none⟩, some ((some 144), false), false⟩,
             ⟨⟨(some 150), .move (.tmp 149), 4, "", ⟨[]⟩, none⟩, some ((some 144), false), false⟩,
             ⟨⟨(some 151), .move (.tmp 15), 3, "", ⟨[]⟩, none⟩, some ((some 150), true), false⟩,
             ⟨⟨(some 152), .move (.tmp 8), 3, "", ⟨[]⟩, none⟩, some ((some 150), true), false⟩,
             ⟨⟨(some 153), .binOp .lss 3 (.tmp 151) (.tmp 152) 3, 4, "", ⟨[]⟩, none⟩, some ((some 150), true), false⟩,
             ⟨⟨(some 154), .pick (.tmp 150) (.tmp 153) (.const (.bool false)), 4, "", ⟨[]⟩, none⟩, some ((some 144), false), false⟩,
             ⟨⟨(some 155), .pick (.tmp 144) (.const (.bool true)) (.tmp 154), 4, "", ⟨[]⟩, none⟩, none, false⟩])
           (.cond (.tmp 155)
            (.seq
             (.ops false [
               ⟨⟨(some 6), .assign (.const (.bool false)), 4, "", ⟨[]⟩, none⟩, none, false⟩])
             .ret)
            .skip))
          (.seq
           (.seq
            (.ops false [
              ⟨⟨(some 157), .fieldAddr 38 (.tmp 3) 0, 0, "", ⟨[]⟩, none⟩, none, false⟩,
              ⟨⟨(some 158), .load 22 (.tmp 157), 22, "", ⟨[]⟩, none⟩, none, false⟩,
              ⟨⟨(some 159), .fieldAddr 38 (.tmp 3) 1, 0, "", ⟨[]⟩, none⟩, none, false⟩,
              ⟨⟨(some 160), .load 24 (.tmp 159), 24, "", ⟨[]⟩, none⟩, none, false⟩,
              ⟨⟨(some 161), .fieldAddr 38 (.tmp 3) 2, 0, "", ⟨[]⟩, none⟩, none, false⟩,
              ⟨⟨(some 162), .load 36 (.tmp 161), 36, "", ⟨[]⟩, none⟩, none, false⟩,
              ⟨⟨(some 163), .move (.tmp 2), 24, "", ⟨[]⟩, none⟩, none, false⟩,
              ⟨⟨(some 164), .call ⟨.value (.func 24), ⟨[(.tmp 158), (.tmp 160), (.tmp 162), (.tmp 163)]⟩, ⟨[22, 24, 36, 24]⟩⟩, 48, "", ⟨[]⟩, none⟩, none, false⟩,
              ⟨⟨(some 156), .move (.tmp 164), 48, "", ⟨[]⟩, none⟩, none, false⟩,
              ⟨⟨(some 165), .extract (.tmp 156) 0, 3, "", ⟨[]⟩, none⟩, none, false⟩,
              ⟨⟨(some 166), .extract (.tmp 156) 1, 27, "", ⟨[]⟩, none⟩, none, false⟩,
              ⟨⟨(some 18), .assign (.tmp 165), 3, "", ⟨[]⟩, none⟩, none, false⟩,
              ⟨⟨(some 19), .assign (.tmp 166), 27, "", ⟨[]⟩, none⟩, none, false⟩])
            (.seq
             (.ops false [
               ⟨⟨(some 167), .move (.tmp 19), 27, "", ⟨[]⟩, none⟩, none, false⟩,
               ⟨⟨(some 168), .binOp .eql 27 (.tmp 167) (.const (.int .i64 0)) 27, 4, "", ⟨[]⟩, none⟩, none, false⟩,
               ⟨⟨(some 169), .move (.tmp 168), 4, "", ⟨[]⟩, none⟩, none, false⟩,
               ⟨⟨(some 170), .move (.tmp 18), 3, "", ⟨[]⟩, none⟩, some ((some 169), true), false⟩,
               ⟨⟨(some 171), .move (.tmp 8), 3, "", ⟨[]⟩, none⟩, some ((some 169), true), false⟩,
               ⟨⟨(some 172), .binOp .gtr 3 (.tmp 170) (.tmp 171) 3, 4, "", ⟨[]⟩, none⟩, some ((some 169), true), false⟩,
               ⟨⟨(some 173), .pick (.tmp 169) (.tmp 172) (.const (.bool false)), 4, "", ⟨[]⟩, none⟩, none, false⟩])
             (.cond (.tmp 173)
              (.seq
               (.ops false [
                 ⟨⟨(some 6), .assign (.const (.bool false)), 4, "", ⟨[]⟩, none⟩, none, false⟩])
               .ret)
              .skip)))
           (.seq
            (.seq
             (.ops false [
               ⟨⟨(some 174), .fieldAddr 38 (.tmp 3) 2, 0, "", ⟨[]⟩, none⟩, none, false⟩,
               ⟨⟨(some 175), .load 36 (.tmp 174), 36, "", ⟨[]⟩, none⟩, none, false⟩,
               ⟨⟨(some 176), .call ⟨.builtin .len, ⟨[(.tmp 175)]⟩, ⟨[36]⟩⟩, 3, "", ⟨[]⟩, none⟩, none, false⟩,
               ⟨⟨(some 177), .binOp .eql 3 (.tmp 176) (.const (.int .i64 0)) 3, 4, "", ⟨[]⟩, none⟩, none, false⟩])
             (.cond (.tmp 177)
              (.seq
               (.ops false [
                 ⟨⟨(some 178), .move (.tmp 8), 3, "", ⟨[]⟩, none⟩, none, false⟩,
                 ⟨⟨(some 179), .binOp .eql 3 (.tmp 178) (.const (.int .i64 0)) 3, 4, "", ⟨[]⟩, none⟩, none, false⟩,
                 ⟨⟨(some 180), .move (.tmp 179), 4, "", ⟨[]⟩, none⟩, none, false⟩,
                 ⟨⟨(some 181), .call ⟨.value (.func 16), ⟨[]⟩, ⟨[]⟩⟩, 4, "", ⟨[]⟩, none⟩, some ((some 180), true), false⟩,
                 ⟨⟨(some 182), .pick (.tmp 180) (.tmp 181) (.const (.bool false)), 4, "", ⟨[]⟩, none⟩, none, false⟩,
                 ⟨⟨(some 6), .assign (.tmp 182), 4, "", ⟨[]⟩, none⟩, none, false⟩])
               .ret)
              .skip))
            (.seq
             (.ops true [
               ⟨⟨(some 184), .fieldAddr 38 (.tmp 3) 0, 0, "", ⟨[]⟩, none⟩, none, true⟩,
               ⟨⟨(some 185), .load 22 (.tmp 184), 22, "", ⟨[]⟩, none⟩, none, true⟩,
               ⟨⟨(some 186), .fieldAddr 38 (.tmp 3) 1, 0, "", ⟨[]⟩, none⟩, none, true⟩,
               ⟨⟨(some 187), .load 24 (.tmp 186), 24, "", ⟨[]⟩, none⟩, none, true⟩,
               ⟨⟨(some 188), .fieldAddr 38 (.tmp 3) 2, 0, "", ⟨[]⟩, none⟩, none, true⟩,
               ⟨⟨(some 189), .load 36 (.tmp 188), 36, "", ⟨[]⟩, none⟩, none, true⟩,
               ⟨⟨(some 190), .slice 36 (.tmp 189) (some (.const (.int .i64 1))) none none, 36, "", ⟨[]⟩, none⟩, none, true⟩,
               ⟨⟨(some 191), .call ⟨.value (.func 22), ⟨[(.tmp 185), (.tmp 187), (.tmp 190)]⟩, ⟨[22, 24, 36]⟩⟩, 46, "", ⟨[]⟩, none⟩, none, false⟩,
               ⟨⟨(some 183), .move (.tmp 191), 46, "", ⟨[]⟩, none⟩, none, true⟩,
               ⟨⟨(some 192), .extract (.tmp 183) 0, 24, "", ⟨[]⟩, none⟩, none, true⟩,
               ⟨⟨(some 193), .extract (.tmp 183) 1, 3, "", ⟨[]⟩, none⟩, none, true⟩,
               ⟨⟨(some 194), .extract (.tmp 183) 2, 27, "", ⟨[]⟩, none⟩, none, true⟩,
               ⟨⟨(some 20), .assign (.tmp 192), 24, "", ⟨[]⟩, none⟩, none, true⟩,
               ⟨⟨(some 21), .assign (.tmp 193), 3, "", ⟨[]⟩, none⟩, none, true⟩,
               ⟨⟨(some 9), .assign (.tmp 194), 27, "", ⟨[]⟩, none⟩, none, true⟩])
             (.seq
              (.ops false [
                ⟨⟨(some 195), .move (.tmp 9), 27, "", ⟨[]⟩, none⟩, none, false⟩,
                ⟨⟨(some 196), .binOp .eql 27 (.tmp 195) (.const (.int .i64 0)) 27, 4, "", ⟨[]⟩, none⟩, none, false⟩,
                ⟨⟨(some 197), .move (.tmp 196), 4, "", ⟨[]⟩, none⟩, none, false⟩,
                ⟨⟨(some 198), .move (.tmp 21), 3, "", ⟨[]⟩, none⟩, some ((some 197), true), false⟩,
                ⟨⟨(some 199), .move (.tmp 8), 3, "", ⟨[]⟩, none⟩, some ((some 197), true), false⟩,
                ⟨⟨(some 200), .binOp .leq 3 (.tmp 198) (.tmp 199) 3, 4, "", ⟨[]⟩, none⟩, some ((some 197), true), false⟩,
                ⟨⟨(some 201), .pick (.tmp 197) (.tmp 200) (.const (.bool false)), 4, "", ⟨[]⟩, none⟩, none, false⟩,
                ⟨⟨(some 202), .move (.tmp 201), 4, "", ⟨[]⟩, none⟩, none, false⟩,
                ⟨⟨(some 203), .call ⟨.value (.func 16), ⟨[]⟩, ⟨[]⟩⟩, 4, "", ⟨[]⟩, none⟩, some ((some 202), true), false⟩,
                ⟨⟨(some 204), .pick (.tmp 202) (.tmp 203) (.const (.bool false)), 4, "", ⟨[]⟩, none⟩, none, false⟩,
                ⟨⟨(some 6), .assign (.tmp 204), 4, "", ⟨[]⟩, none⟩, none, false⟩])
              .ret)))))))))))))
theorem Tryz.s8_eq : Tryz.f8.body.map sOf = some Tryz.s8 := by kernel_rfl
end Go.Proofs
