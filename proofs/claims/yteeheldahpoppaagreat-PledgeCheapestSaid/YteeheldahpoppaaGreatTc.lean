/- This program's functions' stripped code, part 2. -/
import Derived.Test.YteeheldahpoppaaGreatTa
import Derived.Test.YteeheldahpoppaaGreatNa
set_option linter.unusedVariables false
set_option linter.unusedSimpArgs false
/- Functions' code, as the machine reads it. -/
namespace Go.Proofs
open Go Go.RowKit Go.Sim
set_option maxRecDepth 100000
def Tryz.s4 : SC :=
 (.seq
  (.ops false [
    ⟨⟨(some 3), .box 38 (.tmp 0), 0, "", ⟨[]⟩, none⟩, none, false⟩,
    ⟨⟨(some 4), .box 40 (.tmp 1), 0, "", ⟨[]⟩, none⟩, none, false⟩,
    ⟨⟨(some 6), .assign (.const (.bool false)), 4, "", ⟨[]⟩, none⟩, none, false⟩])
  (.seq
   (.ops false [
     ⟨⟨(some 14), .fieldAddr 38 (.tmp 3) 0, 0, "", ⟨[]⟩, none⟩, none, false⟩,
     ⟨⟨(some 15), .load 22 (.tmp 14), 22, "", ⟨[]⟩, none⟩, none, false⟩,
     ⟨⟨(some 16), .fieldAddr 38 (.tmp 3) 1, 0, "", ⟨[]⟩, none⟩, none, false⟩,
     ⟨⟨(some 17), .load 24 (.tmp 16), 24, "", ⟨[]⟩, none⟩, none, false⟩,
     ⟨⟨(some 18), .load 40 (.tmp 4), 40, "", ⟨[]⟩, none⟩, none, false⟩,
     ⟨⟨(some 19), .call ⟨.value (.func 17), ⟨[(.tmp 15), (.tmp 17), (.tmp 18)]⟩, ⟨[22, 24, 40]⟩⟩, 41, "", ⟨[]⟩, none⟩, none, false⟩,
     ⟨⟨(some 13), .move (.tmp 19), 41, "", ⟨[]⟩, none⟩, none, false⟩,
     ⟨⟨(some 20), .extract (.tmp 13) 0, 24, "", ⟨[]⟩, none⟩, none, false⟩,
     ⟨⟨(some 21), .extract (.tmp 13) 1, 27, "", ⟨[]⟩, none⟩, none, false⟩,
     ⟨⟨(some 7), .assign (.tmp 20), 24, "", ⟨[]⟩, none⟩, none, false⟩,
     ⟨⟨(some 8), .assign (.tmp 21), 27, "", ⟨[]⟩, none⟩, none, false⟩])
   (.seq
    (.ops false [
      ⟨⟨(some 23), .fieldAddr 38 (.tmp 3) 0, 0, "", ⟨[]⟩, none⟩, none, false⟩,
      ⟨⟨(some 24), .load 22 (.tmp 23), 22, "", ⟨[]⟩, none⟩, none, false⟩,
      ⟨⟨(some 25), .fieldAddr 38 (.tmp 3) 1, 0, "", ⟨[]⟩, none⟩, none, false⟩,
      ⟨⟨(some 26), .load 24 (.tmp 25), 24, "", ⟨[]⟩, none⟩, none, false⟩,
      ⟨⟨(some 27), .load 40 (.tmp 4), 40, "", ⟨[]⟩, none⟩, none, false⟩,
      ⟨⟨(some 28), .call ⟨.value (.func 18), ⟨[(.tmp 24), (.tmp 26), (.tmp 27)]⟩, ⟨[22, 24, 40]⟩⟩, 41, "", ⟨[]⟩, none⟩, none, false⟩,
      ⟨⟨(some 22), .move (.tmp 28), 41, "", ⟨[]⟩, none⟩, none, false⟩,
      ⟨⟨(some 29), .extract (.tmp 22) 0, 24, "", ⟨[]⟩, none⟩, none, false⟩,
      ⟨⟨(some 30), .extract (.tmp 22) 1, 27, "", ⟨[]⟩, none⟩, none, false⟩,
      ⟨⟨(some 9), .assign (.tmp 29), 24, "", ⟨[]⟩, none⟩, none, false⟩,
      ⟨⟨(some 10), .assign (.tmp 30), 27, "", ⟨[]⟩, none⟩, none, false⟩])
    (.seq
     (.seq
      (.ops false [
        ⟨⟨(some 31), .move (.tmp 7), 24, "", ⟨[]⟩, none⟩, none, false⟩,
        ⟨⟨(some 32), .move (.tmp 9), 24, "", ⟨[]⟩, none⟩, none, false⟩,
        ⟨⟨(some 33), .call ⟨.value (.func 19), ⟨[(.tmp 31), (.tmp 32)]⟩, ⟨[24, 24]⟩⟩, 4, "", ⟨[]⟩, none⟩, none, false⟩,
        ⟨⟨(some 34), .unOp .not 4 (.tmp 33), 4, "", ⟨[]⟩, none⟩, none, false⟩,
        ⟨⟨(some 35), .move (.tmp 34), 4, "", ⟨[]⟩, none⟩, none, false⟩,
        ⟨⟨(some 36), .move (.tmp 8), 27, "", ⟨[]⟩, none⟩, some ((some 35), false), false⟩,
        ⟨⟨(some 37), .move (.tmp 10), 27, "", ⟨[]⟩, none⟩, some ((some 35), false), false⟩,
        ⟨⟨(some 38), .binOp .neq 27 (.tmp 36) (.tmp 37) 27, 4, "", ⟨[]⟩, none⟩, some ((some 35), false), false⟩,
        ⟨⟨(some 39), .pick (.tmp 35) (.const (.bool true)) (.tmp 38), 4, "", ⟨[]⟩, none⟩, none, false⟩])
      (.cond (.tmp 39)
       (.seq
        (.ops false [
          ⟨⟨(some 6), .assign (.const (.bool false)), 4, "", ⟨[]⟩, none⟩, none, false⟩])
        .ret)
       .skip))
     (.seq
      (.ops false [
        ⟨⟨(some 41), .fieldAddr 38 (.tmp 3) 0, 0, "", ⟨[]⟩, none⟩, none, false⟩,
        ⟨⟨(some 42), .load 22 (.tmp 41), 22, "", ⟨[]⟩, none⟩, none, false⟩,
        ⟨⟨(some 43), .fieldAddr 38 (.tmp 3) 1, 0, "", ⟨[]⟩, none⟩, none, false⟩,
        ⟨⟨(some 44), .load 24 (.tmp 43), 24, "", ⟨[]⟩, none⟩, none, false⟩,
        ⟨⟨(some 45), .fieldAddr 38 (.tmp 3) 2, 0, "", ⟨[]⟩, none⟩, none, false⟩,
        ⟨⟨(some 46), .load 36 (.tmp 45), 36, "", ⟨[]⟩, none⟩, none, false⟩,
        ⟨⟨(some 47), .move (.tmp 2), 24, "", ⟨[]⟩, none⟩, none, false⟩,
        ⟨⟨(some 48), .call ⟨.value (.func 20), ⟨[(.tmp 42), (.tmp 44), (.tmp 46), (.tmp 47)]⟩, ⟨[22, 24, 36, 24]⟩⟩, 32, "", ⟨[]⟩, none⟩, none, false⟩,
        ⟨⟨(some 40), .move (.tmp 48), 32, "", ⟨[]⟩, none⟩, none, false⟩,
        ⟨⟨(some 49), .extract (.tmp 40) 0, 4, "", ⟨[]⟩, none⟩, none, false⟩,
        ⟨⟨(some 50), .extract (.tmp 40) 1, 27, "", ⟨[]⟩, none⟩, none, false⟩,
        ⟨⟨(some 11), .assign (.tmp 49), 4, "", ⟨[]⟩, none⟩, none, false⟩,
        ⟨⟨(some 8), .assign (.tmp 50), 27, "", ⟨[]⟩, none⟩, none, false⟩])
      (.seq
       (.ops false [
         ⟨⟨(some 52), .fieldAddr 38 (.tmp 3) 0, 0, "", ⟨[]⟩, none⟩, none, false⟩,
         ⟨⟨(some 53), .load 22 (.tmp 52), 22, "", ⟨[]⟩, none⟩, none, false⟩,
         ⟨⟨(some 54), .fieldAddr 38 (.tmp 3) 1, 0, "", ⟨[]⟩, none⟩, none, false⟩,
         ⟨⟨(some 55), .load 24 (.tmp 54), 24, "", ⟨[]⟩, none⟩, none, false⟩,
         ⟨⟨(some 56), .fieldAddr 38 (.tmp 3) 2, 0, "", ⟨[]⟩, none⟩, none, false⟩,
         ⟨⟨(some 57), .load 36 (.tmp 56), 36, "", ⟨[]⟩, none⟩, none, false⟩,
         ⟨⟨(some 58), .move (.tmp 2), 24, "", ⟨[]⟩, none⟩, none, false⟩,
         ⟨⟨(some 59), .call ⟨.value (.func 21), ⟨[(.tmp 53), (.tmp 55), (.tmp 57), (.tmp 58)]⟩, ⟨[22, 24, 36, 24]⟩⟩, 32, "", ⟨[]⟩, none⟩, none, false⟩,
         ⟨⟨(some 51), .move (.tmp 59), 32, "", ⟨[]⟩, none⟩, none, false⟩,
         ⟨⟨(some 60), .extract (.tmp 51) 0, 4, "", ⟨[]⟩, none⟩, none, false⟩,
         ⟨⟨(some 61), .extract (.tmp 51) 1, 27, "", ⟨[]⟩, none⟩, none, false⟩,
         ⟨⟨(some 12), .assign (.tmp 60), 4, "", ⟨[]⟩, none⟩, none, false⟩,
         ⟨⟨(some 10), .assign (.tmp 61), 27, "", ⟨[]⟩, none⟩, none, false⟩])
       (.seq
        (.ops false [
          ⟨⟨(some 62), .move (.tmp 11), 4, "", ⟨[]⟩, none⟩, none, false⟩,
          ⟨⟨(some 63), .move (.tmp 12), 4, "", ⟨[]⟩, none⟩, none, false⟩,
          ⟨⟨(some 64), .binOp .eql 4 (.tmp 62) (.tmp 63) 4, 4, "", ⟨[]⟩, none⟩, none, false⟩,
          ⟨⟨(some 65), .move (.tmp 64), 4, "", ⟨[]⟩, none⟩, none, false⟩,
          ⟨⟨(some 66), .move (.tmp 8), 27, "", ⟨[]⟩, none⟩, some ((some 65), true), false⟩,
          ⟨⟨(some 67), .move (.tmp 10), 27, "", ⟨[]⟩, none⟩, some ((some 65), true), false⟩,
          ⟨⟨(some 68), .binOp .eql 27 (.tmp 66) (.tmp 67) 27, 4, "", ⟨[]⟩, none⟩, some ((some 65), true), false⟩,
          ⟨⟨(some 69), .pick (.tmp 65) (.tmp 68) (.const (.bool false)), 4, "", ⟨[]⟩, none⟩, none, false⟩,
          ⟨⟨(some 70), .move (.tmp 69), 4, "", ⟨[]⟩, none⟩, none, false⟩,
          ⟨⟨(some 71), .call ⟨.value (.func 16), ⟨[]⟩, ⟨[]⟩⟩, 4, "", ⟨[]⟩, none⟩, some ((some 70), true), false⟩,
          ⟨⟨(some 72), .pick (.tmp 70) (.tmp 71) (.const (.bool false)), 4, "", ⟨[]⟩, none⟩, none, false⟩,
          ⟨⟨(some 6), .assign (.tmp 72), 4, "", ⟨[]⟩, none⟩, none, false⟩])
        .ret)))))))
def Tryz.s5 : SC :=
 (.seq
  (.ops false [
    ⟨⟨(some 2), .box 38 (.tmp 0), 0, "", ⟨[]⟩, none⟩, none, false⟩,
    ⟨⟨(some 4), .assign (.const (.bool false)), 4, "", ⟨[]⟩, none⟩, none, false⟩])
  (.seq
   (.ops false [
     ⟨⟨(some 12), .fieldAddr 38 (.tmp 2) 0, 0, "", ⟨[]⟩, none⟩, none, false⟩,
     ⟨⟨(some 13), .load 22 (.tmp 12), 22, "", ⟨[]⟩, none⟩, none, false⟩,
     ⟨⟨(some 14), .fieldAddr 38 (.tmp 2) 1, 0, "", ⟨[]⟩, none⟩, none, false⟩,
     ⟨⟨(some 15), .load 24 (.tmp 14), 24, "", ⟨[]⟩, none⟩, none, false⟩,
     ⟨⟨(some 16), .fieldAddr 38 (.tmp 2) 2, 0, "", ⟨[]⟩, none⟩, none, false⟩,
     ⟨⟨(some 17), .load 36 (.tmp 16), 36, "", ⟨[]⟩, none⟩, none, false⟩,
     ⟨⟨(some 18), .call ⟨.value (.func 22), ⟨[(.tmp 13), (.tmp 15), (.tmp 17)]⟩, ⟨[22, 24, 36]⟩⟩, 46, "", ⟨[]⟩, none⟩, none, false⟩,
     ⟨⟨(some 11), .move (.tmp 18), 46, "", ⟨[]⟩, none⟩, none, false⟩,
     ⟨⟨(some 19), .extract (.tmp 11) 0, 24, "", ⟨[]⟩, none⟩, none, false⟩,
     ⟨⟨(some 20), .extract (.tmp 11) 1, 3, "", ⟨[]⟩, none⟩, none, false⟩,
     ⟨⟨(some 21), .extract (.tmp 11) 2, 27, "", ⟨[]⟩, none⟩, none, false⟩,
     ⟨⟨(some 5), .assign (.tmp 19), 24, "", ⟨[]⟩, none⟩, none, false⟩,
     ⟨⟨(some 6), .assign (.tmp 20), 3, "", ⟨[]⟩, none⟩, none, false⟩,
     ⟨⟨(some 7), .assign (.tmp 21), 27, "", ⟨[]⟩, none⟩, none, false⟩])
   (.seq
    (.ops false [
      ⟨⟨(some 23), .fieldAddr 38 (.tmp 2) 0, 0, "", ⟨[]⟩, none⟩, none, false⟩,
      ⟨⟨(some 24), .load 22 (.tmp 23), 22, "", ⟨[]⟩, none⟩, none, false⟩,
      ⟨⟨(some 25), .fieldAddr 38 (.tmp 2) 1, 0, "", ⟨[]⟩, none⟩, none, false⟩,
      ⟨⟨(some 26), .load 24 (.tmp 25), 24, "", ⟨[]⟩, none⟩, none, false⟩,
      ⟨⟨(some 27), .fieldAddr 38 (.tmp 2) 2, 0, "", ⟨[]⟩, none⟩, none, false⟩,
      ⟨⟨(some 28), .load 36 (.tmp 27), 36, "", ⟨[]⟩, none⟩, none, false⟩,
      ⟨⟨(some 29), .call ⟨.value (.func 23), ⟨[(.tmp 24), (.tmp 26), (.tmp 28)]⟩, ⟨[22, 24, 36]⟩⟩, 46, "", ⟨[]⟩, none⟩, none, false⟩,
      ⟨⟨(some 22), .move (.tmp 29), 46, "", ⟨[]⟩, none⟩, none, false⟩,
      ⟨⟨(some 30), .extract (.tmp 22) 0, 24, "", ⟨[]⟩, none⟩, none, false⟩,
      ⟨⟨(some 31), .extract (.tmp 22) 1, 3, "", ⟨[]⟩, none⟩, none, false⟩,
      ⟨⟨(some 32), .extract (.tmp 22) 2, 27, "", ⟨[]⟩, none⟩, none, false⟩,
      ⟨⟨(some 8), .assign (.tmp 30), 24, "", ⟨[]⟩, none⟩, none, false⟩,
      ⟨⟨(some 9), .assign (.tmp 31), 3, "", ⟨[]⟩, none⟩, none, false⟩,
      ⟨⟨(some 10), .assign (.tmp 32), 27, "", ⟨[]⟩, none⟩, none, false⟩])
    (.seq
     (.seq
      (.ops false [
        ⟨⟨(some 33), .move (.tmp 5), 24, "", ⟨[]⟩, none⟩, none, false⟩,
        ⟨⟨(some 34), .move (.tmp 8), 24, "", ⟨[]⟩, none⟩, none, false⟩,
        ⟨⟨(some 35), .call ⟨.value (.func 19), ⟨[(.tmp 33), (.tmp 34)]⟩, ⟨[24, 24]⟩⟩, 4, "", ⟨[]⟩, none⟩, none, false⟩,
        ⟨⟨(some 36), .unOp .not 4 (.tmp 35), 4, "", ⟨[]⟩, none⟩, none, false⟩,
        ⟨⟨(some 37), .move (.tmp 36), 4, "", ⟨[]⟩, none⟩, none, false⟩,
        ⟨⟨(some 38), .move (.tmp 6), 3, "", ⟨[]⟩, none⟩, some ((some 37), false), false⟩,
        ⟨⟨(some 39), .move (.tmp 9), 3, "", ⟨[]⟩, none⟩, some ((some 37), false), false⟩,
        ⟨⟨(some 40), .binOp .neq 3 (.tmp 38) (.tmp 39) 3, 4, "", ⟨[]⟩, none⟩, some ((some 37), false), false⟩,
        ⟨⟨(some 41), .pick (.tmp 37) (.const (.bool true)) (.tmp 40), 4, "", ⟨[]⟩, none⟩, none, false⟩,
        ⟨⟨(some 42), .move (.tmp 41), 4, "", ⟨[]⟩, none⟩, none, false⟩,
        ⟨⟨(some 43), .move (.tmp 7), 27, "", ⟨[]⟩, none⟩, some ((some 42), false), false⟩,
        ⟨⟨(some 44), .move (.tmp 10), 27, "", ⟨[]⟩, none⟩, some ((some 42), false), false⟩,
        ⟨⟨(some 45), .binOp .neq 27 (.tmp 43) (.tmp 44) 27, 4, "", ⟨[]⟩, none⟩, some ((some 42), false), false⟩,
        ⟨⟨(some 46), .pick (.tmp 42) (.const (.bool true)) (.tmp 45), 4, "", ⟨[]⟩, none⟩, none, false⟩])
      (.cond (.tmp 46)
       (.seq
        (.ops false [
          ⟨⟨(some 4), .assign (.const (.bool false)), 4, "", ⟨[]⟩, none⟩, none, false⟩])
        .ret)
       .skip))
     (.seq
      (.ops false [
        ⟨⟨(some 48), .fieldAddr 38 (.tmp 2) 0, 0, "", ⟨[]⟩, none⟩, none, false⟩,
        ⟨⟨(some 49), .load 22 (.tmp 48), 22, "", ⟨[]⟩, none⟩, none, false⟩,
        ⟨⟨(some 50), .fieldAddr 38 (.tmp 2) 1, 0, "", ⟨[]⟩, none⟩, none, false⟩,
        ⟨⟨(some 51), .load 24 (.tmp 50), 24, "", ⟨[]⟩, none⟩, none, false⟩,
        ⟨⟨(some 52), .fieldAddr 38 (.tmp 2) 2, 0, "", ⟨[]⟩, none⟩, none, false⟩,
        ⟨⟨(some 53), .load 36 (.tmp 52), 36, "", ⟨[]⟩, none⟩, none, false⟩,
        ⟨⟨(some 54), .move (.tmp 1), 24, "", ⟨[]⟩, none⟩, none, false⟩,
        ⟨⟨(some 55), .call ⟨.value (.func 24), ⟨[(.tmp 49), (.tmp 51), (.tmp 53), (.tmp 54)]⟩, ⟨[22, 24, 36, 24]⟩⟩, 48, "", ⟨[]⟩, none⟩, none, false⟩,
        ⟨⟨(some 47), .move (.tmp 55), 48, "", ⟨[]⟩, none⟩, none, false⟩,
        ⟨⟨(some 56), .extract (.tmp 47) 0, 3, "", ⟨[]⟩, none⟩, none, false⟩,
        ⟨⟨(some 57), .extract (.tmp 47) 1, 27, "", ⟨[]⟩, none⟩, none, false⟩,
        ⟨⟨(some 6), .assign (.tmp 56), 3, "", ⟨[]⟩, none⟩, none, false⟩,
        ⟨⟨(some 7), .assign (.tmp 57), 27, "", ⟨[]⟩, none⟩, none, false⟩])
      (.seq
       (.ops false [
         ⟨⟨(some 59), .fieldAddr 38 (.tmp 2) 0, 0, "", ⟨[]⟩, none⟩, none, false⟩,
         ⟨⟨(some 60), .load 22 (.tmp 59), 22, "", ⟨[]⟩, none⟩, none, false⟩,
         ⟨⟨(some 61), .fieldAddr 38 (.tmp 2) 1, 0, "", ⟨[]⟩, none⟩, none, false⟩,
         ⟨⟨(some 62), .load 24 (.tmp 61), 24, "", ⟨[]⟩, none⟩, none, false⟩,
         ⟨⟨(some 63), .fieldAddr 38 (.tmp 2) 2, 0, "", ⟨[]⟩, none⟩, none, false⟩,
         ⟨⟨(some 64), .load 36 (.tmp 63), 36, "", ⟨[]⟩, none⟩, none, false⟩,
         ⟨⟨(some 65), .move (.tmp 1), 24, "", ⟨[]⟩, none⟩, none, false⟩,
         ⟨⟨(some 66), .call ⟨.value (.func 25), ⟨[(.tmp 60), (.tmp 62), (.tmp 64), (.tmp 65)]⟩, ⟨[22, 24, 36, 24]⟩⟩, 48, "", ⟨[]⟩, none⟩, none, false⟩,
         ⟨⟨(some 58), .move (.tmp 66), 48, "", ⟨[]⟩, none⟩, none, false⟩,
         ⟨⟨(some 67), .extract (.tmp 58) 0, 3, "", ⟨[]⟩, none⟩, none, false⟩,
         ⟨⟨(some 68), .extract (.tmp 58) 1, 27, "", ⟨[]⟩, none⟩, none, false⟩,
         ⟨⟨(some 9), .assign (.tmp 67), 3, "", ⟨[]⟩, none⟩, none, false⟩,
         ⟨⟨(some 10), .assign (.tmp 68), 27, "", ⟨[]⟩, none⟩, none, false⟩])
       (.seq
        (.ops false [
          ⟨⟨(some 69), .move (.tmp 6), 3, "", ⟨[]⟩, none⟩, none, false⟩,
          ⟨⟨(some 70), .move (.tmp 9), 3, "", ⟨[]⟩, none⟩, none, false⟩,
          ⟨⟨(some 71), .binOp .eql 3 (.tmp 69) (.tmp 70) 3, 4, "", ⟨[]⟩, none⟩, none, false⟩,
          ⟨⟨(some 72), .move (.tmp 71), 4, "", ⟨[]⟩, none⟩, none, false⟩,
          ⟨⟨(some 73), .move (.tmp 7), 27, "", ⟨[]⟩, none⟩, some ((some 72), true), false⟩,
          ⟨⟨(some 74), .move (.tmp 10), 27, "", ⟨[]⟩, none⟩, some ((some 72), true), false⟩,
          ⟨⟨(some 75), .binOp .eql 27 (.tmp 73) (.tmp 74) 27, 4, "", ⟨[]⟩, none⟩, some ((some 72), true), false⟩,
          ⟨⟨(some 76), .pick (.tmp 72) (.tmp 75) (.const (.bool false)), 4, "", ⟨[]⟩, none⟩, none, false⟩,
          ⟨⟨(some 77), .move (.tmp 76), 4, "", ⟨[]⟩, none⟩, none, false⟩,
          ⟨⟨(some 78), .call ⟨.value (.func 16), ⟨[]⟩, ⟨[]⟩⟩, 4, "", ⟨[]⟩, none⟩, some ((some 77), true), false⟩,
          ⟨⟨(some 79), .pick (.tmp 77) (.tmp 78) (.const (.bool false)), 4, "", ⟨[]⟩, none⟩, none, false⟩,
          ⟨⟨(some 4), .assign (.tmp 79), 4, "", ⟨[]⟩, none⟩, none, false⟩])
        .ret)))))))
def Tryz.s17 : SC :=
 (.seq
  (.ops false [
    ⟨⟨(some 5), .box 40 (.tmp 2), 0, "", ⟨[]⟩, none⟩, none, false⟩,
    ⟨⟨(some 6), .assign (.const (.slice none 0 0)), 24, "", ⟨[]⟩, none⟩, none, false⟩,
    ⟨⟨(some 7), .assign (.const (.int .i64 0)), 27, "", ⟨[]⟩, none⟩, none, false⟩])
  (.seq
   (.seq
    (.ops false [
      ⟨⟨(some 9), .move (.tmp 0), 22, "", ⟨[]⟩, none⟩, none, false⟩,
      ⟨⟨(some 10), .load 40 (.tmp 5), 40, "", ⟨[]⟩, none⟩, none, false⟩,
      ⟨⟨(some 11), .buildSlice 36 1 ⟨[(0, (.tmp 10))]⟩, 36, "", ⟨[]⟩, none⟩, none, false⟩,
      ⟨⟨(some 12), .move (.tmp 1), 24, "", ⟨[]⟩, none⟩, none, false⟩,
      ⟨⟨(some 13), .buildSlice 23 1 ⟨[(0, (.tmp 12))]⟩, 23, "", ⟨[]⟩, none⟩, none, false⟩,
      ⟨⟨(some 14), .call ⟨.value (.func 31), ⟨[(.tmp 9), (.tmp 11), (.tmp 13)]⟩, ⟨[22, 36, 23]⟩⟩, 27, "", ⟨[]⟩, none⟩, none, false⟩,
      ⟨⟨(some 8), .assign (.tmp 14), 27, "", ⟨[]⟩, none⟩, none, false⟩])
    (.seq
     (.ops false [
       ⟨⟨(some 15), .move (.tmp 8), 27, "", ⟨[]⟩, none⟩, none, false⟩,
       ⟨⟨(some 16), .binOp .neq 27 (.tmp 15) (.const (.int .i64 0)) 27, 4, "", ⟨[]⟩, none⟩, none, false⟩])
     (.cond (.tmp 16)
      (.seq
       (.ops false [
         ⟨⟨(some 17), .move (.tmp 8), 27, "", ⟨[]⟩, none⟩, none, false⟩,
         ⟨⟨(some 6), .assign (.const (.slice none 0 0)), 24, "", ⟨[]⟩, none⟩, none, false⟩,
         ⟨⟨(some 7), .assign (.tmp 17), 27, "", ⟨[]⟩, none⟩, none, false⟩])
       .ret)
      .skip)))
   (.seq
    (.ops false [
      ⟨⟨(some 18), .move (.tmp 0), 22, "", ⟨[]⟩, none⟩, none, false⟩,
      ⟨⟨(some 19), .move (.tmp 1), 24, "", ⟨[]⟩, none⟩, none, false⟩,
      ⟨⟨(some 20), .load 40 (.tmp 5), 40, "", ⟨[]⟩, none⟩, none, false⟩,
      ⟨⟨(some 21), .call ⟨.value (.func 46), ⟨[(.tmp 18), (.tmp 19), (.tmp 20)]⟩, ⟨[22, 24, 40]⟩⟩, 24, "", ⟨[]⟩, none⟩, none, false⟩,
      ⟨⟨(some 6), .assign (.tmp 21), 24, "", ⟨[]⟩, none⟩, none, false⟩,
      ⟨⟨(some 7), .assign (.const (.int .i64 0)), 27, "", ⟨[]⟩, none⟩, none, false⟩])
    .ret)))
def Tryz.s18 : SC :=
 (.seq
  (.ops false [
    ⟨⟨(some 5), .box 40 (.tmp 2), 0, "", ⟨[]⟩, none⟩, none, false⟩,
    ⟨⟨(some 6), .assign (.const (.slice none 0 0)), 24, "", ⟨[]⟩, none⟩, none, false⟩,
    ⟨⟨(some 7), .assign (.const (.int .i64 0)), 27, "", ⟨[]⟩, none⟩, none, false⟩])
  (.seq
   (.seq
    (.ops false [
      ⟨⟨(some 11), .move (.tmp 0), 22, "", ⟨[]⟩, none⟩, none, false⟩,
      ⟨⟨(some 12), .move (.tmp 1), 24, "", ⟨[]⟩, none⟩, none, false⟩,
      ⟨⟨(some 13), .load 40 (.tmp 5), 40, "", ⟨[]⟩, none⟩, none, false⟩,
      ⟨⟨(some 14), .buildSlice 36 1 ⟨[(0, (.tmp 13))]⟩, 36, "", ⟨[]⟩, none⟩, none, false⟩,
      ⟨⟨(some 15), .call ⟨.value (.func 47), ⟨[(.tmp 11), (.tmp 12), (.tmp 14)]⟩, ⟨[22, 24, 36]⟩⟩, 27, "", ⟨[]⟩, none⟩, none, false⟩,
      ⟨⟨(some 8), .assign (.tmp 15), 27, "", ⟨[]⟩, none⟩, none, false⟩])
    (.seq
     (.ops false [
       ⟨⟨(some 16), .move (.tmp 8), 27, "", ⟨[]⟩, none⟩, none, false⟩,
       ⟨⟨(some 17), .binOp .neq 27 (.tmp 16) (.const (.int .i64 0)) 27, 4, "", ⟨[]⟩, none⟩, none, false⟩])
     (.cond (.tmp 17)
      (.seq
       (.ops false [
         ⟨⟨(some 18), .move (.tmp 8), 27, "", ⟨[]⟩, none⟩, none, false⟩,
         ⟨⟨(some 6), .assign (.const (.slice none 0 0)), 24, "", ⟨[]⟩, none⟩, none, false⟩,
         ⟨⟨(some 7), .assign (.tmp 18), 27, "", ⟨[]⟩, none⟩, none, false⟩])
       .ret)
      .skip)))
   (.seq
    (.ops false [
      ⟨⟨(some 9), .assign (.const (.slice none 0 0)), 24, "", ⟨[]⟩, none⟩, none, false⟩])
    (.seq
     (.seq
      (.ops false [
        ⟨⟨(some 10), .assign (.const (.int .i64 0)), 3, "", ⟨[]⟩, none⟩, none, false⟩])
      (.block 0
       (.loop
        (.seq
         (.seq
          (.ops false [
            ⟨⟨(some 19), .move (.tmp 10), 3, "", ⟨[]⟩, none⟩, none, false⟩,
            ⟨⟨(some 20), .move (.tmp 0), 22, "", ⟨[]⟩, none⟩, none, false⟩,
            ⟨⟨(some 21), .call ⟨.builtin .len, ⟨[(.tmp 20)]⟩, ⟨[22]⟩⟩, 3, "", ⟨[]⟩, none⟩, none, false⟩,
            ⟨⟨(some 22), .binOp .lss 3 (.tmp 19) (.tmp 21) 3, 4, "", ⟨[]⟩, none⟩, none, false⟩])
          (.cond (.tmp 22)
           .skip
           (.exit 0)))
         (.seq
          (.block 1
           (.seq
            (.ops true [
              ⟨⟨(some 25), .move (.tmp 0), 22, "", ⟨[]⟩, none⟩, none, true⟩,
              ⟨⟨(some 26), .move (.tmp 10), 3, "", ⟨[]⟩, none⟩, none, true⟩,
              ⟨⟨(some 27), .indexAddr 22 (.tmp 25) (.tmp 26), 0, "", ⟨[]⟩, none⟩, none, true⟩,
              ⟨⟨(some 28), .load 53 (.tmp 27), 53, "", ⟨[]⟩, none⟩, none, true⟩,
              ⟨⟨(some 29), .move (.tmp 1), 24, "", ⟨[]⟩, none⟩, none, true⟩,
              ⟨⟨(some 30), .move (.tmp 10), 3, "", ⟨[]⟩, none⟩, none, true⟩,
              ⟨⟨(some 31), .indexAddr 24 (.tmp 29) (.tmp 30), 0, "", ⟨[]⟩, none⟩, none, true⟩,
              ⟨⟨(some 32), .load 3 (.tmp 31), 3, "", ⟨[]⟩, none⟩, none, true⟩,
              ⟨⟨(some 33), .fieldAddr 40 (.tmp 5) 0, 0, "", ⟨[]⟩, none⟩, none, true⟩,
              ⟨⟨(some 34), .load 26 (.tmp 33), 26, "", ⟨[]⟩, none⟩, none, true⟩,
              ⟨⟨(some 35), .move (.tmp 10), 3, "", ⟨[]⟩, none⟩, none, true⟩,
              ⟨⟨(some 36), .indexAddr 26 (.tmp 34) (.tmp 35), 0, "", ⟨[]⟩, none⟩, none, true⟩,
              ⟨⟨(some 37), .load 58 (.tmp 36), 58, "", ⟨[]⟩, none⟩, none, true⟩,
              ⟨⟨(some 38), .call ⟨.value (.func 48), ⟨[(.tmp 28), (.tmp 32), (.tmp 37)]⟩, ⟨[53, 3, 58]⟩⟩, 4, "", ⟨[]⟩, none⟩, none, false⟩])
            (.cond (.tmp 38)
             (.ops false [
               ⟨⟨(some 39), .move (.tmp 9), 24, "", ⟨[]⟩, none⟩, none, false⟩,
               ⟨⟨(some 40), .move (.tmp 10), 3, "", ⟨[]⟩, none⟩, none, false⟩,
               ⟨⟨(some 41), .buildSlice 24 1 ⟨[(0, (.tmp 40))]⟩, 24, "", ⟨[]⟩, none⟩, none, false⟩,
               ⟨⟨(some 42), .call ⟨.builtin .append, ⟨[(.tmp 39), (.tmp 41)]⟩, ⟨[24, 24]⟩⟩, 24, "", ⟨[]⟩, none⟩, none, false⟩,
               ⟨⟨(some 9), .assign (.tmp 42), 24, "", ⟨[]⟩, none⟩, none, false⟩])
             .skip)))
          (.ops false [
            ⟨⟨(some 23), .move (.tmp 10), 3, "", ⟨[]⟩, none⟩, none, false⟩,
            ⟨⟨(some 24), .binOp .add 3 (.tmp 23) (.const (.int .i64 1)) 3, 3, "", ⟨[]⟩, none⟩, none, false⟩,
            ⟨⟨(some 10), .assign (.tmp 24), 3, "", ⟨[]⟩, none⟩, none, false⟩]))))))
     (.seq
      (.ops false [
        ⟨⟨(some 43), .move (.tmp 9), 24, "", ⟨[]⟩, none⟩, none, false⟩,
        ⟨⟨(some 6), .assign (.tmp 43), 24, "", ⟨[]⟩, none⟩, none, false⟩,
        ⟨⟨(some 7), .assign (.const (.int .i64 0)), 27, "", ⟨[]⟩, none⟩, none, false⟩])
      .ret)))))
def Tryz.s19 : SC :=
 (.seq
  (.ops false [
    ⟨⟨(some 4), .assign (.const (.bool false)), 4, "", ⟨[]⟩, none⟩, none, false⟩])
  (.seq
   (.ops false [
     ⟨⟨(some 7), .move (.tmp 0), 24, "", ⟨[]⟩, none⟩, none, false⟩,
     ⟨⟨(some 8), .call ⟨.builtin .len, ⟨[(.tmp 7)]⟩, ⟨[24]⟩⟩, 3, "", ⟨[]⟩, none⟩, none, false⟩,
     ⟨⟨(some 9), .move (.tmp 1), 24, "", ⟨[]⟩, none⟩, none, false⟩,
     ⟨⟨(some 10), .call ⟨.builtin .len, ⟨[(.tmp 9)]⟩, ⟨[24]⟩⟩, 3, "", ⟨[]⟩, none⟩, none, false⟩,
     ⟨⟨(some 11), .binOp .eql 3 (.tmp 8) (.tmp 10) 3, 4, "", ⟨[]⟩, none⟩, none, false⟩,
     ⟨⟨(some 5), .assign (.tmp 11), 4, "", ⟨[]⟩, none⟩, none, false⟩])
   (.seq
    (.seq
     (.ops false [
       ⟨⟨(some 6), .assign (.const (.int .i64 0)), 3, "", ⟨[]⟩, none⟩, none, false⟩])
     (.block 0
      (.loop
       (.seq
        (.seq
         (.ops false [
           ⟨⟨(some 12), .move (.tmp 5), 4, "", ⟨[]⟩, none⟩, none, false⟩,
           ⟨⟨(some 13), .move (.tmp 12), 4, "", ⟨[]⟩, none⟩, none, false⟩,
           ⟨⟨(some 14), .move (.tmp 6), 3, "", ⟨[]⟩, none⟩, some ((some 13), true), false⟩,
           ⟨⟨(some 15), .move (.tmp 0), 24, "", ⟨[]⟩, none⟩, some ((some 13), true), false⟩,
           ⟨⟨(some 16), .call ⟨.builtin .len, ⟨[(.tmp 15)]⟩, ⟨[24]⟩⟩, 3, "", ⟨[]⟩, none⟩, some ((some 13), true), false⟩,
           ⟨⟨(some 17), .binOp .lss 3 (.tmp 14) (.tmp 16) 3, 4, "", ⟨[]⟩, none⟩, some ((some 13), true), false⟩,
           ⟨⟨(some 18), .pick (.tmp 13) (.tmp 17) (.const (.bool false)), 4, "", ⟨[]⟩, none⟩, none, false⟩])
         (.cond (.tmp 18)
          .skip
          (.exit 0)))
        (.seq
         (.block 1
          (.ops true [
            ⟨⟨(some 21), .move (.tmp 0), 24, "", ⟨[]⟩, none⟩, none, true⟩,
            ⟨⟨(some 22), .move (.tmp 6), 3, "", ⟨[]⟩, none⟩, none, true⟩,
            ⟨⟨(some 23), .indexAddr 24 (.tmp 21) (.tmp 22), 0, "", ⟨[]⟩, none⟩, none, true⟩,
            ⟨⟨(some 24), .load 3 (.tmp 23), 3, "", ⟨[]⟩, none⟩, none, true⟩,
            ⟨⟨(some 25), .move (.tmp 1), 24, "", ⟨[]⟩, none⟩, none, true⟩,
            ⟨⟨(some 26), .move (.tmp 6), 3, "", ⟨[]⟩, none⟩, none, true⟩,
            ⟨⟨(some 27), .indexAddr 24 (.tmp 25) (.tmp 26), 0, "", ⟨[]⟩, none⟩, none, true⟩,
            ⟨⟨(some 28), .load 3 (.tmp 27), 3, "", ⟨[]⟩, none⟩, none, true⟩,
            ⟨⟨(some 29), .binOp .eql 3 (.tmp 24) (.tmp 28) 3, 4, "", ⟨[]⟩, none⟩, none, true⟩,
            ⟨⟨(some 5), .assign (.tmp 29), 4, "", ⟨[]⟩, none⟩, none, true⟩]))
         (.ops false [
           ⟨⟨(some 19), .move (.tmp 6), 3, "", ⟨[]⟩, none⟩, none, false⟩,
           ⟨⟨(some 20), .binOp .add 3 (.tmp 19) (.const (.int .i64 1)) 3, 3, "", ⟨[]⟩, none⟩, none, false⟩,
           ⟨⟨(some 6), .assign (.tmp 20), 3, "", ⟨[]⟩, none⟩, none, false⟩]))))))
    (.seq
     (.ops false [
       ⟨⟨(some 30), .move (.tmp 5), 4, "", ⟨[]⟩, none⟩, none, false⟩,
       ⟨⟨(some 4), .assign (.tmp 30), 4, "", ⟨[]⟩, none⟩, none, false⟩])
     .ret))))
def Tryz.s20 : SC :=
 (.seq
  (.ops false [
    ⟨⟨(some 8), .assign (.const (.bool false)), 4, "", ⟨[]⟩, none⟩, none, false⟩,
    ⟨⟨(some 9), .assign (.const (.int .i64 0)), 27, "", ⟨[]⟩, none⟩, none, false⟩])
  (.seq
   (.seq
    (.ops false [
      ⟨⟨(some 14), .move (.tmp 0), 22, "", ⟨[]⟩, none⟩, none, false⟩,
      ⟨⟨(some 15), .move (.tmp 2), 36, "", ⟨[]⟩, none⟩, none, false⟩,
      ⟨⟨(some 16), .move (.tmp 1), 24, "", ⟨[]⟩, none⟩, none, false⟩,
      ⟨⟨(some 17), .buildSlice 23 1 ⟨[(0, (.tmp 16))]⟩, 23, "", ⟨[]⟩, none⟩, none, false⟩,
      ⟨⟨(some 18), .call ⟨.value (.func 31), ⟨[(.tmp 14), (.tmp 15), (.tmp 17)]⟩, ⟨[22, 36, 23]⟩⟩, 27, "", ⟨[]⟩, none⟩, none, false⟩,
      ⟨⟨(some 10), .assign (.tmp 18), 27, "", ⟨[]⟩, none⟩, none, false⟩])
    (.seq
     (.ops false [
       ⟨⟨(some 19), .move (.tmp 10), 27, "", ⟨[]⟩, none⟩, none, false⟩,
       ⟨⟨(some 20), .binOp .neq 27 (.tmp 19) (.const (.int .i64 0)) 27, 4, "", ⟨[]⟩, none⟩, none, false⟩])
     (.cond (.tmp 20)
      (.seq
       (.ops false [
         ⟨⟨(some 21), .move (.tmp 10), 27, "", ⟨[]⟩, none⟩, none, false⟩,
         ⟨⟨(some 8), .assign (.const (.bool false)), 4, "", ⟨[]⟩, none⟩, none, false⟩,
         ⟨⟨(some 9), .assign (.tmp 21), 27, "", ⟨[]⟩, none⟩, none, false⟩])
       .ret)
      .skip)))
   (.seq
    (.ops false [
      ⟨⟨(some 11), .assign (.const (.int .i64 (-1))), 3, "", ⟨[]⟩, none⟩, none, false⟩])
    (.seq
     (.seq
      (.ops false [
        ⟨⟨(some 22), .move (.tmp 3), 24, "", ⟨[]⟩, none⟩, none, false⟩,
        ⟨⟨(some 23), .call ⟨.builtin .len, ⟨[(.tmp 22)]⟩, ⟨[24]⟩⟩, 3, "", ⟨[]⟩, none⟩, none, false⟩,
        ⟨⟨(some 24), .move (.const (.int .i64 0)), 3, "", ⟨[]⟩, none⟩, none, false⟩])
      (.block 0
       (.loop
        (.seq
         (.ops false [
           ⟨⟨(some 25), .binOp .lss 3 (.tmp 24) (.tmp 23) 3, 0, "", ⟨[]⟩, none⟩, none, false⟩])
         (.seq
          (.cond (.tmp 25)
           .skip
           (.exit 0))
          (.seq
           (.block 1
            (.seq
             (.ops false [
               ⟨⟨(some 26), .indexAddr 24 (.tmp 22) (.tmp 24), 0, "", ⟨[]⟩, none⟩, none, false⟩,
               ⟨⟨(some 27), .load 3 (.tmp 26), 3, "", ⟨[]⟩, none⟩, none, false⟩,
               ⟨⟨(some 13), .assign (.tmp 27), 3, "", ⟨[]⟩, none⟩, none, false⟩])
             (.seq
              (.seq
               (.ops false [
                 ⟨⟨(some 28), .move (.tmp 13), 3, "", ⟨[]⟩, none⟩, none, false⟩,
                 ⟨⟨(some 29), .move (.tmp 11), 3, "", ⟨[]⟩, none⟩, none, false⟩,
                 ⟨⟨(some 30), .binOp .add 3 (.tmp 29) (.const (.int .i64 1)) 3, 3, "", ⟨[]⟩, none⟩, none, false⟩,
                 ⟨⟨(some 31), .move (.tmp 0), 22, "", ⟨[]⟩, none⟩, none, false⟩,
                 ⟨⟨(some 32), .call ⟨.builtin .len, ⟨[(.tmp 31)]⟩, ⟨[22]⟩⟩, 3, "", ⟨[]⟩, none⟩, none, false⟩,
                 ⟨⟨(some 33), .binOp .sub 3 (.tmp 32) (.const (.int .i64 1)) 3, 3, "", ⟨[]⟩, none⟩, none, false⟩,
                 ⟨⟨(some 34), .call ⟨.value (.func 36), ⟨[(.tmp 28), (.tmp 30), (.tmp 33)]⟩, ⟨[3, 3, 3]⟩⟩, 4, "", ⟨[]⟩, none⟩, none, false⟩,
                 ⟨⟨(some 35), .unOp .not 4 (.tmp 34), 4, "", ⟨[]⟩, none⟩, none, false⟩])
               (.cond (.tmp 35)
                (.seq
                 (.ops false [
                   ⟨⟨(some 8), .assign (.const (.bool false)), 4, "", ⟨[]⟩, none⟩, none, false⟩,
                   ⟨⟨(some 9), .assign (.const (.int .i64 7)), 27, "", ⟨[]⟩, none⟩, none, false⟩])
                 .ret)
                .skip))
              (.ops false [
                ⟨⟨(some 36), .move (.tmp 13), 3, "", ⟨[]⟩, none⟩, none, false⟩,
                ⟨⟨(some 11), .assign (.tmp 36), 3, "", ⟨[]⟩, none⟩, none, false⟩]))))
           (.ops false [
             ⟨⟨(some 37), .binOp .add 3 (.tmp 24) (.const (.int .i64 1)) 3, 3, "", ⟨[]⟩, none⟩, none, false⟩,
             ⟨⟨(some 24), .move (.tmp 37), 3, "", ⟨[]⟩, none⟩, none, false⟩])))))))
     (.seq
      (.ops false [
        ⟨⟨(some 38), .move (.tmp 0), 22, "", ⟨[]⟩, none⟩, none, false⟩,
        ⟨⟨(some 39), .move (.tmp 1), 24, "", ⟨[]⟩, none⟩, none, false⟩,
        ⟨⟨(some 40), .move (.tmp 2), 36, "", ⟨[]⟩, none⟩, none, false⟩,
        ⟨⟨(some 41), .move (.tmp 3), 24, "", ⟨[]⟩, none⟩, none, false⟩,
        ⟨⟨(some 42), .call ⟨.value (.func 49), ⟨[(.tmp 38), (.tmp 39), (.tmp 40), (.tmp 41)]⟩, ⟨[22, 24, 36, 24]⟩⟩, 4, "", ⟨[]⟩, none⟩, none, false⟩,
        ⟨⟨(some 8), .assign (.tmp 42), 4, "", ⟨[]⟩, none⟩, none, false⟩,
        ⟨⟨(some 9), .assign (.const (.int .i64 0)), 27, "", ⟨[]⟩, none⟩, none, false⟩])
      .ret)))))
def Tryz.s21 : SC :=
 (.seq
  (.ops false [
    ⟨⟨(some 8), .assign (.const (.bool false)), 4, "", ⟨[]⟩, none⟩, none, false⟩,
    ⟨⟨(some 9), .assign (.const (.int .i64 0)), 27, "", ⟨[]⟩, none⟩, none, false⟩])
  (.seq
   (.seq
    (.ops false [
      ⟨⟨(some 12), .move (.tmp 0), 22, "", ⟨[]⟩, none⟩, none, false⟩,
      ⟨⟨(some 13), .move (.tmp 1), 24, "", ⟨[]⟩, none⟩, none, false⟩,
      ⟨⟨(some 14), .move (.tmp 2), 36, "", ⟨[]⟩, none⟩, none, false⟩,
      ⟨⟨(some 15), .call ⟨.value (.func 47), ⟨[(.tmp 12), (.tmp 13), (.tmp 14)]⟩, ⟨[22, 24, 36]⟩⟩, 27, "", ⟨[]⟩, none⟩, none, false⟩,
      ⟨⟨(some 10), .assign (.tmp 15), 27, "", ⟨[]⟩, none⟩, none, false⟩])
    (.seq
     (.ops false [
       ⟨⟨(some 16), .move (.tmp 10), 27, "", ⟨[]⟩, none⟩, none, false⟩,
       ⟨⟨(some 17), .binOp .neq 27 (.tmp 16) (.const (.int .i64 0)) 27, 4, "", ⟨[]⟩, none⟩, none, false⟩])
     (.cond (.tmp 17)
      (.seq
       (.ops false [
         ⟨⟨(some 18), .move (.tmp 10), 27, "", ⟨[]⟩, none⟩, none, false⟩,
         ⟨⟨(some 8), .assign (.const (.bool false)), 4, "", ⟨[]⟩, none⟩, none, false⟩,
         ⟨⟨(some 9), .assign (.tmp 18), 27, "", ⟨[]⟩, none⟩, none, false⟩])
       .ret)
      .skip)))
   (.seq
    (.seq
     (.ops false [
       ⟨⟨(some 11), .assign (.const (.int .i64 0)), 3, "", ⟨[]⟩, none⟩, none, false⟩])
     (.block 0
      (.loop
       (.seq
        (.seq
         (.ops false [
           ⟨⟨(some 19), .move (.tmp 11), 3, "", ⟨[]⟩, none⟩, none, false⟩,
           ⟨⟨(some 20), .move (.tmp 3), 24, "", ⟨[]⟩, none⟩, none, false⟩,
           ⟨⟨(some 21), .call ⟨.builtin .len, ⟨[(.tmp 20)]⟩, ⟨[24]⟩⟩, 3, "", ⟨[]⟩, none⟩, none, false⟩,
           ⟨⟨(some 22), .binOp .lss 3 (.tmp 19) (.tmp 21) 3, 4, "", ⟨[]⟩, none⟩, none, false⟩])
         (.cond (.tmp 22)
          .skip
          (.exit 0)))
        (.seq
         (.block 1
          (.seq
           (.ops true [
             ⟨⟨(some 25), .move (.tmp 3), 24, "", ⟨[]⟩, none⟩, none, true⟩,
             ⟨⟨(some 26), .move (.tmp 11), 3, "", ⟨[]⟩, none⟩, none, true⟩,
             ⟨⟨(some 27), .indexAddr 24 (.tmp 25) (.tmp 26), 0, "", ⟨[]⟩, none⟩, none, true⟩,
             ⟨⟨(some 28), .load 3 (.tmp 27), 3, "", ⟨[]⟩, none⟩, none, true⟩,
             ⟨⟨(some 29), .move (.tmp 0), 22, "", ⟨[]⟩, none⟩, none, true⟩,
             ⟨⟨(some 30), .call ⟨.builtin .len, ⟨[(.tmp 29)]⟩, ⟨[22]⟩⟩, 3, "", ⟨[]⟩, none⟩, none, true⟩,
             ⟨⟨(some 31), .binOp .sub 3 (.tmp 30) (.const (.int .i64 1)) 3, 3, "", ⟨[]⟩, none⟩, none, true⟩,
             ⟨⟨(some 32), .call ⟨.value (.func 29), ⟨[(.const (.int .i64 0)), (.tmp 28), (.tmp 31)]⟩, ⟨[3, 3, 3]⟩⟩, 4, "", ⟨[]⟩, none⟩, none, false⟩,
             ⟨⟨(some 33), .unOp .not 4 (.tmp 32), 4, "", ⟨[]⟩, none⟩, none, true⟩,
             ⟨⟨(some 34), .move (.tmp 33), 4, "", ⟨[]⟩, none⟩, none, true⟩,
             ⟨⟨(some 35), .move (.tmp 11), 3, "", ⟨[]⟩, none⟩, some ((some 34), false), true⟩,
             ⟨⟨(some 36), .binOp .gtr 3 (.tmp 35) (.const (.int .i64 0)) 3, 4, "", ⟨[]⟩, none⟩, some ((some 34), false), true⟩,
             ⟨⟨(some 37), .move (.tmp 36), 4, "", ⟨[]⟩, none⟩, some ((some 34), false), true⟩,
             ⟨⟨(some 38), .move (.tmp 3), 24, "", ⟨[]⟩, none⟩, some ((some 37), true), true⟩,
             ⟨⟨(some 39), .move (.tmp 11), 3, "", ⟨[]⟩, none⟩, some ((some 37), true), true⟩,
             ⟨⟨(some 40), .binOp .sub 3 (.tmp 39) (.const (.int .i64 1)) 3, 3, "", ⟨[]⟩, none⟩, some ((some 37), true), true⟩,
             ⟨⟨(some 41), .indexAddr 24 (.tmp 38) (.tmp 40), 0, "", ⟨[]⟩, none⟩, some ((some 37), true), true⟩,
             ⟨⟨(some 42), .load 3 (.tmp 41), 3, "", ⟨[]⟩, none⟩, some ((some 37), true), true⟩,
             ⟨⟨(some 43), .move (.tmp 3), 24, "", ⟨[]⟩, none⟩, some ((some 37), true), true⟩,
             ⟨⟨(some 44), .move (.tmp 11), 3, "", ⟨[]⟩, none⟩, some ((some 37), true), true⟩,
             ⟨⟨(some 45), .indexAddr 24 (.tmp 43) (.tmp 44), 0, "", ⟨[]⟩, none⟩, some ((some 37), true), true⟩,
             ⟨⟨(some 46), .load 3 (.tmp 45), 3, "", ⟨[]⟩, none⟩, some ((some 37), true), true⟩,
             ⟨⟨(some 47), .binOp .geq 3 (.tmp 42) (.tmp 46) 3, 4, "", ⟨[]⟩, none⟩, some ((some 37), true), true⟩,
             ⟨⟨(some 48), .pick (.tmp 37) (.tmp 47) (.const (.bool false)), 4, "", ⟨[]⟩, none⟩, some ((some 34), false), true⟩,
             ⟨⟨(some 49), .pick (.tmp 34) (.const (.bool true)) (.tmp 48), 4, "", ⟨[]⟩, none⟩, none, true⟩])
           (.cond (.tmp 49)
            (.seq
             (.ops false [
               ⟨⟨(some 8), .assign (.const (.bool false)), 4, "", ⟨[]⟩, none⟩, none, false⟩,
               ⟨⟨(some 9), .assign (.const (.int .i64 7)), 27, "", ⟨[]⟩, none⟩, none, false⟩])
             .ret)
            .skip)))
         (.ops false [
           ⟨⟨(some 23), .move (.tmp 11), 3, "", ⟨[]⟩, none⟩, none, false⟩,
           ⟨⟨(some 24), .binOp .add 3 (.tmp 23) (.const (.int .i64 1)) 3, 3, "", ⟨[]⟩, none⟩, none, false⟩,
           ⟨⟨(some 11), .assign (.tmp 24), 3, "", ⟨[]⟩, none⟩, none, false⟩]))))))
    (.seq
     (.ops false [
       ⟨⟨(some 50), .move (.tmp 0), 22, "", ⟨[]⟩, none⟩, none, false⟩,
       ⟨⟨(some 51), .move (.tmp 1), 24, "", ⟨[]⟩, none⟩, none, false⟩,
       ⟨⟨(some 52), .move (.tmp 2), 36, "", ⟨[]⟩, none⟩, none, false⟩,
       ⟨⟨(some 53), .move (.tmp 3), 24, "", ⟨[]⟩, none⟩, none, false⟩,
       ⟨⟨(some 54), .call ⟨.value (.func 50), ⟨[(.tmp 50), (.tmp 51), (.tmp 52), (.tmp 53)]⟩, ⟨[22, 24, 36, 24]⟩⟩, 4, "", ⟨[]⟩, none⟩, none, false⟩,
       ⟨⟨(some 8), .assign (.tmp 54), 4, "", ⟨[]⟩, none⟩, none, false⟩,
       ⟨⟨(some 9), .assign (.const (.int .i64 0)), 27, "", ⟨[]⟩, none⟩, none, false⟩])
     .ret))))
def Tryz.s23 : SC :=
 (.seq
  (.ops false [
    ⟨⟨(some 6), .assign (.const (.slice none 0 0)), 24, "", ⟨[]⟩, none⟩, none, false⟩,
    ⟨⟨(some 7), .assign (.const (.int .i64 0)), 3, "", ⟨[]⟩, none⟩, none, false⟩,
    ⟨⟨(some 8), .assign (.const (.int .i64 0)), 27, "", ⟨[]⟩, none⟩, none, false⟩])
  (.seq
   (.seq
    (.ops false [
      ⟨⟨(some 14), .move (.tmp 0), 22, "", ⟨[]⟩, none⟩, none, false⟩,
      ⟨⟨(some 15), .move (.tmp 1), 24, "", ⟨[]⟩, none⟩, none, false⟩,
      ⟨⟨(some 16), .move (.tmp 2), 36, "", ⟨[]⟩, none⟩, none, false⟩,
      ⟨⟨(some 17), .call ⟨.value (.func 47), ⟨[(.tmp 14), (.tmp 15), (.tmp 16)]⟩, ⟨[22, 24, 36]⟩⟩, 27, "", ⟨[]⟩, none⟩, none, false⟩,
      ⟨⟨(some 9), .assign (.tmp 17), 27, "", ⟨[]⟩, none⟩, none, false⟩])
    (.seq
     (.ops false [
       ⟨⟨(some 18), .move (.tmp 9), 27, "", ⟨[]⟩, none⟩, none, false⟩,
       ⟨⟨(some 19), .binOp .neq 27 (.tmp 18) (.const (.int .i64 0)) 27, 4, "", ⟨[]⟩, none⟩, none, false⟩])
     (.cond (.tmp 19)
      (.seq
       (.ops false [
         ⟨⟨(some 20), .move (.tmp 9), 27, "", ⟨[]⟩, none⟩, none, false⟩,
         ⟨⟨(some 6), .assign (.const (.slice none 0 0)), 24, "", ⟨[]⟩, none⟩, none, false⟩,
         ⟨⟨(some 7), .assign (.const (.int .i64 0)), 3, "", ⟨[]⟩, none⟩, none, false⟩,
         ⟨⟨(some 8), .assign (.tmp 20), 27, "", ⟨[]⟩, none⟩, none, false⟩])
       .ret)
      .skip)))
   (.seq
    (.ops false [
      ⟨⟨(some 21), .move (.tmp 0), 22, "", ⟨[]⟩, none⟩, none, false⟩,
      ⟨⟨(some 22), .move (.tmp 0), 22, "", ⟨[]⟩, none⟩, none, false⟩,
      ⟨⟨(some 23), .call ⟨.builtin .len, ⟨[(.tmp 22)]⟩, ⟨[22]⟩⟩, 3, "", ⟨[]⟩, none⟩, none, false⟩,
      ⟨⟨(some 24), .binOp .shl 3 (.const (.int .i64 1)) (.tmp 23) 3, 3, "", ⟨[]⟩, none⟩, none, false⟩,
      ⟨⟨(some 25), .binOp .sub 3 (.tmp 24) (.const (.int .i64 1)) 3, 3, "", ⟨[]⟩, none⟩, none, false⟩,
      ⟨⟨(some 26), .call ⟨.value (.func 55), ⟨[(.tmp 21), (.tmp 25)]⟩, ⟨[22, 3]⟩⟩, 24, "", ⟨[]⟩, none⟩, none, false⟩,
      ⟨⟨(some 10), .assign (.tmp 26), 24, "", ⟨[]⟩, none⟩, none, false⟩])
    (.seq
     (.seq
      (.ops false [
        ⟨⟨(some 27), .move (.tmp 0), 22, "", ⟨[]⟩, none⟩, none, false⟩,
        ⟨⟨(some 28), .move (.tmp 1), 24, "", ⟨[]⟩, none⟩, none, false⟩,
        ⟨⟨(some 29), .move (.tmp 2), 36, "", ⟨[]⟩, none⟩, none, false⟩,
        ⟨⟨(some 30), .move (.tmp 10), 24, "", ⟨[]⟩, none⟩, none, false⟩,
        ⟨⟨(some 31), .call ⟨.value (.func 50), ⟨[(.tmp 27), (.tmp 28), (.tmp 29), (.tmp 30)]⟩, ⟨[22, 24, 36, 24]⟩⟩, 4, "", ⟨[]⟩, none⟩, none, false⟩,
        ⟨⟨(some 32), .unOp .not 4 (.tmp 31), 4, "", ⟨[]⟩, none⟩, none, false⟩])
      (.cond (.tmp 32)
       (.seq
        (.ops false [
          ⟨⟨(some 6), .assign (.const (.slice none 0 0)), 24, "", ⟨[]⟩, none⟩, none, false⟩,
          ⟨⟨(some 7), .assign (.const (.int .i64 0)), 3, "", ⟨[]⟩, none⟩, none, false⟩,
          ⟨⟨(some 8), .assign (.const (.int .i64 4)), 27, "", ⟨[]⟩, none⟩, none, false⟩])
        .ret)
       .skip))
     (.seq
      (.seq
       (.ops false [
         ⟨⟨(some 11), .assign (.const (.int .i64 0)), 3, "", ⟨[]⟩, none⟩, none, false⟩])
       (.block 0
        (.loop
         (.seq
          (.seq
           (.ops false [
             ⟨⟨(some 33), .move (.tmp 11), 3, "", ⟨[]⟩, none⟩, none, false⟩,
             ⟨⟨(some 34), .move (.tmp 0), 22, "", ⟨[]⟩, none⟩, none, false⟩,
             ⟨⟨(some 35), .call ⟨.builtin .len, ⟨[(.tmp 34)]⟩, ⟨[22]⟩⟩, 3, "", ⟨[]⟩, none⟩, none, false⟩,
             ⟨⟨(some 36), .binOp .shl 3 (.const (.int .i64 1)) (.tmp 35) 3, 3, "", ⟨[]⟩, none⟩, none, false⟩,
             ⟨⟨(some 37), .binOp .lss 3 (.tmp 33) (.tmp 36) 3, 4, "", ⟨[]⟩, none⟩, none, false⟩])
           (.cond (.tmp 37)
            .skip
            (.exit 0)))
          (.seq
           (.block 1
            (.seq
             (.ops false [
               ⟨⟨(some 40), .move (.tmp 0), 22, "", ⟨[]⟩, none⟩, none, false⟩,
               ⟨⟨(some 41), .move (.tmp 11), 3, "", ⟨[]⟩, none⟩, none, false⟩,
               ⟨⟨(some 42), .call ⟨.value (.func 55), ⟨[(.tmp 40), (.tmp 41)]⟩, ⟨[22, 3]⟩⟩, 24, "", ⟨[]⟩, none⟩, none, false⟩,
               ⟨⟨(some 12), .assign (.tmp 42), 24, "", ⟨[]⟩, none⟩, none, false⟩])
             (.seq
              (.seq
               (.ops false [
                 ⟨⟨(some 43), .move (.tmp 0), 22, "", ⟨[]⟩, none⟩, none, false⟩,
                 ⟨⟨(some 44), .move (.tmp 1), 24, "", ⟨[]⟩, none⟩, none, false⟩,
                 ⟨⟨(some 45), .move (.tmp 2), 36, "", ⟨[]⟩, none⟩, none, false⟩,
                 ⟨⟨(some 46), .move (.tmp 12), 24, "", ⟨[]⟩, none⟩, none, false⟩,
                 ⟨⟨(some 47), .call ⟨.value (.func 50), ⟨[(.tmp 43), (.tmp 44), (.tmp 45), (.tmp 46)]⟩, ⟨[22, 24, 36, 24]⟩⟩, 4, "", ⟨[]⟩, none⟩, none, false⟩,
                 ⟨⟨(some 48), .unOp .not 4 (.tmp 47), 4, "", ⟨[]⟩, none⟩, none, false⟩])
               (.cond (.tmp 48)
                (.exit 1)
                .skip))
              (.seq
               (.ops false [
                 ⟨⟨(some 49), .move (.tmp 0), 22, "", ⟨[]⟩, none⟩, none, false⟩,
                 ⟨⟨(some 50), .move (.tmp 12), 24, "", ⟨[]⟩, none⟩, none, false⟩,
                 ⟨⟨(some 51), .call ⟨.value (.func 56), ⟨[(.tmp 49), (.tmp 50)]⟩, ⟨[22, 24]⟩⟩, 3, "", ⟨[]⟩, none⟩, none, false⟩,
                 ⟨⟨(some 13), .assign (.tmp 51), 3, "", ⟨[]⟩, none⟩, none, false⟩])
               (.seq
                (.ops false [
                  ⟨⟨(some 52), .move (.tmp 13), 3, "", ⟨[]⟩, none⟩, none, false⟩,
                  ⟨⟨(some 53), .move (.tmp 0), 22, "", ⟨[]⟩, none⟩, none, false⟩,
                  ⟨⟨(some 54), .move (.tmp 10), 24, "", ⟨[]⟩, none⟩, none, false⟩,
                  ⟨⟨(some 55), .call ⟨.value (.func 56), ⟨[(.tmp 53), (.tmp 54)]⟩, ⟨[22, 24]⟩⟩, 3, "", ⟨[]⟩, none⟩, none, false⟩,
                  ⟨⟨(some 56), .binOp .lss 3 (.tmp 52) (.tmp 55) 3, 4, "", ⟨[]⟩, none⟩, none, false⟩,
                  ⟨⟨(some 57), .move (.tmp 56), 4, "", ⟨[]⟩, none⟩, none, false⟩,
                  ⟨⟨(some 58), .move (.tmp 13), 3, "", ⟨[]⟩, none⟩, some ((some 57), false), false⟩,
                  ⟨⟨(some 59), .move (.tmp 0), 22, "", ⟨[]⟩, none⟩, some ((some 57), false), false⟩,
                  ⟨⟨(some 60), .move (.tmp 10), 24, "", ⟨[]⟩, none⟩, some ((some 57), false), false⟩,
                  ⟨⟨(some 61), .call ⟨.value (.func 56), ⟨[(.tmp 59), (.tmp 60)]⟩, ⟨[22, 24]⟩⟩, 3, "", ⟨[]⟩, none⟩, some ((some 57), false), false⟩,
                  ⟨⟨(some 62), .binOp .eql 3 (.tmp 58) (.tmp 61) 3, 4, "", ⟨[]⟩, none⟩, some ((some 57), false), false⟩,
                  ⟨⟨(some 63), .move (.tmp 62), 4, "", ⟨[]⟩, none⟩, some ((some 57), false), false⟩,
                  ⟨⟨(some 64), .move (.tmp 12), 24, "", ⟨[]⟩, none⟩, some ((some 63), true), false⟩,
                  ⟨⟨(some 65), .move (.tmp 10), 24, "", ⟨[]⟩, none⟩, some ((some 63), true), false⟩,
                  ⟨⟨(some 66), .call ⟨.value (.func 57), ⟨[(.tmp 64), (.tmp 65)]⟩, ⟨[24, 24]⟩⟩, 4, "", ⟨[]⟩, none⟩, some ((some 63), true), false⟩,
                  ⟨⟨(some 67), .pick (.tmp 63) (.tmp 66) (.const (.bool false)), 4, "", ⟨[]⟩, none⟩, some ((some 57), false), false⟩,
                  ⟨⟨(some 68), .pick (.tmp 57) (.const (.bool true)) (.tmp 67), 4, "", ⟨[]⟩, none⟩, none, false⟩])
                (.cond (.tmp 68)
                 (.ops false [
                   ⟨⟨(some 69), .move (.tmp 12), 24, "", ⟨[]⟩, none⟩, none, false⟩,
                   ⟨⟨(some 10), .assign (.tmp 69), 24, "", ⟨[]⟩, none⟩, none, false⟩])
                 .skip))))))
           (.ops false [
             ⟨⟨(some 38), .move (.tmp 11), 3, "", ⟨[]⟩, none⟩, none, false⟩,
             ⟨⟨(some 39), .binOp .add 3 (.tmp 38) (.const (.int .i64 1)) 3, 3, "", ⟨[]⟩, none⟩, none, false⟩,
             ⟨⟨(some 11), .assign (.tmp 39), 3, "", ⟨[]⟩, none⟩, none, false⟩]))))))
      (.seq
       (.ops false [
         ⟨⟨(some 70), .move (.tmp 10), 24, "", ⟨[]⟩, none⟩, none, false⟩,
         ⟨⟨(some 71), .move (.tmp 0), 22, "", ⟨[]⟩, none⟩, none, false⟩,
         ⟨⟨(some 72), .move (.tmp 10), 24, "", ⟨[]⟩, none⟩, none, false⟩,
         ⟨⟨(some 73), .call ⟨.value (.func 56), ⟨[(.tmp 71), (.tmp 72)]⟩, ⟨[22, 24]⟩⟩, 3, "", ⟨[]⟩, none⟩, none, false⟩,
         ⟨⟨(some 6), .assign (.tmp 70), 24, "", ⟨[]⟩, none⟩, none, false⟩,
         ⟨⟨(some 7), .assign (.tmp 73), 3, "", ⟨[]⟩, none⟩, none, false⟩,
         ⟨⟨(some 8), .assign (.const (.int .i64 0)), 27, "", ⟨[]⟩, none⟩, none, false⟩])
       .ret))))))
def Tryz.s24 : SC :=
 (.seq
  (.ops false [
    ⟨⟨(some 8), .assign (.const (.int .i64 0)), 3, "", ⟨[]⟩, none⟩, none, false⟩,
    ⟨⟨(some 9), .assign (.const (.int .i64 0)), 27, "", ⟨[]⟩, none⟩, none, false⟩])
  (.seq
   (.seq
    (.ops false [
      ⟨⟨(some 11), .move (.tmp 0), 22, "", ⟨[]⟩, none⟩, none, false⟩,
      ⟨⟨(some 12), .move (.tmp 2), 36, "", ⟨[]⟩, none⟩, none, false⟩,
      ⟨⟨(some 13), .move (.tmp 1), 24, "", ⟨[]⟩, none⟩, none, false⟩,
      ⟨⟨(some 14), .buildSlice 23 1 ⟨[(0, (.tmp 13))]⟩, 23, "", ⟨[]⟩, none⟩, none, false⟩,
      ⟨⟨(some 15), .call ⟨.value (.func 31), ⟨[(.tmp 11), (.tmp 12), (.tmp 14)]⟩, ⟨[22, 36, 23]⟩⟩, 27, "", ⟨[]⟩, none⟩, none, false⟩,
      ⟨⟨(some 10), .assign (.tmp 15), 27, "", ⟨[]⟩, none⟩, none, false⟩])
    (.seq
     (.ops false [
       ⟨⟨(some 16), .move (.tmp 10), 27, "", ⟨[]⟩, none⟩, none, false⟩,
       ⟨⟨(some 17), .binOp .neq 27 (.tmp 16) (.const (.int .i64 0)) 27, 4, "", ⟨[]⟩, none⟩, none, false⟩])
     (.cond (.tmp 17)
      (.seq
       (.ops false [
         ⟨⟨(some 18), .move (.tmp 10), 27, "", ⟨[]⟩, none⟩, none, false⟩,
         ⟨⟨(some 8), .assign (.const (.int .i64 0)), 3, "", ⟨[]⟩, none⟩, none, false⟩,
         ⟨⟨(some 9), .assign (.tmp 18), 27, "", ⟨[]⟩, none⟩, none, false⟩])
       .ret)
      .skip)))
   (.seq
    (.seq
     (.ops false [
       ⟨⟨(some 19), .move (.tmp 3), 24, "", ⟨[]⟩, none⟩, none, false⟩,
       ⟨⟨(some 20), .move (.tmp 2), 36, "", ⟨[]⟩, none⟩, none, false⟩,
       ⟨⟨(some 21), .call ⟨.builtin .len, ⟨[(.tmp 20)]⟩, ⟨[36]⟩⟩, 3, "", ⟨[]⟩, none⟩, none, false⟩,
       ⟨⟨(some 22), .call ⟨.value (.func 58), ⟨[(.tmp 19), (.tmp 21)]⟩, ⟨[24, 3]⟩⟩, 4, "", ⟨[]⟩, none⟩, none, false⟩,
       ⟨⟨(some 23), .unOp .not 4 (.tmp 22), 4, "", ⟨[]⟩, none⟩, none, false⟩,
       ⟨⟨(some 24), .move (.tmp 23), 4, "", ⟨[]⟩, none⟩, none, false⟩,
       ⟨⟨(some 25), .move (.tmp 0), 22, "", ⟨[]⟩, none⟩, some ((some 24), false), false⟩,
       ⟨⟨(some 26), .move (.tmp 1), 24, "", ⟨[]⟩, none⟩, some ((some 24), false), false⟩,
       ⟨⟨(some 27), .move (.tmp 2), 36, "", ⟨[]⟩, none⟩, some ((some 24), false), false⟩,
       ⟨⟨(some 28), .move (.tmp 3), 24, "", ⟨[]⟩, none⟩, some ((some 24), false), false⟩,
       ⟨⟨(some 29), .call ⟨.value (.func 59), ⟨[(.tmp 25), (.tmp 26), (.tmp 27), (.tmp 28)]⟩, ⟨[22, 24, 36, 24]⟩⟩, 4, "", ⟨[]⟩, none⟩, some ((some 24), false), false⟩,
       ⟨⟨(some 30), .unOp .not 4 (.tmp 29), 4, "", ⟨[]⟩, none⟩, some ((some 24), false), false⟩,
       ⟨⟨(some 31), .pick (.tmp 24) (.const (.bool true)) (.tmp 30), 4, "", ⟨[]⟩, none⟩, none, false⟩])
     (.cond (.tmp 31)
      (.seq
       (.ops false [
         ⟨⟨(some 8), .assign (.const (.int .i64 0)), 3, "", ⟨[]⟩, none⟩, none, false⟩,
         ⟨⟨(some 9), .assign (.const (.int .i64 16)), 27, "", ⟨[]⟩, none⟩, none, false⟩])
       .ret)
      .skip))
    (.seq
     (.ops false [
       ⟨⟨(some 32), .move (.tmp 3), 24, "", ⟨[]⟩, none⟩, none, false⟩,
       ⟨⟨(some 33), .call ⟨.value (.func 52), ⟨[(.tmp 32), (.func 60)]⟩, ⟨[24, 66]⟩⟩, 3, "", ⟨[]⟩, none⟩, none, false⟩,
       ⟨⟨(some 8), .assign (.tmp 33), 3, "", ⟨[]⟩, none⟩, none, false⟩,
       ⟨⟨(some 9), .assign (.const (.int .i64 0)), 27, "", ⟨[]⟩, none⟩, none, false⟩])
     .ret))))
def Tryz.s25 : SC :=
 (.seq
  (.ops false [
    ⟨⟨(some 8), .assign (.const (.int .i64 0)), 3, "", ⟨[]⟩, none⟩, none, false⟩,
    ⟨⟨(some 9), .assign (.const (.int .i64 0)), 27, "", ⟨[]⟩, none⟩, none, false⟩])
  (.seq
   (.seq
    (.ops false [
      ⟨⟨(some 16), .move (.tmp 0), 22, "", ⟨[]⟩, none⟩, none, false⟩,
      ⟨⟨(some 17), .move (.tmp 1), 24, "", ⟨[]⟩, none⟩, none, false⟩,
      ⟨⟨(some 18), .move (.tmp 2), 36, "", ⟨[]⟩, none⟩, none, false⟩,
      ⟨⟨(some 19), .call ⟨.value (.func 47), ⟨[(.tmp 16), (.tmp 17), (.tmp 18)]⟩, ⟨[22, 24, 36]⟩⟩, 27, "", ⟨[]⟩, none⟩, none, false⟩,
      ⟨⟨(some 10), .assign (.tmp 19), 27, "", ⟨[]⟩, none⟩, none, false⟩])
    (.seq
     (.ops false [
       ⟨⟨(some 20), .move (.tmp 10), 27, "", ⟨[]⟩, none⟩, none, false⟩,
       ⟨⟨(some 21), .binOp .neq 27 (.tmp 20) (.const (.int .i64 0)) 27, 4, "", ⟨[]⟩, none⟩, none, false⟩])
     (.cond (.tmp 21)
      (.seq
       (.ops false [
         ⟨⟨(some 22), .move (.tmp 10), 27, "", ⟨[]⟩, none⟩, none, false⟩,
         ⟨⟨(some 8), .assign (.const (.int .i64 0)), 3, "", ⟨[]⟩, none⟩, none, false⟩,
         ⟨⟨(some 9), .assign (.tmp 22), 27, "", ⟨[]⟩, none⟩, none, false⟩])
       .ret)
      .skip)))
   (.seq
    (.ops false [
      ⟨⟨(some 23), .move (.tmp 3), 24, "", ⟨[]⟩, none⟩, none, false⟩,
      ⟨⟨(some 24), .call ⟨.builtin .len, ⟨[(.tmp 23)]⟩, ⟨[24]⟩⟩, 3, "", ⟨[]⟩, none⟩, none, false⟩,
      ⟨⟨(some 25), .move (.tmp 2), 36, "", ⟨[]⟩, none⟩, none, false⟩,
      ⟨⟨(some 26), .call ⟨.builtin .len, ⟨[(.tmp 25)]⟩, ⟨[36]⟩⟩, 3, "", ⟨[]⟩, none⟩, none, false⟩,
      ⟨⟨(some 27), .binOp .eql 3 (.tmp 24) (.tmp 26) 3, 4, "", ⟨[]⟩, none⟩, none, false⟩,
      ⟨⟨(some 11), .assign (.tmp 27), 4, "", ⟨[]⟩, none⟩, none, false⟩])
    (.seq
     (.seq
      (.ops false [
        ⟨⟨(some 12), .assign (.const (.int .i64 0)), 3, "", ⟨[]⟩, none⟩, none, false⟩])
      (.block 0
       (.loop
        (.seq
         (.seq
          (.ops false [
            ⟨⟨(some 28), .move (.tmp 12), 3, "", ⟨[]⟩, none⟩, none, false⟩,
            ⟨⟨(some 29), .move (.tmp 3), 24, "", ⟨[]⟩, none⟩, none, false⟩,
            ⟨⟨(some 30), .call ⟨.builtin .len, ⟨[(.tmp 29)]⟩, ⟨[24]⟩⟩, 3, "", ⟨[]⟩, none⟩, none, false⟩,
            ⟨⟨(some 31), .binOp .lss 3 (.tmp 28) (.tmp 30) 3, 4, "", ⟨[]⟩, none⟩, none, false⟩])
          (.cond (.tmp 31)
           .skip
           (.exit 0)))
         (.seq
          (.block 1
           (.ops false [
             ⟨⟨(some 34), .move (.tmp 11), 4, "", ⟨[]⟩, none⟩, none, false⟩,
             ⟨⟨(some 35), .move (.tmp 34), 4, "", ⟨[]⟩, none⟩, none, false⟩,
             ⟨⟨(some 36), .move (.tmp 3), 24, "", ⟨[]⟩, none⟩, some ((some 35), true), false⟩,
             ⟨⟨(some 37), .move (.tmp 12), 3, "", ⟨[]⟩, none⟩, some ((some 35), true), false⟩,
             ⟨⟨(some 38), .indexAddr 24 (.tmp 36) (.tmp 37), 0, "", ⟨[]⟩, none⟩, some ((some 35), true), false⟩,
             ⟨⟨(some 39), .load 3 (.tmp 38), 3, "", ⟨[]⟩, none⟩, some ((some 35), true), false⟩,
             ⟨⟨(some 40), .call ⟨.value (.func 29), ⟨[(.const (.int .i64 0)), (.tmp 39), (.const (.int .i64 1000))]⟩, ⟨[3, 3, 3]⟩⟩, 4, "", ⟨[]⟩, none⟩, some ((some 35), true), false⟩,
             ⟨⟨(some 41), .pick (.tmp 35) (.tmp 40) (.const (.bool false)), 4, "", ⟨[]⟩, none⟩, none, false⟩,
             ⟨⟨(some 11), .assign (.tmp 41), 4, "", ⟨[]⟩, none⟩, none, false⟩]))
          (.ops false [
            ⟨⟨(some 32), .move (.tmp 12), 3, "", ⟨[]⟩, none⟩, none, false⟩,
            ⟨⟨(some 33), .binOp .add 3 (.tmp 32) (.const (.int .i64 1)) 3, 3, "", ⟨[]⟩, none⟩, none, false⟩,
            ⟨⟨(some 12), .assign (.tmp 33), 3, "", ⟨[]⟩, none⟩, none, false⟩]))))))
     (.seq
      (.seq
       (.ops false [
         ⟨⟨(some 13), .assign (.const (.int .i64 0)), 3, "", ⟨[]⟩, none⟩, none, false⟩])
       (.block 2
        (.loop
         (.seq
          (.seq
           (.ops false [
             ⟨⟨(some 42), .move (.tmp 11), 4, "", ⟨[]⟩, none⟩, none, false⟩,
             ⟨⟨(some 43), .move (.tmp 42), 4, "", ⟨[]⟩, none⟩, none, false⟩,
             ⟨⟨(some 44), .move (.tmp 13), 3, "", ⟨[]⟩, none⟩, some ((some 43), true), false⟩,
             ⟨⟨(some 45), .move (.tmp 0), 22, "", ⟨[]⟩, none⟩, some ((some 43), true), false⟩,
             ⟨⟨(some 46), .call ⟨.builtin .len, ⟨[(.tmp 45)]⟩, ⟨[22]⟩⟩, 3, "", ⟨[]⟩, none⟩, some ((some 43), true), false⟩,
             ⟨⟨(some 47), .binOp .lss 3 (.tmp 44) (.tmp 46) 3, 4, "", ⟨[]⟩, none⟩, some ((some 43), true), false⟩,
             ⟨⟨(some 48), .pick (.tmp 43) (.tmp 47) (.const (.bool false)), 4, "", ⟨[]⟩, none⟩, none, false⟩])
           (.cond (.tmp 48)
            .skip
            (.exit 2)))
          (.seq
           (.block 3
            (.seq
             (.ops false [
               ⟨⟨(some 14), .assign (.const (.int .i64 0)), 3, "", ⟨[]⟩, none⟩, none, false⟩])
             (.seq
              (.seq
               (.ops false [
                 ⟨⟨(some 15), .assign (.const (.int .i64 0)), 3, "", ⟨[]⟩, none⟩, none, false⟩])
               (.block 4
                (.loop
                 (.seq
                  (.seq
                   (.ops false [
                     ⟨⟨(some 51), .move (.tmp 15), 3, "", ⟨[]⟩, none⟩, none, false⟩,
                     ⟨⟨(some 52), .move (.tmp 2), 36, "", ⟨[]⟩, none⟩, none, false⟩,
                     ⟨⟨(some 53), .call ⟨.builtin .len, ⟨[(.tmp 52)]⟩, ⟨[36]⟩⟩, 3, "", ⟨[]⟩, none⟩, none, false⟩,
                     ⟨⟨(some 54), .binOp .lss 3 (.tmp 51) (.tmp 53) 3, 4, "", ⟨[]⟩, none⟩, none, false⟩])
                   (.cond (.tmp 54)
                    .skip
                    (.exit 4)))
                  (.seq
                   (.block 5
                    (.seq
                     (.ops true [
                       ⟨⟨(some 57), .move (.tmp 0), 22, "", ⟨[]⟩, none⟩, none, true⟩,
                       ⟨⟨(some 58), .move (.tmp 13), 3, "", ⟨[]⟩, none⟩, none, true⟩,
                       ⟨⟨(some 59), .indexAddr 22 (.tmp 57) (.tmp 58), 0, "", ⟨[]⟩, none⟩, none, true⟩,
                       ⟨⟨(some 60), .load 53 (.tmp 59), 53, "", ⟨[]⟩, none⟩, none, true⟩,
                       ⟨⟨(some 61), .move (.tmp 1), 24, "", ⟨[]⟩, none⟩, none, true⟩,
                       ⟨⟨(some 62), .move (.tmp 13), 3, "", ⟨[]⟩, none⟩, none, true⟩,
                       ⟨⟨(some 63), .indexAddr 24 (.tmp 61) (.tmp 62), 0, "", ⟨[]⟩, none⟩, none, true⟩,
                       ⟨⟨(some 64), .load 3 (.tmp 63), 3, "", ⟨[]⟩, none⟩, none, true⟩,
                       ⟨⟨(some 65), .move (.tmp 2), 36, "", ⟨[]⟩, none⟩, none, true⟩,
                       ⟨⟨(some 66), .move (.tmp 15), 3, "", ⟨[]⟩, none⟩, none, true⟩,
                       ⟨⟨(some 67), .indexAddr 36 (.tmp 65) (.tmp 66), 0, "", ⟨[]⟩, none⟩, none, true⟩,
                       ⟨⟨(some 68), .fieldAddr 40 (.tmp 67) 0, 0, "", ⟨[]⟩, none⟩, none, true⟩,
                       ⟨⟨(some 69), .load 26 (.tmp 68), 26, "", ⟨[]⟩, none⟩, none, true⟩,
                       ⟨⟨(some 70), .move (.tmp 13), 3, "", ⟨[]⟩, none⟩, none, true⟩,
                       ⟨⟨(some 71), .indexAddr 26 (.tmp 69) (.tmp 70), 0, "", ⟨[]⟩, none⟩, none, true⟩,
                       ⟨⟨(some 72), .load 58 (.tmp 71), 58, "", ⟨[]⟩, none⟩, none, true⟩,
                       ⟨⟨(some 73), .call ⟨.value (.func 48), ⟨[(.tmp 60), (.tmp 64), (.tmp 72)]⟩, ⟨[53, 3, 58]⟩⟩, 4, "", ⟨[]⟩, none⟩, none, false⟩])
                     (.cond (.tmp 73)
                      (.ops false [
                        ⟨⟨(some 74), .move (.tmp 14), 3, "", ⟨[]⟩, none⟩, none, false⟩,
                        ⟨⟨(some 75), .move (.tmp 3), 24, "", ⟨[]⟩, none⟩, none, false⟩,
                        ⟨⟨(some 76), .move (.tmp 15), 3, "", ⟨[]⟩, none⟩, none, false⟩,
                        ⟨⟨(some 77), .indexAddr 24 (.tmp 75) (.tmp 76), 0, "", ⟨[]⟩, none⟩, none, false⟩,
                        ⟨⟨(some 78), .load 3 (.tmp 77), 3, "", ⟨[]⟩, none⟩, none, false⟩,
                        ⟨⟨(some 79), .binOp .add 3 (.tmp 74) (.tmp 78) 3, 3, "", ⟨[]⟩, none⟩, none, false⟩,
                        ⟨⟨(some 14), .assign (.tmp 79), 3, "", ⟨[]⟩, none⟩, none, false⟩])
                      .skip)))
                   (.ops false [
                     ⟨⟨(some 55), .move (.tmp 15), 3, "", ⟨[]⟩, none⟩, none, false⟩,
                     ⟨⟨(some 56), .binOp .add 3 (.tmp 55) (.const (.int .i64 1)) 3, 3, "", ⟨[]⟩, none⟩, none, false⟩,
                     ⟨⟨(some 15), .assign (.tmp 56), 3, "", ⟨[]⟩, none⟩, none, false⟩]))))))
              (.ops false [
                ⟨⟨(some 80), .move (.tmp 14), 3, "", ⟨[]⟩, none⟩, none, false⟩,
                ⟨⟨(some 81), .move (.tmp 0), 22, "", ⟨[]⟩, none⟩, none, false⟩,
                ⟨⟨(some 82), .move (.tmp 13), 3, "", ⟨[]⟩, none⟩, none, false⟩,
                ⟨⟨(some 83), .indexAddr 22 (.tmp 81) (.tmp 82), 0, "", ⟨[]⟩, none⟩, none, false⟩,
                ⟨⟨(some 84), .fieldAddr 53 (.tmp 83) 1, 0, "", ⟨[]⟩, none⟩, none, false⟩,
                ⟨⟨(some 85), .load 3 (.tmp 84), 3, "", ⟨[]⟩, none⟩, none, false⟩,
                ⟨⟨(some 86), .binOp .leq 3 (.tmp 80) (.tmp 85) 3, 4, "", ⟨[]⟩, none⟩, none, false⟩,
                ⟨⟨(some 11), .assign (.tmp 86), 4, "", ⟨[]⟩, none⟩, none, false⟩]))))
           (.ops false [
             ⟨⟨(some 49), .move (.tmp 13), 3, "", ⟨[]⟩, none⟩, none, false⟩,
             ⟨⟨(some 50), .binOp .add 3 (.tmp 49) (.const (.int .i64 1)) 3, 3, "", ⟨[]⟩, none⟩, none, false⟩,
             ⟨⟨(some 13), .assign (.tmp 50), 3, "", ⟨[]⟩, none⟩, none, false⟩]))))))
      (.seq
       (.seq
        (.ops false [
          ⟨⟨(some 87), .move (.tmp 11), 4, "", ⟨[]⟩, none⟩, none, false⟩,
          ⟨⟨(some 88), .unOp .not 4 (.tmp 87), 4, "", ⟨[]⟩, none⟩, none, false⟩])
        (.cond (.tmp 88)
         (.seq
          (.ops false [
            ⟨⟨(some 8), .assign (.const (.int .i64 0)), 3, "", ⟨[]⟩, none⟩, none, false⟩,
            ⟨⟨(some 9), .assign (.const (.int .i64 16)), 27, "", ⟨[]⟩, none⟩, none, false⟩])
          .ret)
         .skip))
       (.seq
        (.ops false [
          ⟨⟨(some 89), .move (.tmp 3), 24, "", ⟨[]⟩, none⟩, none, false⟩,
          ⟨⟨(some 90), .call ⟨.value (.func 61), ⟨[(.tmp 89)]⟩, ⟨[24]⟩⟩, 3, "", ⟨[]⟩, none⟩, none, false⟩,
          ⟨⟨(some 8), .assign (.tmp 90), 3, "", ⟨[]⟩, none⟩, none, false⟩,
          ⟨⟨(some 9), .assign (.const (.int .i64 0)), 27, "", ⟨[]⟩, none⟩, none, false⟩])
        .ret)))))))
def Tryz.s46 : SC :=
 (.seq
  (.ops false [
    ⟨⟨(some 5), .box 40 (.tmp 2), 0, "", ⟨[]⟩, none⟩, none, false⟩,
    ⟨⟨(some 6), .assign (.const (.slice none 0 0)), 24, "", ⟨[]⟩, none⟩, none, false⟩])
  (.seq
   (.ops false [
     ⟨⟨(some 7), .assign (.const (.slice none 0 0)), 24, "", ⟨[]⟩, none⟩, none, false⟩])
   (.seq
    (.seq
     (.ops false [
       ⟨⟨(some 10), .move (.tmp 0), 22, "", ⟨[]⟩, none⟩, none, false⟩,
       ⟨⟨(some 11), .call ⟨.builtin .len, ⟨[(.tmp 10)]⟩, ⟨[22]⟩⟩, 3, "", ⟨[]⟩, none⟩, none, false⟩,
       ⟨⟨(some 12), .move (.const (.int .i64 0)), 3, "", ⟨[]⟩, none⟩, none, false⟩])
     (.block 0
      (.loop
       (.seq
        (.ops false [
          ⟨⟨(some 13), .binOp .lss 3 (.tmp 12) (.tmp 11) 3, 0, "", ⟨[]⟩, none⟩, none, false⟩])
        (.seq
         (.cond (.tmp 13)
          .skip
          (.exit 0))
         (.seq
          (.block 1
           (.seq
            (.ops false [
              ⟨⟨(some 14), .move (.tmp 12), 3, "", ⟨[]⟩, none⟩, none, false⟩,
              ⟨⟨(some 15), .indexAddr 22 (.tmp 10) (.tmp 12), 0, "", ⟨[]⟩, none⟩, none, false⟩,
              ⟨⟨(some 16), .load 53 (.tmp 15), 53, "", ⟨[]⟩, none⟩, none, false⟩,
              ⟨⟨(some 9), .alloc 53, 0, "", ⟨[]⟩, none⟩, none, false⟩,
              ⟨⟨(some 8), .assign (.tmp 14), 3, "", ⟨[]⟩, none⟩, none, false⟩,
              ⟨⟨none, .store 53 (.tmp 9) (.tmp 16), 0, "", ⟨[]⟩, none⟩, none, false⟩])
            (.seq
             (.ops true [
               ⟨⟨(some 17), .load 53 (.tmp 9), 53, "", ⟨[]⟩, none⟩, none, true⟩,
               ⟨⟨(some 18), .move (.tmp 1), 24, "", ⟨[]⟩, none⟩, none, true⟩,
               ⟨⟨(some 19), .move (.tmp 8), 3, "", ⟨[]⟩, none⟩, none, true⟩,
               ⟨⟨(some 20), .indexAddr 24 (.tmp 18) (.tmp 19), 0, "", ⟨[]⟩, none⟩, none, true⟩,
               ⟨⟨(some 21), .load 3 (.tmp 20), 3, "", ⟨[]⟩, none⟩, none, true⟩,
               ⟨⟨(some 22), .fieldAddr 40 (.tmp 5) 0, 0, "", ⟨[]⟩, none⟩, none, true⟩,
               ⟨⟨(some 23), .load 26 (.tmp 22), 26, "", ⟨[]⟩, none⟩, none, true⟩,
               ⟨⟨(some 24), .move (.tmp 8), 3, "", ⟨[]⟩, none⟩, none, true⟩,
               ⟨⟨(some 25), .indexAddr 26 (.tmp 23) (.tmp 24), 0, "", ⟨[]⟩, none⟩, none, true⟩,
               ⟨⟨(some 26), .load 58 (.tmp 25), 58, "", ⟨[]⟩, none⟩, none, true⟩,
               ⟨⟨(some 27), .call ⟨.value (.func 70), ⟨[(.tmp 17), (.tmp 21), (.tmp 26)]⟩, ⟨[53, 3, 58]⟩⟩, 4, "", ⟨[]⟩, none⟩, none, false⟩])
             (.cond (.tmp 27)
              (.ops false [
                ⟨⟨(some 28), .move (.tmp 7), 24, "", ⟨[]⟩, none⟩, none, false⟩,
                ⟨⟨(some 29), .move (.tmp 8), 3, "", ⟨[]⟩, none⟩, none, false⟩,
                ⟨⟨(some 30), .buildSlice 24 1 ⟨[(0, (.tmp 29))]⟩, 24, "", ⟨[]⟩, none⟩, none, false⟩,
                ⟨⟨(some 31), .call ⟨.builtin .append, ⟨[(.tmp 28), (.tmp 30)]⟩, ⟨[24, 24]⟩⟩, 24, "", ⟨[]⟩, none⟩, none, false⟩,
                ⟨⟨(some 7), .assign (.tmp 31), 24, "", ⟨[]⟩, none⟩, none, false⟩])
              .skip))))
          (.ops false [
            ⟨⟨(some 32), .binOp .add 3 (.tmp 12) (.const (.int .i64 1)) 3, 3, "", ⟨[]⟩, none⟩, none, false⟩,
            ⟨⟨(some 12), .move (.tmp 32), 3, "", ⟨[]⟩, none⟩, none, false⟩])))))))
    (.seq
     (.ops false [
       ⟨⟨(some 33), .move (.tmp 7), 24, "", ⟨[]⟩, none⟩, none, false⟩,
       ⟨⟨(some 6), .assign (.tmp 33), 24, "", ⟨[]⟩, none⟩, none, false⟩])
     .ret))))
def Tryz.s47 : SC :=
 (.seq
  (.ops false [
    ⟨⟨(some 6), .assign (.const (.int .i64 0)), 27, "", ⟨[]⟩, none⟩, none, false⟩])
  (.seq
   (.seq
    (.ops false [
      ⟨⟨(some 8), .move (.tmp 0), 22, "", ⟨[]⟩, none⟩, none, false⟩,
      ⟨⟨(some 9), .call ⟨.value (.func 13), ⟨[(.tmp 8)]⟩, ⟨[22]⟩⟩, 27, "", ⟨[]⟩, none⟩, none, false⟩,
      ⟨⟨(some 7), .assign (.tmp 9), 27, "", ⟨[]⟩, none⟩, none, false⟩])
    (.seq
     (.ops false [
       ⟨⟨(some 10), .move (.tmp 7), 27, "", ⟨[]⟩, none⟩, none, false⟩,
       ⟨⟨(some 11), .binOp .neq 27 (.tmp 10) (.const (.int .i64 0)) 27, 4, "", ⟨[]⟩, none⟩, none, false⟩])
     (.cond (.tmp 11)
      (.seq
       (.ops false [
         ⟨⟨(some 12), .move (.tmp 7), 27, "", ⟨[]⟩, none⟩, none, false⟩,
         ⟨⟨(some 6), .assign (.tmp 12), 27, "", ⟨[]⟩, none⟩, none, false⟩])
       .ret)
      .skip)))
   (.seq
    (.seq
     (.ops false [
       ⟨⟨(some 13), .move (.tmp 1), 24, "", ⟨[]⟩, none⟩, none, false⟩,
       ⟨⟨(some 14), .move (.tmp 0), 22, "", ⟨[]⟩, none⟩, none, false⟩,
       ⟨⟨(some 15), .call ⟨.builtin .len, ⟨[(.tmp 14)]⟩, ⟨[22]⟩⟩, 3, "", ⟨[]⟩, none⟩, none, false⟩,
       ⟨⟨(some 16), .call ⟨.value (.func 35), ⟨[(.tmp 13), (.tmp 15)]⟩, ⟨[24, 3]⟩⟩, 4, "", ⟨[]⟩, none⟩, none, false⟩,
       ⟨⟨(some 17), .unOp .not 4 (.tmp 16), 4, "", ⟨[]⟩, none⟩, none, false⟩])
     (.cond (.tmp 17)
      (.seq
       (.ops false [
         ⟨⟨(some 6), .assign (.const (.int .i64 13)), 27, "", ⟨[]⟩, none⟩, none, false⟩])
       .ret)
      .skip))
    (.seq
     (.seq
      (.ops false [
        ⟨⟨(some 18), .move (.tmp 2), 36, "", ⟨[]⟩, none⟩, none, false⟩,
        ⟨⟨(some 19), .move (.tmp 0), 22, "", ⟨[]⟩, none⟩, none, false⟩,
        ⟨⟨(some 20), .call ⟨.builtin .len, ⟨[(.tmp 19)]⟩, ⟨[22]⟩⟩, 3, "", ⟨[]⟩, none⟩, none, false⟩,
        ⟨⟨(some 21), .call ⟨.value (.func 71), ⟨[(.tmp 18), (.tmp 20)]⟩, ⟨[36, 3]⟩⟩, 4, "", ⟨[]⟩, none⟩, none, false⟩,
        ⟨⟨(some 22), .unOp .not 4 (.tmp 21), 4, "", ⟨[]⟩, none⟩, none, false⟩])
      (.cond (.tmp 22)
       (.seq
        (.ops false [
          ⟨⟨(some 6), .assign (.const (.int .i64 14)), 27, "", ⟨[]⟩, none⟩, none, false⟩])
        .ret)
       .skip))
     (.seq
      (.ops false [
        ⟨⟨(some 6), .assign (.const (.int .i64 0)), 27, "", ⟨[]⟩, none⟩, none, false⟩])
      .ret)))))
def Tryz.s48 : SC :=
 (.seq
  (.ops false [
    ⟨⟨(some 3), .box 53 (.tmp 0), 0, "", ⟨[]⟩, none⟩, none, false⟩,
    ⟨⟨(some 5), .box 58 (.tmp 2), 0, "", ⟨[]⟩, none⟩, none, false⟩,
    ⟨⟨(some 6), .assign (.const (.bool false)), 4, "", ⟨[]⟩, none⟩, none, false⟩])
  (.seq
   (.ops false [
     ⟨⟨(some 7), .move (.tmp 1), 3, "", ⟨[]⟩, none⟩, none, false⟩,
     ⟨⟨(some 8), .binOp .geq 3 (.tmp 7) (.const (.int .i64 0)) 3, 4, "", ⟨[]⟩, none⟩, none, false⟩,
     ⟨⟨(some 9), .move (.tmp 8), 4, "", ⟨[]⟩, none⟩, none, false⟩,
     ⟨⟨(some 10), .fieldAddr 58 (.tmp 5) 0, 0, "", ⟨[]⟩, none⟩, some ((some 9), true), false⟩,
     ⟨⟨(some 11), .load 3 (.tmp 10), 3, "", ⟨[]⟩, none⟩, some ((some 9), true), false⟩,
     ⟨⟨(some 12), .move (.tmp 1), 3, "", ⟨[]⟩, none⟩, some ((some 9), true), false⟩,
     ⟨⟨(some 13), .fieldAddr 53 (.tmp 3) 0, 0, "", ⟨[]⟩, none⟩, some ((some 9), true), false⟩,
     ⟨⟨(some 14), .load 3 (.tmp 13), 3, "", ⟨[]⟩, none⟩, some ((some 9), true), false⟩,
     ⟨⟨(some 15), .binOp .mul 3 (.const (.int .i64 3)) (.tmp 14) 3, 3, "", ⟨[]⟩, none⟩, some ((some 9), true), false⟩,
     ⟨⟨(some 16), .binOp .add 3 (.tmp 12) (.tmp 15) 3, 3, "", ⟨[]⟩, none⟩, some ((some 9), true), false⟩,
     ⟨⟨(some 17), .binOp .gtr 3 (.tmp 11) (.tmp 16) 3, 4, "", ⟨[]⟩, none⟩, some ((some 9), true), false⟩,
     ⟨⟨(some 18), .move (.tmp 17), 4, "", ⟨[]⟩, none⟩, some ((some 9), true), false⟩,
     ⟨⟨(some 19), .fieldAddr 58 (.tmp 5) 1, 0, "", ⟨[]⟩, none⟩, some ((some 18), false), false⟩,
     ⟨⟨(some 20), .load 3 (.tmp 19), 3, "", ⟨[]⟩, none⟩, some ((some 18), false), false⟩,
     ⟨⟨(some 21), .move (.tmp 1), 3, "", ⟨[]⟩, none⟩, some ((some 18), false), false⟩,
     ⟨⟨(some 22), .fieldAddr 53 (.tmp 3) 0, 0, "", ⟨[]⟩, none⟩, some ((some 18), false), false⟩,
     ⟨⟨(some 23), .load 3 (.tmp 22), 3, "", ⟨[]⟩, none⟩, some ((some 18), false), false⟩,
     ⟨⟨(some 24), .binOp .mul 3 (.const (.int .i64 3)) (.tmp 23) 3, 3, "", ⟨[]⟩, none⟩, some ((some 18), false), false⟩,
     ⟨⟨(some 25), .binOp .sub 3 (.tmp 21) (.tmp 24) 3, 3, "", ⟨[]⟩, none⟩, some ((some 18), false), false⟩,
     ⟨⟨(some 26), .binOp .lss 3 (.tmp 20) (.tmp 25) 3, 4, "", ⟨[]⟩, none⟩, some ((some 18), false), false⟩,
     ⟨⟨(some 27), .pick (.tmp 18) (.const (.bool true)) (.tmp 26), 4, "", ⟨[]⟩, none⟩, some ((some 9), true), false⟩,
     ⟨⟨(some 28), .pick (.tmp 9) (.tmp 27) (.const (.bool false)), 4, "", ⟨[]⟩, none⟩, none, false⟩,
     ⟨⟨(some 6), .assign (.tmp 28), 4, "", ⟨[]⟩, none⟩, none, false⟩])
   .ret))
def Tryz.s49 : SC :=
 (.seq
  (.ops false [
    ⟨⟨(some 4), .box 22 (.tmp 0), 0, "", ⟨[]⟩, none⟩, none, false⟩,
    ⟨⟨(some 5), .box 24 (.tmp 1), 0, "", ⟨[]⟩, none⟩, none, false⟩,
    ⟨⟨(some 8), .assign (.const (.bool false)), 4, "", ⟨[]⟩, none⟩, none, false⟩])
  (.seq
   (.seq
    (.ops false [
      ⟨⟨(some 12), .move (.tmp 2), 36, "", ⟨[]⟩, none⟩, none, false⟩,
      ⟨⟨(some 13), .call ⟨.builtin .len, ⟨[(.tmp 12)]⟩, ⟨[36]⟩⟩, 3, "", ⟨[]⟩, none⟩, none, false⟩,
      ⟨⟨(some 14), .move (.const (.int .i64 0)), 3, "", ⟨[]⟩, none⟩, none, false⟩])
    (.block 0
     (.loop
      (.seq
       (.ops false [
         ⟨⟨(some 15), .binOp .lss 3 (.tmp 14) (.tmp 13) 3, 0, "", ⟨[]⟩, none⟩, none, false⟩])
       (.seq
        (.cond (.tmp 15)
         .skip
         (.exit 0))
        (.seq
         (.block 1
          (.seq
           (.ops false [
             ⟨⟨(some 16), .indexAddr 36 (.tmp 12) (.tmp 14), 0, "", ⟨[]⟩, none⟩, none, false⟩,
             ⟨⟨(some 17), .load 40 (.tmp 16), 40, "", ⟨[]⟩, none⟩, none, false⟩,
             ⟨⟨(some 10), .alloc 40, 0, "", ⟨[]⟩, none⟩, none, false⟩,
             ⟨⟨none, .store 40 (.tmp 10) (.tmp 17), 0, "", ⟨[]⟩, none⟩, none, false⟩])
           (.seq
            (.ops false [
              ⟨⟨(some 18), .makeFunc (.func 72) ⟨[]⟩ ⟨[(.tmp 4), (.tmp 5), (.tmp 10)]⟩, 111, "", ⟨[]⟩, none⟩, none, false⟩,
              ⟨⟨(some 11), .assign (.tmp 18), 111, "", ⟨[]⟩, none⟩, none, false⟩])
            (.seq
             (.ops false [
               ⟨⟨(some 19), .move (.tmp 3), 24, "", ⟨[]⟩, none⟩, none, false⟩,
               ⟨⟨(some 20), .move (.tmp 11), 111, "", ⟨[]⟩, none⟩, none, false⟩,
               ⟨⟨(some 21), .call ⟨.value (.func 73), ⟨[(.tmp 19), (.tmp 20)]⟩, ⟨[24, 111]⟩⟩, 4, "", ⟨[]⟩, none⟩, none, false⟩,
               ⟨⟨(some 22), .unOp .not 4 (.tmp 21), 4, "", ⟨[]⟩, none⟩, none, false⟩])
             (.cond (.tmp 22)
              (.seq
               (.ops false [
                 ⟨⟨(some 8), .assign (.const (.bool false)), 4, "", ⟨[]⟩, none⟩, none, false⟩])
               .ret)
              .skip)))))
         (.ops false [
           ⟨⟨(some 23), .binOp .add 3 (.tmp 14) (.const (.int .i64 1)) 3, 3, "", ⟨[]⟩, none⟩, none, false⟩,
           ⟨⟨(some 14), .move (.tmp 23), 3, "", ⟨[]⟩, none⟩, none, false⟩])))))))
   (.seq
    (.ops false [
      ⟨⟨(some 8), .assign (.const (.bool true)), 4, "", ⟨[]⟩, none⟩, none, false⟩])
    .ret)))
def Tryz.s50 : SC :=
 (.seq
  (.ops false [
    ⟨⟨(some 8), .assign (.const (.bool false)), 4, "", ⟨[]⟩, none⟩, none, false⟩])
  (.seq
   (.seq
    (.ops false [
      ⟨⟨(some 9), .assign (.const (.int .i64 0)), 3, "", ⟨[]⟩, none⟩, none, false⟩])
    (.block 0
     (.loop
      (.seq
       (.seq
        (.ops false [
          ⟨⟨(some 12), .move (.tmp 9), 3, "", ⟨[]⟩, none⟩, none, false⟩,
          ⟨⟨(some 13), .move (.tmp 2), 36, "", ⟨[]⟩, none⟩, none, false⟩,
          ⟨⟨(some 14), .call ⟨.builtin .len, ⟨[(.tmp 13)]⟩, ⟨[36]⟩⟩, 3, "", ⟨[]⟩, none⟩, none, false⟩,
          ⟨⟨(some 15), .binOp .lss 3 (.tmp 12) (.tmp 14) 3, 4, "", ⟨[]⟩, none⟩, none, false⟩])
        (.cond (.tmp 15)
         .skip
         (.exit 0)))
       (.seq
        (.block 1
         (.seq
          (.ops false [
            ⟨⟨(some 10), .assign (.const (.bool false)), 4, "", ⟨[]⟩, none⟩, none, false⟩])
          (.seq
           (.seq
            (.ops false [
              ⟨⟨(some 11), .assign (.const (.int .i64 0)), 3, "", ⟨[]⟩, none⟩, none, false⟩])
            (.block 2
             (.loop
              (.seq
               (.seq
                (.ops false [
                  ⟨⟨(some 18), .move (.tmp 11), 3, "", ⟨[]⟩, none⟩, none, false⟩,
                  ⟨⟨(some 19), .move (.tmp 3), 24, "", ⟨[]⟩, none⟩, none, false⟩,
                  ⟨⟨(some 20), .call ⟨.builtin .len, ⟨[(.tmp 19)]⟩, ⟨[24]⟩⟩, 3, "", ⟨[]⟩, none⟩, none, false⟩,
                  ⟨⟨(some 21), .binOp .lss 3 (.tmp 18) (.tmp 20) 3, 4, "", ⟨[]⟩, none⟩, none, false⟩])
                (.cond (.tmp 21)
                 .skip
                 (.exit 2)))
               (.seq
                (.block 3
                 (.ops true [
                   ⟨⟨(some 24), .move (.tmp 10), 4, "", ⟨[]⟩, none⟩, none, true⟩,
                   ⟨⟨(some 25), .move (.tmp 24), 4, "", ⟨[]⟩, none⟩, none, true⟩,
                   ⟨⟨(some 26), .move (.tmp 0), 22, "", ⟨[]⟩, none⟩, some ((some 25), false), true⟩,
                   ⟨⟨(some 27), .move (.tmp 3), 24, "", ⟨[]⟩, none⟩, some ((some 25), false), true⟩,
                   ⟨⟨(some 28), .move (.tmp 11), 3, "", ⟨[]⟩, none⟩, some ((some 25), false), true⟩,
                   ⟨⟨(some 29), .indexAddr 24 (.tmp 27) (.tmp 28), 0, "", ⟨[]⟩, none⟩, some ((some 25), false), true⟩,
                   ⟨⟨(some 30), .load 3 (.tmp 29), 3, "", ⟨[]⟩, none⟩, some ((some 25), false), true⟩,
                   ⟨⟨(some 31), .indexAddr 22 (.tmp 26) (.tmp 30), 0, "", ⟨[]⟩, none⟩, some ((some 25), false), true⟩,
                   ⟨⟨(some 32), .load 53 (.tmp 31), 53, "", ⟨[]⟩, none⟩, some ((some 25), false), true⟩,
                   ⟨⟨(some 33), .move (.tmp 1), 24, "", ⟨[]⟩, none⟩, some ((some 25), false), true⟩,
                   ⟨⟨(some 34), .move (.tmp 3), 24, "", ⟨[]⟩, none⟩, some ((some 25), false), true⟩,
                   ⟨⟨(some 35), .move (.tmp 11), 3, "", ⟨[]⟩, none⟩, some ((some 25), false), true⟩,
                   ⟨⟨(some 36), .indexAddr 24 (.tmp 34) (.tmp 35), 0, "", ⟨[]⟩, none⟩, some ((some 25), false), true⟩,
                   ⟨⟨(some 37), .load 3 (.tmp 36), 3, "", ⟨[]⟩, none⟩, some ((some 25), false), true⟩,
                   ⟨⟨(some 38), .indexAddr 24 (.tmp 33) (.tmp 37), 0, "", ⟨[]⟩, none⟩, some ((some 25), false), true⟩,
                   ⟨⟨(some 39), .load 3 (.tmp 38), 3, "", ⟨[]⟩, none⟩, some ((some 25), false), true⟩,
                   ⟨⟨(some 40), .move (.tmp 2), 36, "", ⟨[]⟩, none⟩, some ((some 25), false), true⟩,
                   ⟨⟨(some 41), .move (.tmp 9), 3, "", ⟨[]⟩, none⟩, some ((some 25), false), true⟩,
                   ⟨⟨(some 42), .indexAddr 36 (.tmp 40) (.tmp 41), 0, "", ⟨[]⟩, none⟩, some ((some 25), false), true⟩,
                   ⟨⟨(some 43), .fieldAddr 40 (.tmp 42) 0, 0, "", ⟨[]⟩, none⟩, some ((some 25), false), true⟩,
                   ⟨⟨(some 44), .load 26 (.tmp 43), 26, "", ⟨[]⟩, none⟩, some ((some 25), false), true⟩,
                   ⟨⟨(some 45), .move (.tmp 3), 24, "", ⟨[]⟩, none⟩, some ((some 25), false), true⟩,
                   ⟨⟨(some 46), .move (.tmp 11), 3, "", ⟨[]⟩, none⟩, some ((some 25), false), true⟩,
                   ⟨⟨(some 47), .indexAddr 24 (.tmp 45) (.tmp 46), 0, "", ⟨[]⟩, none⟩, some ((some 25), false), true⟩,
                   ⟨⟨(some 48), .load 3 (.tmp 47), 3, "", ⟨[]⟩, none⟩, some ((some 25), false), true⟩,
                   ⟨⟨(some 49), .indexAddr 26 (.tmp 44) (.tmp 48), 0, "", ⟨[]⟩, none⟩, some ((some 25), false), true⟩,
                   ⟨⟨(some 50), .load 58 (.tmp 49), 58, "", ⟨[]⟩, none⟩, some ((some 25), false), true⟩,
                   ⟨⟨(some 51), .call ⟨.value (.func 48), ⟨[(.tmp 32), (.tmp 39), (.tmp 50)]⟩, ⟨[53, 3, 58]⟩⟩, 4, "", ⟨[]⟩, none⟩, some ((some 25), false), false⟩,
                   ⟨⟨(some 52), .pick (.tmp 25) (.const (.bool true)) (.tmp 51), 4, "", ⟨[]⟩, none⟩, none, true⟩,
                   ⟨⟨(some 10), .assign (.tmp 52), 4, "", ⟨[]⟩, none⟩, none, true⟩]))
                (.ops false [
                  ⟨⟨(some 22), .move (.tmp 11), 3, "", ⟨[]⟩, none⟩, none, false⟩,
                  ⟨⟨(some 23), .binOp .add 3 (.tmp 22) (.const (.int .i64 1)) 3, 3, "", ⟨[]⟩, none⟩, none, false⟩,
                  ⟨⟨(some 11), .assign (.tmp 23), 3, "", ⟨[]⟩, none⟩, none, false⟩]))))))
           (.seq
            (.ops false [
              ⟨⟨(some 53), .move (.tmp 10), 4, "", ⟨[]⟩, none⟩, none, false⟩,
              ⟨⟨(some 54), .unOp .not 4 (.tmp 53), 4, "", ⟨[]⟩, none⟩, none, false⟩])
            (.cond (.tmp 54)
             (.seq
              (.ops false [
                ⟨⟨(some 8), .assign (.const (.bool false)), 4, "", ⟨[]⟩, none⟩, none, false⟩])
              .ret)
             .skip)))))
        (.ops false [
          ⟨⟨(some 16), .move (.tmp 9), 3, "", ⟨[]⟩, none⟩, none, false⟩,
          ⟨⟨(some 17), .binOp .add 3 (.tmp 16) (.const (.int .i64 1)) 3, 3, "", ⟨[]⟩, none⟩, none, false⟩,
          ⟨⟨(some 9), .assign (.tmp 17), 3, "", ⟨[]⟩, none⟩, none, false⟩]))))))
   (.seq
    (.ops false [
      ⟨⟨(some 8), .assign (.const (.bool true)), 4, "", ⟨[]⟩, none⟩, none, false⟩])
    .ret)))
def Tryz.s51 : SC :=
 (.seq
  (.ops false [
    ⟨⟨(some 1), .box 3 (.tmp 0), 0, "", ⟨[]⟩, none⟩, none, false⟩,
    ⟨⟨(some 2), .assign (.const .nilFunc), 88, "", ⟨[]⟩, none⟩, none, false⟩])
  (.seq
   (.ops false [
     ⟨⟨(some 3), .makeFunc (.func 74) ⟨[]⟩ ⟨[(.tmp 1)]⟩, 87, "", ⟨[]⟩, none⟩, none, false⟩,
     ⟨⟨(some 2), .assign (.tmp 3), 88, "", ⟨[]⟩, none⟩, none, false⟩])
   .ret))
def Tryz.s52 : SC :=
 (.seq
  (.ops false [
    ⟨⟨(some 4), .assign (.const (.int .i64 0)), 3, "", ⟨[]⟩, none⟩, none, false⟩])
  (.seq
   (.ops false [
     ⟨⟨(some 5), .assign (.const (.int .i64 0)), 3, "", ⟨[]⟩, none⟩, none, false⟩])
   (.seq
    (.seq
     (.ops false [
       ⟨⟨(some 8), .move (.tmp 0), 24, "", ⟨[]⟩, none⟩, none, false⟩,
       ⟨⟨(some 9), .call ⟨.builtin .len, ⟨[(.tmp 8)]⟩, ⟨[24]⟩⟩, 3, "", ⟨[]⟩, none⟩, none, false⟩,
       ⟨⟨(some 10), .move (.const (.int .i64 0)), 3, "", ⟨[]⟩, none⟩, none, false⟩])
     (.block 0
      (.loop
       (.seq
        (.ops false [
          ⟨⟨(some 11), .binOp .lss 3 (.tmp 10) (.tmp 9) 3, 0, "", ⟨[]⟩, none⟩, none, false⟩])
        (.seq
         (.cond (.tmp 11)
          .skip
          (.exit 0))
         (.seq
          (.block 1
           (.seq
            (.ops false [
              ⟨⟨(some 12), .indexAddr 24 (.tmp 8) (.tmp 10), 0, "", ⟨[]⟩, none⟩, none, false⟩,
              ⟨⟨(some 13), .load 3 (.tmp 12), 3, "", ⟨[]⟩, none⟩, none, false⟩,
              ⟨⟨(some 7), .assign (.tmp 13), 3, "", ⟨[]⟩, none⟩, none, false⟩])
            (.ops false [
              ⟨⟨(some 14), .move (.tmp 5), 3, "", ⟨[]⟩, none⟩, none, false⟩,
              ⟨⟨(some 15), .move (.tmp 1), 66, "", ⟨[]⟩, none⟩, none, false⟩,
              ⟨⟨(some 16), .move (.tmp 7), 3, "", ⟨[]⟩, none⟩, none, false⟩,
              ⟨⟨(some 17), .call ⟨.value (.tmp 15), ⟨[(.tmp 16)]⟩, ⟨[3]⟩⟩, 3, "", ⟨[]⟩, none⟩, none, false⟩,
              ⟨⟨(some 18), .binOp .add 3 (.tmp 14) (.tmp 17) 3, 3, "", ⟨[]⟩, none⟩, none, false⟩,
              ⟨⟨(some 5), .assign (.tmp 18), 3, "", ⟨[]⟩, none⟩, none, false⟩])))
          (.ops false [
            ⟨⟨(some 19), .binOp .add 3 (.tmp 10) (.const (.int .i64 1)) 3, 3, "", ⟨[]⟩, none⟩, none, false⟩,
            ⟨⟨(some 10), .move (.tmp 19), 3, "", ⟨[]⟩, none⟩, none, false⟩])))))))
    (.seq
     (.ops false [
       ⟨⟨(some 20), .move (.tmp 5), 3, "", ⟨[]⟩, none⟩, none, false⟩,
       ⟨⟨(some 4), .assign (.tmp 20), 3, "", ⟨[]⟩, none⟩, none, false⟩])
     .ret))))
def Tryz.s53 : SC :=
 (.seq
  (.ops false [
    ⟨⟨(some 3), .assign (.const (.int .i64 0)), 3, "", ⟨[]⟩, none⟩, none, false⟩])
  (.seq
   (.ops false [
     ⟨⟨(some 4), .load 22 (.tmp 1), 22, "", ⟨[]⟩, none⟩, none, false⟩,
     ⟨⟨(some 5), .move (.tmp 0), 3, "", ⟨[]⟩, none⟩, none, false⟩,
     ⟨⟨(some 6), .indexAddr 22 (.tmp 4) (.tmp 5), 0, "", ⟨[]⟩, none⟩, none, false⟩,
     ⟨⟨(some 7), .fieldAddr 53 (.tmp 6) 1, 0, "", ⟨[]⟩, none⟩, none, false⟩,
     ⟨⟨(some 8), .load 3 (.tmp 7), 3, "", ⟨[]⟩, none⟩, none, false⟩,
     ⟨⟨(some 3), .assign (.tmp 8), 3, "", ⟨[]⟩, none⟩, none, false⟩])
   .ret))
def Tryz.s54 : SC :=
 (.seq
  (.ops false [
    ⟨⟨(some 2), .assign (.const (.slice none 0 0)), 24, "", ⟨[]⟩, none⟩, none, false⟩])
  (.seq
   (.seq
    (.ops false [
      ⟨⟨(some 3), .move (.tmp 0), 24, "", ⟨[]⟩, none⟩, none, false⟩,
      ⟨⟨(some 4), .binOp .eql 24 (.tmp 3) (.const (.slice none 0 0)) 24, 4, "", ⟨[]⟩, none⟩, none, false⟩])
    (.cond (.tmp 4)
     (.seq
      (.ops false [
        ⟨⟨(some 2), .assign (.const (.slice none 0 0)), 24, "", ⟨[]⟩, none⟩, none, false⟩])
      .ret)
     .skip))
   (.seq
    (.ops false [
      ⟨⟨(some 5), .buildSlice 24 0 ⟨[]⟩, 24, "", ⟨[]⟩, none⟩, none, false⟩,
      ⟨⟨(some 6), .move (.tmp 0), 24, "", ⟨[]⟩, none⟩, none, false⟩,
      ⟨⟨(some 7), .call ⟨.builtin .append, ⟨[(.tmp 5), (.tmp 6)]⟩, ⟨[24, 24]⟩⟩, 24, "", ⟨[]⟩, none⟩, none, false⟩,
      ⟨⟨(some 2), .assign (.tmp 7), 24, "", ⟨[]⟩, none⟩, none, false⟩])
    .ret)))
def Tryz.s55 : SC :=
 (.seq
  (.ops false [
    ⟨⟨(some 4), .assign (.const (.slice none 0 0)), 24, "", ⟨[]⟩, none⟩, none, false⟩])
  (.seq
   (.ops false [
     ⟨⟨(some 5), .assign (.const (.slice none 0 0)), 24, "", ⟨[]⟩, none⟩, none, false⟩])
   (.seq
    (.seq
     (.ops false [
       ⟨⟨(some 6), .assign (.const (.int .i64 0)), 3, "", ⟨[]⟩, none⟩, none, false⟩])
     (.block 0
      (.loop
       (.seq
        (.seq
         (.ops false [
           ⟨⟨(some 7), .move (.tmp 6), 3, "", ⟨[]⟩, none⟩, none, false⟩,
           ⟨⟨(some 8), .move (.tmp 0), 22, "", ⟨[]⟩, none⟩, none, false⟩,
           ⟨⟨(some 9), .call ⟨.builtin .len, ⟨[(.tmp 8)]⟩, ⟨[22]⟩⟩, 3, "", ⟨[]⟩, none⟩, none, false⟩,
           ⟨⟨(some 10), .binOp .lss 3 (.tmp 7) (.tmp 9) 3, 4, "", ⟨[]⟩, none⟩, none, false⟩])
         (.cond (.tmp 10)
          .skip
          (.exit 0)))
        (.seq
         (.block 1
          (.seq
           (.ops false [
             ⟨⟨(some 13), .move (.tmp 1), 3, "", ⟨[]⟩, none⟩, none, false⟩,
             ⟨⟨(some 14), .move (.tmp 6), 3, "", ⟨[]⟩, none⟩, none, false⟩,
             ⟨⟨(some 15), .call ⟨.value (.func 76), ⟨[(.tmp 13), (.tmp 14)]⟩, ⟨[3, 3]⟩⟩, 4, "", ⟨[]⟩, none⟩, none, false⟩])
           (.cond (.tmp 15)
            (.ops false [
              ⟨⟨(some 16), .move (.tmp 5), 24, "", ⟨[]⟩, none⟩, none, false⟩,
              ⟨⟨(some 17), .move (.tmp 6), 3, "", ⟨[]⟩, none⟩, none, false⟩,
              ⟨⟨(some 18), .buildSlice 24 1 ⟨[(0, (.tmp 17))]⟩, 24, "", ⟨[]⟩, none⟩, none, false⟩,
              ⟨⟨(some 19), .call ⟨.builtin .append, ⟨[(.tmp 16), (.tmp 18)]⟩, ⟨[24, 24]⟩⟩, 24, "", ⟨[]⟩, none⟩, none, false⟩,
              ⟨⟨(some 5), .assign (.tmp 19), 24, "", ⟨[]⟩, none⟩, none, false⟩])
            .skip)))
         (.ops false [
           ⟨⟨(some 11), .move (.tmp 6), 3, "", ⟨[]⟩, none⟩, none, false⟩,
           ⟨⟨(some 12), .binOp .add 3 (.tmp 11) (.const (.int .i64 1)) 3, 3, "", ⟨[]⟩, none⟩, none, false⟩,
           ⟨⟨(some 6), .assign (.tmp 12), 3, "", ⟨[]⟩, none⟩, none, false⟩]))))))
    (.seq
     (.ops false [
       ⟨⟨(some 20), .move (.tmp 5), 24, "", ⟨[]⟩, none⟩, none, false⟩,
       ⟨⟨(some 4), .assign (.tmp 20), 24, "", ⟨[]⟩, none⟩, none, false⟩])
     .ret))))
def Tryz.s56 : SC :=
 (.seq
  (.ops false [
    ⟨⟨(some 4), .assign (.const (.int .i64 0)), 3, "", ⟨[]⟩, none⟩, none, false⟩])
  (.seq
   (.ops false [
     ⟨⟨(some 5), .assign (.const (.int .i64 0)), 3, "", ⟨[]⟩, none⟩, none, false⟩])
   (.seq
    (.seq
     (.ops false [
       ⟨⟨(some 6), .assign (.const (.int .i64 0)), 3, "", ⟨[]⟩, none⟩, none, false⟩])
     (.block 0
      (.loop
       (.seq
        (.seq
         (.ops false [
           ⟨⟨(some 7), .move (.tmp 6), 3, "", ⟨[]⟩, none⟩, none, false⟩,
           ⟨⟨(some 8), .move (.tmp 1), 24, "", ⟨[]⟩, none⟩, none, false⟩,
           ⟨⟨(some 9), .call ⟨.builtin .len, ⟨[(.tmp 8)]⟩, ⟨[24]⟩⟩, 3, "", ⟨[]⟩, none⟩, none, false⟩,
           ⟨⟨(some 10), .binOp .lss 3 (.tmp 7) (.tmp 9) 3, 4, "", ⟨[]⟩, none⟩, none, false⟩])
         (.cond (.tmp 10)
          .skip
          (.exit 0)))
        (.seq
         (.block 1
          (.ops false [
            ⟨⟨(some 13), .move (.tmp 5), 3, "", ⟨[]⟩, none⟩, none, false⟩,
            ⟨⟨(some 14), .move (.tmp 0), 22, "", ⟨[]⟩, none⟩, none, false⟩,
            ⟨⟨(some 15), .move (.tmp 1), 24, "", ⟨[]⟩, none⟩, none, false⟩,
            ⟨⟨(some 16), .move (.tmp 6), 3, "", ⟨[]⟩, none⟩, none, false⟩,
            ⟨⟨(some 17), .indexAddr 24 (.tmp 15) (.tmp 16), 0, "", ⟨[]⟩, none⟩, none, false⟩,
            ⟨⟨(some 18), .load 3 (.tmp 17), 3, "", ⟨[]⟩, none⟩, none, false⟩,
            ⟨⟨(some 19), .indexAddr 22 (.tmp 14) (.tmp 18), 0, "", ⟨[]⟩, none⟩, none, false⟩,
            ⟨⟨(some 20), .fieldAddr 53 (.tmp 19) 1, 0, "", ⟨[]⟩, none⟩, none, false⟩,
            ⟨⟨(some 21), .load 3 (.tmp 20), 3, "", ⟨[]⟩, none⟩, none, false⟩,
            ⟨⟨(some 22), .binOp .add 3 (.tmp 13) (.tmp 21) 3, 3, "", ⟨[]⟩, none⟩, none, false⟩,
            ⟨⟨(some 5), .assign (.tmp 22), 3, "", ⟨[]⟩, none⟩, none, false⟩]))
         (.ops false [
           ⟨⟨(some 11), .move (.tmp 6), 3, "", ⟨[]⟩, none⟩, none, false⟩,
           ⟨⟨(some 12), .binOp .add 3 (.tmp 11) (.const (.int .i64 1)) 3, 3, "", ⟨[]⟩, none⟩, none, false⟩,
           ⟨⟨(some 6), .assign (.tmp 12), 3, "", ⟨[]⟩, none⟩, none, false⟩]))))))
    (.seq
     (.ops false [
       ⟨⟨(some 23), .move (.tmp 5), 3, "", ⟨[]⟩, none⟩, none, false⟩,
       ⟨⟨(some 4), .assign (.tmp 23), 3, "", ⟨[]⟩, none⟩, none, false⟩])
     .ret))))
def Tryz.s57 : SC :=
 (.seq
  (.ops false [
    ⟨⟨(some 4), .assign (.const (.bool false)), 4, "", ⟨[]⟩, none⟩, none, false⟩])
  (.seq
   (.seq
    (.ops false [
      ⟨⟨(some 5), .assign (.const (.int .i64 0)), 3, "", ⟨[]⟩, none⟩, none, false⟩])
    (.block 0
     (.loop
      (.seq
       (.seq
        (.ops false [
          ⟨⟨(some 6), .move (.tmp 5), 3, "", ⟨[]⟩, none⟩, none, false⟩,
          ⟨⟨(some 7), .move (.tmp 0), 24, "", ⟨[]⟩, none⟩, none, false⟩,
          ⟨⟨(some 8), .call ⟨.builtin .len, ⟨[(.tmp 7)]⟩, ⟨[24]⟩⟩, 3, "", ⟨[]⟩, none⟩, none, false⟩,
          ⟨⟨(some 9), .binOp .lss 3 (.tmp 6) (.tmp 8) 3, 4, "", ⟨[]⟩, none⟩, none, false⟩,
          ⟨⟨(some 10), .move (.tmp 9), 4, "", ⟨[]⟩, none⟩, none, false⟩,
          ⟨⟨(some 11), .move (.tmp 5), 3, "", ⟨[]⟩, none⟩, some ((some 10), true), false⟩,
          ⟨⟨(some 12), .move (.tmp 1), 24, "", ⟨[]⟩, none⟩, some ((some 10), true), false⟩,
          ⟨⟨(some 13), .call ⟨.builtin .len, ⟨[(.tmp 12)]⟩, ⟨[24]⟩⟩, 3, "", ⟨[]⟩, none⟩, some ((some 10), true), false⟩,
          ⟨⟨(some 14), .binOp .lss 3 (.tmp 11) (.tmp 13) 3, 4, "", ⟨[]⟩, none⟩, some ((some 10), true), false⟩,
          ⟨⟨(some 15), .pick (.tmp 10) (.tmp 14) (.const (.bool false)), 4, "", ⟨[]⟩, none⟩, none, false⟩])
        (.cond (.tmp 15)
         .skip
         (.exit 0)))
       (.seq
        (.block 1
         (.seq
          (.ops true [
            ⟨⟨(some 18), .move (.tmp 0), 24, "", ⟨[]⟩, none⟩, none, true⟩,
            ⟨⟨(some 19), .move (.tmp 5), 3, "", ⟨[]⟩, none⟩, none, true⟩,
            ⟨⟨(some 20), .indexAddr 24 (.tmp 18) (.tmp 19), 0, "", ⟨[]⟩, none⟩, none, true⟩,
            ⟨⟨(some 21), .load 3 (.tmp 20), 3, "", ⟨[]⟩, none⟩, none, true⟩,
            ⟨⟨(some 22), .move (.tmp 1), 24, "", ⟨[]⟩, none⟩, none, true⟩,
            ⟨⟨(some 23), .move (.tmp 5), 3, "", ⟨[]⟩, none⟩, none, true⟩,
            ⟨⟨(some 24), .indexAddr 24 (.tmp 22) (.tmp 23), 0, "", ⟨[]⟩, none⟩, none, true⟩,
            ⟨⟨(some 25), .load 3 (.tmp 24), 3, "", ⟨[]⟩, none⟩, none, true⟩,
            ⟨⟨(some 26), .binOp .neq 3 (.tmp 21) (.tmp 25) 3, 4, "", ⟨[]⟩, none⟩, none, true⟩])
          (.cond (.tmp 26)
           (.seq
            (.ops true [
              ⟨⟨(some 27), .move (.tmp 0), 24, "", ⟨[]⟩, none⟩, none, true⟩,
              ⟨⟨(some 28), .move (.tmp 5), 3, "", ⟨[]⟩, none⟩, none, true⟩,
              ⟨⟨(some 29), .indexAddr 24 (.tmp 27) (.tmp 28), 0, "", ⟨[]⟩, none⟩, none, true⟩,
              ⟨⟨(some 30), .load 3 (.tmp 29), 3, "", ⟨[]⟩, none⟩, none, true⟩,
              ⟨⟨(some 31), .move (.tmp 1), 24, "", ⟨[]⟩, none⟩, none, true⟩,
              ⟨⟨(some 32), .move (.tmp 5), 3, "", ⟨[]⟩, none⟩, none, true⟩,
              ⟨⟨(some 33), .indexAddr 24 (.tmp 31) (.tmp 32), 0, "", ⟨[]⟩, none⟩, none, true⟩,
              ⟨⟨(some 34), .load 3 (.tmp 33), 3, "", ⟨[]⟩, none⟩, none, true⟩,
              ⟨⟨(some 35), .binOp .lss 3 (.tmp 30) (.tmp 34) 3, 4, "", ⟨[]⟩, none⟩, none, true⟩,
              ⟨⟨(some 4), .assign (.tmp 35), 4, "", ⟨[]⟩, none⟩, none, true⟩])
            .ret)
           .skip)))
        (.ops false [
          ⟨⟨(some 16), .move (.tmp 5), 3, "", ⟨[]⟩, none⟩, none, false⟩,
          ⟨⟨(some 17), .binOp .add 3 (.tmp 16) (.const (.int .i64 1)) 3, 3, "", ⟨[]⟩, none⟩, none, false⟩,
          ⟨⟨(some 5), .assign (.tmp 17), 3, "", ⟨[]⟩, none⟩, none, false⟩]))))))
   (.seq
    (.ops false [
      ⟨⟨(some 36), .move (.tmp 0), 24, "", ⟨[]⟩, none⟩, none, false⟩,
      ⟨⟨(some 37), .call ⟨.builtin .len, ⟨[(.tmp 36)]⟩, ⟨[24]⟩⟩, 3, "", ⟨[]⟩, none⟩, none, false⟩,
      ⟨⟨(some 38), .move (.tmp 1), 24, "", ⟨[]⟩, none⟩, none, false⟩,
      ⟨⟨(some 39), .call ⟨.builtin .len, ⟨[(.tmp 38)]⟩, ⟨[24]⟩⟩, 3, "", ⟨[]⟩, none⟩, none, false⟩,
      ⟨⟨(some 40), .binOp .lss 3 (.tmp 37) (.tmp 39) 3, 4, "", ⟨[]⟩, none⟩, none, false⟩,
      ⟨⟨(some 4), .assign (.tmp 40), 4, "", ⟨[]⟩, none⟩, none, false⟩])
    .ret)))
def Tryz.s58 : SC :=
 (.seq
  (.ops false [
    ⟨⟨(some 4), .assign (.const (.bool false)), 4, "", ⟨[]⟩, none⟩, none, false⟩])
  (.seq
   (.seq
    (.ops false [
      ⟨⟨(some 7), .move (.tmp 0), 24, "", ⟨[]⟩, none⟩, none, false⟩,
      ⟨⟨(some 8), .call ⟨.builtin .len, ⟨[(.tmp 7)]⟩, ⟨[24]⟩⟩, 3, "", ⟨[]⟩, none⟩, none, false⟩,
      ⟨⟨(some 9), .move (.tmp 1), 3, "", ⟨[]⟩, none⟩, none, false⟩,
      ⟨⟨(some 10), .binOp .neq 3 (.tmp 8) (.tmp 9) 3, 4, "", ⟨[]⟩, none⟩, none, false⟩])
    (.cond (.tmp 10)
     (.seq
      (.ops false [
        ⟨⟨(some 4), .assign (.const (.bool false)), 4, "", ⟨[]⟩, none⟩, none, false⟩])
      .ret)
     .skip))
   (.seq
    (.seq
     (.ops false [
       ⟨⟨(some 11), .move (.tmp 0), 24, "", ⟨[]⟩, none⟩, none, false⟩,
       ⟨⟨(some 12), .call ⟨.builtin .len, ⟨[(.tmp 11)]⟩, ⟨[24]⟩⟩, 3, "", ⟨[]⟩, none⟩, none, false⟩,
       ⟨⟨(some 13), .move (.const (.int .i64 0)), 3, "", ⟨[]⟩, none⟩, none, false⟩])
     (.block 0
      (.loop
       (.seq
        (.ops false [
          ⟨⟨(some 14), .binOp .lss 3 (.tmp 13) (.tmp 12) 3, 0, "", ⟨[]⟩, none⟩, none, false⟩])
        (.seq
         (.cond (.tmp 14)
          .skip
          (.exit 0))
         (.seq
          (.block 1
           (.seq
            (.ops false [
              ⟨⟨(some 15), .indexAddr 24 (.tmp 11) (.tmp 13), 0, "", ⟨[]⟩, none⟩, none, false⟩,
              ⟨⟨(some 16), .load 3 (.tmp 15), 3, "", ⟨[]⟩, none⟩, none, false⟩,
              ⟨⟨(some 6), .assign (.tmp 16), 3, "", ⟨[]⟩, none⟩, none, false⟩])
            (.seq
             (.ops false [
               ⟨⟨(some 17), .move (.tmp 6), 3, "", ⟨[]⟩, none⟩, none, false⟩,
               ⟨⟨(some 18), .call ⟨.value (.func 36), ⟨[(.tmp 17), (.const (.int .i64 0)), (.const (.int .i64 1000))]⟩, ⟨[3, 3, 3]⟩⟩, 4, "", ⟨[]⟩, none⟩, none, false⟩,
               ⟨⟨(some 19), .unOp .not 4 (.tmp 18), 4, "", ⟨[]⟩, none⟩, none, false⟩])
             (.cond (.tmp 19)
              (.seq
               (.ops false [
                 ⟨⟨(some 4), .assign (.const (.bool false)), 4, "", ⟨[]⟩, none⟩, none, false⟩])
               .ret)
              .skip))))
          (.ops false [
            ⟨⟨(some 20), .binOp .add 3 (.tmp 13) (.const (.int .i64 1)) 3, 3, "", ⟨[]⟩, none⟩, none, false⟩,
            ⟨⟨(some 13), .move (.tmp 20), 3, "", ⟨[]⟩, none⟩, none, false⟩])))))))
    (.seq
     (.ops false [
       ⟨⟨(some 4), .assign (.const (.bool true)), 4, "", ⟨[]⟩, none⟩, none, false⟩])
     .ret))))
def Tryz.s59 : SC :=
 (.seq
  (.ops false [
    ⟨⟨(some 8), .assign (.const (.bool false)), 4, "", ⟨[]⟩, none⟩, none, false⟩])
  (.seq
   (.ops false [
     ⟨⟨(some 16), .move (.tmp 0), 22, "", ⟨[]⟩, none⟩, none, false⟩,
     ⟨⟨(some 17), .call ⟨.builtin .len, ⟨[(.tmp 16)]⟩, ⟨[22]⟩⟩, 3, "", ⟨[]⟩, none⟩, none, false⟩,
     ⟨⟨(some 18), .makeSlice 24 (.tmp 17) (.tmp 17), 24, "", ⟨[]⟩, none⟩, none, false⟩,
     ⟨⟨(some 9), .assign (.tmp 18), 24, "", ⟨[]⟩, none⟩, none, false⟩])
   (.seq
    (.seq
     (.ops false [
       ⟨⟨(some 19), .move (.tmp 2), 36, "", ⟨[]⟩, none⟩, none, false⟩,
       ⟨⟨(some 20), .call ⟨.builtin .len, ⟨[(.tmp 19)]⟩, ⟨[36]⟩⟩, 3, "", ⟨[]⟩, none⟩, none, false⟩,
       ⟨⟨(some 21), .move (.const (.int .i64 0)), 3, "", ⟨[]⟩, none⟩, none, false⟩])
     (.block 0
      (.loop
       (.seq
        (.ops false [
          ⟨⟨(some 22), .binOp .lss 3 (.tmp 21) (.tmp 20) 3, 0, "", ⟨[]⟩, none⟩, none, false⟩])
        (.seq
         (.cond (.tmp 22)
          .skip
          (.exit 0))
         (.seq
          (.block 1
           (.seq
            (.ops false [
              ⟨⟨(some 23), .move (.tmp 21), 3, "", ⟨[]⟩, none⟩, none, false⟩,
              ⟨⟨(some 24), .indexAddr 36 (.tmp 19) (.tmp 21), 0, "", ⟨[]⟩, none⟩, none, false⟩,
              ⟨⟨(some 25), .load 40 (.tmp 24), 40, "", ⟨[]⟩, none⟩, none, false⟩,
              ⟨⟨(some 11), .alloc 40, 0, "", ⟨[]⟩, none⟩, none, false⟩,
              ⟨⟨(some 10), .assign (.tmp 23), 3, "", ⟨[]⟩, none⟩, none, false⟩,
              ⟨⟨none, .store 40 (.tmp 11) (.tmp 25), 0, "", ⟨[]⟩, none⟩, none, false⟩])
            (.seq
             (.ops false [
               ⟨⟨(some 26), .move (.tmp 0), 22, "", ⟨[]⟩, none⟩, none, false⟩,
               ⟨⟨(some 27), .move (.tmp 1), 24, "", ⟨[]⟩, none⟩, none, false⟩,
               ⟨⟨(some 28), .load 40 (.tmp 11), 40, "", ⟨[]⟩, none⟩, none, false⟩,
               ⟨⟨(some 29), .call ⟨.value (.func 46), ⟨[(.tmp 26), (.tmp 27), (.tmp 28)]⟩, ⟨[22, 24, 40]⟩⟩, 24, "", ⟨[]⟩, none⟩, none, false⟩,
               ⟨⟨(some 30), .call ⟨.builtin .len, ⟨[(.tmp 29)]⟩, ⟨[24]⟩⟩, 3, "", ⟨[]⟩, none⟩, none, false⟩,
               ⟨⟨(some 31), .move (.const (.int .i64 0)), 3, "", ⟨[]⟩, none⟩, none, false⟩])
             (.block 2
              (.loop
               (.seq
                (.ops false [
                  ⟨⟨(some 32), .binOp .lss 3 (.tmp 31) (.tmp 30) 3, 0, "", ⟨[]⟩, none⟩, none, false⟩])
                (.seq
                 (.cond (.tmp 32)
                  .skip
                  (.exit 2))
                 (.seq
                  (.block 3
                   (.seq
                    (.ops false [
                      ⟨⟨(some 33), .indexAddr 24 (.tmp 29) (.tmp 31), 0, "", ⟨[]⟩, none⟩, none, false⟩,
                      ⟨⟨(some 34), .load 3 (.tmp 33), 3, "", ⟨[]⟩, none⟩, none, false⟩,
                      ⟨⟨(some 13), .assign (.tmp 34), 3, "", ⟨[]⟩, none⟩, none, false⟩])
                    (.ops true [
                      ⟨⟨(some 35), .move (.tmp 9), 24, "", ⟨[]⟩, none⟩, none, true⟩,
                      ⟨⟨(some 36), .move (.tmp 13), 3, "", ⟨[]⟩, none⟩, none, true⟩,
                      ⟨⟨(some 37), .indexAddr 24 (.tmp 35) (.tmp 36), 0, "", ⟨[]⟩, none⟩, none, true⟩,
                      ⟨⟨(some 38), .load 3 (.tmp 37), 3, "", ⟨[]⟩, none⟩, none, true⟩,
                      ⟨⟨(some 39), .move (.tmp 3), 24, "", ⟨[]⟩, none⟩, none, true⟩,
                      ⟨⟨(some 40), .move (.tmp 10), 3, "", ⟨[]⟩, none⟩, none, true⟩,
                      ⟨⟨(some 41), .indexAddr 24 (.tmp 39) (.tmp 40), 0, "", ⟨[]⟩, none⟩, none, true⟩,
                      ⟨⟨(some 42), .load 3 (.tmp 41), 3, "", ⟨[]⟩, none⟩, none, true⟩,
                      ⟨⟨(some 43), .binOp .add 3 (.tmp 38) (.tmp 42) 3, 3, "", ⟨[]⟩, none⟩, none, true⟩,
                      ⟨⟨(some 44), .indexAddr 24 (.tmp 35) (.tmp 36), 0, "", ⟨[]⟩, none⟩, none, true⟩,
                      ⟨⟨none, .store 3 (.tmp 44) (.tmp 43), 0, "", ⟨[]⟩, none⟩, none, false⟩])))
                  (.ops false [
                    ⟨⟨(some 45), .binOp .add 3 (.tmp 31) (.const (.int .i64 1)) 3, 3, "", ⟨[]⟩, none⟩, none, false⟩,
                    ⟨⟨(some 31), .move (.tmp 45), 3, "", ⟨[]⟩, none⟩, none, false⟩])))))))))
          (.ops false [
            ⟨⟨(some 46), .binOp .add 3 (.tmp 21) (.const (.int .i64 1)) 3, 3, "", ⟨[]⟩, none⟩, none, false⟩,
            ⟨⟨(some 21), .move (.tmp 46), 3, "", ⟨[]⟩, none⟩, none, false⟩])))))))
    (.seq
     (.seq
      (.ops false [
        ⟨⟨(some 47), .move (.tmp 0), 22, "", ⟨[]⟩, none⟩, none, false⟩,
        ⟨⟨(some 48), .call ⟨.builtin .len, ⟨[(.tmp 47)]⟩, ⟨[22]⟩⟩, 3, "", ⟨[]⟩, none⟩, none, false⟩,
        ⟨⟨(some 49), .move (.const (.int .i64 0)), 3, "", ⟨[]⟩, none⟩, none, false⟩])
      (.block 4
       (.loop
        (.seq
         (.ops false [
           ⟨⟨(some 50), .binOp .lss 3 (.tmp 49) (.tmp 48) 3, 0, "", ⟨[]⟩, none⟩, none, false⟩])
         (.seq
          (.cond (.tmp 50)
           .skip
           (.exit 4))
          (.seq
           (.block 5
            (.seq
             (.ops false [
               ⟨⟨(some 51), .move (.tmp 49), 3, "", ⟨[]⟩, none⟩, none, false⟩,
               ⟨⟨(some 52), .indexAddr 22 (.tmp 47) (.tmp 49), 0, "", ⟨[]⟩, none⟩, none, false⟩,
               ⟨⟨(some 53), .load 53 (.tmp 52), 53, "", ⟨[]⟩, none⟩, none, false⟩,
               ⟨⟨(some 15), .alloc 53, 0, "", ⟨[]⟩, none⟩, none, false⟩,
               ⟨⟨(some 14), .assign (.tmp 51), 3, "", ⟨[]⟩, none⟩, none, false⟩,
               ⟨⟨none, .store 53 (.tmp 15) (.tmp 53), 0, "", ⟨[]⟩, none⟩, none, false⟩])
             (.seq
              (.ops true [
                ⟨⟨(some 54), .move (.tmp 9), 24, "", ⟨[]⟩, none⟩, none, true⟩,
                ⟨⟨(some 55), .move (.tmp 14), 3, "", ⟨[]⟩, none⟩, none, true⟩,
                ⟨⟨(some 56), .indexAddr 24 (.tmp 54) (.tmp 55), 0, "", ⟨[]⟩, none⟩, none, true⟩,
                ⟨⟨(some 57), .load 3 (.tmp 56), 3, "", ⟨[]⟩, none⟩, none, true⟩,
                ⟨⟨(some 58), .fieldAddr 53 (.tmp 15) 1, 0, "", ⟨[]⟩, none⟩, none, true⟩,
                ⟨⟨(some 59), .load 3 (.tmp 58), 3, "", ⟨[]⟩, none⟩, none, true⟩,
                ⟨⟨(some 60), .binOp .gtr 3 (.tmp 57) (.tmp 59) 3, 4, "", ⟨[]⟩, none⟩, none, true⟩])
              (.cond (.tmp 60)
               (.seq
                (.ops false [
                  ⟨⟨(some 8), .assign (.const (.bool false)), 4, "", ⟨[]⟩, none⟩, none, false⟩])
                .ret)
               .skip))))
           (.ops false [
             ⟨⟨(some 61), .binOp .add 3 (.tmp 49) (.const (.int .i64 1)) 3, 3, "", ⟨[]⟩, none⟩, none, false⟩,
             ⟨⟨(some 49), .move (.tmp 61), 3, "", ⟨[]⟩, none⟩, none, false⟩])))))))
     (.seq
      (.ops false [
        ⟨⟨(some 8), .assign (.const (.bool true)), 4, "", ⟨[]⟩, none⟩, none, false⟩])
      .ret)))))
def Tryz.s60 : SC :=
 (.seq
  (.ops false [
    ⟨⟨(some 2), .assign (.const (.int .i64 0)), 3, "", ⟨[]⟩, none⟩, none, false⟩])
  (.seq
   (.ops false [
     ⟨⟨(some 3), .move (.tmp 0), 3, "", ⟨[]⟩, none⟩, none, false⟩,
     ⟨⟨(some 2), .assign (.tmp 3), 3, "", ⟨[]⟩, none⟩, none, false⟩])
   .ret))
def Tryz.s61 : SC :=
 (.seq
  (.ops false [
    ⟨⟨(some 2), .assign (.const (.int .i64 0)), 3, "", ⟨[]⟩, none⟩, none, false⟩])
  (.seq
   (.ops false [
     ⟨⟨(some 3), .assign (.const (.int .i64 0)), 3, "", ⟨[]⟩, none⟩, none, false⟩])
   (.seq
    (.seq
     (.ops false [
       ⟨⟨(some 4), .assign (.const (.int .i64 0)), 3, "", ⟨[]⟩, none⟩, none, false⟩])
     (.block 0
      (.loop
       (.seq
        (.seq
         (.ops false [
           ⟨⟨(some 5), .move (.tmp 4), 3, "", ⟨[]⟩, none⟩, none, false⟩,
           ⟨⟨(some 6), .move (.tmp 0), 24, "", ⟨[]⟩, none⟩, none, false⟩,
           ⟨⟨(some 7), .call ⟨.builtin .len, ⟨[(.tmp 6)]⟩, ⟨[24]⟩⟩, 3, "", ⟨[]⟩, none⟩, none, false⟩,
           ⟨⟨(some 8), .binOp .lss 3 (.tmp 5) (.tmp 7) 3, 4, "", ⟨[]⟩, none⟩, none, false⟩])
         (.cond (.tmp 8)
          .skip
          (.exit 0)))
        (.seq
         (.block 1
          (.ops false [
            ⟨⟨(some 11), .move (.tmp 3), 3, "", ⟨[]⟩, none⟩, none, false⟩,
            ⟨⟨(some 12), .move (.tmp 0), 24, "", ⟨[]⟩, none⟩, none, false⟩,
            ⟨⟨(some 13), .move (.tmp 4), 3, "", ⟨[]⟩, none⟩, none, false⟩,
            ⟨⟨(some 14), .indexAddr 24 (.tmp 12) (.tmp 13), 0, "", ⟨[]⟩, none⟩, none, false⟩,
            ⟨⟨(some 15), .load 3 (.tmp 14), 3, "", ⟨[]⟩, none⟩, none, false⟩,
            ⟨⟨(some 16), .binOp .add 3 (.tmp 11) (.tmp 15) 3, 3, "", ⟨[]⟩, none⟩, none, false⟩,
            ⟨⟨(some 3), .assign (.tmp 16), 3, "", ⟨[]⟩, none⟩, none, false⟩]))
         (.ops false [
           ⟨⟨(some 9), .move (.tmp 4), 3, "", ⟨[]⟩, none⟩, none, false⟩,
           ⟨⟨(some 10), .binOp .add 3 (.tmp 9) (.const (.int .i64 1)) 3, 3, "", ⟨[]⟩, none⟩, none, false⟩,
           ⟨⟨(some 4), .assign (.tmp 10), 3, "", ⟨[]⟩, none⟩, none, false⟩]))))))
    (.seq
     (.ops false [
       ⟨⟨(some 17), .move (.tmp 3), 3, "", ⟨[]⟩, none⟩, none, false⟩,
       ⟨⟨(some 2), .assign (.tmp 17), 3, "", ⟨[]⟩, none⟩, none, false⟩])
     .ret))))
def Tryz.s70 : SC :=
 (.seq
  (.ops false [
    ⟨⟨(some 3), .box 53 (.tmp 0), 0, "", ⟨[]⟩, none⟩, none, false⟩,
    ⟨⟨(some 5), .box 58 (.tmp 2), 0, "", ⟨[]⟩, none⟩, none, false⟩,
    ⟨⟨(some 6), .assign (.const (.bool false)), 4, "", ⟨[]⟩, none⟩, none, false⟩])
  (.seq
   (.ops true [
     ⟨⟨(some 7), .move (.tmp 1), 3, "", ⟨[]⟩, none⟩, none, true⟩,
     ⟨⟨(some 8), .binOp .neq 3 (.tmp 7) (.const (.int .i64 (-1))) 3, 4, "", ⟨[]⟩, none⟩, none, true⟩,
     ⟨⟨(some 9), .move (.tmp 8), 4, "", ⟨[]⟩, none⟩, none, true⟩,
     ⟨⟨(some 10), .load 58 (.tmp 5), 58, "", ⟨[]⟩, none⟩, some ((some 9), true), true⟩,
     ⟨⟨(some 11), .move (.tmp 1), 3, "", ⟨[]⟩, none⟩, some ((some 9), true), true⟩,
     ⟨⟨(some 12), .fieldAddr 53 (.tmp 3) 0, 0, "", ⟨[]⟩, none⟩, some ((some 9), true), true⟩,
     ⟨⟨(some 13), .load 3 (.tmp 12), 3, "", ⟨[]⟩, none⟩, some ((some 9), true), true⟩,
     ⟨⟨(some 14), .binOp .mul 3 (.const (.int .i64 3)) (.tmp 13) 3, 3, "", ⟨[]⟩, none⟩, some ((some 9), true), true⟩,
     ⟨⟨(some 15), .call ⟨.value (.func 33), ⟨[(.tmp 11), (.tmp 14)]⟩, ⟨[3, 3]⟩⟩, 58, "", ⟨[]⟩, none⟩, some ((some 9), true), true⟩,
     ⟨⟨(some 16), .call ⟨.value (.func 32), ⟨[(.tmp 10), (.tmp 15)]⟩, ⟨[58, 58]⟩⟩, 58, "", ⟨[]⟩, none⟩, some ((some 9), true), false⟩,
     ⟨⟨(some 17), .call ⟨.value (.func 34), ⟨[(.tmp 16)]⟩, ⟨[58]⟩⟩, 4, "", ⟨[]⟩, none⟩, some ((some 9), true), false⟩,
     ⟨⟨(some 18), .pick (.tmp 9) (.tmp 17) (.const (.bool false)), 4, "", ⟨[]⟩, none⟩, none, true⟩,
     ⟨⟨(some 6), .assign (.tmp 18), 4, "", ⟨[]⟩, none⟩, none, true⟩])
   .ret))
def Tryz.s71 : SC :=
 (.seq
  (.ops false [
    ⟨⟨(some 4), .assign (.const (.bool false)), 4, "", ⟨[]⟩, none⟩, none, false⟩])
  (.seq
   (.seq
    (.ops false [
      ⟨⟨(some 5), .assign (.const (.int .i64 0)), 3, "", ⟨[]⟩, none⟩, none, false⟩])
    (.block 0
     (.loop
      (.seq
       (.seq
        (.ops false [
          ⟨⟨(some 8), .move (.tmp 5), 3, "", ⟨[]⟩, none⟩, none, false⟩,
          ⟨⟨(some 9), .move (.tmp 0), 36, "", ⟨[]⟩, none⟩, none, false⟩,
          ⟨⟨(some 10), .call ⟨.builtin .len, ⟨[(.tmp 9)]⟩, ⟨[36]⟩⟩, 3, "", ⟨[]⟩, none⟩, none, false⟩,
          ⟨⟨(some 11), .binOp .lss 3 (.tmp 8) (.tmp 10) 3, 4, "", ⟨[]⟩, none⟩, none, false⟩])
        (.cond (.tmp 11)
         .skip
         (.exit 0)))
       (.seq
        (.block 1
         (.seq
          (.seq
           (.ops false [
             ⟨⟨(some 6), .assign (.const (.int .i64 0)), 3, "", ⟨[]⟩, none⟩, none, false⟩])
           (.block 2
            (.loop
             (.seq
              (.seq
               (.ops false [
                 ⟨⟨(some 14), .move (.tmp 6), 3, "", ⟨[]⟩, none⟩, none, false⟩,
                 ⟨⟨(some 15), .move (.tmp 0), 36, "", ⟨[]⟩, none⟩, none, false⟩,
                 ⟨⟨(some 16), .move (.tmp 5), 3, "", ⟨[]⟩, none⟩, none, false⟩,
                 ⟨⟨(some 17), .indexAddr 36 (.tmp 15) (.tmp 16), 0, "", ⟨[]⟩, none⟩, none, false⟩,
                 ⟨⟨(some 18), .fieldAddr 40 (.tmp 17) 0, 0, "", ⟨[]⟩, none⟩, none, false⟩,
                 ⟨⟨(some 19), .load 26 (.tmp 18), 26, "", ⟨[]⟩, none⟩, none, false⟩,
                 ⟨⟨(some 20), .call ⟨.builtin .len, ⟨[(.tmp 19)]⟩, ⟨[26]⟩⟩, 3, "", ⟨[]⟩, none⟩, none, false⟩,
                 ⟨⟨(some 21), .binOp .lss 3 (.tmp 14) (.tmp 20) 3, 4, "", ⟨[]⟩, none⟩, none, false⟩])
               (.cond (.tmp 21)
                .skip
                (.exit 2)))
              (.seq
               (.block 3
                (.seq
                 (.ops false [
                   ⟨⟨(some 24), .move (.tmp 0), 36, "", ⟨[]⟩, none⟩, none, false⟩,
                   ⟨⟨(some 25), .move (.tmp 5), 3, "", ⟨[]⟩, none⟩, none, false⟩,
                   ⟨⟨(some 26), .indexAddr 36 (.tmp 24) (.tmp 25), 0, "", ⟨[]⟩, none⟩, none, false⟩,
                   ⟨⟨(some 27), .fieldAddr 40 (.tmp 26) 0, 0, "", ⟨[]⟩, none⟩, none, false⟩,
                   ⟨⟨(some 28), .load 26 (.tmp 27), 26, "", ⟨[]⟩, none⟩, none, false⟩,
                   ⟨⟨(some 29), .move (.tmp 6), 3, "", ⟨[]⟩, none⟩, none, false⟩,
                   ⟨⟨(some 30), .indexAddr 26 (.tmp 28) (.tmp 29), 0, "", ⟨[]⟩, none⟩, none, false⟩,
                   ⟨⟨(some 31), .load 58 (.tmp 30), 58, "", ⟨[]⟩, none⟩, none, false⟩,
                   ⟨⟨(some 7), .alloc 58, 0, "", ⟨[]⟩, none⟩, none, false⟩,
                   ⟨⟨none, .store 58 (.tmp 7) (.tmp 31), 0, "", ⟨[]⟩, none⟩, none, false⟩])
                 (.seq
                  (.ops false [
                    ⟨⟨(some 32), .fieldAddr 58 (.tmp 7) 0, 0, "", ⟨[]⟩, none⟩, none, false⟩,
                    ⟨⟨(some 33), .load 3 (.tmp 32), 3, "", ⟨[]⟩, none⟩, none, false⟩,
                    ⟨⟨(some 34), .binOp .lss 3 (.tmp 33) (.const (.int .i64 0)) 3, 4, "", ⟨[]⟩, none⟩, none, false⟩,
                    ⟨⟨(some 35), .move (.tmp 34), 4, "", ⟨[]⟩, none⟩, none, false⟩,
                    ⟨⟨(some 36), .fieldAddr 58 (.tmp 7) 0, 0, "", ⟨[]⟩, none⟩, some ((some 35), false), false⟩,
                    ⟨⟨(some 37), .load 3 (.tmp 36), 3, "", ⟨[]⟩, none⟩, some ((some 35), false), false⟩,
                    ⟨⟨(some 38), .fieldAddr 58 (.tmp 7) 1, 0, "", ⟨[]⟩, none⟩, some ((some 35), false), false⟩,
                    ⟨⟨(some 39), .load 3 (.tmp 38), 3, "", ⟨[]⟩, none⟩, some ((some 35), false), false⟩,
                    ⟨⟨(some 40), .binOp .gtr 3 (.tmp 37) (.tmp 39) 3, 4, "", ⟨[]⟩, none⟩, some ((some 35), false), false⟩,
                    ⟨⟨(some 41), .pick (.tmp 35) (.const (.bool true)) (.tmp 40), 4, "", ⟨[]⟩, none⟩, none, false⟩,
                    ⟨⟨(some 42), .move (.tmp 41), 4, "", ⟨[]⟩, none⟩, none, false⟩,
                    ⟨⟨(some 43), .fieldAddr 58 (.tmp 7) 1, 0, "", ⟨[]⟩, none⟩, some ((some 42), false), false⟩,
                    ⟨⟨(some 44), .load 3 (.tmp 43), 3, "", ⟨[]⟩, none⟩, some ((some 42), false), false⟩,
                    ⟨⟨(some 45), .binOp .gtr 3 (.tmp 44) (.const (.int .i64 100000)) 3, 4, "", ⟨[]⟩, none⟩, some ((some 42), false), false⟩,
                    ⟨⟨(some 46), .pick (.tmp 42) (.const (.bool true)) (.tmp 45), 4, "", ⟨[]⟩, none⟩, none, false⟩])
                  (.cond (.tmp 46)
                   (.seq
                    (.ops false [
                      ⟨⟨(some 4), .assign (.const (.bool false)), 4, "", ⟨[]⟩, none⟩, none, false⟩])
                    .ret)
                   .skip))))
               (.ops false [
                 ⟨⟨(some 22), .move (.tmp 6), 3, "", ⟨[]⟩, none⟩, none, false⟩,
                 ⟨⟨(some 23), .binOp .add 3 (.tmp 22) (.const (.int .i64 1)) 3, 3, "", ⟨[]⟩, none⟩, none, false⟩,
                 ⟨⟨(some 6), .assign (.tmp 23), 3, "", ⟨[]⟩, none⟩, none, false⟩]))))))
          (.seq
           (.ops false [
             ⟨⟨(some 47), .move (.tmp 0), 36, "", ⟨[]⟩, none⟩, none, false⟩,
             ⟨⟨(some 48), .move (.tmp 5), 3, "", ⟨[]⟩, none⟩, none, false⟩,
             ⟨⟨(some 49), .indexAddr 36 (.tmp 47) (.tmp 48), 0, "", ⟨[]⟩, none⟩, none, false⟩,
             ⟨⟨(some 50), .fieldAddr 40 (.tmp 49) 0, 0, "", ⟨[]⟩, none⟩, none, false⟩,
             ⟨⟨(some 51), .load 26 (.tmp 50), 26, "", ⟨[]⟩, none⟩, none, false⟩,
             ⟨⟨(some 52), .call ⟨.builtin .len, ⟨[(.tmp 51)]⟩, ⟨[26]⟩⟩, 3, "", ⟨[]⟩, none⟩, none, false⟩,
             ⟨⟨(some 53), .move (.tmp 1), 3, "", ⟨[]⟩, none⟩, none, false⟩,
             ⟨⟨(some 54), .binOp .neq 3 (.tmp 52) (.tmp 53) 3, 4, "", ⟨[]⟩, none⟩, none, false⟩])
           (.cond (.tmp 54)
            (.seq
             (.ops false [
               ⟨⟨(some 4), .assign (.const (.bool false)), 4, "", ⟨[]⟩, none⟩, none, false⟩])
             .ret)
            .skip))))
        (.ops false [
          ⟨⟨(some 12), .move (.tmp 5), 3, "", ⟨[]⟩, none⟩, none, false⟩,
          ⟨⟨(some 13), .binOp .add 3 (.tmp 12) (.const (.int .i64 1)) 3, 3, "", ⟨[]⟩, none⟩, none, false⟩,
          ⟨⟨(some 5), .assign (.tmp 13), 3, "", ⟨[]⟩, none⟩, none, false⟩]))))))
   (.seq
    (.ops false [
      ⟨⟨(some 55), .move (.tmp 0), 36, "", ⟨[]⟩, none⟩, none, false⟩,
      ⟨⟨(some 56), .call ⟨.builtin .len, ⟨[(.tmp 55)]⟩, ⟨[36]⟩⟩, 3, "", ⟨[]⟩, none⟩, none, false⟩,
      ⟨⟨(some 57), .binOp .leq 3 (.tmp 56) (.const (.int .i64 10)) 3, 4, "", ⟨[]⟩, none⟩, none, false⟩,
      ⟨⟨(some 4), .assign (.tmp 57), 4, "", ⟨[]⟩, none⟩, none, false⟩])
    .ret)))
def Tryz.s72 : SC :=
 (.seq
  (.ops false [
    ⟨⟨(some 5), .assign (.const (.bool false)), 4, "", ⟨[]⟩, none⟩, none, false⟩])
  (.seq
   (.ops true [
     ⟨⟨(some 6), .load 22 (.tmp 1), 22, "", ⟨[]⟩, none⟩, none, true⟩,
     ⟨⟨(some 7), .move (.tmp 0), 3, "", ⟨[]⟩, none⟩, none, true⟩,
     ⟨⟨(some 8), .indexAddr 22 (.tmp 6) (.tmp 7), 0, "", ⟨[]⟩, none⟩, none, true⟩,
     ⟨⟨(some 9), .load 53 (.tmp 8), 53, "", ⟨[]⟩, none⟩, none, true⟩,
     ⟨⟨(some 10), .load 24 (.tmp 2), 24, "", ⟨[]⟩, none⟩, none, true⟩,
     ⟨⟨(some 11), .move (.tmp 0), 3, "", ⟨[]⟩, none⟩, none, true⟩,
     ⟨⟨(some 12), .indexAddr 24 (.tmp 10) (.tmp 11), 0, "", ⟨[]⟩, none⟩, none, true⟩,
     ⟨⟨(some 13), .load 3 (.tmp 12), 3, "", ⟨[]⟩, none⟩, none, true⟩,
     ⟨⟨(some 14), .fieldAddr 40 (.tmp 3) 0, 0, "", ⟨[]⟩, none⟩, none, true⟩,
     ⟨⟨(some 15), .load 26 (.tmp 14), 26, "", ⟨[]⟩, none⟩, none, true⟩,
     ⟨⟨(some 16), .move (.tmp 0), 3, "", ⟨[]⟩, none⟩, none, true⟩,
     ⟨⟨(some 17), .indexAddr 26 (.tmp 15) (.tmp 16), 0, "", ⟨[]⟩, none⟩, none, true⟩,
     ⟨⟨(some 18), .load 58 (.tmp 17), 58, "", ⟨[]⟩, none⟩, none, true⟩,
     ⟨⟨(some 19), .call ⟨.value (.func 70), ⟨[(.tmp 9), (.tmp 13), (.tmp 18)]⟩, ⟨[53, 3, 58]⟩⟩, 4, "", ⟨[]⟩, none⟩, none, false⟩,
     ⟨⟨(some 5), .assign (.tmp 19), 4, "", ⟨[]⟩, none⟩, none, true⟩])
   .ret))
def Tryz.s73 : SC :=
 (.seq
  (.ops false [
    ⟨⟨(some 4), .assign (.const (.bool false)), 4, "", ⟨[]⟩, none⟩, none, false⟩])
  (.seq
   (.ops false [
     ⟨⟨(some 5), .move (.tmp 0), 24, "", ⟨[]⟩, none⟩, none, false⟩,
     ⟨⟨(some 6), .move (.tmp 1), 111, "", ⟨[]⟩, none⟩, none, false⟩,
     ⟨⟨(some 7), .call ⟨.value (.func 91), ⟨[(.tmp 5), (.tmp 6)]⟩, ⟨[24, 111]⟩⟩, 3, "", ⟨[]⟩, none⟩, none, false⟩,
     ⟨⟨(some 8), .binOp .geq 3 (.tmp 7) (.const (.int .i64 0)) 3, 4, "", ⟨[]⟩, none⟩, none, false⟩,
     ⟨⟨(some 4), .assign (.tmp 8), 4, "", ⟨[]⟩, none⟩, none, false⟩])
   .ret))
def Tryz.s74 : SC :=
 (.ops false [
   ⟨⟨(some 3), .load 3 (.tmp 1), 3, "", ⟨[]⟩, none⟩, none, false⟩,
   ⟨⟨(some 4), .move (.tmp 0), 113, "", ⟨[]⟩, none⟩, none, false⟩,
   ⟨⟨(some 5), .call ⟨.value (.func 75), ⟨[(.tmp 3), (.const (.slice none 0 0)), (.const (.int .i64 0)), (.tmp 4)]⟩, ⟨[3, 24, 3, 113]⟩⟩, 4, "", ⟨[]⟩, none⟩, none, false⟩])
def Tryz.s75 : SC :=
 (.seq
  (.ops false [
    ⟨⟨(some 8), .assign (.const (.bool false)), 4, "", ⟨[]⟩, none⟩, none, false⟩])
  (.seq
   (.seq
    (.ops false [
      ⟨⟨(some 10), .move (.tmp 3), 113, "", ⟨[]⟩, none⟩, none, false⟩,
      ⟨⟨(some 11), .move (.tmp 1), 24, "", ⟨[]⟩, none⟩, none, false⟩,
      ⟨⟨(some 12), .call ⟨.value (.tmp 10), ⟨[(.tmp 11)]⟩, ⟨[24]⟩⟩, 4, "", ⟨[]⟩, none⟩, none, false⟩,
      ⟨⟨(some 13), .unOp .not 4 (.tmp 12), 4, "", ⟨[]⟩, none⟩, none, false⟩])
    (.cond (.tmp 13)
     (.seq
      (.ops false [
        ⟨⟨(some 8), .assign (.const (.bool false)), 4, "", ⟨[]⟩, none⟩, none, false⟩])
      .ret)
     .skip))
   (.seq
    (.seq
     (.ops false [
       ⟨⟨(some 14), .move (.tmp 2), 3, "", ⟨[]⟩, none⟩, none, false⟩,
       ⟨⟨(some 9), .assign (.tmp 14), 3, "", ⟨[]⟩, none⟩, none, false⟩])
     (.block 0
      (.loop
       (.seq
        (.seq
         (.ops false [
           ⟨⟨(some 15), .move (.tmp 9), 3, "", ⟨[]⟩, none⟩, none, false⟩,
           ⟨⟨(some 16), .move (.tmp 0), 3, "", ⟨[]⟩, none⟩, none, false⟩,
           ⟨⟨(some 17), .binOp .lss 3 (.tmp 15) (.tmp 16) 3, 4, "", ⟨[]⟩, none⟩, none, false⟩])
         (.cond (.tmp 17)
          .skip
          (.exit 0)))
        (.seq
         (.block 1
          (.seq
           (.ops false [
             ⟨⟨(some 20), .move (.tmp 0), 3, "", ⟨[]⟩, none⟩, none, false⟩,
             ⟨⟨(some 21), .move (.tmp 1), 24, "", ⟨[]⟩, none⟩, none, false⟩,
             ⟨⟨(some 22), .move (.tmp 9), 3, "", ⟨[]⟩, none⟩, none, false⟩,
             ⟨⟨(some 23), .buildSlice 24 1 ⟨[(0, (.tmp 22))]⟩, 24, "", ⟨[]⟩, none⟩, none, false⟩,
             ⟨⟨(some 24), .call ⟨.builtin .append, ⟨[(.tmp 21), (.tmp 23)]⟩, ⟨[24, 24]⟩⟩, 24, "", ⟨[]⟩, none⟩, none, false⟩,
             ⟨⟨(some 25), .move (.tmp 9), 3, "", ⟨[]⟩, none⟩, none, false⟩,
             ⟨⟨(some 26), .binOp .add 3 (.tmp 25) (.const (.int .i64 1)) 3, 3, "", ⟨[]⟩, none⟩, none, false⟩,
             ⟨⟨(some 27), .move (.tmp 3), 113, "", ⟨[]⟩, none⟩, none, false⟩,
             ⟨⟨(some 28), .call ⟨.value (.func 75), ⟨[(.tmp 20), (.tmp 24), (.tmp 26), (.tmp 27)]⟩, ⟨[3, 24, 3, 113]⟩⟩, 4, "", ⟨[]⟩, none⟩, none, false⟩,
             ⟨⟨(some 29), .unOp .not 4 (.tmp 28), 4, "", ⟨[]⟩, none⟩, none, false⟩])
           (.cond (.tmp 29)
            (.seq
             (.ops false [
               ⟨⟨(some 8), .assign (.const (.bool false)), 4, "", ⟨[]⟩, none⟩, none, false⟩])
             .ret)
            .skip)))
         (.ops false [
           ⟨⟨(some 18), .move (.tmp 9), 3, "", ⟨[]⟩, none⟩, none, false⟩,
           ⟨⟨(some 19), .binOp .add 3 (.tmp 18) (.const (.int .i64 1)) 3, 3, "", ⟨[]⟩, none⟩, none, false⟩,
           ⟨⟨(some 9), .assign (.tmp 19), 3, "", ⟨[]⟩, none⟩, none, false⟩]))))))
    (.seq
     (.ops false [
       ⟨⟨(some 8), .assign (.const (.bool true)), 4, "", ⟨[]⟩, none⟩, none, false⟩])
     .ret))))
def Tryz.s76 : SC :=
 (.seq
  (.ops false [
    ⟨⟨(some 4), .assign (.const (.bool false)), 4, "", ⟨[]⟩, none⟩, none, false⟩])
  (.seq
   (.ops false [
     ⟨⟨(some 5), .move (.tmp 0), 3, "", ⟨[]⟩, none⟩, none, false⟩,
     ⟨⟨(some 6), .move (.tmp 1), 3, "", ⟨[]⟩, none⟩, none, false⟩,
     ⟨⟨(some 7), .binOp .shr 3 (.tmp 5) (.tmp 6) 3, 3, "", ⟨[]⟩, none⟩, none, false⟩,
     ⟨⟨(some 8), .binOp .rem 3 (.tmp 7) (.const (.int .i64 2)) 3, 3, "", ⟨[]⟩, none⟩, none, false⟩,
     ⟨⟨(some 9), .binOp .eql 3 (.tmp 8) (.const (.int .i64 1)) 3, 4, "", ⟨[]⟩, none⟩, none, false⟩,
     ⟨⟨(some 4), .assign (.tmp 9), 4, "", ⟨[]⟩, none⟩, none, false⟩])
   .ret))
def Tryz.s91 : SC :=
 (.seq
  (.ops false [
    ⟨⟨(some 4), .assign (.const (.int .i64 0)), 3, "", ⟨[]⟩, none⟩, none, false⟩])
  (.seq
   (.seq
    (.ops false [
      ⟨⟨(some 6), .move (.tmp 0), 24, "", ⟨[]⟩, none⟩, none, false⟩,
      ⟨⟨(some 7), .call ⟨.builtin .len, ⟨[(.tmp 6)]⟩, ⟨[24]⟩⟩, 3, "", ⟨[]⟩, none⟩, none, false⟩,
      ⟨⟨(some 8), .move (.const (.int .i64 0)), 3, "", ⟨[]⟩, none⟩, none, false⟩])
    (.block 0
     (.loop
      (.seq
       (.ops false [
         ⟨⟨(some 9), .binOp .lss 3 (.tmp 8) (.tmp 7) 3, 0, "", ⟨[]⟩, none⟩, none, false⟩])
       (.seq
        (.cond (.tmp 9)
         .skip
         (.exit 0))
        (.seq
         (.block 1
          (.seq
           (.ops false [
             ⟨⟨(some 10), .move (.tmp 8), 3, "", ⟨[]⟩, none⟩, none, false⟩,
             ⟨⟨(some 5), .assign (.tmp 10), 3, "", ⟨[]⟩, none⟩, none, false⟩])
           (.seq
            (.ops false [
              ⟨⟨(some 11), .move (.tmp 1), 111, "", ⟨[]⟩, none⟩, none, false⟩,
              ⟨⟨(some 12), .move (.tmp 0), 24, "", ⟨[]⟩, none⟩, none, false⟩,
              ⟨⟨(some 13), .move (.tmp 5), 3, "", ⟨[]⟩, none⟩, none, false⟩,
              ⟨⟨(some 14), .indexAddr 24 (.tmp 12) (.tmp 13), 0, "", ⟨[]⟩, none⟩, none, false⟩,
              ⟨⟨(some 15), .load 3 (.tmp 14), 3, "", ⟨[]⟩, none⟩, none, false⟩,
              ⟨⟨(some 16), .call ⟨.value (.tmp 11), ⟨[(.tmp 15)]⟩, ⟨[3]⟩⟩, 4, "", ⟨[]⟩, none⟩, none, false⟩])
            (.cond (.tmp 16)
             (.seq
              (.ops false [
                ⟨⟨(some 17), .move (.tmp 5), 3, "", ⟨[]⟩, none⟩, none, false⟩,
                ⟨⟨(some 4), .assign (.tmp 17), 3, "", ⟨[]⟩, none⟩, none, false⟩])
              .ret)
             .skip))))
         (.ops false [
           ⟨⟨(some 18), .binOp .add 3 (.tmp 8) (.const (.int .i64 1)) 3, 3, "", ⟨[]⟩, none⟩, none, false⟩,
           ⟨⟨(some 8), .move (.tmp 18), 3, "", ⟨[]⟩, none⟩, none, false⟩])))))))
   (.seq
    (.ops false [
      ⟨⟨(some 4), .assign (.const (.int .i64 (-1))), 3, "", ⟨[]⟩, none⟩, none, false⟩])
    .ret)))
theorem Tryz.s4_eq : Tryz.f4.body.map sOf = some Tryz.s4 := by kernel_rfl
theorem Tryz.s5_eq : Tryz.f5.body.map sOf = some Tryz.s5 := by kernel_rfl
theorem Tryz.s17_eq : Tryz.f17.body.map sOf = some Tryz.s17 := by kernel_rfl
theorem Tryz.s18_eq : Tryz.f18.body.map sOf = some Tryz.s18 := by kernel_rfl
theorem Tryz.s19_eq : Tryz.f19.body.map sOf = some Tryz.s19 := by kernel_rfl
theorem Tryz.s20_eq : Tryz.f20.body.map sOf = some Tryz.s20 := by kernel_rfl
theorem Tryz.s21_eq : Tryz.f21.body.map sOf = some Tryz.s21 := by kernel_rfl
theorem Tryz.s23_eq : Tryz.f23.body.map sOf = some Tryz.s23 := by kernel_rfl
theorem Tryz.s24_eq : Tryz.f24.body.map sOf = some Tryz.s24 := by kernel_rfl
theorem Tryz.s25_eq : Tryz.f25.body.map sOf = some Tryz.s25 := by kernel_rfl
theorem Tryz.s46_eq : Tryz.f46.body.map sOf = some Tryz.s46 := by kernel_rfl
theorem Tryz.s47_eq : Tryz.f47.body.map sOf = some Tryz.s47 := by kernel_rfl
theorem Tryz.s48_eq : Tryz.f48.body.map sOf = some Tryz.s48 := by kernel_rfl
theorem Tryz.s49_eq : Tryz.f49.body.map sOf = some Tryz.s49 := by kernel_rfl
theorem Tryz.s50_eq : Tryz.f50.body.map sOf = some Tryz.s50 := by kernel_rfl
theorem Tryz.s51_eq : Tryz.f51.body.map sOf = some Tryz.s51 := by kernel_rfl
theorem Tryz.s52_eq : Tryz.f52.body.map sOf = some Tryz.s52 := by kernel_rfl
theorem Tryz.s53_eq : Tryz.f53.body.map sOf = some Tryz.s53 := by kernel_rfl
theorem Tryz.s54_eq : Tryz.f54.body.map sOf = some Tryz.s54 := by kernel_rfl
theorem Tryz.s55_eq : Tryz.f55.body.map sOf = some Tryz.s55 := by kernel_rfl
theorem Tryz.s56_eq : Tryz.f56.body.map sOf = some Tryz.s56 := by kernel_rfl
theorem Tryz.s57_eq : Tryz.f57.body.map sOf = some Tryz.s57 := by kernel_rfl
theorem Tryz.s58_eq : Tryz.f58.body.map sOf = some Tryz.s58 := by kernel_rfl
theorem Tryz.s59_eq : Tryz.f59.body.map sOf = some Tryz.s59 := by kernel_rfl
theorem Tryz.s60_eq : Tryz.f60.body.map sOf = some Tryz.s60 := by kernel_rfl
theorem Tryz.s61_eq : Tryz.f61.body.map sOf = some Tryz.s61 := by kernel_rfl
theorem Tryz.s70_eq : Tryz.f70.body.map sOf = some Tryz.s70 := by kernel_rfl
theorem Tryz.s71_eq : Tryz.f71.body.map sOf = some Tryz.s71 := by kernel_rfl
theorem Tryz.s72_eq : Tryz.f72.body.map sOf = some Tryz.s72 := by kernel_rfl
theorem Tryz.s73_eq : Tryz.f73.body.map sOf = some Tryz.s73 := by kernel_rfl
theorem Tryz.s74_eq : Tryz.f74.body.map sOf = some Tryz.s74 := by kernel_rfl
theorem Tryz.s75_eq : Tryz.f75.body.map sOf = some Tryz.s75 := by kernel_rfl
theorem Tryz.s76_eq : Tryz.f76.body.map sOf = some Tryz.s76 := by kernel_rfl
theorem Tryz.s91_eq : Tryz.f91.body.map sOf = some Tryz.s91 := by kernel_rfl
end Go.Proofs
