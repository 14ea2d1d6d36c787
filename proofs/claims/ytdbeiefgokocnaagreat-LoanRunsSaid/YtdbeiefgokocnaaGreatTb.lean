/- The stripped code of the functions of deals. -/
import Derived.Test.YtdbeiefgokocnaaGreatTa
import Derived.Test.YtdbeiefgokocnaaGreatNa
set_option linter.unusedVariables false
set_option linter.unusedSimpArgs false
/- Functions' code, as the machine reads it. -/
namespace Go.Proofs
open Go Go.RowKit Go.Sim
set_option maxRecDepth 100000
def Tryz.s20 : SC :=
 (.seq
  (.ops false [
    ⟨⟨(some 6), .assign (.const (.bool false)), 4, "", ⟨[]⟩, none⟩, none, false⟩])
  (.seq
   (.ops false [
     ⟨⟨(some 7), .move (.tmp 1), 3, "", ⟨[]⟩, none⟩, none, false⟩,
     ⟨⟨(some 8), .move (.tmp 0), 3, "", ⟨[]⟩, none⟩, none, false⟩,
     ⟨⟨(some 9), .binOp .leq 3 (.tmp 7) (.tmp 8) 3, 4, "", ⟨[]⟩, none⟩, none, false⟩,
     ⟨⟨(some 10), .move (.tmp 9), 4, "", ⟨[]⟩, none⟩, none, false⟩,
     ⟨⟨(some 11), .move (.tmp 0), 3, "", ⟨[]⟩, none⟩, some ((some 10), true), false⟩,
     ⟨⟨(some 12), .move (.tmp 2), 3, "", ⟨[]⟩, none⟩, some ((some 10), true), false⟩,
     ⟨⟨(some 13), .binOp .leq 3 (.tmp 11) (.tmp 12) 3, 4, "", ⟨[]⟩, none⟩, some ((some 10), true), false⟩,
     ⟨⟨(some 14), .pick (.tmp 10) (.tmp 13) (.const (.bool false)), 4, "", ⟨[]⟩, none⟩, none, false⟩,
     ⟨⟨(some 6), .assign (.tmp 14), 4, "", ⟨[]⟩, none⟩, none, false⟩])
   .ret))
def Tryz.s21 : SC :=
 (.seq
  (.ops false [
    ⟨⟨(some 6), .assign (.const (.bool false)), 4, "", ⟨[]⟩, none⟩, none, false⟩])
  (.seq
   (.ops false [
     ⟨⟨(some 7), .move (.tmp 0), 3, "", ⟨[]⟩, none⟩, none, false⟩,
     ⟨⟨(some 8), .move (.tmp 1), 3, "", ⟨[]⟩, none⟩, none, false⟩,
     ⟨⟨(some 9), .binOp .leq 3 (.tmp 7) (.tmp 8) 3, 4, "", ⟨[]⟩, none⟩, none, false⟩,
     ⟨⟨(some 10), .move (.tmp 9), 4, "", ⟨[]⟩, none⟩, none, false⟩,
     ⟨⟨(some 11), .move (.tmp 1), 3, "", ⟨[]⟩, none⟩, some ((some 10), true), false⟩,
     ⟨⟨(some 12), .move (.tmp 2), 3, "", ⟨[]⟩, none⟩, some ((some 10), true), false⟩,
     ⟨⟨(some 13), .binOp .leq 3 (.tmp 11) (.tmp 12) 3, 4, "", ⟨[]⟩, none⟩, some ((some 10), true), false⟩,
     ⟨⟨(some 14), .pick (.tmp 10) (.tmp 13) (.const (.bool false)), 4, "", ⟨[]⟩, none⟩, none, false⟩,
     ⟨⟨(some 6), .assign (.tmp 14), 4, "", ⟨[]⟩, none⟩, none, false⟩])
   .ret))
def Tryz.s19 : SC :=
 (.seq
  (.ops false [
    ⟨⟨(some 2), .assign (.const (.bool false)), 4, "", ⟨[]⟩, none⟩, none, false⟩])
  (.seq
   (.ops false [
     ⟨⟨(some 3), .move (.tmp 0), 3, "", ⟨[]⟩, none⟩, none, false⟩,
     ⟨⟨(some 4), .call ⟨.value (.func 20), ⟨[(.tmp 3), (.const (.int .i64 0)), (.const (.int .i64 36500))]⟩, ⟨[3, 3, 3]⟩⟩, 4, "", ⟨[]⟩, none⟩, none, false⟩,
     ⟨⟨(some 2), .assign (.tmp 4), 4, "", ⟨[]⟩, none⟩, none, false⟩])
   .ret))
def Tryz.s16 : SC :=
 (.seq
  (.ops false [
    ⟨⟨(some 1), .box 23 (.tmp 0), 0, "", ⟨[]⟩, none⟩, none, false⟩,
    ⟨⟨(some 2), .assign (.const (.bool false)), 4, "", ⟨[]⟩, none⟩, none, false⟩])
  (.seq
   (.ops false [
     ⟨⟨(some 3), .fieldAddr 23 (.tmp 1) 0, 0, "", ⟨[]⟩, none⟩, none, false⟩,
     ⟨⟨(some 4), .load 3 (.tmp 3), 3, "", ⟨[]⟩, none⟩, none, false⟩,
     ⟨⟨(some 5), .call ⟨.value (.func 20), ⟨[(.tmp 4), (.const (.int .i64 0)), (.const (.int .i64 10000))]⟩, ⟨[3, 3, 3]⟩⟩, 4, "", ⟨[]⟩, none⟩, none, false⟩,
     ⟨⟨(some 6), .move (.tmp 5), 4, "", ⟨[]⟩, none⟩, none, false⟩,
     ⟨⟨(some 7), .fieldAddr 23 (.tmp 1) 1, 0, "", ⟨[]⟩, none⟩, some ((some 6), true), false⟩,
     ⟨⟨(some 8), .load 3 (.tmp 7), 3, "", ⟨[]⟩, none⟩, some ((some 6), true), false⟩,
     ⟨⟨(some 9), .call ⟨.value (.func 20), ⟨[(.tmp 8), (.const (.int .i64 0)), (.const (.int .i64 64))]⟩, ⟨[3, 3, 3]⟩⟩, 4, "", ⟨[]⟩, none⟩, some ((some 6), true), false⟩,
     ⟨⟨(some 10), .pick (.tmp 6) (.tmp 9) (.const (.bool false)), 4, "", ⟨[]⟩, none⟩, none, false⟩,
     ⟨⟨(some 2), .assign (.tmp 10), 4, "", ⟨[]⟩, none⟩, none, false⟩])
   .ret))
def Tryz.s17 : SC :=
 (.seq
  (.ops false [
    ⟨⟨(some 1), .box 25 (.tmp 0), 0, "", ⟨[]⟩, none⟩, none, false⟩,
    ⟨⟨(some 2), .assign (.const (.bool false)), 4, "", ⟨[]⟩, none⟩, none, false⟩])
  (.seq
   (.ops false [
     ⟨⟨(some 3), .fieldAddr 25 (.tmp 1) 0, 0, "", ⟨[]⟩, none⟩, none, false⟩,
     ⟨⟨(some 4), .load 3 (.tmp 3), 3, "", ⟨[]⟩, none⟩, none, false⟩,
     ⟨⟨(some 5), .call ⟨.value (.func 20), ⟨[(.tmp 4), (.const (.int .i64 0)), (.const (.int .i64 10000))]⟩, ⟨[3, 3, 3]⟩⟩, 4, "", ⟨[]⟩, none⟩, none, false⟩,
     ⟨⟨(some 6), .move (.tmp 5), 4, "", ⟨[]⟩, none⟩, none, false⟩,
     ⟨⟨(some 7), .fieldAddr 25 (.tmp 1) 1, 0, "", ⟨[]⟩, none⟩, some ((some 6), true), false⟩,
     ⟨⟨(some 8), .load 3 (.tmp 7), 3, "", ⟨[]⟩, none⟩, some ((some 6), true), false⟩,
     ⟨⟨(some 9), .call ⟨.value (.func 20), ⟨[(.tmp 8), (.const (.int .i64 0)), (.const (.int .i64 31))]⟩, ⟨[3, 3, 3]⟩⟩, 4, "", ⟨[]⟩, none⟩, some ((some 6), true), false⟩,
     ⟨⟨(some 10), .pick (.tmp 6) (.tmp 9) (.const (.bool false)), 4, "", ⟨[]⟩, none⟩, none, false⟩,
     ⟨⟨(some 11), .move (.tmp 10), 4, "", ⟨[]⟩, none⟩, none, false⟩,
     ⟨⟨(some 12), .fieldAddr 25 (.tmp 1) 2, 0, "", ⟨[]⟩, none⟩, some ((some 11), true), false⟩,
     ⟨⟨(some 13), .load 3 (.tmp 12), 3, "", ⟨[]⟩, none⟩, some ((some 11), true), false⟩,
     ⟨⟨(some 14), .call ⟨.value (.func 20), ⟨[(.tmp 13), (.const (.int .i64 0)), (.const (.int .i64 10000))]⟩, ⟨[3, 3, 3]⟩⟩, 4, "", ⟨[]⟩, none⟩, some ((some 11), true), false⟩,
     ⟨⟨(some 15), .pick (.tmp 11) (.tmp 14) (.const (.bool false)), 4, "", ⟨[]⟩, none⟩, none, false⟩,
     ⟨⟨(some 16), .move (.tmp 15), 4, "", ⟨[]⟩, none⟩, none, false⟩,
     ⟨⟨(some 17), .fieldAddr 25 (.tmp 1) 3, 0, "", ⟨[]⟩, none⟩, some ((some 16), true), false⟩,
     ⟨⟨(some 18), .load 3 (.tmp 17), 3, "", ⟨[]⟩, none⟩, some ((some 16), true), false⟩,
     ⟨⟨(some 19), .call ⟨.value (.func 20), ⟨[(.tmp 18), (.const (.int .i64 1)), (.const (.int .i64 366))]⟩, ⟨[3, 3, 3]⟩⟩, 4, "", ⟨[]⟩, none⟩, some ((some 16), true), false⟩,
     ⟨⟨(some 20), .pick (.tmp 16) (.tmp 19) (.const (.bool false)), 4, "", ⟨[]⟩, none⟩, none, false⟩,
     ⟨⟨(some 21), .move (.tmp 20), 4, "", ⟨[]⟩, none⟩, none, false⟩,
     ⟨⟨(some 22), .fieldAddr 25 (.tmp 1) 4, 0, "", ⟨[]⟩, none⟩, some ((some 21), true), false⟩,
     ⟨⟨(some 23), .load 3 (.tmp 22), 3, "", ⟨[]⟩, none⟩, some ((some 21), true), false⟩,
     ⟨⟨(some 24), .call ⟨.value (.func 20), ⟨[(.tmp 23), (.const (.int .i64 0)), (.const (.int .i64 60))]⟩, ⟨[3, 3, 3]⟩⟩, 4, "", ⟨[]⟩, none⟩, some ((some 21), true), false⟩,
     ⟨⟨(some 25), .pick (.tmp 21) (.tmp 24) (.const (.bool false)), 4, "", ⟨[]⟩, none⟩, none, false⟩,
     ⟨⟨(some 2), .assign (.tmp 25), 4, "", ⟨[]⟩, none⟩, none, false⟩])
   .ret))
def Tryz.s18 : SC :=
 (.seq
  (.ops false [
    ⟨⟨(some 2), .assign (.const (.bool false)), 4, "", ⟨[]⟩, none⟩, none, false⟩])
  (.seq
   (.seq
    (.ops false [
      ⟨⟨(some 6), .move (.tmp 0), 26, "", ⟨[]⟩, none⟩, none, false⟩,
      ⟨⟨(some 7), .call ⟨.builtin .len, ⟨[(.tmp 6)]⟩, ⟨[26]⟩⟩, 3, "", ⟨[]⟩, none⟩, none, false⟩,
      ⟨⟨(some 8), .binOp .gtr 3 (.tmp 7) (.const (.int .i64 64)) 3, 4, "", ⟨[]⟩, none⟩, none, false⟩])
    (.cond (.tmp 8)
     (.seq
      (.ops false [
        ⟨⟨(some 2), .assign (.const (.bool false)), 4, "", ⟨[]⟩, none⟩, none, false⟩])
      .ret)
     .skip))
   (.seq
    (.ops false [
      ⟨⟨(some 3), .assign (.const (.int .i64 0)), 3, "", ⟨[]⟩, none⟩, none, false⟩])
    (.seq
     (.seq
      (.ops false [
        ⟨⟨(some 9), .move (.tmp 0), 26, "", ⟨[]⟩, none⟩, none, false⟩,
        ⟨⟨(some 10), .call ⟨.builtin .len, ⟨[(.tmp 9)]⟩, ⟨[26]⟩⟩, 3, "", ⟨[]⟩, none⟩, none, false⟩,
        ⟨⟨(some 11), .move (.const (.int .i64 0)), 3, "", ⟨[]⟩, none⟩, none, false⟩])
      (.block 0
       (.loop
        (.seq
         (.ops false [
           ⟨⟨(some 12), .binOp .lss 3 (.tmp 11) (.tmp 10) 3, 0, "", ⟨[]⟩, none⟩, none, false⟩])
         (.seq
          (.cond (.tmp 12)
           .skip
           (.exit 0))
          (.seq
           (.block 1
            (.seq
             (.ops false [
               ⟨⟨(some 13), .indexAddr 26 (.tmp 9) (.tmp 11), 0, "", ⟨[]⟩, none⟩, none, false⟩,
               ⟨⟨(some 14), .load 3 (.tmp 13), 3, "", ⟨[]⟩, none⟩, none, false⟩,
               ⟨⟨(some 5), .assign (.tmp 14), 3, "", ⟨[]⟩, none⟩, none, false⟩])
             (.seq
              (.seq
               (.ops false [
                 ⟨⟨(some 15), .move (.tmp 5), 3, "", ⟨[]⟩, none⟩, none, false⟩,
                 ⟨⟨(some 16), .move (.tmp 3), 3, "", ⟨[]⟩, none⟩, none, false⟩,
                 ⟨⟨(some 17), .call ⟨.value (.func 20), ⟨[(.tmp 15), (.tmp 16), (.const (.int .i64 36500))]⟩, ⟨[3, 3, 3]⟩⟩, 4, "", ⟨[]⟩, none⟩, none, false⟩,
                 ⟨⟨(some 18), .unOp .not 4 (.tmp 17), 4, "", ⟨[]⟩, none⟩, none, false⟩])
               (.cond (.tmp 18)
                (.seq
                 (.ops false [
                   ⟨⟨(some 2), .assign (.const (.bool false)), 4, "", ⟨[]⟩, none⟩, none, false⟩])
                 .ret)
                .skip))
              (.ops false [
                ⟨⟨(some 19), .move (.tmp 5), 3, "", ⟨[]⟩, none⟩, none, false⟩,
                ⟨⟨(some 20), .binOp .add 3 (.tmp 19) (.const (.int .i64 1)) 3, 3, "", ⟨[]⟩, none⟩, none, false⟩,
                ⟨⟨(some 3), .assign (.tmp 20), 3, "", ⟨[]⟩, none⟩, none, false⟩]))))
           (.ops false [
             ⟨⟨(some 21), .binOp .add 3 (.tmp 11) (.const (.int .i64 1)) 3, 3, "", ⟨[]⟩, none⟩, none, false⟩,
             ⟨⟨(some 11), .move (.tmp 21), 3, "", ⟨[]⟩, none⟩, none, false⟩])))))))
     (.seq
      (.ops false [
        ⟨⟨(some 2), .assign (.const (.bool true)), 4, "", ⟨[]⟩, none⟩, none, false⟩])
      .ret)))))
def Tryz.s7 : SC :=
 (.seq
  (.ops false [
    ⟨⟨(some 1), .box 28 (.tmp 0), 0, "", ⟨[]⟩, none⟩, none, false⟩,
    ⟨⟨(some 2), .assign (.const (.int .i64 0)), 31, "", ⟨[]⟩, none⟩, none, false⟩])
  (.seq
   (.seq
    (.ops false [
      ⟨⟨(some 3), .fieldAddr 28 (.tmp 1) 0, 0, "", ⟨[]⟩, none⟩, none, false⟩,
      ⟨⟨(some 4), .load 23 (.tmp 3), 23, "", ⟨[]⟩, none⟩, none, false⟩,
      ⟨⟨(some 5), .call ⟨.value (.func 16), ⟨[(.tmp 4)]⟩, ⟨[23]⟩⟩, 4, "", ⟨[]⟩, none⟩, none, false⟩,
      ⟨⟨(some 6), .unOp .not 4 (.tmp 5), 4, "", ⟨[]⟩, none⟩, none, false⟩,
      ⟨⟨(some 7), .move (.tmp 6), 4, "", ⟨[]⟩, none⟩, none, false⟩,
      ⟨⟨(some 8), .fieldAddr 28 (.tmp 1) 1, 0, "", ⟨[]⟩, none⟩, some ((some 7), false), false⟩,
      ⟨⟨(some 9), .load 25 (.tmp 8), 25, "", ⟨[]⟩, none⟩, some ((some 7), false), false⟩,
      ⟨⟨(some 10), .call ⟨.value (.func 17), ⟨[(.tmp 9)]⟩, ⟨[25]⟩⟩, 4, "", ⟨[]⟩, none⟩, some ((some 7), false), false⟩,
      ⟨⟨(some 11), .unOp .not 4 (.tmp 10), 4, "", ⟨[]⟩, none⟩, some ((some 7), false), false⟩,
      ⟨⟨(some 12), .pick (.tmp 7) (.const (.bool true)) (.tmp 11), 4, "", ⟨[]⟩, none⟩, none, false⟩,
      ⟨⟨(some 13), .move (.tmp 12), 4, "", ⟨[]⟩, none⟩, none, false⟩,
      ⟨⟨(some 14), .fieldAddr 28 (.tmp 1) 2, 0, "", ⟨[]⟩, none⟩, some ((some 13), false), false⟩,
      ⟨⟨(some 15), .load 26 (.tmp 14), 26, "", ⟨[]⟩, none⟩, some ((some 13), false), false⟩,
      ⟨⟨(some 16), .call ⟨.value (.func 18), ⟨[(.tmp 15)]⟩, ⟨[26]⟩⟩, 4, "", ⟨[]⟩, none⟩, some ((some 13), false), false⟩,
      ⟨⟨(some 17), .unOp .not 4 (.tmp 16), 4, "", ⟨[]⟩, none⟩, some ((some 13), false), false⟩,
      ⟨⟨(some 18), .pick (.tmp 13) (.const (.bool true)) (.tmp 17), 4, "", ⟨[]⟩, none⟩, none, false⟩,
      ⟨⟨(some 19), .move (.tmp 18), 4, "", ⟨[]⟩, none⟩, none, false⟩,
      ⟨⟨(some 20), .fieldAddr 28 (.tmp 1) 3, 0, "", ⟨[]⟩, none⟩, some ((some 19), false), false⟩,
      ⟨⟨(some 21), .load 3 (.tmp 20), 3, "", ⟨[]⟩, none⟩, some ((some 19), false), false⟩,
      ⟨⟨(some 22), .call ⟨.value (.func 19), ⟨[(.tmp 21)]⟩, ⟨[3]⟩⟩, 4, "", ⟨[]⟩, none⟩, some ((some 19), false), false⟩,
      ⟨⟨(some 23), .unOp .not 4 (.tmp 22), 4, "", ⟨[]⟩, none⟩, some ((some 19), false), false⟩,
      ⟨⟨(some 24), .pick (.tmp 19) (.const (.bool true)) (.tmp 23), 4, "", ⟨[]⟩, none⟩, none, false⟩,
      ⟨⟨(some 25), .move (.tmp 24), 4, "", ⟨[]⟩, none⟩, none, false⟩,
      ⟨⟨(some 26), .fieldAddr 28 (.tmp 1) 4, 0, "", ⟨[]⟩, none⟩, some ((some 25), false), false⟩,
      ⟨⟨(some 27), .load 3 (.tmp 26), 3, "", ⟨[]⟩, none⟩, some ((some 25), false), false⟩,
      ⟨⟨(some 28), .call ⟨.value (.func 20), ⟨[(.tmp 27), (.const (.int .i64 1)), (.const (.int .i64 1073741824))]⟩, ⟨[3, 3, 3]⟩⟩, 4, "", ⟨[]⟩, none⟩, some ((some 25), false), false⟩,
      ⟨⟨(some 29), .unOp .not 4 (.tmp 28), 4, "", ⟨[]⟩, none⟩, some ((some 25), false), false⟩,
      ⟨⟨(some 30), .pick (.tmp 25) (.const (.bool true)) (.tmp 29), 4, "", ⟨[]⟩, none⟩, none, false⟩])
    (.cond (.tmp 30)
     (.seq
      (.ops false [
        ⟨⟨(some 2), .assign (.const (.int .i64 23)), 31, "", ⟨[]⟩, none⟩, none, false⟩])
      .ret)
     .skip))
   (.seq
    (.ops false [
      ⟨⟨(some 2), .assign (.const (.int .i64 0)), 31, "", ⟨[]⟩, none⟩, none, false⟩])
    .ret)))
def Tryz.s57 : SC :=
 (.seq
  (.ops false [
    ⟨⟨(some 1), .box 25 (.tmp 0), 0, "", ⟨[]⟩, none⟩, none, false⟩,
    ⟨⟨(some 2), .assign (.const (.int .i64 0)), 3, "", ⟨[]⟩, none⟩, none, false⟩])
  (.seq
   (.ops false [
     ⟨⟨(some 3), .fieldAddr 25 (.tmp 1) 3, 0, "", ⟨[]⟩, none⟩, none, false⟩,
     ⟨⟨(some 4), .load 3 (.tmp 3), 3, "", ⟨[]⟩, none⟩, none, false⟩,
     ⟨⟨(some 5), .fieldAddr 25 (.tmp 1) 4, 0, "", ⟨[]⟩, none⟩, none, false⟩,
     ⟨⟨(some 6), .load 3 (.tmp 5), 3, "", ⟨[]⟩, none⟩, none, false⟩,
     ⟨⟨(some 7), .binOp .add 3 (.tmp 4) (.tmp 6) 3, 3, "", ⟨[]⟩, none⟩, none, false⟩,
     ⟨⟨(some 2), .assign (.tmp 7), 3, "", ⟨[]⟩, none⟩, none, false⟩])
   .ret))
def Tryz.s52 : SC :=
 (.seq
  (.ops false [
    ⟨⟨(some 2), .box 28 (.tmp 0), 0, "", ⟨[]⟩, none⟩, none, false⟩,
    ⟨⟨(some 4), .assign (.const (.int .i64 0)), 3, "", ⟨[]⟩, none⟩, none, false⟩])
  (.seq
   (.ops false [
     ⟨⟨(some 8), .move (.tmp 1), 3, "", ⟨[]⟩, none⟩, none, false⟩,
     ⟨⟨(some 9), .fieldAddr 28 (.tmp 2) 1, 0, "", ⟨[]⟩, none⟩, none, false⟩,
     ⟨⟨(some 10), .load 25 (.tmp 9), 25, "", ⟨[]⟩, none⟩, none, false⟩,
     ⟨⟨(some 11), .call ⟨.value (.func 57), ⟨[(.tmp 10)]⟩, ⟨[25]⟩⟩, 3, "", ⟨[]⟩, none⟩, none, false⟩,
     ⟨⟨(some 12), .binOp .add 3 (.tmp 8) (.tmp 11) 3, 3, "", ⟨[]⟩, none⟩, none, false⟩,
     ⟨⟨(some 5), .assign (.tmp 12), 3, "", ⟨[]⟩, none⟩, none, false⟩])
   (.seq
    (.seq
     (.ops false [
       ⟨⟨(some 13), .fieldAddr 28 (.tmp 2) 2, 0, "", ⟨[]⟩, none⟩, none, false⟩,
       ⟨⟨(some 14), .load 26 (.tmp 13), 26, "", ⟨[]⟩, none⟩, none, false⟩,
       ⟨⟨(some 15), .call ⟨.builtin .len, ⟨[(.tmp 14)]⟩, ⟨[26]⟩⟩, 3, "", ⟨[]⟩, none⟩, none, false⟩,
       ⟨⟨(some 16), .move (.const (.int .i64 0)), 3, "", ⟨[]⟩, none⟩, none, false⟩])
     (.block 0
      (.loop
       (.seq
        (.ops false [
          ⟨⟨(some 17), .binOp .lss 3 (.tmp 16) (.tmp 15) 3, 0, "", ⟨[]⟩, none⟩, none, false⟩])
        (.seq
         (.cond (.tmp 17)
          .skip
          (.exit 0))
         (.seq
          (.block 1
           (.seq
            (.ops false [
              ⟨⟨(some 18), .indexAddr 26 (.tmp 14) (.tmp 16), 0, "", ⟨[]⟩, none⟩, none, false⟩,
              ⟨⟨(some 19), .load 3 (.tmp 18), 3, "", ⟨[]⟩, none⟩, none, false⟩,
              ⟨⟨(some 7), .assign (.tmp 19), 3, "", ⟨[]⟩, none⟩, none, false⟩])
            (.seq
             (.ops false [
               ⟨⟨(some 20), .move (.tmp 1), 3, "", ⟨[]⟩, none⟩, none, false⟩,
               ⟨⟨(some 21), .move (.tmp 7), 3, "", ⟨[]⟩, none⟩, none, false⟩,
               ⟨⟨(some 22), .binOp .lss 3 (.tmp 20) (.tmp 21) 3, 4, "", ⟨[]⟩, none⟩, none, false⟩,
               ⟨⟨(some 23), .move (.tmp 22), 4, "", ⟨[]⟩, none⟩, none, false⟩,
               ⟨⟨(some 24), .move (.tmp 7), 3, "", ⟨[]⟩, none⟩, some ((some 23), true), false⟩,
               ⟨⟨(some 25), .move (.tmp 5), 3, "", ⟨[]⟩, none⟩, some ((some 23), true), false⟩,
               ⟨⟨(some 26), .binOp .add 3 (.tmp 25) (.const (.int .i64 1)) 3, 3, "", ⟨[]⟩, none⟩, some ((some 23), true), false⟩,
               ⟨⟨(some 27), .binOp .leq 3 (.tmp 24) (.tmp 26) 3, 4, "", ⟨[]⟩, none⟩, some ((some 23), true), false⟩,
               ⟨⟨(some 28), .pick (.tmp 23) (.tmp 27) (.const (.bool false)), 4, "", ⟨[]⟩, none⟩, none, false⟩])
             (.cond (.tmp 28)
              (.ops false [
                ⟨⟨(some 29), .move (.tmp 5), 3, "", ⟨[]⟩, none⟩, none, false⟩,
                ⟨⟨(some 30), .binOp .add 3 (.tmp 29) (.const (.int .i64 1)) 3, 3, "", ⟨[]⟩, none⟩, none, false⟩,
                ⟨⟨(some 5), .assign (.tmp 30), 3, "", ⟨[]⟩, none⟩, none, false⟩])
              .skip))))
          (.ops false [
            ⟨⟨(some 31), .binOp .add 3 (.tmp 16) (.const (.int .i64 1)) 3, 3, "", ⟨[]⟩, none⟩, none, false⟩,
            ⟨⟨(some 16), .move (.tmp 31), 3, "", ⟨[]⟩, none⟩, none, false⟩])))))))
    (.seq
     (.ops false [
       ⟨⟨(some 32), .move (.tmp 5), 3, "", ⟨[]⟩, none⟩, none, false⟩,
       ⟨⟨(some 4), .assign (.tmp 32), 3, "", ⟨[]⟩, none⟩, none, false⟩])
     .ret))))
def Tryz.s62 : SC :=
 (.seq
  (.ops false [
    ⟨⟨(some 4), .assign (.const (.int .i64 0)), 3, "", ⟨[]⟩, none⟩, none, false⟩])
  (.seq
   (.seq
    (.ops false [
      ⟨⟨(some 5), .assign (.const (.int .i64 0)), 3, "", ⟨[]⟩, none⟩, none, false⟩])
    (.block 0
     (.loop
      (.seq
       (.seq
        (.ops false [
          ⟨⟨(some 6), .move (.tmp 5), 3, "", ⟨[]⟩, none⟩, none, false⟩,
          ⟨⟨(some 7), .move (.tmp 0), 26, "", ⟨[]⟩, none⟩, none, false⟩,
          ⟨⟨(some 8), .call ⟨.builtin .len, ⟨[(.tmp 7)]⟩, ⟨[26]⟩⟩, 3, "", ⟨[]⟩, none⟩, none, false⟩,
          ⟨⟨(some 9), .binOp .lss 3 (.tmp 6) (.tmp 8) 3, 4, "", ⟨[]⟩, none⟩, none, false⟩])
        (.cond (.tmp 9)
         .skip
         (.exit 0)))
       (.seq
        (.block 1
         (.seq
          (.ops false [
            ⟨⟨(some 12), .move (.tmp 0), 26, "", ⟨[]⟩, none⟩, none, false⟩,
            ⟨⟨(some 13), .move (.tmp 5), 3, "", ⟨[]⟩, none⟩, none, false⟩,
            ⟨⟨(some 14), .indexAddr 26 (.tmp 12) (.tmp 13), 0, "", ⟨[]⟩, none⟩, none, false⟩,
            ⟨⟨(some 15), .load 3 (.tmp 14), 3, "", ⟨[]⟩, none⟩, none, false⟩,
            ⟨⟨(some 16), .move (.tmp 1), 3, "", ⟨[]⟩, none⟩, none, false⟩,
            ⟨⟨(some 17), .binOp .eql 3 (.tmp 15) (.tmp 16) 3, 4, "", ⟨[]⟩, none⟩, none, false⟩])
          (.cond (.tmp 17)
           (.seq
            (.ops false [
              ⟨⟨(some 18), .move (.tmp 5), 3, "", ⟨[]⟩, none⟩, none, false⟩,
              ⟨⟨(some 4), .assign (.tmp 18), 3, "", ⟨[]⟩, none⟩, none, false⟩])
            .ret)
           .skip)))
        (.ops false [
          ⟨⟨(some 10), .move (.tmp 5), 3, "", ⟨[]⟩, none⟩, none, false⟩,
          ⟨⟨(some 11), .binOp .add 3 (.tmp 10) (.const (.int .i64 1)) 3, 3, "", ⟨[]⟩, none⟩, none, false⟩,
          ⟨⟨(some 5), .assign (.tmp 11), 3, "", ⟨[]⟩, none⟩, none, false⟩]))))))
   (.seq
    (.ops false [
      ⟨⟨(some 4), .assign (.const (.int .i64 (-1))), 3, "", ⟨[]⟩, none⟩, none, false⟩])
    .ret)))
theorem Tryz.s20_eq : Tryz.f20.body.map sOf = some Tryz.s20 := by kernel_rfl
theorem Tryz.s21_eq : Tryz.f21.body.map sOf = some Tryz.s21 := by kernel_rfl
theorem Tryz.s19_eq : Tryz.f19.body.map sOf = some Tryz.s19 := by kernel_rfl
theorem Tryz.s16_eq : Tryz.f16.body.map sOf = some Tryz.s16 := by kernel_rfl
theorem Tryz.s17_eq : Tryz.f17.body.map sOf = some Tryz.s17 := by kernel_rfl
theorem Tryz.s18_eq : Tryz.f18.body.map sOf = some Tryz.s18 := by kernel_rfl
theorem Tryz.s7_eq : Tryz.f7.body.map sOf = some Tryz.s7 := by kernel_rfl
theorem Tryz.s57_eq : Tryz.f57.body.map sOf = some Tryz.s57 := by kernel_rfl
theorem Tryz.s52_eq : Tryz.f52.body.map sOf = some Tryz.s52 := by kernel_rfl
theorem Tryz.s62_eq : Tryz.f62.body.map sOf = some Tryz.s62 := by kernel_rfl
end Go.Proofs
