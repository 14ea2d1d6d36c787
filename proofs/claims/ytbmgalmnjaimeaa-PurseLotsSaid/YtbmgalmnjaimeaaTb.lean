/- The stripped code of the functions that share out. -/
import Derived.Test.YtbmgalmnjaimeaaTa
import Derived.Test.YtbmgalmnjaimeaaNa
set_option linter.unusedVariables false
set_option linter.unusedSimpArgs false
/- Functions' code, as the machine reads it. -/
namespace Go.Proofs
open Go Go.RowKit Go.Sim
set_option maxRecDepth 100000
def Try.s14 : SC :=
 (.seq
  (.ops false [
    ⟨⟨(some 4), .assign (.const (.slice none 0 0)), 22, "", ⟨[]⟩, none⟩, none, false⟩,
    ⟨⟨(some 5), .assign (.const (.int .i64 0)), 24, "", ⟨[]⟩, none⟩, none, false⟩])
  (.seq
   (.seq
    (.ops false [
      ⟨⟨(some 6), .move (.tmp 0), 22, "", ⟨[]⟩, none⟩, none, false⟩,
      ⟨⟨(some 7), .call ⟨.value (.func 47), ⟨[(.tmp 6)]⟩, ⟨[22]⟩⟩, 4, "", ⟨[]⟩, none⟩, none, false⟩,
      ⟨⟨(some 8), .unOp .not 4 (.tmp 7), 4, "", ⟨[]⟩, none⟩, none, false⟩])
    (.cond (.tmp 8)
     (.seq
      (.ops false [
        ⟨⟨(some 4), .assign (.const (.slice none 0 0)), 22, "", ⟨[]⟩, none⟩, none, false⟩,
        ⟨⟨(some 5), .assign (.const (.int .i64 70)), 24, "", ⟨[]⟩, none⟩, none, false⟩])
      .ret)
     .skip))
   (.seq
    (.seq
     (.ops false [
       ⟨⟨(some 9), .move (.tmp 1), 3, "", ⟨[]⟩, none⟩, none, false⟩,
       ⟨⟨(some 10), .call ⟨.value (.func 48), ⟨[(.tmp 9)]⟩, ⟨[3]⟩⟩, 4, "", ⟨[]⟩, none⟩, none, false⟩,
       ⟨⟨(some 11), .unOp .not 4 (.tmp 10), 4, "", ⟨[]⟩, none⟩, none, false⟩])
     (.cond (.tmp 11)
      (.seq
       (.ops false [
         ⟨⟨(some 4), .assign (.const (.slice none 0 0)), 22, "", ⟨[]⟩, none⟩, none, false⟩,
         ⟨⟨(some 5), .assign (.const (.int .i64 7)), 24, "", ⟨[]⟩, none⟩, none, false⟩])
       .ret)
      .skip))
    (.seq
     (.ops false [
       ⟨⟨(some 12), .move (.tmp 0), 22, "", ⟨[]⟩, none⟩, none, false⟩,
       ⟨⟨(some 13), .move (.tmp 1), 3, "", ⟨[]⟩, none⟩, none, false⟩,
       ⟨⟨(some 14), .call ⟨.value (.func 49), ⟨[(.tmp 12), (.tmp 13)]⟩, ⟨[22, 3]⟩⟩, 22, "", ⟨[]⟩, none⟩, none, false⟩,
       ⟨⟨(some 4), .assign (.tmp 14), 22, "", ⟨[]⟩, none⟩, none, false⟩,
       ⟨⟨(some 5), .assign (.const (.int .i64 0)), 24, "", ⟨[]⟩, none⟩, none, false⟩])
     .ret))))
def Try.s15 : SC :=
 (.seq
  (.ops false [
    ⟨⟨(some 4), .assign (.const (.slice none 0 0)), 22, "", ⟨[]⟩, none⟩, none, false⟩,
    ⟨⟨(some 5), .assign (.const (.int .i64 0)), 24, "", ⟨[]⟩, none⟩, none, false⟩])
  (.seq
   (.seq
    (.ops false [
      ⟨⟨(some 6), .move (.tmp 0), 22, "", ⟨[]⟩, none⟩, none, false⟩,
      ⟨⟨(some 7), .call ⟨.value (.func 50), ⟨[(.tmp 6)]⟩, ⟨[22]⟩⟩, 4, "", ⟨[]⟩, none⟩, none, false⟩,
      ⟨⟨(some 8), .unOp .not 4 (.tmp 7), 4, "", ⟨[]⟩, none⟩, none, false⟩])
    (.cond (.tmp 8)
     (.seq
      (.ops false [
        ⟨⟨(some 4), .assign (.const (.slice none 0 0)), 22, "", ⟨[]⟩, none⟩, none, false⟩,
        ⟨⟨(some 5), .assign (.const (.int .i64 70)), 24, "", ⟨[]⟩, none⟩, none, false⟩])
      .ret)
     .skip))
   (.seq
    (.seq
     (.ops false [
       ⟨⟨(some 9), .move (.tmp 1), 3, "", ⟨[]⟩, none⟩, none, false⟩,
       ⟨⟨(some 10), .call ⟨.value (.func 36), ⟨[(.const (.int .i64 0)), (.tmp 9), (.const (.int .i64 34359738368))]⟩, ⟨[3, 3, 3]⟩⟩, 4, "", ⟨[]⟩, none⟩, none, false⟩,
       ⟨⟨(some 11), .unOp .not 4 (.tmp 10), 4, "", ⟨[]⟩, none⟩, none, false⟩])
     (.cond (.tmp 11)
      (.seq
       (.ops false [
         ⟨⟨(some 4), .assign (.const (.slice none 0 0)), 22, "", ⟨[]⟩, none⟩, none, false⟩,
         ⟨⟨(some 5), .assign (.const (.int .i64 7)), 24, "", ⟨[]⟩, none⟩, none, false⟩])
       .ret)
      .skip))
    (.seq
     (.ops false [
       ⟨⟨(some 12), .move (.tmp 0), 22, "", ⟨[]⟩, none⟩, none, false⟩,
       ⟨⟨(some 13), .move (.tmp 1), 3, "", ⟨[]⟩, none⟩, none, false⟩,
       ⟨⟨(some 14), .call ⟨.value (.func 51), ⟨[(.tmp 12), (.tmp 13)]⟩, ⟨[22, 3]⟩⟩, 22, "", ⟨[]⟩, none⟩, none, false⟩,
       ⟨⟨(some 4), .assign (.tmp 14), 22, "", ⟨[]⟩, none⟩, none, false⟩,
       ⟨⟨(some 5), .assign (.const (.int .i64 0)), 24, "", ⟨[]⟩, none⟩, none, false⟩])
     .ret))))
def Try.s17 : SC :=
 (.seq
  (.ops false [
    ⟨⟨(some 4), .assign (.const (.slice none 0 0)), 22, "", ⟨[]⟩, none⟩, none, false⟩,
    ⟨⟨(some 5), .assign (.const (.int .i64 0)), 3, "", ⟨[]⟩, none⟩, none, false⟩,
    ⟨⟨(some 6), .assign (.const (.int .i64 0)), 24, "", ⟨[]⟩, none⟩, none, false⟩])
  (.seq
   (.seq
    (.ops false [
      ⟨⟨(some 7), .move (.tmp 0), 23, "", ⟨[]⟩, none⟩, none, false⟩,
      ⟨⟨(some 8), .call ⟨.value (.func 52), ⟨[(.tmp 7)]⟩, ⟨[23]⟩⟩, 4, "", ⟨[]⟩, none⟩, none, false⟩,
      ⟨⟨(some 9), .unOp .not 4 (.tmp 8), 4, "", ⟨[]⟩, none⟩, none, false⟩])
    (.cond (.tmp 9)
     (.seq
      (.ops false [
        ⟨⟨(some 4), .assign (.const (.slice none 0 0)), 22, "", ⟨[]⟩, none⟩, none, false⟩,
        ⟨⟨(some 5), .assign (.const (.int .i64 0)), 3, "", ⟨[]⟩, none⟩, none, false⟩,
        ⟨⟨(some 6), .assign (.const (.int .i64 71)), 24, "", ⟨[]⟩, none⟩, none, false⟩])
      .ret)
     .skip))
   (.seq
    (.seq
     (.ops false [
       ⟨⟨(some 10), .move (.tmp 1), 3, "", ⟨[]⟩, none⟩, none, false⟩,
       ⟨⟨(some 11), .call ⟨.value (.func 48), ⟨[(.tmp 10)]⟩, ⟨[3]⟩⟩, 4, "", ⟨[]⟩, none⟩, none, false⟩,
       ⟨⟨(some 12), .unOp .not 4 (.tmp 11), 4, "", ⟨[]⟩, none⟩, none, false⟩])
     (.cond (.tmp 12)
      (.seq
       (.ops false [
         ⟨⟨(some 4), .assign (.const (.slice none 0 0)), 22, "", ⟨[]⟩, none⟩, none, false⟩,
         ⟨⟨(some 5), .assign (.const (.int .i64 0)), 3, "", ⟨[]⟩, none⟩, none, false⟩,
         ⟨⟨(some 6), .assign (.const (.int .i64 7)), 24, "", ⟨[]⟩, none⟩, none, false⟩])
       .ret)
      .skip))
    (.seq
     (.ops false [
       ⟨⟨(some 14), .move (.tmp 0), 23, "", ⟨[]⟩, none⟩, none, false⟩,
       ⟨⟨(some 15), .move (.tmp 1), 3, "", ⟨[]⟩, none⟩, none, false⟩,
       ⟨⟨(some 16), .call ⟨.value (.func 53), ⟨[(.tmp 14), (.tmp 15)]⟩, ⟨[23, 3]⟩⟩, 104, "", ⟨[]⟩, none⟩, none, false⟩,
       ⟨⟨(some 13), .move (.tmp 16), 104, "", ⟨[]⟩, none⟩, none, false⟩,
       ⟨⟨(some 17), .extract (.tmp 13) 0, 22, "", ⟨[]⟩, none⟩, none, false⟩,
       ⟨⟨(some 18), .extract (.tmp 13) 1, 3, "", ⟨[]⟩, none⟩, none, false⟩,
       ⟨⟨(some 4), .assign (.tmp 17), 22, "", ⟨[]⟩, none⟩, none, false⟩,
       ⟨⟨(some 5), .assign (.tmp 18), 3, "", ⟨[]⟩, none⟩, none, false⟩])
     (.seq
      (.ops false [
        ⟨⟨(some 19), .move (.tmp 4), 22, "", ⟨[]⟩, none⟩, none, false⟩,
        ⟨⟨(some 20), .move (.tmp 5), 3, "", ⟨[]⟩, none⟩, none, false⟩,
        ⟨⟨(some 4), .assign (.tmp 19), 22, "", ⟨[]⟩, none⟩, none, false⟩,
        ⟨⟨(some 5), .assign (.tmp 20), 3, "", ⟨[]⟩, none⟩, none, false⟩,
        ⟨⟨(some 6), .assign (.const (.int .i64 0)), 24, "", ⟨[]⟩, none⟩, none, false⟩])
      .ret)))))
def Try.s18 : SC :=
 (.seq
  (.ops false [
    ⟨⟨(some 4), .assign (.const (.slice none 0 0)), 22, "", ⟨[]⟩, none⟩, none, false⟩,
    ⟨⟨(some 5), .assign (.const (.int .i64 0)), 3, "", ⟨[]⟩, none⟩, none, false⟩,
    ⟨⟨(some 6), .assign (.const (.int .i64 0)), 24, "", ⟨[]⟩, none⟩, none, false⟩])
  (.seq
   (.seq
    (.ops false [
      ⟨⟨(some 9), .move (.tmp 0), 23, "", ⟨[]⟩, none⟩, none, false⟩,
      ⟨⟨(some 10), .call ⟨.value (.func 54), ⟨[(.tmp 9)]⟩, ⟨[23]⟩⟩, 4, "", ⟨[]⟩, none⟩, none, false⟩,
      ⟨⟨(some 11), .unOp .not 4 (.tmp 10), 4, "", ⟨[]⟩, none⟩, none, false⟩])
    (.cond (.tmp 11)
     (.seq
      (.ops false [
        ⟨⟨(some 4), .assign (.const (.slice none 0 0)), 22, "", ⟨[]⟩, none⟩, none, false⟩,
        ⟨⟨(some 5), .assign (.const (.int .i64 0)), 3, "", ⟨[]⟩, none⟩, none, false⟩,
        ⟨⟨(some 6), .assign (.const (.int .i64 71)), 24, "", ⟨[]⟩, none⟩, none, false⟩])
      .ret)
     .skip))
   (.seq
    (.seq
     (.ops false [
       ⟨⟨(some 12), .move (.tmp 1), 3, "", ⟨[]⟩, none⟩, none, false⟩,
       ⟨⟨(some 13), .call ⟨.value (.func 36), ⟨[(.const (.int .i64 0)), (.tmp 12), (.const (.int .i64 34359738368))]⟩, ⟨[3, 3, 3]⟩⟩, 4, "", ⟨[]⟩, none⟩, none, false⟩,
       ⟨⟨(some 14), .unOp .not 4 (.tmp 13), 4, "", ⟨[]⟩, none⟩, none, false⟩])
     (.cond (.tmp 14)
      (.seq
       (.ops false [
         ⟨⟨(some 4), .assign (.const (.slice none 0 0)), 22, "", ⟨[]⟩, none⟩, none, false⟩,
         ⟨⟨(some 5), .assign (.const (.int .i64 0)), 3, "", ⟨[]⟩, none⟩, none, false⟩,
         ⟨⟨(some 6), .assign (.const (.int .i64 7)), 24, "", ⟨[]⟩, none⟩, none, false⟩])
       .ret)
      .skip))
    (.seq
     (.ops false [
       ⟨⟨(some 16), .move (.tmp 0), 23, "", ⟨[]⟩, none⟩, none, false⟩,
       ⟨⟨(some 17), .move (.tmp 1), 3, "", ⟨[]⟩, none⟩, none, false⟩,
       ⟨⟨(some 18), .call ⟨.value (.func 55), ⟨[(.tmp 16), (.tmp 17)]⟩, ⟨[23, 3]⟩⟩, 104, "", ⟨[]⟩, none⟩, none, false⟩,
       ⟨⟨(some 15), .move (.tmp 18), 104, "", ⟨[]⟩, none⟩, none, false⟩,
       ⟨⟨(some 19), .extract (.tmp 15) 0, 22, "", ⟨[]⟩, none⟩, none, false⟩,
       ⟨⟨(some 20), .extract (.tmp 15) 1, 3, "", ⟨[]⟩, none⟩, none, false⟩,
       ⟨⟨(some 7), .assign (.tmp 19), 22, "", ⟨[]⟩, none⟩, none, false⟩,
       ⟨⟨(some 8), .assign (.tmp 20), 3, "", ⟨[]⟩, none⟩, none, false⟩])
     (.seq
      (.ops false [
        ⟨⟨(some 21), .move (.tmp 7), 22, "", ⟨[]⟩, none⟩, none, false⟩,
        ⟨⟨(some 22), .move (.tmp 8), 3, "", ⟨[]⟩, none⟩, none, false⟩,
        ⟨⟨(some 4), .assign (.tmp 21), 22, "", ⟨[]⟩, none⟩, none, false⟩,
        ⟨⟨(some 5), .assign (.tmp 22), 3, "", ⟨[]⟩, none⟩, none, false⟩,
        ⟨⟨(some 6), .assign (.const (.int .i64 0)), 24, "", ⟨[]⟩, none⟩, none, false⟩])
      .ret)))))
def Try.s35 : SC :=
 (.seq
  (.ops false [
    ⟨⟨(some 2), .assign (.const (.int .i64 0)), 3, "", ⟨[]⟩, none⟩, none, false⟩])
  (.seq
   (.ops false [
     ⟨⟨(some 3), .assign (.const (.int .i64 0)), 3, "", ⟨[]⟩, none⟩, none, false⟩])
   (.seq
    (.seq
     (.ops false [
       ⟨⟨(some 4), .assign (.const (.int .i64 0)), 3, "", ⟨[]⟩, none⟩, none, false⟩])
     (.block 0
      (.loop
       (.seq
        (.seq
         (.ops false [
           ⟨⟨(some 5), .move (.tmp 4), 3, "", ⟨[]⟩, none⟩, none, false⟩,
           ⟨⟨(some 6), .move (.tmp 0), 22, "", ⟨[]⟩, none⟩, none, false⟩,
           ⟨⟨(some 7), .call ⟨.builtin .len, ⟨[(.tmp 6)]⟩, ⟨[22]⟩⟩, 3, "", ⟨[]⟩, none⟩, none, false⟩,
           ⟨⟨(some 8), .binOp .lss 3 (.tmp 5) (.tmp 7) 3, 4, "", ⟨[]⟩, none⟩, none, false⟩])
         (.cond (.tmp 8)
          .skip
          (.exit 0)))
        (.seq
         (.block 1
          (.ops false [
            ⟨⟨(some 11), .move (.tmp 3), 3, "", ⟨[]⟩, none⟩, none, false⟩,
            ⟨⟨(some 12), .move (.tmp 0), 22, "", ⟨[]⟩, none⟩, none, false⟩,
            ⟨⟨(some 13), .move (.tmp 4), 3, "", ⟨[]⟩, none⟩, none, false⟩,
            ⟨⟨(some 14), .indexAddr 22 (.tmp 12) (.tmp 13), 0, "", ⟨[]⟩, none⟩, none, false⟩,
            ⟨⟨(some 15), .load 3 (.tmp 14), 3, "", ⟨[]⟩, none⟩, none, false⟩,
            ⟨⟨(some 16), .binOp .add 3 (.tmp 11) (.tmp 15) 3, 3, "", ⟨[]⟩, none⟩, none, false⟩,
            ⟨⟨(some 3), .assign (.tmp 16), 3, "", ⟨[]⟩, none⟩, none, false⟩]))
         (.ops false [
           ⟨⟨(some 9), .move (.tmp 4), 3, "", ⟨[]⟩, none⟩, none, false⟩,
           ⟨⟨(some 10), .binOp .add 3 (.tmp 9) (.const (.int .i64 1)) 3, 3, "", ⟨[]⟩, none⟩, none, false⟩,
           ⟨⟨(some 4), .assign (.tmp 10), 3, "", ⟨[]⟩, none⟩, none, false⟩]))))))
    (.seq
     (.ops false [
       ⟨⟨(some 17), .move (.tmp 3), 3, "", ⟨[]⟩, none⟩, none, false⟩,
       ⟨⟨(some 2), .assign (.tmp 17), 3, "", ⟨[]⟩, none⟩, none, false⟩])
     .ret))))
def Try.s36 : SC :=
 (.seq
  (.ops false [
    ⟨⟨(some 6), .assign (.const (.bool false)), 4, "", ⟨[]⟩, none⟩, none, false⟩])
  (.seq
   (.ops false [
     ⟨⟨(some 7), .move (.tmp 0), 3, "", ⟨[]⟩, none⟩, none, false⟩,
     ⟨⟨(some 8), .move (.tmp 1), 3, "", ⟨[]⟩, none⟩, none, false⟩,
     ⟨⟨(some 9), .binOp .leq 3 (.tmp 7) (.tmp 8) 3, 4, "", ⟨[]⟩, none⟩, none, false⟩,
     ⟨⟨(some 10), .move (.tmp 9), 4, "", ⟨[]⟩, none⟩, none, false⟩,
     ⟨⟨(some 11), .move (.tmp 1), 3, "", ⟨[]⟩, none⟩, some ((some 10), true), false⟩,
     ⟨⟨(some 12), .move (.tmp 2), 3, "", ⟨[]⟩, none⟩, some ((some 10), true), false⟩,
     ⟨⟨(some 13), .binOp .leq 3 (.tmp 11) (.tmp 12) 3, 4, "", ⟨[]⟩, none⟩, some ((some 10), true), false⟩,
     ⟨⟨(some 14), .pick (.tmp 10) (.tmp 13) (.const (.bool false)), 4, "", ⟨[]⟩, none⟩, none, false⟩,
     ⟨⟨(some 6), .assign (.tmp 14), 4, "", ⟨[]⟩, none⟩, none, false⟩])
   .ret))
def Try.s37 : SC :=
 (.seq
  (.ops false [
    ⟨⟨(some 4), .assign (.const (.int .i64 0)), 3, "", ⟨[]⟩, none⟩, none, false⟩])
  (.seq
   (.ops false [
     ⟨⟨(some 6), .move (.tmp 0), 3, "", ⟨[]⟩, none⟩, none, false⟩,
     ⟨⟨(some 7), .move (.tmp 1), 3, "", ⟨[]⟩, none⟩, none, false⟩,
     ⟨⟨(some 8), .binOp .quo 3 (.tmp 6) (.tmp 7) 3, 3, "", ⟨[]⟩, none⟩, none, false⟩,
     ⟨⟨(some 5), .assign (.tmp 8), 3, "", ⟨[]⟩, none⟩, none, false⟩])
   (.seq
    (.seq
     (.ops false [
       ⟨⟨(some 9), .move (.tmp 5), 3, "", ⟨[]⟩, none⟩, none, false⟩,
       ⟨⟨(some 10), .move (.tmp 1), 3, "", ⟨[]⟩, none⟩, none, false⟩,
       ⟨⟨(some 11), .binOp .mul 3 (.tmp 9) (.tmp 10) 3, 3, "", ⟨[]⟩, none⟩, none, false⟩,
       ⟨⟨(some 12), .move (.tmp 0), 3, "", ⟨[]⟩, none⟩, none, false⟩,
       ⟨⟨(some 13), .binOp .gtr 3 (.tmp 11) (.tmp 12) 3, 4, "", ⟨[]⟩, none⟩, none, false⟩])
     (.cond (.tmp 13)
      (.ops false [
        ⟨⟨(some 14), .move (.tmp 5), 3, "", ⟨[]⟩, none⟩, none, false⟩,
        ⟨⟨(some 15), .binOp .sub 3 (.tmp 14) (.const (.int .i64 1)) 3, 3, "", ⟨[]⟩, none⟩, none, false⟩,
        ⟨⟨(some 5), .assign (.tmp 15), 3, "", ⟨[]⟩, none⟩, none, false⟩])
      .skip))
    (.seq
     (.ops false [
       ⟨⟨(some 16), .move (.tmp 5), 3, "", ⟨[]⟩, none⟩, none, false⟩,
       ⟨⟨(some 4), .assign (.tmp 16), 3, "", ⟨[]⟩, none⟩, none, false⟩])
     .ret))))
def Try.s38 : SC :=
 (.seq
  (.ops false [
    ⟨⟨(some 4), .assign (.const (.int .i64 0)), 3, "", ⟨[]⟩, none⟩, none, false⟩])
  (.seq
   (.seq
    (.ops false [
      ⟨⟨(some 5), .move (.tmp 1), 3, "", ⟨[]⟩, none⟩, none, false⟩,
      ⟨⟨(some 6), .binOp .leq 3 (.tmp 5) (.const (.int .i64 0)) 3, 4, "", ⟨[]⟩, none⟩, none, false⟩])
    (.cond (.tmp 6)
     (.seq
      (.ops false [
        ⟨⟨(some 4), .assign (.const (.int .i64 0)), 3, "", ⟨[]⟩, none⟩, none, false⟩])
      .ret)
     .skip))
   (.seq
    (.ops false [
      ⟨⟨(some 7), .move (.tmp 0), 3, "", ⟨[]⟩, none⟩, none, false⟩,
      ⟨⟨(some 8), .move (.tmp 1), 3, "", ⟨[]⟩, none⟩, none, false⟩,
      ⟨⟨(some 9), .binOp .rem 3 (.tmp 7) (.tmp 8) 3, 3, "", ⟨[]⟩, none⟩, none, false⟩,
      ⟨⟨(some 10), .move (.tmp 1), 3, "", ⟨[]⟩, none⟩, none, false⟩,
      ⟨⟨(some 11), .binOp .add 3 (.tmp 9) (.tmp 10) 3, 3, "", ⟨[]⟩, none⟩, none, false⟩,
      ⟨⟨(some 12), .move (.tmp 1), 3, "", ⟨[]⟩, none⟩, none, false⟩,
      ⟨⟨(some 13), .binOp .rem 3 (.tmp 11) (.tmp 12) 3, 3, "", ⟨[]⟩, none⟩, none, false⟩,
      ⟨⟨(some 4), .assign (.tmp 13), 3, "", ⟨[]⟩, none⟩, none, false⟩])
    .ret)))
def Try.s39 : SC :=
 (.seq
  (.ops false [
    ⟨⟨(some 2), .assign (.const (.slice none 0 0)), 22, "", ⟨[]⟩, none⟩, none, false⟩])
  (.seq
   (.ops false [
     ⟨⟨(some 3), .buildSlice 22 0 ⟨[]⟩, 22, "", ⟨[]⟩, none⟩, none, false⟩,
     ⟨⟨(some 4), .move (.tmp 0), 22, "", ⟨[]⟩, none⟩, none, false⟩,
     ⟨⟨(some 5), .call ⟨.builtin .append, ⟨[(.tmp 3), (.tmp 4)]⟩, ⟨[22, 22]⟩⟩, 22, "", ⟨[]⟩, none⟩, none, false⟩,
     ⟨⟨(some 2), .assign (.tmp 5), 22, "", ⟨[]⟩, none⟩, none, false⟩])
   .ret))
def Try.s40 : SC :=
 (.seq
  (.ops false [
    ⟨⟨(some 4), .assign (.const (.int .i64 0)), 3, "", ⟨[]⟩, none⟩, none, false⟩])
  (.seq
   (.seq
    (.ops false [
      ⟨⟨(some 5), .move (.tmp 0), 22, "", ⟨[]⟩, none⟩, none, false⟩,
      ⟨⟨(some 6), .call ⟨.builtin .len, ⟨[(.tmp 5)]⟩, ⟨[22]⟩⟩, 3, "", ⟨[]⟩, none⟩, none, false⟩,
      ⟨⟨(some 7), .binOp .eql 3 (.tmp 6) (.const (.int .i64 0)) 3, 4, "", ⟨[]⟩, none⟩, none, false⟩])
    (.cond (.tmp 7)
     (.seq
      (.ops false [
        ⟨⟨(some 4), .assign (.const (.int .i64 0)), 3, "", ⟨[]⟩, none⟩, none, false⟩])
      .ret)
     .skip))
   (.seq
    (.ops false [
      ⟨⟨(some 8), .move (.tmp 0), 22, "", ⟨[]⟩, none⟩, none, false⟩,
      ⟨⟨(some 9), .move (.tmp 1), 3, "", ⟨[]⟩, none⟩, none, false⟩,
      ⟨⟨(some 10), .move (.tmp 0), 22, "", ⟨[]⟩, none⟩, none, false⟩,
      ⟨⟨(some 11), .call ⟨.builtin .len, ⟨[(.tmp 10)]⟩, ⟨[22]⟩⟩, 3, "", ⟨[]⟩, none⟩, none, false⟩,
      ⟨⟨(some 12), .call ⟨.value (.func 38), ⟨[(.tmp 9), (.tmp 11)]⟩, ⟨[3, 3]⟩⟩, 3, "", ⟨[]⟩, none⟩, none, false⟩,
      ⟨⟨(some 13), .indexAddr 22 (.tmp 8) (.tmp 12), 0, "", ⟨[]⟩, none⟩, none, false⟩,
      ⟨⟨(some 14), .load 3 (.tmp 13), 3, "", ⟨[]⟩, none⟩, none, false⟩,
      ⟨⟨(some 4), .assign (.tmp 14), 3, "", ⟨[]⟩, none⟩, none, false⟩])
    .ret)))
def Try.s47 : SC :=
 (.seq
  (.ops false [
    ⟨⟨(some 2), .assign (.const (.bool false)), 4, "", ⟨[]⟩, none⟩, none, false⟩])
  (.seq
   (.ops false [
     ⟨⟨(some 3), .move (.tmp 0), 22, "", ⟨[]⟩, none⟩, none, false⟩,
     ⟨⟨(some 4), .call ⟨.builtin .len, ⟨[(.tmp 3)]⟩, ⟨[22]⟩⟩, 3, "", ⟨[]⟩, none⟩, none, false⟩,
     ⟨⟨(some 5), .call ⟨.value (.func 65), ⟨[(.tmp 4), (.const (.int .i64 1)), (.const (.int .i64 24))]⟩, ⟨[3, 3, 3]⟩⟩, 4, "", ⟨[]⟩, none⟩, none, false⟩,
     ⟨⟨(some 6), .move (.tmp 5), 4, "", ⟨[]⟩, none⟩, none, false⟩,
     ⟨⟨(some 7), .move (.tmp 0), 22, "", ⟨[]⟩, none⟩, some ((some 6), true), false⟩,
     ⟨⟨(some 8), .call ⟨.value (.func 85), ⟨[(.tmp 7), (.func 56)]⟩, ⟨[22, 101]⟩⟩, 4, "", ⟨[]⟩, none⟩, some ((some 6), true), false⟩,
     ⟨⟨(some 9), .pick (.tmp 6) (.tmp 8) (.const (.bool false)), 4, "", ⟨[]⟩, none⟩, none, false⟩,
     ⟨⟨(some 10), .move (.tmp 9), 4, "", ⟨[]⟩, none⟩, none, false⟩,
     ⟨⟨(some 11), .move (.tmp 0), 22, "", ⟨[]⟩, none⟩, some ((some 10), true), false⟩,
     ⟨⟨(some 12), .call ⟨.value (.func 82), ⟨[(.tmp 11)]⟩, ⟨[22]⟩⟩, 3, "", ⟨[]⟩, none⟩, some ((some 10), true), false⟩,
     ⟨⟨(some 13), .binOp .gtr 3 (.tmp 12) (.const (.int .i64 0)) 3, 4, "", ⟨[]⟩, none⟩, some ((some 10), true), false⟩,
     ⟨⟨(some 14), .pick (.tmp 10) (.tmp 13) (.const (.bool false)), 4, "", ⟨[]⟩, none⟩, none, false⟩,
     ⟨⟨(some 2), .assign (.tmp 14), 4, "", ⟨[]⟩, none⟩, none, false⟩])
   .ret))
def Try.s48 : SC :=
 (.seq
  (.ops false [
    ⟨⟨(some 2), .assign (.const (.bool false)), 4, "", ⟨[]⟩, none⟩, none, false⟩])
  (.seq
   (.ops false [
     ⟨⟨(some 3), .move (.tmp 0), 3, "", ⟨[]⟩, none⟩, none, false⟩,
     ⟨⟨(some 4), .call ⟨.value (.func 65), ⟨[(.tmp 3), (.const (.int .i64 0)), (.const (.int .i64 34359738368))]⟩, ⟨[3, 3, 3]⟩⟩, 4, "", ⟨[]⟩, none⟩, none, false⟩,
     ⟨⟨(some 2), .assign (.tmp 4), 4, "", ⟨[]⟩, none⟩, none, false⟩])
   .ret))
def Try.s49 : SC :=
 (.seq
  (.ops false [
    ⟨⟨(some 2), .box 22 (.tmp 0), 0, "", ⟨[]⟩, none⟩, none, false⟩,
    ⟨⟨(some 3), .box 3 (.tmp 1), 0, "", ⟨[]⟩, none⟩, none, false⟩,
    ⟨⟨(some 4), .assign (.const (.slice none 0 0)), 22, "", ⟨[]⟩, none⟩, none, false⟩])
  (.seq
   (.ops false [
     ⟨⟨(some 8), .load 22 (.tmp 2), 22, "", ⟨[]⟩, none⟩, none, false⟩,
     ⟨⟨(some 9), .call ⟨.value (.func 82), ⟨[(.tmp 8)]⟩, ⟨[22]⟩⟩, 3, "", ⟨[]⟩, none⟩, none, false⟩,
     ⟨⟨(some 5), .alloc 3, 0, "", ⟨[]⟩, none⟩, none, false⟩,
     ⟨⟨none, .store 3 (.tmp 5) (.tmp 9), 0, "", ⟨[]⟩, none⟩, none, false⟩])
   (.seq
    (.ops false [
      ⟨⟨(some 10), .load 22 (.tmp 2), 22, "", ⟨[]⟩, none⟩, none, false⟩,
      ⟨⟨(some 11), .makeFunc (.func 87) ⟨[]⟩ ⟨[(.tmp 3), (.tmp 5)]⟩, 126, "", ⟨[]⟩, none⟩, none, false⟩,
      ⟨⟨(some 12), .call ⟨.value (.func 86), ⟨[(.tmp 10), (.tmp 11)]⟩, ⟨[22, 126]⟩⟩, 22, "", ⟨[]⟩, none⟩, none, false⟩,
      ⟨⟨(some 6), .alloc 22, 0, "", ⟨[]⟩, none⟩, none, false⟩,
      ⟨⟨none, .store 22 (.tmp 6) (.tmp 12), 0, "", ⟨[]⟩, none⟩, none, false⟩])
    (.seq
     (.ops false [
       ⟨⟨(some 13), .makeFunc (.func 88) ⟨[]⟩ ⟨[(.tmp 2), (.tmp 6)]⟩, 56, "", ⟨[]⟩, none⟩, none, false⟩,
       ⟨⟨(some 7), .assign (.tmp 13), 56, "", ⟨[]⟩, none⟩, none, false⟩])
     (.seq
      (.seq
       (.ops true [
         ⟨⟨(some 14), .load 3 (.tmp 3), 3, "", ⟨[]⟩, none⟩, none, true⟩,
         ⟨⟨(some 15), .load 22 (.tmp 6), 22, "", ⟨[]⟩, none⟩, none, true⟩,
         ⟨⟨(some 18), .move (.const (.int .i64 0)), 3, "", ⟨[]⟩, none⟩, none, true⟩,
         ⟨⟨(some 16), .call ⟨.value (.func 82), ⟨[(.tmp 15)]⟩, ⟨[22]⟩⟩, 3, "", ⟨[]⟩, none⟩, none, true⟩,
         ⟨⟨(some 17), .binOp .sub 3 (.tmp 14) (.tmp 16) 3, 3, "", ⟨[]⟩, none⟩, none, true⟩])
       (.block 0
        (.loop
         (.seq
          (.ops false [
            ⟨⟨(some 19), .binOp .lss 3 (.tmp 18) (.tmp 17) 3, 4, "", ⟨[]⟩, none⟩, none, false⟩])
          (.seq
           (.cond (.tmp 19)
            .skip
            (.exit 0))
           (.seq
            (.block 1
             (.ops true [
               ⟨⟨(some 20), .load 22 (.tmp 6), 22, "", ⟨[]⟩, none⟩, none, true⟩,
               ⟨⟨(some 21), .move (.tmp 7), 56, "", ⟨[]⟩, none⟩, none, true⟩,
               ⟨⟨(some 22), .call ⟨.value (.tmp 21), ⟨[]⟩, ⟨[]⟩⟩, 3, "", ⟨[]⟩, none⟩, none, true⟩,
               ⟨⟨(some 23), .indexAddr 22 (.tmp 20) (.tmp 22), 0, "", ⟨[]⟩, none⟩, none, true⟩,
               ⟨⟨(some 24), .load 3 (.tmp 23), 3, "", ⟨[]⟩, none⟩, none, true⟩,
               ⟨⟨(some 25), .binOp .add 3 (.tmp 24) (.const (.int .i64 1)) 3, 3, "", ⟨[]⟩, none⟩, none, true⟩,
               ⟨⟨(some 26), .indexAddr 22 (.tmp 20) (.tmp 22), 0, "", ⟨[]⟩, none⟩, none, true⟩,
               ⟨⟨none, .store 3 (.tmp 26) (.tmp 25), 0, "", ⟨[]⟩, none⟩, none, false⟩]))
            (.ops false [
              ⟨⟨(some 27), .binOp .add 3 (.tmp 18) (.const (.int .i64 1)) 3, 3, "", ⟨[]⟩, none⟩, none, false⟩,
              ⟨⟨(some 18), .move (.tmp 27), 3, "", ⟨[]⟩, none⟩, none, false⟩])))))))
      (.seq
       (.ops false [
         ⟨⟨(some 28), .load 22 (.tmp 6), 22, "", ⟨[]⟩, none⟩, none, false⟩,
         ⟨⟨(some 4), .assign (.tmp 28), 22, "", ⟨[]⟩, none⟩, none, false⟩])
       .ret))))))
def Try.s50 : SC :=
 (.seq
  (.ops false [
    ⟨⟨(some 2), .assign (.const (.bool false)), 4, "", ⟨[]⟩, none⟩, none, false⟩])
  (.seq
   (.seq
    (.ops false [
      ⟨⟨(some 3), .assign (.const (.int .i64 0)), 3, "", ⟨[]⟩, none⟩, none, false⟩])
    (.block 0
     (.loop
      (.seq
       (.seq
        (.ops false [
          ⟨⟨(some 4), .move (.tmp 3), 3, "", ⟨[]⟩, none⟩, none, false⟩,
          ⟨⟨(some 5), .move (.tmp 0), 22, "", ⟨[]⟩, none⟩, none, false⟩,
          ⟨⟨(some 6), .call ⟨.builtin .len, ⟨[(.tmp 5)]⟩, ⟨[22]⟩⟩, 3, "", ⟨[]⟩, none⟩, none, false⟩,
          ⟨⟨(some 7), .binOp .lss 3 (.tmp 4) (.tmp 6) 3, 4, "", ⟨[]⟩, none⟩, none, false⟩])
        (.cond (.tmp 7)
         .skip
         (.exit 0)))
       (.seq
        (.block 1
         (.seq
          (.ops false [
            ⟨⟨(some 10), .move (.tmp 0), 22, "", ⟨[]⟩, none⟩, none, false⟩,
            ⟨⟨(some 11), .move (.tmp 3), 3, "", ⟨[]⟩, none⟩, none, false⟩,
            ⟨⟨(some 12), .indexAddr 22 (.tmp 10) (.tmp 11), 0, "", ⟨[]⟩, none⟩, none, false⟩,
            ⟨⟨(some 13), .load 3 (.tmp 12), 3, "", ⟨[]⟩, none⟩, none, false⟩,
            ⟨⟨(some 14), .call ⟨.value (.func 36), ⟨[(.const (.int .i64 0)), (.tmp 13), (.const (.int .i64 67108864))]⟩, ⟨[3, 3, 3]⟩⟩, 4, "", ⟨[]⟩, none⟩, none, false⟩,
            ⟨⟨(some 15), .unOp .not 4 (.tmp 14), 4, "", ⟨[]⟩, none⟩, none, false⟩])
          (.cond (.tmp 15)
           (.seq
            (.ops false [
              ⟨⟨(some 2), .assign (.const (.bool false)), 4, "", ⟨[]⟩, none⟩, none, false⟩])
            .ret)
           .skip)))
        (.ops false [
          ⟨⟨(some 8), .move (.tmp 3), 3, "", ⟨[]⟩, none⟩, none, false⟩,
          ⟨⟨(some 9), .binOp .add 3 (.tmp 8) (.const (.int .i64 1)) 3, 3, "", ⟨[]⟩, none⟩, none, false⟩,
          ⟨⟨(some 3), .assign (.tmp 9), 3, "", ⟨[]⟩, none⟩, none, false⟩]))))))
   (.seq
    (.ops false [
      ⟨⟨(some 16), .move (.tmp 0), 22, "", ⟨[]⟩, none⟩, none, false⟩,
      ⟨⟨(some 17), .call ⟨.builtin .len, ⟨[(.tmp 16)]⟩, ⟨[22]⟩⟩, 3, "", ⟨[]⟩, none⟩, none, false⟩,
      ⟨⟨(some 18), .call ⟨.value (.func 36), ⟨[(.const (.int .i64 1)), (.tmp 17), (.const (.int .i64 24))]⟩, ⟨[3, 3, 3]⟩⟩, 4, "", ⟨[]⟩, none⟩, none, false⟩,
      ⟨⟨(some 19), .move (.tmp 18), 4, "", ⟨[]⟩, none⟩, none, false⟩,
      ⟨⟨(some 20), .move (.tmp 0), 22, "", ⟨[]⟩, none⟩, some ((some 19), true), false⟩,
      ⟨⟨(some 21), .call ⟨.value (.func 35), ⟨[(.tmp 20)]⟩, ⟨[22]⟩⟩, 3, "", ⟨[]⟩, none⟩, some ((some 19), true), false⟩,
      ⟨⟨(some 22), .binOp .gtr 3 (.tmp 21) (.const (.int .i64 0)) 3, 4, "", ⟨[]⟩, none⟩, some ((some 19), true), false⟩,
      ⟨⟨(some 23), .pick (.tmp 19) (.tmp 22) (.const (.bool false)), 4, "", ⟨[]⟩, none⟩, none, false⟩,
      ⟨⟨(some 2), .assign (.tmp 23), 4, "", ⟨[]⟩, none⟩, none, false⟩])
    .ret)))
def Try.s51 : SC :=
 (.seq
  (.ops false [
    ⟨⟨(some 4), .assign (.const (.slice none 0 0)), 22, "", ⟨[]⟩, none⟩, none, false⟩])
  (.seq
   (.ops false [
     ⟨⟨(some 12), .move (.tmp 0), 22, "", ⟨[]⟩, none⟩, none, false⟩,
     ⟨⟨(some 13), .call ⟨.value (.func 35), ⟨[(.tmp 12)]⟩, ⟨[22]⟩⟩, 3, "", ⟨[]⟩, none⟩, none, false⟩,
     ⟨⟨(some 5), .assign (.tmp 13), 3, "", ⟨[]⟩, none⟩, none, false⟩])
   (.seq
    (.ops false [
      ⟨⟨(some 6), .assign (.const (.slice none 0 0)), 22, "", ⟨[]⟩, none⟩, none, false⟩])
    (.seq
     (.ops false [
       ⟨⟨(some 14), .move (.tmp 1), 3, "", ⟨[]⟩, none⟩, none, false⟩,
       ⟨⟨(some 7), .assign (.tmp 14), 3, "", ⟨[]⟩, none⟩, none, false⟩])
     (.seq
      (.seq
       (.ops false [
         ⟨⟨(some 8), .assign (.const (.int .i64 0)), 3, "", ⟨[]⟩, none⟩, none, false⟩])
       (.block 0
        (.loop
         (.seq
          (.seq
           (.ops false [
             ⟨⟨(some 15), .move (.tmp 8), 3, "", ⟨[]⟩, none⟩, none, false⟩,
             ⟨⟨(some 16), .move (.tmp 0), 22, "", ⟨[]⟩, none⟩, none, false⟩,
             ⟨⟨(some 17), .call ⟨.builtin .len, ⟨[(.tmp 16)]⟩, ⟨[22]⟩⟩, 3, "", ⟨[]⟩, none⟩, none, false⟩,
             ⟨⟨(some 18), .binOp .lss 3 (.tmp 15) (.tmp 17) 3, 4, "", ⟨[]⟩, none⟩, none, false⟩])
           (.cond (.tmp 18)
            .skip
            (.exit 0)))
          (.seq
           (.block 1
            (.seq
             (.ops false [
               ⟨⟨(some 21), .move (.tmp 1), 3, "", ⟨[]⟩, none⟩, none, false⟩,
               ⟨⟨(some 22), .move (.tmp 0), 22, "", ⟨[]⟩, none⟩, none, false⟩,
               ⟨⟨(some 23), .move (.tmp 8), 3, "", ⟨[]⟩, none⟩, none, false⟩,
               ⟨⟨(some 24), .indexAddr 22 (.tmp 22) (.tmp 23), 0, "", ⟨[]⟩, none⟩, none, false⟩,
               ⟨⟨(some 25), .load 3 (.tmp 24), 3, "", ⟨[]⟩, none⟩, none, false⟩,
               ⟨⟨(some 26), .binOp .mul 3 (.tmp 21) (.tmp 25) 3, 3, "", ⟨[]⟩, none⟩, none, false⟩,
               ⟨⟨(some 27), .move (.tmp 5), 3, "", ⟨[]⟩, none⟩, none, false⟩,
               ⟨⟨(some 28), .call ⟨.value (.func 37), ⟨[(.tmp 26), (.tmp 27)]⟩, ⟨[3, 3]⟩⟩, 3, "", ⟨[]⟩, none⟩, none, false⟩,
               ⟨⟨(some 9), .assign (.tmp 28), 3, "", ⟨[]⟩, none⟩, none, false⟩])
             (.seq
              (.ops false [
                ⟨⟨(some 29), .move (.tmp 6), 22, "", ⟨[]⟩, none⟩, none, false⟩,
                ⟨⟨(some 30), .move (.tmp 9), 3, "", ⟨[]⟩, none⟩, none, false⟩,
                ⟨⟨(some 31), .buildSlice 22 1 ⟨[(0, (.tmp 30))]⟩, 22, "", ⟨[]⟩, none⟩, none, false⟩,
                ⟨⟨(some 32), .call ⟨.builtin .append, ⟨[(.tmp 29), (.tmp 31)]⟩, ⟨[22, 22]⟩⟩, 22, "", ⟨[]⟩, none⟩, none, false⟩,
                ⟨⟨(some 6), .assign (.tmp 32), 22, "", ⟨[]⟩, none⟩, none, false⟩])
              (.ops false [
                ⟨⟨(some 33), .move (.tmp 7), 3, "", ⟨[]⟩, none⟩, none, false⟩,
                ⟨⟨(some 34), .move (.tmp 9), 3, "", ⟨[]⟩, none⟩, none, false⟩,
                ⟨⟨(some 35), .binOp .sub 3 (.tmp 33) (.tmp 34) 3, 3, "", ⟨[]⟩, none⟩, none, false⟩,
                ⟨⟨(some 7), .assign (.tmp 35), 3, "", ⟨[]⟩, none⟩, none, false⟩]))))
           (.ops false [
             ⟨⟨(some 19), .move (.tmp 8), 3, "", ⟨[]⟩, none⟩, none, false⟩,
             ⟨⟨(some 20), .binOp .add 3 (.tmp 19) (.const (.int .i64 1)) 3, 3, "", ⟨[]⟩, none⟩, none, false⟩,
             ⟨⟨(some 8), .assign (.tmp 20), 3, "", ⟨[]⟩, none⟩, none, false⟩]))))))
      (.seq
       (.block 2
        (.loop
         (.seq
          (.seq
           (.ops false [
             ⟨⟨(some 36), .move (.tmp 7), 3, "", ⟨[]⟩, none⟩, none, false⟩,
             ⟨⟨(some 37), .binOp .gtr 3 (.tmp 36) (.const (.int .i64 0)) 3, 4, "", ⟨[]⟩, none⟩, none, false⟩])
           (.cond (.tmp 37)
            .skip
            (.exit 2)))
          (.seq
           (.block 3
            (.seq
             (.ops false [
               ⟨⟨(some 10), .assign (.const (.int .i64 0)), 3, "", ⟨[]⟩, none⟩, none, false⟩])
             (.seq
              (.seq
               (.ops false [
                 ⟨⟨(some 11), .assign (.const (.int .i64 1)), 3, "", ⟨[]⟩, none⟩, none, false⟩])
               (.block 4
                (.loop
                 (.seq
                  (.seq
                   (.ops false [
                     ⟨⟨(some 40), .move (.tmp 11), 3, "", ⟨[]⟩, none⟩, none, false⟩,
                     ⟨⟨(some 41), .move (.tmp 0), 22, "", ⟨[]⟩, none⟩, none, false⟩,
                     ⟨⟨(some 42), .call ⟨.builtin .len, ⟨[(.tmp 41)]⟩, ⟨[22]⟩⟩, 3, "", ⟨[]⟩, none⟩, none, false⟩,
                     ⟨⟨(some 43), .binOp .lss 3 (.tmp 40) (.tmp 42) 3, 4, "", ⟨[]⟩, none⟩, none, false⟩])
                   (.cond (.tmp 43)
                    .skip
                    (.exit 4)))
                  (.seq
                   (.block 5
                    (.seq
                     (.ops true [
                       ⟨⟨(some 46), .move (.tmp 0), 22, "", ⟨[]⟩, none⟩, none, true⟩,
                       ⟨⟨(some 47), .move (.tmp 11), 3, "", ⟨[]⟩, none⟩, none, true⟩,
                       ⟨⟨(some 48), .indexAddr 22 (.tmp 46) (.tmp 47), 0, "", ⟨[]⟩, none⟩, none, true⟩,
                       ⟨⟨(some 49), .load 3 (.tmp 48), 3, "", ⟨[]⟩, none⟩, none, true⟩,
                       ⟨⟨(some 50), .move (.tmp 6), 22, "", ⟨[]⟩, none⟩, none, true⟩,
                       ⟨⟨(some 51), .move (.tmp 10), 3, "", ⟨[]⟩, none⟩, none, true⟩,
                       ⟨⟨(some 52), .indexAddr 22 (.tmp 50) (.tmp 51), 0, "", ⟨[]⟩, none⟩, none, true⟩,
                       ⟨⟨(some 53), .load 3 (.tmp 52), 3, "", ⟨[]⟩, none⟩, none, true⟩,
                       ⟨⟨(some 54), .binOp .add 3 (.tmp 53) (.const (.int .i64 1)) 3, 3, "", ⟨[]⟩, none⟩, none, true⟩,
                       ⟨⟨(some 55), .binOp .mul 3 (.tmp 49) (.tmp 54) 3, 3, "", ⟨[]⟩, none⟩, none, true⟩,
                       ⟨⟨(some 56), .move (.tmp 0), 22, "", ⟨[]⟩, none⟩, none, true⟩,
                       ⟨⟨(some 57), .move (.tmp 10), 3, "", ⟨[]⟩, none⟩, none, true⟩,
                       ⟨⟨(some 58), .indexAddr 22 (.tmp 56) (.tmp 57), 0, "", ⟨[]⟩, none⟩, none, true⟩,
                       ⟨⟨(some 59), .load 3 (.tmp 58), 3, "", ⟨[]⟩, none⟩, none, true⟩,
                       ⟨⟨(some 60), .move (.tmp 6), 22, "", ⟨[]⟩, none⟩, none, true⟩,
                       ⟨⟨(some 61), .move (.tmp 11), 3, "", ⟨[]⟩, none⟩, none, true⟩,
                       ⟨⟨(some 62), .indexAddr 22 (.tmp 60) (.tmp 61), 0, "", ⟨[]⟩, none⟩, none, true⟩,
                       ⟨⟨(some 63), .load 3 (.tmp 62), 3, "", ⟨[]⟩, none⟩, none, true⟩,
                       ⟨⟨(some 64), .binOp .add 3 (.tmp 63) (.const (.int .i64 1)) 3, 3, "", ⟨[]⟩, none⟩, none, true⟩,
                       ⟨⟨(some 65), .binOp .mul 3 (.tmp 59) (.tmp 64) 3, 3, "", ⟨[]⟩, none⟩, none, true⟩,
                       ⟨⟨(some 66), .binOp .gtr 3 (.tmp 55) (.tmp 65) 3, 4, "", ⟨[]⟩, none⟩, none, true⟩])
                     (.cond (.tmp 66)
                      (.ops false [
                        ⟨⟨(some 67), .move (.tmp 11), 3, "", ⟨[]⟩, none⟩, none, false⟩,
                        ⟨⟨(some 10), .assign (.tmp 67), 3, "", ⟨[]⟩, none⟩, none, false⟩])
                      .skip)))
                   (.ops false [
                     ⟨⟨(some 44), .move (.tmp 11), 3, "", ⟨[]⟩, none⟩, none, false⟩,
                     ⟨⟨(some 45), .binOp .add 3 (.tmp 44) (.const (.int .i64 1)) 3, 3, "", ⟨[]⟩, none⟩, none, false⟩,
                     ⟨⟨(some 11), .assign (.tmp 45), 3, "", ⟨[]⟩, none⟩, none, false⟩]))))))
              (.ops false [
                ⟨⟨(some 68), .move (.tmp 6), 22, "", ⟨[]⟩, none⟩, none, false⟩,
                ⟨⟨(some 69), .move (.tmp 10), 3, "", ⟨[]⟩, none⟩, none, false⟩,
                ⟨⟨(some 70), .indexAddr 22 (.tmp 68) (.tmp 69), 0, "", ⟨[]⟩, none⟩, none, false⟩,
                ⟨⟨(some 71), .load 3 (.tmp 70), 3, "", ⟨[]⟩, none⟩, none, false⟩,
                ⟨⟨(some 72), .binOp .add 3 (.tmp 71) (.const (.int .i64 1)) 3, 3, "", ⟨[]⟩, none⟩, none, false⟩,
                ⟨⟨(some 73), .indexAddr 22 (.tmp 68) (.tmp 69), 0, "", ⟨[]⟩, none⟩, none, false⟩,
                ⟨⟨none, .store 3 (.tmp 73) (.tmp 72), 0, "", ⟨[]⟩, none⟩, none, false⟩]))))
           (.ops false [
             ⟨⟨(some 38), .move (.tmp 7), 3, "", ⟨[]⟩, none⟩, none, false⟩,
             ⟨⟨(some 39), .binOp .sub 3 (.tmp 38) (.const (.int .i64 1)) 3, 3, "", ⟨[]⟩, none⟩, none, false⟩,
             ⟨⟨(some 7), .assign (.tmp 39), 3, "", ⟨[]⟩, none⟩, none, false⟩])))))
       (.seq
        (.ops false [
          ⟨⟨(some 74), .move (.tmp 6), 22, "", ⟨[]⟩, none⟩, none, false⟩,
          ⟨⟨(some 4), .assign (.tmp 74), 22, "", ⟨[]⟩, none⟩, none, false⟩])
        .ret)))))))
def Try.s52 : SC :=
 (.seq
  (.ops false [
    ⟨⟨(some 2), .assign (.const (.bool false)), 4, "", ⟨[]⟩, none⟩, none, false⟩])
  (.seq
   (.ops false [
     ⟨⟨(some 3), .move (.tmp 0), 23, "", ⟨[]⟩, none⟩, none, false⟩,
     ⟨⟨(some 4), .call ⟨.builtin .len, ⟨[(.tmp 3)]⟩, ⟨[23]⟩⟩, 3, "", ⟨[]⟩, none⟩, none, false⟩,
     ⟨⟨(some 5), .binOp .leq 3 (.tmp 4) (.const (.int .i64 24)) 3, 4, "", ⟨[]⟩, none⟩, none, false⟩,
     ⟨⟨(some 6), .move (.tmp 5), 4, "", ⟨[]⟩, none⟩, none, false⟩,
     ⟨⟨(some 7), .move (.tmp 0), 23, "", ⟨[]⟩, none⟩, some ((some 6), true), false⟩,
     ⟨⟨(some 8), .call ⟨.value (.func 89), ⟨[(.tmp 7), (.func 90)]⟩, ⟨[23, 130]⟩⟩, 4, "", ⟨[]⟩, none⟩, some ((some 6), true), false⟩,
     ⟨⟨(some 9), .pick (.tmp 6) (.tmp 8) (.const (.bool false)), 4, "", ⟨[]⟩, none⟩, none, false⟩,
     ⟨⟨(some 2), .assign (.tmp 9), 4, "", ⟨[]⟩, none⟩, none, false⟩])
   .ret))
def Try.s53 : SC :=
 (.seq
  (.ops false [
    ⟨⟨(some 2), .box 23 (.tmp 0), 0, "", ⟨[]⟩, none⟩, none, false⟩,
    ⟨⟨(some 4), .assign (.const (.slice none 0 0)), 22, "", ⟨[]⟩, none⟩, none, false⟩,
    ⟨⟨(some 5), .assign (.const (.int .i64 0)), 3, "", ⟨[]⟩, none⟩, none, false⟩])
  (.seq
   (.ops false [
     ⟨⟨(some 11), .load 23 (.tmp 2), 23, "", ⟨[]⟩, none⟩, none, false⟩,
     ⟨⟨(some 12), .call ⟨.builtin .len, ⟨[(.tmp 11)]⟩, ⟨[23]⟩⟩, 3, "", ⟨[]⟩, none⟩, none, false⟩,
     ⟨⟨(some 13), .makeSlice 22 (.tmp 12) (.tmp 12), 22, "", ⟨[]⟩, none⟩, none, false⟩,
     ⟨⟨(some 14), .move (.tmp 1), 3, "", ⟨[]⟩, none⟩, none, false⟩,
     ⟨⟨(some 4), .assign (.tmp 13), 22, "", ⟨[]⟩, none⟩, none, false⟩,
     ⟨⟨(some 5), .assign (.tmp 14), 3, "", ⟨[]⟩, none⟩, none, false⟩])
   (.seq
    (.seq
     (.ops false [
       ⟨⟨(some 15), .move (.const (.int .i64 0)), 3, "", ⟨[]⟩, none⟩, none, false⟩])
     (.block 0
      (.loop
       (.seq
        (.ops false [
          ⟨⟨(some 16), .binOp .lss 3 (.tmp 15) (.const (.int .i64 10)) 3, 4, "", ⟨[]⟩, none⟩, none, false⟩])
        (.seq
         (.cond (.tmp 16)
          .skip
          (.exit 0))
         (.seq
          (.block 1
           (.seq
            (.ops false [
              ⟨⟨(some 17), .move (.tmp 15), 3, "", ⟨[]⟩, none⟩, none, false⟩,
              ⟨⟨(some 6), .assign (.tmp 17), 3, "", ⟨[]⟩, none⟩, none, false⟩])
            (.seq
             (.ops false [
               ⟨⟨(some 18), .load 23 (.tmp 2), 23, "", ⟨[]⟩, none⟩, none, false⟩,
               ⟨⟨(some 19), .move (.tmp 6), 3, "", ⟨[]⟩, none⟩, none, false⟩,
               ⟨⟨(some 20), .makeFunc (.func 92) ⟨[(.tmp 19)]⟩ ⟨[]⟩, 130, "", ⟨[]⟩, none⟩, none, false⟩,
               ⟨⟨(some 21), .call ⟨.value (.func 91), ⟨[(.tmp 18), (.tmp 20)]⟩, ⟨[23, 130]⟩⟩, 22, "", ⟨[]⟩, none⟩, none, false⟩,
               ⟨⟨(some 7), .assign (.tmp 21), 22, "", ⟨[]⟩, none⟩, none, false⟩])
             (.seq
              (.ops false [
                ⟨⟨(some 22), .move (.tmp 7), 22, "", ⟨[]⟩, none⟩, none, false⟩,
                ⟨⟨(some 23), .makeFunc (.func 94) ⟨[]⟩ ⟨[(.tmp 2)]⟩, 126, "", ⟨[]⟩, none⟩, none, false⟩,
                ⟨⟨(some 24), .call ⟨.value (.func 86), ⟨[(.tmp 22), (.tmp 23)]⟩, ⟨[22, 126]⟩⟩, 22, "", ⟨[]⟩, none⟩, none, false⟩,
                ⟨⟨(some 25), .move (.tmp 5), 3, "", ⟨[]⟩, none⟩, none, false⟩,
                ⟨⟨(some 26), .call ⟨.value (.func 93), ⟨[(.tmp 24), (.tmp 25)]⟩, ⟨[22, 3]⟩⟩, 22, "", ⟨[]⟩, none⟩, none, false⟩,
                ⟨⟨(some 8), .assign (.tmp 26), 22, "", ⟨[]⟩, none⟩, none, false⟩])
              (.seq
               (.seq
                (.ops false [
                  ⟨⟨(some 27), .move (.tmp 7), 22, "", ⟨[]⟩, none⟩, none, false⟩,
                  ⟨⟨(some 28), .call ⟨.builtin .len, ⟨[(.tmp 27)]⟩, ⟨[22]⟩⟩, 3, "", ⟨[]⟩, none⟩, none, false⟩,
                  ⟨⟨(some 29), .move (.const (.int .i64 0)), 3, "", ⟨[]⟩, none⟩, none, false⟩])
                (.block 2
                 (.loop
                  (.seq
                   (.ops false [
                     ⟨⟨(some 30), .binOp .lss 3 (.tmp 29) (.tmp 28) 3, 0, "", ⟨[]⟩, none⟩, none, false⟩])
                   (.seq
                    (.cond (.tmp 30)
                     .skip
                     (.exit 2))
                    (.seq
                     (.block 3
                      (.seq
                       (.ops false [
                         ⟨⟨(some 31), .move (.tmp 29), 3, "", ⟨[]⟩, none⟩, none, false⟩,
                         ⟨⟨(some 32), .indexAddr 22 (.tmp 27) (.tmp 29), 0, "", ⟨[]⟩, none⟩, none, false⟩,
                         ⟨⟨(some 33), .load 3 (.tmp 32), 3, "", ⟨[]⟩, none⟩, none, false⟩,
                         ⟨⟨(some 9), .assign (.tmp 31), 3, "", ⟨[]⟩, none⟩, none, false⟩,
                         ⟨⟨(some 10), .assign (.tmp 33), 3, "", ⟨[]⟩, none⟩, none, false⟩])
                       (.ops false [
                         ⟨⟨(some 34), .move (.tmp 4), 22, "", ⟨[]⟩, none⟩, none, false⟩,
                         ⟨⟨(some 35), .move (.tmp 10), 3, "", ⟨[]⟩, none⟩, none, false⟩,
                         ⟨⟨(some 36), .move (.tmp 8), 22, "", ⟨[]⟩, none⟩, none, false⟩,
                         ⟨⟨(some 37), .move (.tmp 9), 3, "", ⟨[]⟩, none⟩, none, false⟩,
                         ⟨⟨(some 38), .indexAddr 22 (.tmp 36) (.tmp 37), 0, "", ⟨[]⟩, none⟩, none, false⟩,
                         ⟨⟨(some 39), .load 3 (.tmp 38), 3, "", ⟨[]⟩, none⟩, none, false⟩,
                         ⟨⟨(some 40), .indexAddr 22 (.tmp 34) (.tmp 35), 0, "", ⟨[]⟩, none⟩, none, false⟩,
                         ⟨⟨none, .store 3 (.tmp 40) (.tmp 39), 0, "", ⟨[]⟩, none⟩, none, false⟩])))
                     (.ops false [
                       ⟨⟨(some 41), .binOp .add 3 (.tmp 29) (.const (.int .i64 1)) 3, 3, "", ⟨[]⟩, none⟩, none, false⟩,
                       ⟨⟨(some 29), .move (.tmp 41), 3, "", ⟨[]⟩, none⟩, none, false⟩])))))))
               (.ops false [
                 ⟨⟨(some 42), .move (.tmp 5), 3, "", ⟨[]⟩, none⟩, none, false⟩,
                 ⟨⟨(some 43), .move (.tmp 8), 22, "", ⟨[]⟩, none⟩, none, false⟩,
                 ⟨⟨(some 44), .call ⟨.value (.func 82), ⟨[(.tmp 43)]⟩, ⟨[22]⟩⟩, 3, "", ⟨[]⟩, none⟩, none, false⟩,
                 ⟨⟨(some 45), .binOp .sub 3 (.tmp 42) (.tmp 44) 3, 3, "", ⟨[]⟩, none⟩, none, false⟩,
                 ⟨⟨(some 5), .assign (.tmp 45), 3, "", ⟨[]⟩, none⟩, none, false⟩]))))))
          (.ops false [
            ⟨⟨(some 46), .binOp .add 3 (.tmp 15) (.const (.int .i64 1)) 3, 3, "", ⟨[]⟩, none⟩, none, false⟩,
            ⟨⟨(some 15), .move (.tmp 46), 3, "", ⟨[]⟩, none⟩, none, false⟩])))))))
    (.seq
     (.ops false [
       ⟨⟨(some 47), .move (.tmp 4), 22, "", ⟨[]⟩, none⟩, none, false⟩,
       ⟨⟨(some 48), .move (.tmp 5), 3, "", ⟨[]⟩, none⟩, none, false⟩,
       ⟨⟨(some 4), .assign (.tmp 47), 22, "", ⟨[]⟩, none⟩, none, false⟩,
       ⟨⟨(some 5), .assign (.tmp 48), 3, "", ⟨[]⟩, none⟩, none, false⟩])
     .ret))))
def Try.s54 : SC :=
 (.seq
  (.ops false [
    ⟨⟨(some 2), .assign (.const (.bool false)), 4, "", ⟨[]⟩, none⟩, none, false⟩])
  (.seq
   (.seq
    (.ops false [
      ⟨⟨(some 3), .assign (.const (.int .i64 0)), 3, "", ⟨[]⟩, none⟩, none, false⟩])
    (.block 0
     (.loop
      (.seq
       (.seq
        (.ops false [
          ⟨⟨(some 4), .move (.tmp 3), 3, "", ⟨[]⟩, none⟩, none, false⟩,
          ⟨⟨(some 5), .move (.tmp 0), 23, "", ⟨[]⟩, none⟩, none, false⟩,
          ⟨⟨(some 6), .call ⟨.builtin .len, ⟨[(.tmp 5)]⟩, ⟨[23]⟩⟩, 3, "", ⟨[]⟩, none⟩, none, false⟩,
          ⟨⟨(some 7), .binOp .lss 3 (.tmp 4) (.tmp 6) 3, 4, "", ⟨[]⟩, none⟩, none, false⟩])
        (.cond (.tmp 7)
         .skip
         (.exit 0)))
       (.seq
        (.block 1
         (.seq
          (.ops false [
            ⟨⟨(some 10), .move (.tmp 0), 23, "", ⟨[]⟩, none⟩, none, false⟩,
            ⟨⟨(some 11), .move (.tmp 3), 3, "", ⟨[]⟩, none⟩, none, false⟩,
            ⟨⟨(some 12), .indexAddr 23 (.tmp 10) (.tmp 11), 0, "", ⟨[]⟩, none⟩, none, false⟩,
            ⟨⟨(some 13), .fieldAddr 76 (.tmp 12) 0, 0, "", ⟨[]⟩, none⟩, none, false⟩,
            ⟨⟨(some 14), .load 3 (.tmp 13), 3, "", ⟨[]⟩, none⟩, none, false⟩,
            ⟨⟨(some 15), .call ⟨.value (.func 36), ⟨[(.const (.int .i64 0)), (.tmp 14), (.const (.int .i64 9))]⟩, ⟨[3, 3, 3]⟩⟩, 4, "", ⟨[]⟩, none⟩, none, false⟩,
            ⟨⟨(some 16), .unOp .not 4 (.tmp 15), 4, "", ⟨[]⟩, none⟩, none, false⟩,
            ⟨⟨(some 17), .move (.tmp 16), 4, "", ⟨[]⟩, none⟩, none, false⟩,
            ⟨⟨(some 18), .move (.tmp 0), 23, "", ⟨[]⟩, none⟩, some ((some 17), false), false⟩,
            ⟨⟨(some 19), .move (.tmp 3), 3, "", ⟨[]⟩, none⟩, some ((some 17), false), false⟩,
            ⟨⟨(some 20), .indexAddr 23 (.tmp 18) (.tmp 19), 0, "", ⟨[]⟩, none⟩, some ((some 17), false), false⟩,
            ⟨⟨(some 21), .fieldAddr 76 (.tmp 20) 1, 0, "", ⟨[]⟩, none⟩, some ((some 17), false), false⟩,
            ⟨⟨(some 22), .load 3 (.tmp 21), 3, "", ⟨[]⟩, none⟩, some ((some 17), false), false⟩,
            ⟨⟨(some 23), .call ⟨.value (.func 36), ⟨[(.const (.int .i64 0)), (.tmp 22), (.const (.int .i64 67108864))]⟩, ⟨[3, 3, 3]⟩⟩, 4, "", ⟨[]⟩, none⟩, some ((some 17), false), false⟩,
            ⟨⟨(some 24), .unOp .not 4 (.tmp 23), 4, "", ⟨[]⟩, none⟩, some ((some 17), false), false⟩,
            ⟨⟨(some 25), .pick (.tmp 17) (.const (.bool true)) (.tmp 24), 4, "", ⟨[]⟩, none⟩, none, false⟩])
          (.cond (.tmp 25)
           (.seq
            (.ops false [
              ⟨⟨(some 2), .assign (.const (.bool false)), 4, "", ⟨[]⟩, none⟩, none, false⟩])
            .ret)
           .skip)))
        (.ops false [
          ⟨⟨(some 8), .move (.tmp 3), 3, "", ⟨[]⟩, none⟩, none, false⟩,
          ⟨⟨(some 9), .binOp .add 3 (.tmp 8) (.const (.int .i64 1)) 3, 3, "", ⟨[]⟩, none⟩, none, false⟩,
          ⟨⟨(some 3), .assign (.tmp 9), 3, "", ⟨[]⟩, none⟩, none, false⟩]))))))
   (.seq
    (.ops false [
      ⟨⟨(some 26), .move (.tmp 0), 23, "", ⟨[]⟩, none⟩, none, false⟩,
      ⟨⟨(some 27), .call ⟨.builtin .len, ⟨[(.tmp 26)]⟩, ⟨[23]⟩⟩, 3, "", ⟨[]⟩, none⟩, none, false⟩,
      ⟨⟨(some 28), .binOp .leq 3 (.tmp 27) (.const (.int .i64 24)) 3, 4, "", ⟨[]⟩, none⟩, none, false⟩,
      ⟨⟨(some 2), .assign (.tmp 28), 4, "", ⟨[]⟩, none⟩, none, false⟩])
    .ret)))
def Try.s55 : SC :=
 (.seq
  (.ops false [
    ⟨⟨(some 4), .assign (.const (.slice none 0 0)), 22, "", ⟨[]⟩, none⟩, none, false⟩,
    ⟨⟨(some 5), .assign (.const (.int .i64 0)), 3, "", ⟨[]⟩, none⟩, none, false⟩])
  (.seq
   (.ops false [
     ⟨⟨(some 11), .move (.tmp 0), 23, "", ⟨[]⟩, none⟩, none, false⟩,
     ⟨⟨(some 12), .call ⟨.builtin .len, ⟨[(.tmp 11)]⟩, ⟨[23]⟩⟩, 3, "", ⟨[]⟩, none⟩, none, false⟩,
     ⟨⟨(some 13), .makeSlice 22 (.tmp 12) (.tmp 12), 22, "", ⟨[]⟩, none⟩, none, false⟩,
     ⟨⟨(some 6), .assign (.tmp 13), 22, "", ⟨[]⟩, none⟩, none, false⟩])
   (.seq
    (.seq
     (.ops false [
       ⟨⟨(some 7), .assign (.const (.int .i64 0)), 3, "", ⟨[]⟩, none⟩, none, false⟩])
     (.block 0
      (.loop
       (.seq
        (.seq
         (.ops false [
           ⟨⟨(some 14), .move (.tmp 7), 3, "", ⟨[]⟩, none⟩, none, false⟩,
           ⟨⟨(some 15), .binOp .leq 3 (.tmp 14) (.const (.int .i64 9)) 3, 4, "", ⟨[]⟩, none⟩, none, false⟩])
         (.cond (.tmp 15)
          .skip
          (.exit 0)))
        (.seq
         (.block 1
          (.seq
           (.ops false [
             ⟨⟨(some 18), .move (.tmp 0), 23, "", ⟨[]⟩, none⟩, none, false⟩,
             ⟨⟨(some 19), .call ⟨.builtin .len, ⟨[(.tmp 18)]⟩, ⟨[23]⟩⟩, 3, "", ⟨[]⟩, none⟩, none, false⟩,
             ⟨⟨(some 20), .makeSlice 22 (.tmp 19) (.tmp 19), 22, "", ⟨[]⟩, none⟩, none, false⟩,
             ⟨⟨(some 8), .assign (.tmp 20), 22, "", ⟨[]⟩, none⟩, none, false⟩])
           (.seq
            (.seq
             (.ops false [
               ⟨⟨(some 9), .assign (.const (.int .i64 0)), 3, "", ⟨[]⟩, none⟩, none, false⟩])
             (.block 2
              (.loop
               (.seq
                (.seq
                 (.ops false [
                   ⟨⟨(some 21), .move (.tmp 9), 3, "", ⟨[]⟩, none⟩, none, false⟩,
                   ⟨⟨(some 22), .move (.tmp 0), 23, "", ⟨[]⟩, none⟩, none, false⟩,
                   ⟨⟨(some 23), .call ⟨.builtin .len, ⟨[(.tmp 22)]⟩, ⟨[23]⟩⟩, 3, "", ⟨[]⟩, none⟩, none, false⟩,
                   ⟨⟨(some 24), .binOp .lss 3 (.tmp 21) (.tmp 23) 3, 4, "", ⟨[]⟩, none⟩, none, false⟩])
                 (.cond (.tmp 24)
                  .skip
                  (.exit 2)))
                (.seq
                 (.block 3
                  (.seq
                   (.ops false [
                     ⟨⟨(some 27), .move (.tmp 0), 23, "", ⟨[]⟩, none⟩, none, false⟩,
                     ⟨⟨(some 28), .move (.tmp 9), 3, "", ⟨[]⟩, none⟩, none, false⟩,
                     ⟨⟨(some 29), .indexAddr 23 (.tmp 27) (.tmp 28), 0, "", ⟨[]⟩, none⟩, none, false⟩,
                     ⟨⟨(some 30), .fieldAddr 76 (.tmp 29) 0, 0, "", ⟨[]⟩, none⟩, none, false⟩,
                     ⟨⟨(some 31), .load 3 (.tmp 30), 3, "", ⟨[]⟩, none⟩, none, false⟩,
                     ⟨⟨(some 32), .move (.tmp 7), 3, "", ⟨[]⟩, none⟩, none, false⟩,
                     ⟨⟨(some 33), .binOp .eql 3 (.tmp 31) (.tmp 32) 3, 4, "", ⟨[]⟩, none⟩, none, false⟩])
                   (.cond (.tmp 33)
                    (.ops false [
                      ⟨⟨(some 34), .move (.tmp 8), 22, "", ⟨[]⟩, none⟩, none, false⟩,
                      ⟨⟨(some 35), .move (.tmp 9), 3, "", ⟨[]⟩, none⟩, none, false⟩,
                      ⟨⟨(some 36), .move (.tmp 0), 23, "", ⟨[]⟩, none⟩, none, false⟩,
                      ⟨⟨(some 37), .move (.tmp 9), 3, "", ⟨[]⟩, none⟩, none, false⟩,
                      ⟨⟨(some 38), .indexAddr 23 (.tmp 36) (.tmp 37), 0, "", ⟨[]⟩, none⟩, none, false⟩,
                      ⟨⟨(some 39), .fieldAddr 76 (.tmp 38) 1, 0, "", ⟨[]⟩, none⟩, none, false⟩,
                      ⟨⟨(some 40), .load 3 (.tmp 39), 3, "", ⟨[]⟩, none⟩, none, false⟩,
                      ⟨⟨(some 41), .indexAddr 22 (.tmp 34) (.tmp 35), 0, "", ⟨[]⟩, none⟩, none, false⟩,
                      ⟨⟨none, .store 3 (.tmp 41) (.tmp 40), 0, "", ⟨[]⟩, none⟩, none, false⟩])
                    .skip)))
                 (.ops false [
                   ⟨⟨(some 25), .move (.tmp 9), 3, "", ⟨[]⟩, none⟩, none, false⟩,
                   ⟨⟨(some 26), .binOp .add 3 (.tmp 25) (.const (.int .i64 1)) 3, 3, "", ⟨[]⟩, none⟩, none, false⟩,
                   ⟨⟨(some 9), .assign (.tmp 26), 3, "", ⟨[]⟩, none⟩, none, false⟩]))))))
            (.seq
             (.seq
              (.ops false [
                ⟨⟨(some 42), .move (.tmp 8), 22, "", ⟨[]⟩, none⟩, none, false⟩,
                ⟨⟨(some 43), .call ⟨.value (.func 35), ⟨[(.tmp 42)]⟩, ⟨[22]⟩⟩, 3, "", ⟨[]⟩, none⟩, none, false⟩,
                ⟨⟨(some 44), .move (.tmp 1), 3, "", ⟨[]⟩, none⟩, none, false⟩,
                ⟨⟨(some 45), .binOp .gtr 3 (.tmp 43) (.tmp 44) 3, 4, "", ⟨[]⟩, none⟩, none, false⟩])
              (.cond (.tmp 45)
               (.ops false [
                 ⟨⟨(some 46), .move (.tmp 8), 22, "", ⟨[]⟩, none⟩, none, false⟩,
                 ⟨⟨(some 47), .move (.tmp 1), 3, "", ⟨[]⟩, none⟩, none, false⟩,
                 ⟨⟨(some 48), .call ⟨.value (.func 51), ⟨[(.tmp 46), (.tmp 47)]⟩, ⟨[22, 3]⟩⟩, 22, "", ⟨[]⟩, none⟩, none, false⟩,
                 ⟨⟨(some 8), .assign (.tmp 48), 22, "", ⟨[]⟩, none⟩, none, false⟩])
               .skip))
             (.seq
              (.seq
               (.ops false [
                 ⟨⟨(some 10), .assign (.const (.int .i64 0)), 3, "", ⟨[]⟩, none⟩, none, false⟩])
               (.block 4
                (.loop
                 (.seq
                  (.seq
                   (.ops false [
                     ⟨⟨(some 49), .move (.tmp 10), 3, "", ⟨[]⟩, none⟩, none, false⟩,
                     ⟨⟨(some 50), .move (.tmp 0), 23, "", ⟨[]⟩, none⟩, none, false⟩,
                     ⟨⟨(some 51), .call ⟨.builtin .len, ⟨[(.tmp 50)]⟩, ⟨[23]⟩⟩, 3, "", ⟨[]⟩, none⟩, none, false⟩,
                     ⟨⟨(some 52), .binOp .lss 3 (.tmp 49) (.tmp 51) 3, 4, "", ⟨[]⟩, none⟩, none, false⟩])
                   (.cond (.tmp 52)
                    .skip
                    (.exit 4)))
                  (.seq
                   (.block 5
                    (.ops true [
                      ⟨⟨(some 55), .move (.tmp 6), 22, "", ⟨[]⟩, none⟩, none, true⟩,
                      ⟨⟨(some 56), .move (.tmp 10), 3, "", ⟨[]⟩, none⟩, none, true⟩,
                      ⟨⟨(some 57), .indexAddr 22 (.tmp 55) (.tmp 56), 0, "", ⟨[]⟩, none⟩, none, true⟩,
                      ⟨⟨(some 58), .load 3 (.tmp 57), 3, "", ⟨[]⟩, none⟩, none, true⟩,
                      ⟨⟨(some 59), .move (.tmp 8), 22, "", ⟨[]⟩, none⟩, none, true⟩,
                      ⟨⟨(some 60), .move (.tmp 10), 3, "", ⟨[]⟩, none⟩, none, true⟩,
                      ⟨⟨(some 61), .indexAddr 22 (.tmp 59) (.tmp 60), 0, "", ⟨[]⟩, none⟩, none, true⟩,
                      ⟨⟨(some 62), .load 3 (.tmp 61), 3, "", ⟨[]⟩, none⟩, none, true⟩,
                      ⟨⟨(some 63), .binOp .add 3 (.tmp 58) (.tmp 62) 3, 3, "", ⟨[]⟩, none⟩, none, true⟩,
                      ⟨⟨(some 64), .indexAddr 22 (.tmp 55) (.tmp 56), 0, "", ⟨[]⟩, none⟩, none, true⟩,
                      ⟨⟨none, .store 3 (.tmp 64) (.tmp 63), 0, "", ⟨[]⟩, none⟩, none, false⟩]))
                   (.ops false [
                     ⟨⟨(some 53), .move (.tmp 10), 3, "", ⟨[]⟩, none⟩, none, false⟩,
                     ⟨⟨(some 54), .binOp .add 3 (.tmp 53) (.const (.int .i64 1)) 3, 3, "", ⟨[]⟩, none⟩, none, false⟩,
                     ⟨⟨(some 10), .assign (.tmp 54), 3, "", ⟨[]⟩, none⟩, none, false⟩]))))))
              (.ops false [
                ⟨⟨(some 65), .move (.tmp 1), 3, "", ⟨[]⟩, none⟩, none, false⟩,
                ⟨⟨(some 66), .move (.tmp 8), 22, "", ⟨[]⟩, none⟩, none, false⟩,
                ⟨⟨(some 67), .call ⟨.value (.func 35), ⟨[(.tmp 66)]⟩, ⟨[22]⟩⟩, 3, "", ⟨[]⟩, none⟩, none, false⟩,
                ⟨⟨(some 68), .binOp .sub 3 (.tmp 65) (.tmp 67) 3, 3, "", ⟨[]⟩, none⟩, none, false⟩,
                ⟨⟨(some 1), .assign (.tmp 68), 3, "", ⟨[]⟩, none⟩, none, false⟩]))))))
         (.ops false [
           ⟨⟨(some 16), .move (.tmp 7), 3, "", ⟨[]⟩, none⟩, none, false⟩,
           ⟨⟨(some 17), .binOp .add 3 (.tmp 16) (.const (.int .i64 1)) 3, 3, "", ⟨[]⟩, none⟩, none, false⟩,
           ⟨⟨(some 7), .assign (.tmp 17), 3, "", ⟨[]⟩, none⟩, none, false⟩]))))))
    (.seq
     (.ops false [
       ⟨⟨(some 69), .move (.tmp 6), 22, "", ⟨[]⟩, none⟩, none, false⟩,
       ⟨⟨(some 70), .move (.tmp 1), 3, "", ⟨[]⟩, none⟩, none, false⟩,
       ⟨⟨(some 4), .assign (.tmp 69), 22, "", ⟨[]⟩, none⟩, none, false⟩,
       ⟨⟨(some 5), .assign (.tmp 70), 3, "", ⟨[]⟩, none⟩, none, false⟩])
     .ret))))
def Try.s56 : SC :=
 (.seq
  (.ops false [
    ⟨⟨(some 2), .assign (.const (.bool false)), 4, "", ⟨[]⟩, none⟩, none, false⟩])
  (.seq
   (.ops false [
     ⟨⟨(some 3), .move (.tmp 0), 3, "", ⟨[]⟩, none⟩, none, false⟩,
     ⟨⟨(some 4), .call ⟨.value (.func 65), ⟨[(.tmp 3), (.const (.int .i64 0)), (.const (.int .i64 67108864))]⟩, ⟨[3, 3, 3]⟩⟩, 4, "", ⟨[]⟩, none⟩, none, false⟩,
     ⟨⟨(some 2), .assign (.tmp 4), 4, "", ⟨[]⟩, none⟩, none, false⟩])
   .ret))
def Try.s65 : SC :=
 (.seq
  (.ops false [
    ⟨⟨(some 6), .assign (.const (.bool false)), 4, "", ⟨[]⟩, none⟩, none, false⟩])
  (.seq
   (.ops false [
     ⟨⟨(some 7), .move (.tmp 1), 3, "", ⟨[]⟩, none⟩, none, false⟩,
     ⟨⟨(some 8), .move (.tmp 0), 3, "", ⟨[]⟩, none⟩, none, false⟩,
     ⟨⟨(some 9), .binOp .leq 3 (.tmp 7) (.tmp 8) 3, 4, "", ⟨[]⟩, none⟩, none, false⟩,
     ⟨⟨(some 10), .move (.tmp 9), 4, "", ⟨[]⟩, none⟩, none, false⟩,
     ⟨⟨(some 11), .move (.tmp 0), 3, "", ⟨[]⟩, none⟩, some ((some 10), true), false⟩,
     ⟨⟨(some 12), .move (.tmp 2), 3, "", ⟨[]⟩, none⟩, some ((some 10), true), false⟩,
     ⟨⟨(some 13), .binOp .leq 3 (.tmp 11) (.tmp 12) 3, 4, "", ⟨[]⟩, none⟩, some ((some 10), true), false⟩,
     ⟨⟨(some 14), .pick (.tmp 10) (.tmp 13) (.const (.bool false)), 4, "", ⟨[]⟩, none⟩, none, false⟩,
     ⟨⟨(some 6), .assign (.tmp 14), 4, "", ⟨[]⟩, none⟩, none, false⟩])
   .ret))
def Try.s82 : SC :=
 (.seq
  (.ops false [
    ⟨⟨(some 2), .assign (.const (.int .i64 0)), 3, "", ⟨[]⟩, none⟩, none, false⟩])
  (.seq
   (.ops false [
     ⟨⟨(some 3), .assign (.const (.int .i64 0)), 3, "", ⟨[]⟩, none⟩, none, false⟩])
   (.seq
    (.seq
     (.ops false [
       ⟨⟨(some 6), .move (.tmp 0), 22, "", ⟨[]⟩, none⟩, none, false⟩,
       ⟨⟨(some 7), .call ⟨.builtin .len, ⟨[(.tmp 6)]⟩, ⟨[22]⟩⟩, 3, "", ⟨[]⟩, none⟩, none, false⟩,
       ⟨⟨(some 8), .move (.const (.int .i64 0)), 3, "", ⟨[]⟩, none⟩, none, false⟩])
     (.block 0
      (.loop
       (.seq
        (.ops false [
          ⟨⟨(some 9), .binOp .lss 3 (.tmp 8) (.tmp 7) 3, 0, "", ⟨[]⟩, none⟩, none, false⟩])
        (.seq
         (.cond (.tmp 9)
          .skip
          (.exit 0))
         (.seq
          (.block 1
           (.seq
            (.ops false [
              ⟨⟨(some 10), .indexAddr 22 (.tmp 6) (.tmp 8), 0, "", ⟨[]⟩, none⟩, none, false⟩,
              ⟨⟨(some 11), .load 3 (.tmp 10), 3, "", ⟨[]⟩, none⟩, none, false⟩,
              ⟨⟨(some 5), .assign (.tmp 11), 3, "", ⟨[]⟩, none⟩, none, false⟩])
            (.ops false [
              ⟨⟨(some 12), .move (.tmp 3), 3, "", ⟨[]⟩, none⟩, none, false⟩,
              ⟨⟨(some 13), .move (.tmp 5), 3, "", ⟨[]⟩, none⟩, none, false⟩,
              ⟨⟨(some 14), .binOp .add 3 (.tmp 12) (.tmp 13) 3, 3, "", ⟨[]⟩, none⟩, none, false⟩,
              ⟨⟨(some 3), .assign (.tmp 14), 3, "", ⟨[]⟩, none⟩, none, false⟩])))
          (.ops false [
            ⟨⟨(some 15), .binOp .add 3 (.tmp 8) (.const (.int .i64 1)) 3, 3, "", ⟨[]⟩, none⟩, none, false⟩,
            ⟨⟨(some 8), .move (.tmp 15), 3, "", ⟨[]⟩, none⟩, none, false⟩])))))))
    (.seq
     (.ops false [
       ⟨⟨(some 16), .move (.tmp 3), 3, "", ⟨[]⟩, none⟩, none, false⟩,
       ⟨⟨(some 2), .assign (.tmp 16), 3, "", ⟨[]⟩, none⟩, none, false⟩])
     .ret))))
def Try.s85 : SC :=
 (.seq
  (.ops false [
    ⟨⟨(some 4), .assign (.const (.bool false)), 4, "", ⟨[]⟩, none⟩, none, false⟩])
  (.seq
   (.ops false [
     ⟨⟨(some 5), .move (.tmp 0), 22, "", ⟨[]⟩, none⟩, none, false⟩,
     ⟨⟨(some 6), .move (.tmp 1), 101, "", ⟨[]⟩, none⟩, none, false⟩,
     ⟨⟨(some 7), .call ⟨.value (.func 114), ⟨[(.tmp 5), (.tmp 6)]⟩, ⟨[22, 101]⟩⟩, 22, "", ⟨[]⟩, none⟩, none, false⟩,
     ⟨⟨(some 8), .call ⟨.builtin .len, ⟨[(.tmp 7)]⟩, ⟨[22]⟩⟩, 3, "", ⟨[]⟩, none⟩, none, false⟩,
     ⟨⟨(some 9), .move (.tmp 0), 22, "", ⟨[]⟩, none⟩, none, false⟩,
     ⟨⟨(some 10), .call ⟨.builtin .len, ⟨[(.tmp 9)]⟩, ⟨[22]⟩⟩, 3, "", ⟨[]⟩, none⟩, none, false⟩,
     ⟨⟨(some 11), .binOp .eql 3 (.tmp 8) (.tmp 10) 3, 4, "", ⟨[]⟩, none⟩, none, false⟩,
     ⟨⟨(some 4), .assign (.tmp 11), 4, "", ⟨[]⟩, none⟩, none, false⟩])
   .ret))
def Try.s86 : SC :=
 (.seq
  (.ops false [
    ⟨⟨(some 4), .assign (.const (.slice none 0 0)), 22, "", ⟨[]⟩, none⟩, none, false⟩])
  (.seq
   (.ops false [
     ⟨⟨(some 8), .move (.tmp 0), 22, "", ⟨[]⟩, none⟩, none, false⟩,
     ⟨⟨(some 9), .call ⟨.builtin .len, ⟨[(.tmp 8)]⟩, ⟨[22]⟩⟩, 3, "", ⟨[]⟩, none⟩, none, false⟩,
     ⟨⟨(some 10), .makeSlice 22 (.const (.int .i64 0)) (.tmp 9), 22, "", ⟨[]⟩, none⟩, none, false⟩,
     ⟨⟨(some 5), .assign (.tmp 10), 22, "", ⟨[]⟩, none⟩, none, false⟩])
   (.seq
    (.seq
     (.ops false [
       ⟨⟨(some 11), .move (.tmp 0), 22, "", ⟨[]⟩, none⟩, none, false⟩,
       ⟨⟨(some 12), .call ⟨.builtin .len, ⟨[(.tmp 11)]⟩, ⟨[22]⟩⟩, 3, "", ⟨[]⟩, none⟩, none, false⟩,
       ⟨⟨(some 13), .move (.const (.int .i64 0)), 3, "", ⟨[]⟩, none⟩, none, false⟩])
     (.block 0
      (.loop
       (.seq
        (.ops false [
          ⟨⟨(some 14), .binOp .lss 3 (.tmp 13) (.tmp 12) 3, 0, "", ⟨[]⟩, none⟩, none, false⟩])
        (.seq
         (.cond (.tmp 14)
          .skip
          (.exit 0))
         (.seq
          (.block 1
           (.seq
            (.ops false [
              ⟨⟨(some 15), .indexAddr 22 (.tmp 11) (.tmp 13), 0, "", ⟨[]⟩, none⟩, none, false⟩,
              ⟨⟨(some 16), .load 3 (.tmp 15), 3, "", ⟨[]⟩, none⟩, none, false⟩,
              ⟨⟨(some 7), .assign (.tmp 16), 3, "", ⟨[]⟩, none⟩, none, false⟩])
            (.ops false [
              ⟨⟨(some 17), .move (.tmp 5), 22, "", ⟨[]⟩, none⟩, none, false⟩,
              ⟨⟨(some 18), .move (.tmp 1), 126, "", ⟨[]⟩, none⟩, none, false⟩,
              ⟨⟨(some 19), .move (.tmp 7), 3, "", ⟨[]⟩, none⟩, none, false⟩,
              ⟨⟨(some 20), .call ⟨.value (.tmp 18), ⟨[(.tmp 19)]⟩, ⟨[3]⟩⟩, 3, "", ⟨[]⟩, none⟩, none, false⟩,
              ⟨⟨(some 21), .buildSlice 22 1 ⟨[(0, (.tmp 20))]⟩, 22, "", ⟨[]⟩, none⟩, none, false⟩,
              ⟨⟨(some 22), .call ⟨.builtin .append, ⟨[(.tmp 17), (.tmp 21)]⟩, ⟨[22, 22]⟩⟩, 22, "", ⟨[]⟩, none⟩, none, false⟩,
              ⟨⟨(some 5), .assign (.tmp 22), 22, "", ⟨[]⟩, none⟩, none, false⟩])))
          (.ops false [
            ⟨⟨(some 23), .binOp .add 3 (.tmp 13) (.const (.int .i64 1)) 3, 3, "", ⟨[]⟩, none⟩, none, false⟩,
            ⟨⟨(some 13), .move (.tmp 23), 3, "", ⟨[]⟩, none⟩, none, false⟩])))))))
    (.seq
     (.ops false [
       ⟨⟨(some 24), .move (.tmp 5), 22, "", ⟨[]⟩, none⟩, none, false⟩,
       ⟨⟨(some 4), .assign (.tmp 24), 22, "", ⟨[]⟩, none⟩, none, false⟩])
     .ret))))
def Try.s87 : SC :=
 (.seq
  (.ops false [
    ⟨⟨(some 4), .assign (.const (.int .i64 0)), 3, "", ⟨[]⟩, none⟩, none, false⟩])
  (.seq
   (.ops false [
     ⟨⟨(some 5), .load 3 (.tmp 1), 3, "", ⟨[]⟩, none⟩, none, false⟩,
     ⟨⟨(some 6), .move (.tmp 0), 3, "", ⟨[]⟩, none⟩, none, false⟩,
     ⟨⟨(some 7), .binOp .mul 3 (.tmp 5) (.tmp 6) 3, 3, "", ⟨[]⟩, none⟩, none, false⟩,
     ⟨⟨(some 8), .load 3 (.tmp 2), 3, "", ⟨[]⟩, none⟩, none, false⟩,
     ⟨⟨(some 9), .binOp .quo 3 (.tmp 7) (.tmp 8) 3, 3, "", ⟨[]⟩, none⟩, none, false⟩,
     ⟨⟨(some 4), .assign (.tmp 9), 3, "", ⟨[]⟩, none⟩, none, false⟩])
   .ret))
def Try.s88 : SC :=
 (.seq
  (.ops false [
    ⟨⟨(some 2), .assign (.const (.int .i64 0)), 3, "", ⟨[]⟩, none⟩, none, false⟩])
  (.seq
   (.ops false [
     ⟨⟨(some 3), .assign (.const (.int .i64 0)), 3, "", ⟨[]⟩, none⟩, none, false⟩])
   (.seq
    (.seq
     (.ops false [
       ⟨⟨(some 6), .load 22 (.tmp 0), 22, "", ⟨[]⟩, none⟩, none, false⟩,
       ⟨⟨(some 7), .call ⟨.builtin .len, ⟨[(.tmp 6)]⟩, ⟨[22]⟩⟩, 3, "", ⟨[]⟩, none⟩, none, false⟩,
       ⟨⟨(some 8), .move (.const (.int .i64 0)), 3, "", ⟨[]⟩, none⟩, none, false⟩])
     (.block 0
      (.loop
       (.seq
        (.ops false [
          ⟨⟨(some 9), .binOp .lss 3 (.tmp 8) (.tmp 7) 3, 0, "", ⟨[]⟩, none⟩, none, false⟩])
        (.seq
         (.cond (.tmp 9)
          .skip
          (.exit 0))
         (.seq
          (.block 1
           (.seq
            (.ops false [
              ⟨⟨(some 10), .move (.tmp 8), 3, "", ⟨[]⟩, none⟩, none, false⟩,
              ⟨⟨(some 11), .indexAddr 22 (.tmp 6) (.tmp 8), 0, "", ⟨[]⟩, none⟩, none, false⟩,
              ⟨⟨(some 12), .load 3 (.tmp 11), 3, "", ⟨[]⟩, none⟩, none, false⟩,
              ⟨⟨(some 4), .assign (.tmp 10), 3, "", ⟨[]⟩, none⟩, none, false⟩,
              ⟨⟨(some 5), .assign (.tmp 12), 3, "", ⟨[]⟩, none⟩, none, false⟩])
            (.seq
             (.ops true [
               ⟨⟨(some 13), .move (.tmp 5), 3, "", ⟨[]⟩, none⟩, none, true⟩,
               ⟨⟨(some 14), .load 22 (.tmp 1), 22, "", ⟨[]⟩, none⟩, none, true⟩,
               ⟨⟨(some 15), .move (.tmp 3), 3, "", ⟨[]⟩, none⟩, none, true⟩,
               ⟨⟨(some 16), .indexAddr 22 (.tmp 14) (.tmp 15), 0, "", ⟨[]⟩, none⟩, none, true⟩,
               ⟨⟨(some 17), .load 3 (.tmp 16), 3, "", ⟨[]⟩, none⟩, none, true⟩,
               ⟨⟨(some 18), .binOp .add 3 (.tmp 17) (.const (.int .i64 1)) 3, 3, "", ⟨[]⟩, none⟩, none, true⟩,
               ⟨⟨(some 19), .binOp .mul 3 (.tmp 13) (.tmp 18) 3, 3, "", ⟨[]⟩, none⟩, none, true⟩,
               ⟨⟨(some 20), .load 22 (.tmp 0), 22, "", ⟨[]⟩, none⟩, none, true⟩,
               ⟨⟨(some 21), .move (.tmp 3), 3, "", ⟨[]⟩, none⟩, none, true⟩,
               ⟨⟨(some 22), .indexAddr 22 (.tmp 20) (.tmp 21), 0, "", ⟨[]⟩, none⟩, none, true⟩,
               ⟨⟨(some 23), .load 3 (.tmp 22), 3, "", ⟨[]⟩, none⟩, none, true⟩,
               ⟨⟨(some 24), .load 22 (.tmp 1), 22, "", ⟨[]⟩, none⟩, none, true⟩,
               ⟨⟨(some 25), .move (.tmp 4), 3, "", ⟨[]⟩, none⟩, none, true⟩,
               ⟨⟨(some 26), .indexAddr 22 (.tmp 24) (.tmp 25), 0, "", ⟨[]⟩, none⟩, none, true⟩,
               ⟨⟨(some 27), .load 3 (.tmp 26), 3, "", ⟨[]⟩, none⟩, none, true⟩,
               ⟨⟨(some 28), .binOp .add 3 (.tmp 27) (.const (.int .i64 1)) 3, 3, "", ⟨[]⟩, none⟩, none, true⟩,
               ⟨⟨(some 29), .binOp .mul 3 (.tmp 23) (.tmp 28) 3, 3, "", ⟨[]⟩, none⟩, none, true⟩,
               ⟨⟨(some 30), .binOp .gtr 3 (.tmp 19) (.tmp 29) 3, 4, "", ⟨[]⟩, none⟩, none, true⟩])
             (.cond (.tmp 30)
              (.ops false [
                ⟨⟨(some 31), .move (.tmp 4), 3, "", ⟨[]⟩, none⟩, none, false⟩,
                ⟨⟨(some 3), .assign (.tmp 31), 3, "", ⟨[]⟩, none⟩, none, false⟩])
              .skip))))
          (.ops false [
            ⟨⟨(some 32), .binOp .add 3 (.tmp 8) (.const (.int .i64 1)) 3, 3, "", ⟨[]⟩, none⟩, none, false⟩,
            ⟨⟨(some 8), .move (.tmp 32), 3, "", ⟨[]⟩, none⟩, none, false⟩])))))))
    (.seq
     (.ops false [
       ⟨⟨(some 33), .move (.tmp 3), 3, "", ⟨[]⟩, none⟩, none, false⟩,
       ⟨⟨(some 2), .assign (.tmp 33), 3, "", ⟨[]⟩, none⟩, none, false⟩])
     .ret))))
def Try.s89 : SC :=
 (.seq
  (.ops false [
    ⟨⟨(some 4), .assign (.const (.bool false)), 4, "", ⟨[]⟩, none⟩, none, false⟩])
  (.seq
   (.ops false [
     ⟨⟨(some 5), .move (.tmp 0), 23, "", ⟨[]⟩, none⟩, none, false⟩,
     ⟨⟨(some 6), .move (.tmp 1), 130, "", ⟨[]⟩, none⟩, none, false⟩,
     ⟨⟨(some 7), .call ⟨.value (.func 91), ⟨[(.tmp 5), (.tmp 6)]⟩, ⟨[23, 130]⟩⟩, 22, "", ⟨[]⟩, none⟩, none, false⟩,
     ⟨⟨(some 8), .call ⟨.builtin .len, ⟨[(.tmp 7)]⟩, ⟨[22]⟩⟩, 3, "", ⟨[]⟩, none⟩, none, false⟩,
     ⟨⟨(some 9), .move (.tmp 0), 23, "", ⟨[]⟩, none⟩, none, false⟩,
     ⟨⟨(some 10), .call ⟨.builtin .len, ⟨[(.tmp 9)]⟩, ⟨[23]⟩⟩, 3, "", ⟨[]⟩, none⟩, none, false⟩,
     ⟨⟨(some 11), .binOp .eql 3 (.tmp 8) (.tmp 10) 3, 4, "", ⟨[]⟩, none⟩, none, false⟩,
     ⟨⟨(some 4), .assign (.tmp 11), 4, "", ⟨[]⟩, none⟩, none, false⟩])
   .ret))
def Try.s90 : SC :=
 (.seq
  (.ops false [
    ⟨⟨(some 1), .box 76 (.tmp 0), 0, "", ⟨[]⟩, none⟩, none, false⟩,
    ⟨⟨(some 2), .assign (.const (.bool false)), 4, "", ⟨[]⟩, none⟩, none, false⟩])
  (.seq
   (.ops false [
     ⟨⟨(some 3), .fieldAddr 76 (.tmp 1) 0, 0, "", ⟨[]⟩, none⟩, none, false⟩,
     ⟨⟨(some 4), .load 3 (.tmp 3), 3, "", ⟨[]⟩, none⟩, none, false⟩,
     ⟨⟨(some 5), .call ⟨.value (.func 65), ⟨[(.tmp 4), (.const (.int .i64 0)), (.const (.int .i64 9))]⟩, ⟨[3, 3, 3]⟩⟩, 4, "", ⟨[]⟩, none⟩, none, false⟩,
     ⟨⟨(some 6), .move (.tmp 5), 4, "", ⟨[]⟩, none⟩, none, false⟩,
     ⟨⟨(some 7), .fieldAddr 76 (.tmp 1) 1, 0, "", ⟨[]⟩, none⟩, some ((some 6), true), false⟩,
     ⟨⟨(some 8), .load 3 (.tmp 7), 3, "", ⟨[]⟩, none⟩, some ((some 6), true), false⟩,
     ⟨⟨(some 9), .call ⟨.value (.func 56), ⟨[(.tmp 8)]⟩, ⟨[3]⟩⟩, 4, "", ⟨[]⟩, none⟩, some ((some 6), true), false⟩,
     ⟨⟨(some 10), .pick (.tmp 6) (.tmp 9) (.const (.bool false)), 4, "", ⟨[]⟩, none⟩, none, false⟩,
     ⟨⟨(some 2), .assign (.tmp 10), 4, "", ⟨[]⟩, none⟩, none, false⟩])
   .ret))
def Try.s91 : SC :=
 (.seq
  (.ops false [
    ⟨⟨(some 4), .assign (.const (.slice none 0 0)), 22, "", ⟨[]⟩, none⟩, none, false⟩])
  (.seq
   (.ops false [
     ⟨⟨(some 5), .assign (.const (.slice none 0 0)), 22, "", ⟨[]⟩, none⟩, none, false⟩])
   (.seq
    (.seq
     (.ops false [
       ⟨⟨(some 8), .move (.tmp 0), 23, "", ⟨[]⟩, none⟩, none, false⟩,
       ⟨⟨(some 9), .call ⟨.builtin .len, ⟨[(.tmp 8)]⟩, ⟨[23]⟩⟩, 3, "", ⟨[]⟩, none⟩, none, false⟩,
       ⟨⟨(some 10), .move (.const (.int .i64 0)), 3, "", ⟨[]⟩, none⟩, none, false⟩])
     (.block 0
      (.loop
       (.seq
        (.ops false [
          ⟨⟨(some 11), .binOp .lss 3 (.tmp 10) (.tmp 9) 3, 0, "", ⟨[]⟩, none⟩, none, false⟩])
        (.seq
         (.cond (.tmp 11)
          .skip
          (.exit 0))
         (.seq
          (.block 1
           (.seq
            (.ops false [
              ⟨⟨(some 12), .move (.tmp 10), 3, "", ⟨[]⟩, none⟩, none, false⟩,
              ⟨⟨(some 13), .indexAddr 23 (.tmp 8) (.tmp 10), 0, "", ⟨[]⟩, none⟩, none, false⟩,
              ⟨⟨(some 14), .load 76 (.tmp 13), 76, "", ⟨[]⟩, none⟩, none, false⟩,
              ⟨⟨(some 7), .alloc 76, 0, "", ⟨[]⟩, none⟩, none, false⟩,
              ⟨⟨(some 6), .assign (.tmp 12), 3, "", ⟨[]⟩, none⟩, none, false⟩,
              ⟨⟨none, .store 76 (.tmp 7) (.tmp 14), 0, "", ⟨[]⟩, none⟩, none, false⟩])
            (.seq
             (.ops false [
               ⟨⟨(some 15), .move (.tmp 1), 130, "", ⟨[]⟩, none⟩, none, false⟩,
               ⟨⟨(some 16), .load 76 (.tmp 7), 76, "", ⟨[]⟩, none⟩, none, false⟩,
               ⟨⟨(some 17), .call ⟨.value (.tmp 15), ⟨[(.tmp 16)]⟩, ⟨[76]⟩⟩, 4, "", ⟨[]⟩, none⟩, none, false⟩])
             (.cond (.tmp 17)
              (.ops false [
                ⟨⟨(some 18), .move (.tmp 5), 22, "", ⟨[]⟩, none⟩, none, false⟩,
                ⟨⟨(some 19), .move (.tmp 6), 3, "", ⟨[]⟩, none⟩, none, false⟩,
                ⟨⟨(some 20), .buildSlice 22 1 ⟨[(0, (.tmp 19))]⟩, 22, "", ⟨[]⟩, none⟩, none, false⟩,
                ⟨⟨(some 21), .call ⟨.builtin .append, ⟨[(.tmp 18), (.tmp 20)]⟩, ⟨[22, 22]⟩⟩, 22, "", ⟨[]⟩, none⟩, none, false⟩,
                ⟨⟨(some 5), .assign (.tmp 21), 22, "", ⟨[]⟩, none⟩, none, false⟩])
              .skip))))
          (.ops false [
            ⟨⟨(some 22), .binOp .add 3 (.tmp 10) (.const (.int .i64 1)) 3, 3, "", ⟨[]⟩, none⟩, none, false⟩,
            ⟨⟨(some 10), .move (.tmp 22), 3, "", ⟨[]⟩, none⟩, none, false⟩])))))))
    (.seq
     (.ops false [
       ⟨⟨(some 23), .move (.tmp 5), 22, "", ⟨[]⟩, none⟩, none, false⟩,
       ⟨⟨(some 4), .assign (.tmp 23), 22, "", ⟨[]⟩, none⟩, none, false⟩])
     .ret))))
def Try.s92 : SC :=
 (.seq
  (.ops false [
    ⟨⟨(some 3), .box 76 (.tmp 1), 0, "", ⟨[]⟩, none⟩, none, false⟩,
    ⟨⟨(some 4), .assign (.const (.bool false)), 4, "", ⟨[]⟩, none⟩, none, false⟩])
  (.seq
   (.ops false [
     ⟨⟨(some 5), .fieldAddr 76 (.tmp 3) 0, 0, "", ⟨[]⟩, none⟩, none, false⟩,
     ⟨⟨(some 6), .load 3 (.tmp 5), 3, "", ⟨[]⟩, none⟩, none, false⟩,
     ⟨⟨(some 7), .move (.tmp 0), 132, "", ⟨[]⟩, none⟩, none, false⟩,
     ⟨⟨(some 8), .binOp .eql 3 (.tmp 6) (.tmp 7) 3, 4, "", ⟨[]⟩, none⟩, none, false⟩,
     ⟨⟨(some 4), .assign (.tmp 8), 4, "", ⟨[]⟩, none⟩, none, false⟩])
   .ret))
def Try.s93 : SC :=
 (.seq
  (.ops false [
    ⟨⟨(some 4), .assign (.const (.slice none 0 0)), 22, "", ⟨[]⟩, none⟩, none, false⟩])
  (.seq
   (.seq
    (.ops false [
      ⟨⟨(some 5), .move (.tmp 0), 22, "", ⟨[]⟩, none⟩, none, false⟩,
      ⟨⟨(some 6), .call ⟨.value (.func 82), ⟨[(.tmp 5)]⟩, ⟨[22]⟩⟩, 3, "", ⟨[]⟩, none⟩, none, false⟩,
      ⟨⟨(some 7), .move (.tmp 1), 3, "", ⟨[]⟩, none⟩, none, false⟩,
      ⟨⟨(some 8), .binOp .leq 3 (.tmp 6) (.tmp 7) 3, 4, "", ⟨[]⟩, none⟩, none, false⟩])
    (.cond (.tmp 8)
     (.seq
      (.ops false [
        ⟨⟨(some 9), .move (.tmp 0), 22, "", ⟨[]⟩, none⟩, none, false⟩,
        ⟨⟨(some 4), .assign (.tmp 9), 22, "", ⟨[]⟩, none⟩, none, false⟩])
      .ret)
     .skip))
   (.seq
    (.ops false [
      ⟨⟨(some 10), .move (.tmp 0), 22, "", ⟨[]⟩, none⟩, none, false⟩,
      ⟨⟨(some 11), .move (.tmp 1), 3, "", ⟨[]⟩, none⟩, none, false⟩,
      ⟨⟨(some 12), .call ⟨.value (.func 49), ⟨[(.tmp 10), (.tmp 11)]⟩, ⟨[22, 3]⟩⟩, 22, "", ⟨[]⟩, none⟩, none, false⟩,
      ⟨⟨(some 4), .assign (.tmp 12), 22, "", ⟨[]⟩, none⟩, none, false⟩])
    .ret)))
def Try.s94 : SC :=
 (.seq
  (.ops false [
    ⟨⟨(some 3), .assign (.const (.int .i64 0)), 3, "", ⟨[]⟩, none⟩, none, false⟩])
  (.seq
   (.ops false [
     ⟨⟨(some 4), .load 23 (.tmp 1), 23, "", ⟨[]⟩, none⟩, none, false⟩,
     ⟨⟨(some 5), .move (.tmp 0), 3, "", ⟨[]⟩, none⟩, none, false⟩,
     ⟨⟨(some 6), .indexAddr 23 (.tmp 4) (.tmp 5), 0, "", ⟨[]⟩, none⟩, none, false⟩,
     ⟨⟨(some 7), .fieldAddr 76 (.tmp 6) 1, 0, "", ⟨[]⟩, none⟩, none, false⟩,
     ⟨⟨(some 8), .load 3 (.tmp 7), 3, "", ⟨[]⟩, none⟩, none, false⟩,
     ⟨⟨(some 3), .assign (.tmp 8), 3, "", ⟨[]⟩, none⟩, none, false⟩])
   .ret))
def Try.s114 : SC :=
 (.seq
  (.ops false [
    ⟨⟨(some 4), .assign (.const (.slice none 0 0)), 22, "", ⟨[]⟩, none⟩, none, false⟩])
  (.seq
   (.ops false [
     ⟨⟨(some 5), .assign (.const (.slice none 0 0)), 22, "", ⟨[]⟩, none⟩, none, false⟩])
   (.seq
    (.seq
     (.ops false [
       ⟨⟨(some 8), .move (.tmp 0), 22, "", ⟨[]⟩, none⟩, none, false⟩,
       ⟨⟨(some 9), .call ⟨.builtin .len, ⟨[(.tmp 8)]⟩, ⟨[22]⟩⟩, 3, "", ⟨[]⟩, none⟩, none, false⟩,
       ⟨⟨(some 10), .move (.const (.int .i64 0)), 3, "", ⟨[]⟩, none⟩, none, false⟩])
     (.block 0
      (.loop
       (.seq
        (.ops false [
          ⟨⟨(some 11), .binOp .lss 3 (.tmp 10) (.tmp 9) 3, 0, "", ⟨[]⟩, none⟩, none, false⟩])
        (.seq
         (.cond (.tmp 11)
          .skip
          (.exit 0))
         (.seq
          (.block 1
           (.seq
            (.ops false [
              ⟨⟨(some 12), .move (.tmp 10), 3, "", ⟨[]⟩, none⟩, none, false⟩,
              ⟨⟨(some 13), .indexAddr 22 (.tmp 8) (.tmp 10), 0, "", ⟨[]⟩, none⟩, none, false⟩,
              ⟨⟨(some 14), .load 3 (.tmp 13), 3, "", ⟨[]⟩, none⟩, none, false⟩,
              ⟨⟨(some 6), .assign (.tmp 12), 3, "", ⟨[]⟩, none⟩, none, false⟩,
              ⟨⟨(some 7), .assign (.tmp 14), 3, "", ⟨[]⟩, none⟩, none, false⟩])
            (.seq
             (.ops false [
               ⟨⟨(some 15), .move (.tmp 1), 101, "", ⟨[]⟩, none⟩, none, false⟩,
               ⟨⟨(some 16), .move (.tmp 7), 3, "", ⟨[]⟩, none⟩, none, false⟩,
               ⟨⟨(some 17), .call ⟨.value (.tmp 15), ⟨[(.tmp 16)]⟩, ⟨[3]⟩⟩, 4, "", ⟨[]⟩, none⟩, none, false⟩])
             (.cond (.tmp 17)
              (.ops false [
                ⟨⟨(some 18), .move (.tmp 5), 22, "", ⟨[]⟩, none⟩, none, false⟩,
                ⟨⟨(some 19), .move (.tmp 6), 3, "", ⟨[]⟩, none⟩, none, false⟩,
                ⟨⟨(some 20), .buildSlice 22 1 ⟨[(0, (.tmp 19))]⟩, 22, "", ⟨[]⟩, none⟩, none, false⟩,
                ⟨⟨(some 21), .call ⟨.builtin .append, ⟨[(.tmp 18), (.tmp 20)]⟩, ⟨[22, 22]⟩⟩, 22, "", ⟨[]⟩, none⟩, none, false⟩,
                ⟨⟨(some 5), .assign (.tmp 21), 22, "", ⟨[]⟩, none⟩, none, false⟩])
              .skip))))
          (.ops false [
            ⟨⟨(some 22), .binOp .add 3 (.tmp 10) (.const (.int .i64 1)) 3, 3, "", ⟨[]⟩, none⟩, none, false⟩,
            ⟨⟨(some 10), .move (.tmp 22), 3, "", ⟨[]⟩, none⟩, none, false⟩])))))))
    (.seq
     (.ops false [
       ⟨⟨(some 23), .move (.tmp 5), 22, "", ⟨[]⟩, none⟩, none, false⟩,
       ⟨⟨(some 4), .assign (.tmp 23), 22, "", ⟨[]⟩, none⟩, none, false⟩])
     .ret))))
def Try.s16 : SC :=
 (.seq
  (.ops false [
    ⟨⟨(some 4), .assign (.const (.bool false)), 4, "", ⟨[]⟩, none⟩, none, false⟩])
  (.seq
   (.ops false [
     ⟨⟨(some 7), .move (.tmp 0), 22, "", ⟨[]⟩, none⟩, none, false⟩,
     ⟨⟨(some 8), .call ⟨.builtin .len, ⟨[(.tmp 7)]⟩, ⟨[22]⟩⟩, 3, "", ⟨[]⟩, none⟩, none, false⟩,
     ⟨⟨(some 9), .move (.tmp 1), 22, "", ⟨[]⟩, none⟩, none, false⟩,
     ⟨⟨(some 10), .call ⟨.builtin .len, ⟨[(.tmp 9)]⟩, ⟨[22]⟩⟩, 3, "", ⟨[]⟩, none⟩, none, false⟩,
     ⟨⟨(some 11), .binOp .eql 3 (.tmp 8) (.tmp 10) 3, 4, "", ⟨[]⟩, none⟩, none, false⟩,
     ⟨⟨(some 5), .assign (.tmp 11), 4, "", ⟨[]⟩, none⟩, none, false⟩])
   (.seq
    (.seq
     (.ops false [
       ⟨⟨(some 6), .assign (.const (.int .i64 0)), 3, "", ⟨[]⟩, none⟩, none, false⟩])
     (.block 0
      (.loop
       (.seq
        (.seq
         (.ops false [
           ⟨⟨(some 12), .move (.tmp 5), 4, "", ⟨[]⟩, none⟩, none, false⟩,
           ⟨⟨(some 13), .move (.tmp 12), 4, "", ⟨[]⟩, none⟩, none, false⟩,
           ⟨⟨(some 14), .move (.tmp 6), 3, "", ⟨[]⟩, none⟩, some ((some 13), true), false⟩,
           ⟨⟨(some 15), .move (.tmp 0), 22, "", ⟨[]⟩, none⟩, some ((some 13), true), false⟩,
           ⟨⟨(some 16), .call ⟨.builtin .len, ⟨[(.tmp 15)]⟩, ⟨[22]⟩⟩, 3, "", ⟨[]⟩, none⟩, some ((some 13), true), false⟩,
           ⟨⟨(some 17), .binOp .lss 3 (.tmp 14) (.tmp 16) 3, 4, "", ⟨[]⟩, none⟩, some ((some 13), true), false⟩,
           ⟨⟨(some 18), .pick (.tmp 13) (.tmp 17) (.const (.bool false)), 4, "", ⟨[]⟩, none⟩, none, false⟩])
         (.cond (.tmp 18)
          .skip
          (.exit 0)))
        (.seq
         (.block 1
          (.ops true [
            ⟨⟨(some 21), .move (.tmp 0), 22, "", ⟨[]⟩, none⟩, none, true⟩,
            ⟨⟨(some 22), .move (.tmp 6), 3, "", ⟨[]⟩, none⟩, none, true⟩,
            ⟨⟨(some 23), .indexAddr 22 (.tmp 21) (.tmp 22), 0, "", ⟨[]⟩, none⟩, none, true⟩,
            ⟨⟨(some 24), .load 3 (.tmp 23), 3, "", ⟨[]⟩, none⟩, none, true⟩,
            ⟨⟨(some 25), .move (.tmp 1), 22, "", ⟨[]⟩, none⟩, none, true⟩,
            ⟨⟨(some 26), .move (.tmp 6), 3, "", ⟨[]⟩, none⟩, none, true⟩,
            ⟨⟨(some 27), .indexAddr 22 (.tmp 25) (.tmp 26), 0, "", ⟨[]⟩, none⟩, none, true⟩,
            ⟨⟨(some 28), .load 3 (.tmp 27), 3, "", ⟨[]⟩, none⟩, none, true⟩,
            ⟨⟨(some 29), .binOp .eql 3 (.tmp 24) (.tmp 28) 3, 4, "", ⟨[]⟩, none⟩, none, true⟩,
            ⟨⟨(some 5), .assign (.tmp 29), 4, "", ⟨[]⟩, none⟩, none, true⟩]))
         (.ops false [
           ⟨⟨(some 19), .move (.tmp 6), 3, "", ⟨[]⟩, none⟩, none, false⟩,
           ⟨⟨(some 20), .binOp .add 3 (.tmp 19) (.const (.int .i64 1)) 3, 3, "", ⟨[]⟩, none⟩, none, false⟩,
           ⟨⟨(some 6), .assign (.tmp 20), 3, "", ⟨[]⟩, none⟩, none, false⟩]))))))
    (.seq
     (.ops false [
       ⟨⟨(some 30), .move (.tmp 5), 4, "", ⟨[]⟩, none⟩, none, false⟩,
       ⟨⟨(some 4), .assign (.tmp 30), 4, "", ⟨[]⟩, none⟩, none, false⟩])
     .ret))))
theorem Try.s14_eq : Try.f14.body.map sOf = some Try.s14 := by kernel_rfl
theorem Try.s15_eq : Try.f15.body.map sOf = some Try.s15 := by kernel_rfl
theorem Try.s17_eq : Try.f17.body.map sOf = some Try.s17 := by kernel_rfl
theorem Try.s18_eq : Try.f18.body.map sOf = some Try.s18 := by kernel_rfl
theorem Try.s35_eq : Try.f35.body.map sOf = some Try.s35 := by kernel_rfl
theorem Try.s36_eq : Try.f36.body.map sOf = some Try.s36 := by kernel_rfl
theorem Try.s37_eq : Try.f37.body.map sOf = some Try.s37 := by kernel_rfl
theorem Try.s38_eq : Try.f38.body.map sOf = some Try.s38 := by kernel_rfl
theorem Try.s39_eq : Try.f39.body.map sOf = some Try.s39 := by kernel_rfl
theorem Try.s40_eq : Try.f40.body.map sOf = some Try.s40 := by kernel_rfl
theorem Try.s47_eq : Try.f47.body.map sOf = some Try.s47 := by kernel_rfl
theorem Try.s48_eq : Try.f48.body.map sOf = some Try.s48 := by kernel_rfl
theorem Try.s49_eq : Try.f49.body.map sOf = some Try.s49 := by kernel_rfl
theorem Try.s50_eq : Try.f50.body.map sOf = some Try.s50 := by kernel_rfl
theorem Try.s51_eq : Try.f51.body.map sOf = some Try.s51 := by kernel_rfl
theorem Try.s52_eq : Try.f52.body.map sOf = some Try.s52 := by kernel_rfl
theorem Try.s53_eq : Try.f53.body.map sOf = some Try.s53 := by kernel_rfl
theorem Try.s54_eq : Try.f54.body.map sOf = some Try.s54 := by kernel_rfl
theorem Try.s55_eq : Try.f55.body.map sOf = some Try.s55 := by kernel_rfl
theorem Try.s56_eq : Try.f56.body.map sOf = some Try.s56 := by kernel_rfl
theorem Try.s65_eq : Try.f65.body.map sOf = some Try.s65 := by kernel_rfl
theorem Try.s82_eq : Try.f82.body.map sOf = some Try.s82 := by kernel_rfl
theorem Try.s85_eq : Try.f85.body.map sOf = some Try.s85 := by kernel_rfl
theorem Try.s86_eq : Try.f86.body.map sOf = some Try.s86 := by kernel_rfl
theorem Try.s87_eq : Try.f87.body.map sOf = some Try.s87 := by kernel_rfl
theorem Try.s88_eq : Try.f88.body.map sOf = some Try.s88 := by kernel_rfl
theorem Try.s89_eq : Try.f89.body.map sOf = some Try.s89 := by kernel_rfl
theorem Try.s90_eq : Try.f90.body.map sOf = some Try.s90 := by kernel_rfl
theorem Try.s91_eq : Try.f91.body.map sOf = some Try.s91 := by kernel_rfl
theorem Try.s92_eq : Try.f92.body.map sOf = some Try.s92 := by kernel_rfl
theorem Try.s93_eq : Try.f93.body.map sOf = some Try.s93 := by kernel_rfl
theorem Try.s94_eq : Try.f94.body.map sOf = some Try.s94 := by kernel_rfl
theorem Try.s114_eq : Try.f114.body.map sOf = some Try.s114 := by kernel_rfl
theorem Try.s16_eq : Try.f16.body.map sOf = some Try.s16 := by kernel_rfl
end Go.Proofs
