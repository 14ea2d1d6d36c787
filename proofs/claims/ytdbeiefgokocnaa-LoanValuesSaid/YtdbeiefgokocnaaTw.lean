/- The code of the chapter's check, cut; the code of the law. -/
import Derived.Test.YtdbeiefgokocnaaTd
import Derived.Test.YtdbeiefgokocnaaNa
set_option linter.unusedVariables false
set_option linter.unusedSimpArgs false
/- The code of the chapter's CheckMarket, cut ahead of its loops. -/
namespace Go.Proofs
open Go Go.RowKit Go.Sim
set_option maxRecDepth 100000
def Try.s18_c5 : SC :=
 (.seq
      (.ops false [
        ⟨⟨(some 5), .assign (.const (.int .i64 0)), 3, "", ⟨[]⟩, none⟩, none, false⟩])
      (.block 2
       (.loop
        (.seq
         (.seq
          (.ops false [
            ⟨⟨(some 48), .move (.tmp 5), 3, "", ⟨[]⟩, none⟩, none, false⟩,
            ⟨⟨(some 49), .fieldAddr 25 (.tmp 1) 0, 0, "", ⟨[]⟩, none⟩, none, false⟩,
            ⟨⟨(some 50), .load 22 (.tmp 49), 22, "", ⟨[]⟩, none⟩, none, false⟩,
            ⟨⟨(some 51), .call ⟨.builtin .len, ⟨[(.tmp 50)]⟩, ⟨[22]⟩⟩, 3, "", ⟨[]⟩, none⟩, none, false⟩,
            ⟨⟨(some 52), .binOp .lss 3 (.tmp 48) (.tmp 51) 3, 4, "", ⟨[]⟩, none⟩, none, false⟩])
          (.cond (.tmp 52)
           .skip
           (.exit 2)))
         (.seq
          (.block 3
           (.seq
            (.ops false [
              ⟨⟨(some 55), .fieldAddr 25 (.tmp 1) 0, 0, "", ⟨[]⟩, none⟩, none, false⟩,
              ⟨⟨(some 56), .load 22 (.tmp 55), 22, "", ⟨[]⟩, none⟩, none, false⟩,
              ⟨⟨(some 57), .move (.tmp 5), 3, "", ⟨[]⟩, none⟩, none, false⟩,
              ⟨⟨(some 58), .indexAddr 22 (.tmp 56) (.tmp 57), 0, "", ⟨[]⟩, none⟩, none, false⟩,
              ⟨⟨(some 59), .load 66 (.tmp 58), 66, "", ⟨[]⟩, none⟩, none, false⟩,
              ⟨⟨(some 6), .alloc 66, 0, "", ⟨[]⟩, none⟩, none, false⟩,
              ⟨⟨none, .store 66 (.tmp 6) (.tmp 59), 0, "", ⟨[]⟩, none⟩, none, false⟩])
            (.ops false [
              ⟨⟨(some 60), .move (.tmp 3), 4, "", ⟨[]⟩, none⟩, none, false⟩,
              ⟨⟨(some 61), .move (.tmp 60), 4, "", ⟨[]⟩, none⟩, none, false⟩,
              ⟨⟨(some 62), .fieldAddr 66 (.tmp 6) 0, 0, "", ⟨[]⟩, none⟩, some ((some 61), true), false⟩,
              ⟨⟨(some 63), .load 3 (.tmp 62), 3, "", ⟨[]⟩, none⟩, some ((some 61), true), false⟩,
              ⟨⟨(some 64), .fieldAddr 25 (.tmp 1) 1, 0, "", ⟨[]⟩, none⟩, some ((some 61), true), false⟩,
              ⟨⟨(some 65), .load 23 (.tmp 64), 23, "", ⟨[]⟩, none⟩, some ((some 61), true), false⟩,
              ⟨⟨(some 66), .call ⟨.builtin .len, ⟨[(.tmp 65)]⟩, ⟨[23]⟩⟩, 3, "", ⟨[]⟩, none⟩, some ((some 61), true), false⟩,
              ⟨⟨(some 67), .binOp .sub 3 (.tmp 66) (.const (.int .i64 1)) 3, 3, "", ⟨[]⟩, none⟩, some ((some 61), true), false⟩,
              ⟨⟨(some 68), .call ⟨.value (.func 32), ⟨[(.const (.int .i64 0)), (.tmp 63), (.tmp 67)]⟩, ⟨[3, 3, 3]⟩⟩, 4, "", ⟨[]⟩, none⟩, some ((some 61), true), false⟩,
              ⟨⟨(some 69), .pick (.tmp 61) (.tmp 68) (.const (.bool false)), 4, "", ⟨[]⟩, none⟩, none, false⟩,
              ⟨⟨(some 70), .move (.tmp 69), 4, "", ⟨[]⟩, none⟩, none, false⟩,
              ⟨⟨(some 71), .fieldAddr 66 (.tmp 6) 1, 0, "", ⟨[]⟩, none⟩, some ((some 70), true), false⟩,
              ⟨⟨(some 72), .load 3 (.tmp 71), 3, "", ⟨[]⟩, none⟩, some ((some 70), true), false⟩,
              ⟨⟨(some 73), .fieldAddr 25 (.tmp 1) 3, 0, "", ⟨[]⟩, none⟩, some ((some 70), true), false⟩,
              ⟨⟨(some 74), .load 3 (.tmp 73), 3, "", ⟨[]⟩, none⟩, some ((some 70), true), false⟩,
              ⟨⟨(some 75), .call ⟨.value (.func 32), ⟨[(.const (.int .i64 0)), (.tmp 72), (.tmp 74)]⟩, ⟨[3, 3, 3]⟩⟩, 4, "", ⟨[]⟩, none⟩, some ((some 70), true), false⟩,
              ⟨⟨(some 76), .pick (.tmp 70) (.tmp 75) (.const (.bool false)), 4, "", ⟨[]⟩, none⟩, none, false⟩,
              ⟨⟨(some 77), .move (.tmp 76), 4, "", ⟨[]⟩, none⟩, none, false⟩,
              ⟨⟨(some 78), .fieldAddr 66 (.tmp 6) 2, 0, "", ⟨[]⟩, none⟩, some ((some 77), true), false⟩,
              ⟨⟨(some 79), .load 3 (.tmp 78), 3, "", ⟨[]⟩, none⟩, some ((some 77), true), false⟩,
              ⟨⟨(some 80), .call ⟨.value (.func 32), ⟨[(.const (.int .i64 0)), (.tmp 79), (.const (.int .i64 1000))]⟩, ⟨[3, 3, 3]⟩⟩, 4, "", ⟨[]⟩, none⟩, some ((some 77), true), false⟩,
              ⟨⟨(some 81), .pick (.tmp 77) (.tmp 80) (.const (.bool false)), 4, "", ⟨[]⟩, none⟩, none, false⟩,
              ⟨⟨(some 82), .move (.tmp 81), 4, "", ⟨[]⟩, none⟩, none, false⟩,
              ⟨⟨(some 83), .fieldAddr 66 (.tmp 6) 3, 0, "", ⟨[]⟩, none⟩, some ((some 82), true), false⟩,
              ⟨⟨(some 84), .load 3 (.tmp 83), 3, "", ⟨[]⟩, none⟩, some ((some 82), true), false⟩,
              ⟨⟨(some 85), .call ⟨.value (.func 32), ⟨[(.const (.int .i64 0)), (.tmp 84), (.const (.int .i64 100000))]⟩, ⟨[3, 3, 3]⟩⟩, 4, "", ⟨[]⟩, none⟩, some ((some 82), true), false⟩,
              ⟨⟨(some 86), .pick (.tmp 82) (.tmp 85) (.const (.bool false)), 4, "", ⟨[]⟩, none⟩, none, false⟩,
              ⟨⟨(some 87), .move (.tmp 86), 4, "", ⟨[]⟩, none⟩, none, false⟩,
              ⟨⟨(some 88), .fieldAddr 66 (.tmp 6) 4, 0, "", ⟨[]⟩, none⟩, some ((some 87), true), false⟩,
              ⟨⟨(some 89), .load 3 (.tmp 88), 3, "", ⟨[]⟩, none⟩, some ((some 87), true), false⟩,
              ⟨⟨(some 90), .call ⟨.value (.func 32), ⟨[(.const (.int .i64 0)), (.tmp 89), (.const (.int .i64 1073741824))]⟩, ⟨[3, 3, 3]⟩⟩, 4, "", ⟨[]⟩, none⟩, some ((some 87), true), false⟩,
              ⟨⟨(some 91), .pick (.tmp 87) (.tmp 90) (.const (.bool false)), 4, "", ⟨[]⟩, none⟩, none, false⟩,
              ⟨⟨(some 3), .assign (.tmp 91), 4, "", ⟨[]⟩, none⟩, none, false⟩])))
          (.ops false [
            ⟨⟨(some 53), .move (.tmp 5), 3, "", ⟨[]⟩, none⟩, none, false⟩,
            ⟨⟨(some 54), .binOp .add 3 (.tmp 53) (.const (.int .i64 1)) 3, 3, "", ⟨[]⟩, none⟩, none, false⟩,
            ⟨⟨(some 5), .assign (.tmp 54), 3, "", ⟨[]⟩, none⟩, none, false⟩]))))))
def Try.s18_c4 : SC :=
 (.seq
     (.ops false [
       ⟨⟨(some 4), .assign (.const (.int .i64 0)), 3, "", ⟨[]⟩, none⟩, none, false⟩])
     (.block 0
      (.loop
       (.seq
        (.seq
         (.ops false [
           ⟨⟨(some 32), .move (.tmp 4), 3, "", ⟨[]⟩, none⟩, none, false⟩,
           ⟨⟨(some 33), .fieldAddr 25 (.tmp 1) 1, 0, "", ⟨[]⟩, none⟩, none, false⟩,
           ⟨⟨(some 34), .load 23 (.tmp 33), 23, "", ⟨[]⟩, none⟩, none, false⟩,
           ⟨⟨(some 35), .call ⟨.builtin .len, ⟨[(.tmp 34)]⟩, ⟨[23]⟩⟩, 3, "", ⟨[]⟩, none⟩, none, false⟩,
           ⟨⟨(some 36), .binOp .lss 3 (.tmp 32) (.tmp 35) 3, 4, "", ⟨[]⟩, none⟩, none, false⟩])
         (.cond (.tmp 36)
          .skip
          (.exit 0)))
        (.seq
         (.block 1
          (.ops false [
            ⟨⟨(some 39), .move (.tmp 3), 4, "", ⟨[]⟩, none⟩, none, false⟩,
            ⟨⟨(some 40), .move (.tmp 39), 4, "", ⟨[]⟩, none⟩, none, false⟩,
            ⟨⟨(some 41), .fieldAddr 25 (.tmp 1) 1, 0, "", ⟨[]⟩, none⟩, some ((some 40), true), false⟩,
            ⟨⟨(some 42), .load 23 (.tmp 41), 23, "", ⟨[]⟩, none⟩, some ((some 40), true), false⟩,
            ⟨⟨(some 43), .move (.tmp 4), 3, "", ⟨[]⟩, none⟩, some ((some 40), true), false⟩,
            ⟨⟨(some 44), .indexAddr 23 (.tmp 42) (.tmp 43), 0, "", ⟨[]⟩, none⟩, some ((some 40), true), false⟩,
            ⟨⟨(some 45), .load 3 (.tmp 44), 3, "", ⟨[]⟩, none⟩, some ((some 40), true), false⟩,
            ⟨⟨(some 46), .call ⟨.value (.func 32), ⟨[(.const (.int .i64 0)), (.tmp 45), (.const (.int .i64 64))]⟩, ⟨[3, 3, 3]⟩⟩, 4, "", ⟨[]⟩, none⟩, some ((some 40), true), false⟩,
            ⟨⟨(some 47), .pick (.tmp 40) (.tmp 46) (.const (.bool false)), 4, "", ⟨[]⟩, none⟩, none, false⟩,
            ⟨⟨(some 3), .assign (.tmp 47), 4, "", ⟨[]⟩, none⟩, none, false⟩]))
         (.ops false [
           ⟨⟨(some 37), .move (.tmp 4), 3, "", ⟨[]⟩, none⟩, none, false⟩,
           ⟨⟨(some 38), .binOp .add 3 (.tmp 37) (.const (.int .i64 1)) 3, 3, "", ⟨[]⟩, none⟩, none, false⟩,
           ⟨⟨(some 4), .assign (.tmp 38), 3, "", ⟨[]⟩, none⟩, none, false⟩]))))))
def Try.s18b : SC :=
 (.seq
  (.ops false [
    ⟨⟨(some 1), .box 25 (.tmp 0), 0, "", ⟨[]⟩, none⟩, none, false⟩,
    ⟨⟨(some 2), .assign (.const (.int .i64 0)), 30, "", ⟨[]⟩, none⟩, none, false⟩])
  (.seq
   (.ops false [
     ⟨⟨(some 7), .fieldAddr 25 (.tmp 1) 1, 0, "", ⟨[]⟩, none⟩, none, false⟩,
     ⟨⟨(some 8), .load 23 (.tmp 7), 23, "", ⟨[]⟩, none⟩, none, false⟩,
     ⟨⟨(some 9), .call ⟨.builtin .len, ⟨[(.tmp 8)]⟩, ⟨[23]⟩⟩, 3, "", ⟨[]⟩, none⟩, none, false⟩,
     ⟨⟨(some 10), .call ⟨.value (.func 32), ⟨[(.const (.int .i64 1)), (.tmp 9), (.const (.int .i64 8))]⟩, ⟨[3, 3, 3]⟩⟩, 4, "", ⟨[]⟩, none⟩, none, false⟩,
     ⟨⟨(some 11), .move (.tmp 10), 4, "", ⟨[]⟩, none⟩, none, false⟩,
     ⟨⟨(some 12), .fieldAddr 25 (.tmp 1) 2, 0, "", ⟨[]⟩, none⟩, some ((some 11), true), false⟩,
     ⟨⟨(some 13), .load 3 (.tmp 12), 3, "", ⟨[]⟩, none⟩, some ((some 11), true), false⟩,
     ⟨⟨(some 14), .call ⟨.value (.func 32), ⟨[(.const (.int .i64 0)), (.tmp 13), (.const (.int .i64 100000))]⟩, ⟨[3, 3, 3]⟩⟩, 4, "", ⟨[]⟩, none⟩, some ((some 11), true), false⟩,
     ⟨⟨(some 15), .pick (.tmp 11) (.tmp 14) (.const (.bool false)), 4, "", ⟨[]⟩, none⟩, none, false⟩,
     ⟨⟨(some 16), .move (.tmp 15), 4, "", ⟨[]⟩, none⟩, none, false⟩,
     ⟨⟨(some 17), .fieldAddr 25 (.tmp 1) 3, 0, "", ⟨[]⟩, none⟩, some ((some 16), true), false⟩,
     ⟨⟨(some 18), .load 3 (.tmp 17), 3, "", ⟨[]⟩, none⟩, some ((some 16), true), false⟩,
     ⟨⟨(some 19), .call ⟨.value (.func 32), ⟨[(.const (.int .i64 0)), (.tmp 18), (.const (.int .i64 36500))]⟩, ⟨[3, 3, 3]⟩⟩, 4, "", ⟨[]⟩, none⟩, some ((some 16), true), false⟩,
     ⟨⟨(some 20), .pick (.tmp 16) (.tmp 19) (.const (.bool false)), 4, "", ⟨[]⟩, none⟩, none, false⟩,
     ⟨⟨(some 21), .move (.tmp 20), 4, "", ⟨[]⟩, none⟩, none, false⟩,
     ⟨⟨(some 22), .fieldAddr 25 (.tmp 1) 4, 0, "", ⟨[]⟩, none⟩, some ((some 21), true), false⟩,
     ⟨⟨(some 23), .load 3 (.tmp 22), 3, "", ⟨[]⟩, none⟩, some ((some 21), true), false⟩,
     ⟨⟨(some 24), .call ⟨.value (.func 32), ⟨[(.const (.int .i64 1)), (.tmp 23), (.const (.int .i64 16))]⟩, ⟨[3, 3, 3]⟩⟩, 4, "", ⟨[]⟩, none⟩, some ((some 21), true), false⟩,
     ⟨⟨(some 25), .pick (.tmp 21) (.tmp 24) (.const (.bool false)), 4, "", ⟨[]⟩, none⟩, none, false⟩,
     ⟨⟨(some 26), .move (.tmp 25), 4, "", ⟨[]⟩, none⟩, none, false⟩,
     ⟨⟨(some 27), .fieldAddr 25 (.tmp 1) 0, 0, "", ⟨[]⟩, none⟩, some ((some 26), true), false⟩,
     ⟨⟨(some 28), .load 22 (.tmp 27), 22, "", ⟨[]⟩, none⟩, some ((some 26), true), false⟩,
     ⟨⟨(some 29), .call ⟨.builtin .len, ⟨[(.tmp 28)]⟩, ⟨[22]⟩⟩, 3, "", ⟨[]⟩, none⟩, some ((some 26), true), false⟩,
     ⟨⟨(some 30), .binOp .leq 3 (.tmp 29) (.const (.int .i64 64)) 3, 4, "", ⟨[]⟩, none⟩, some ((some 26), true), false⟩,
     ⟨⟨(some 31), .pick (.tmp 26) (.tmp 30) (.const (.bool false)), 4, "", ⟨[]⟩, none⟩, none, false⟩,
     ⟨⟨(some 3), .assign (.tmp 31), 4, "", ⟨[]⟩, none⟩, none, false⟩])
   (.seq
    Try.s18_c4
    (.seq
     Try.s18_c5
     (.seq
      (.seq
       (.ops false [
         ⟨⟨(some 92), .move (.tmp 3), 4, "", ⟨[]⟩, none⟩, none, false⟩,
         ⟨⟨(some 93), .unOp .not 4 (.tmp 92), 4, "", ⟨[]⟩, none⟩, none, false⟩])
       (.cond (.tmp 93)
        (.seq
         (.ops false [
           ⟨⟨(some 2), .assign (.const (.int .i64 20)), 30, "", ⟨[]⟩, none⟩, none, false⟩])
         .ret)
        .skip))
      (.seq
       (.ops false [
         ⟨⟨(some 2), .assign (.const (.int .i64 0)), 30, "", ⟨[]⟩, none⟩, none, false⟩])
       .ret))))))
theorem Try.s18b_eq : Try.f18.body.map sOf = some Try.s18b := by kernel_rfl
end Go.Proofs

/- Functions' code, as the machine reads it. -/
namespace Go.Proofs
open Go Go.RowKit Go.Sim
set_option maxRecDepth 100000
def Try.s3 : SC :=
 (.seq
  (.ops false [
    ⟨⟨(some 3), .box 25 (.tmp 0), 0, "", ⟨[]⟩, none⟩, none, false⟩,
    ⟨⟨(some 5), .box 29 (.tmp 2), 0, "", ⟨[]⟩, none⟩, none, false⟩,
    ⟨⟨(some 6), .assign (.const (.bool false)), 4, "", ⟨[]⟩, none⟩, none, false⟩])
  (.seq
   (.ops false [
     ⟨⟨(some 14), .load 25 (.tmp 3), 25, "", ⟨[]⟩, none⟩, none, false⟩,
     ⟨⟨(some 15), .move (.tmp 1), 3, "", ⟨[]⟩, none⟩, none, false⟩,
     ⟨⟨(some 16), .call ⟨.value (.func 14), ⟨[(.tmp 14), (.tmp 15)]⟩, ⟨[25, 3]⟩⟩, 31, "", ⟨[]⟩, none⟩, none, false⟩,
     ⟨⟨(some 13), .move (.tmp 16), 31, "", ⟨[]⟩, none⟩, none, false⟩,
     ⟨⟨(some 17), .extract (.tmp 13) 0, 23, "", ⟨[]⟩, none⟩, none, false⟩,
     ⟨⟨(some 18), .extract (.tmp 13) 1, 30, "", ⟨[]⟩, none⟩, none, false⟩,
     ⟨⟨(some 7), .assign (.tmp 17), 23, "", ⟨[]⟩, none⟩, none, false⟩,
     ⟨⟨(some 8), .assign (.tmp 18), 30, "", ⟨[]⟩, none⟩, none, false⟩])
   (.seq
    (.ops false [
      ⟨⟨(some 20), .load 25 (.tmp 3), 25, "", ⟨[]⟩, none⟩, none, false⟩,
      ⟨⟨(some 21), .move (.tmp 1), 3, "", ⟨[]⟩, none⟩, none, false⟩,
      ⟨⟨(some 22), .call ⟨.value (.func 15), ⟨[(.tmp 20), (.tmp 21)]⟩, ⟨[25, 3]⟩⟩, 31, "", ⟨[]⟩, none⟩, none, false⟩,
      ⟨⟨(some 19), .move (.tmp 22), 31, "", ⟨[]⟩, none⟩, none, false⟩,
      ⟨⟨(some 23), .extract (.tmp 19) 0, 23, "", ⟨[]⟩, none⟩, none, false⟩,
      ⟨⟨(some 24), .extract (.tmp 19) 1, 30, "", ⟨[]⟩, none⟩, none, false⟩,
      ⟨⟨(some 9), .assign (.tmp 23), 23, "", ⟨[]⟩, none⟩, none, false⟩,
      ⟨⟨(some 10), .assign (.tmp 24), 30, "", ⟨[]⟩, none⟩, none, false⟩])
    (.seq
     (.seq
      (.ops true [
        ⟨⟨(some 25), .move (.tmp 7), 23, "", ⟨[]⟩, none⟩, none, true⟩,
        ⟨⟨(some 26), .move (.tmp 9), 23, "", ⟨[]⟩, none⟩, none, true⟩,
        ⟨⟨(some 27), .call ⟨.value (.func 16), ⟨[(.tmp 25), (.tmp 26)]⟩, ⟨[23, 23]⟩⟩, 4, "", ⟨[]⟩, none⟩, none, false⟩,
        ⟨⟨(some 28), .unOp .not 4 (.tmp 27), 4, "", ⟨[]⟩, none⟩, none, true⟩,
        ⟨⟨(some 29), .move (.tmp 28), 4, "", ⟨[]⟩, none⟩, none, true⟩,
        ⟨⟨(some 30), .move (.tmp 8), 30, "", ⟨[]⟩, none⟩, some ((some 29), false), true⟩,
        ⟨⟨(some 31), .move (.tmp 10), 30, "", ⟨[]⟩, none⟩, some ((some 29), false), true⟩,
        ⟨⟨(some 32), .binOp .neq 30 (.tmp 30) (.tmp 31) 30, 4, "", ⟨[]⟩, none⟩, some ((some 29), false), true⟩,
        ⟨⟨(some 33), .pick (.tmp 29) (.const (.bool true)) (.tmp 32), 4, "", ⟨[]⟩, none⟩, none, true⟩,
        ⟨⟨(some 34), .move (.tmp 33), 4, "", ⟨[]⟩, none⟩, none, true⟩,
        ⟨⟨(some 35), .load 25 (.tmp 3), 25, "", ⟨[]⟩, none⟩, some ((some 34), false), true⟩,
        ⟨⟨(some 37), .load 25 (.tmp 3), 25, "", ⟨[]⟩, none⟩, some ((some 34), false), true⟩,
        ⟨⟨(some 36), .call ⟨.value (.func 17), ⟨[(.tmp 35)]⟩, ⟨[25]⟩⟩, 30, "", ⟨[]⟩, none⟩, some ((some 34), false), true⟩,
        ⟨⟨(some 38), .call ⟨.value (.func 18), ⟨[(.tmp 37)]⟩, ⟨[25]⟩⟩, 30, "", ⟨[]⟩, none⟩, some ((some 34), false), false⟩,
        ⟨⟨(some 39), .binOp .neq 30 (.tmp 36) (.tmp 38) 30, 4, "", ⟨[]⟩, none⟩, some ((some 34), false), true⟩,
        ⟨⟨(some 40), .pick (.tmp 34) (.const (.bool true)) (.tmp 39), 4, "", ⟨[]⟩, none⟩, none, true⟩])
      (.cond (.tmp 40)
       (.seq
        (.ops false [
          ⟨⟨(some 6), .assign (.const (.bool false)), 4, "", ⟨[]⟩, none⟩, none, false⟩])
        .ret)
       .skip))
     (.seq
      (.ops false [
        ⟨⟨(some 42), .load 25 (.tmp 3), 25, "", ⟨[]⟩, none⟩, none, false⟩,
        ⟨⟨(some 43), .load 29 (.tmp 5), 29, "", ⟨[]⟩, none⟩, none, false⟩,
        ⟨⟨(some 44), .call ⟨.value (.func 19), ⟨[(.tmp 42), (.tmp 43)]⟩, ⟨[25, 29]⟩⟩, 35, "", ⟨[]⟩, none⟩, none, false⟩,
        ⟨⟨(some 41), .move (.tmp 44), 35, "", ⟨[]⟩, none⟩, none, false⟩,
        ⟨⟨(some 45), .extract (.tmp 41) 0, 27, "", ⟨[]⟩, none⟩, none, false⟩,
        ⟨⟨(some 46), .extract (.tmp 41) 1, 30, "", ⟨[]⟩, none⟩, none, false⟩,
        ⟨⟨(some 11), .alloc 27, 0, "", ⟨[]⟩, none⟩, none, false⟩,
        ⟨⟨none, .store 27 (.tmp 11) (.tmp 45), 0, "", ⟨[]⟩, none⟩, none, false⟩,
        ⟨⟨(some 8), .assign (.tmp 46), 30, "", ⟨[]⟩, none⟩, none, false⟩])
      (.seq
       (.ops false [
         ⟨⟨(some 48), .load 25 (.tmp 3), 25, "", ⟨[]⟩, none⟩, none, false⟩,
         ⟨⟨(some 49), .load 29 (.tmp 5), 29, "", ⟨[]⟩, none⟩, none, false⟩,
         ⟨⟨(some 50), .call ⟨.value (.func 20), ⟨[(.tmp 48), (.tmp 49)]⟩, ⟨[25, 29]⟩⟩, 35, "", ⟨[]⟩, none⟩, none, false⟩,
         ⟨⟨(some 47), .move (.tmp 50), 35, "", ⟨[]⟩, none⟩, none, false⟩,
         ⟨⟨(some 51), .extract (.tmp 47) 0, 27, "", ⟨[]⟩, none⟩, none, false⟩,
         ⟨⟨(some 52), .extract (.tmp 47) 1, 30, "", ⟨[]⟩, none⟩, none, false⟩,
         ⟨⟨(some 12), .alloc 27, 0, "", ⟨[]⟩, none⟩, none, false⟩,
         ⟨⟨none, .store 27 (.tmp 12) (.tmp 51), 0, "", ⟨[]⟩, none⟩, none, false⟩,
         ⟨⟨(some 10), .assign (.tmp 52), 30, "", ⟨[]⟩, none⟩, none, false⟩])
       (.seq
        (.ops false [
          ⟨⟨(some 53), .load 27 (.tmp 11), 27, "", ⟨[]⟩, none⟩, none, false⟩,
          ⟨⟨(some 54), .load 27 (.tmp 12), 27, "", ⟨[]⟩, none⟩, none, false⟩,
          ⟨⟨(some 55), .binOp .eql 27 (.tmp 53) (.tmp 54) 27, 4, "", ⟨[]⟩, none⟩, none, false⟩,
          ⟨⟨(some 56), .move (.tmp 55), 4, "", ⟨[]⟩, none⟩, none, false⟩,
          ⟨⟨(some 57), .move (.tmp 8), 30, "", ⟨[]⟩, none⟩, some ((some 56), true), false⟩,
          ⟨⟨(some 58), .move (.tmp 10), 30, "", ⟨[]⟩, none⟩, some ((some 56), true), false⟩,
          ⟨⟨(some 59), .binOp .eql 30 (.tmp 57) (.tmp 58) 30, 4, "", ⟨[]⟩, none⟩, some ((some 56), true), false⟩,
          ⟨⟨(some 60), .pick (.tmp 56) (.tmp 59) (.const (.bool false)), 4, "", ⟨[]⟩, none⟩, none, false⟩,
          ⟨⟨(some 61), .move (.tmp 60), 4, "", ⟨[]⟩, none⟩, none, false⟩,
          ⟨⟨(some 62), .call ⟨.value (.func 21), ⟨[]⟩, ⟨[]⟩⟩, 4, "", ⟨[]⟩, none⟩, some ((some 61), true), false⟩,
          ⟨⟨(some 63), .pick (.tmp 61) (.tmp 62) (.const (.bool false)), 4, "", ⟨[]⟩, none⟩, none, false⟩,
          ⟨⟨(some 6), .assign (.tmp 63), 4, "", ⟨[]⟩, none⟩, none, false⟩])
        .ret)))))))
theorem Try.s3_eq : Try.f3.body.map sOf = some Try.s3 := by kernel_rfl
end Go.Proofs
