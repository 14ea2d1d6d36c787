/- The code of the chapter's markets, cut. -/
import Derived.Test.YtdbeiefgokocnaaTd
set_option linter.unusedVariables false
set_option linter.unusedSimpArgs false
/- The code of the chapter's crafts, cut where its inner loop ends. -/
namespace Go.Proofs
open Go Go.RowKit Go.Sim
set_option maxRecDepth 100000
def Try.s48_c9 : SC :=
 (.seq
               (.ops false [
                 ⟨⟨(some 9), .assign (.const (.slice none 0 0)), 23, "", ⟨[]⟩, none⟩, none, false⟩])
               (.ops true [
                 ⟨⟨(some 46), .move (.tmp 9), 23, "", ⟨[]⟩, none⟩, none, true⟩,
                 ⟨⟨(some 47), .move (.tmp 5), 23, "", ⟨[]⟩, none⟩, none, true⟩,
                 ⟨⟨(some 48), .move (.tmp 8), 3, "", ⟨[]⟩, none⟩, none, true⟩,
                 ⟨⟨(some 49), .slice 23 (.tmp 47) none (some (.tmp 48)) none, 23, "", ⟨[]⟩, none⟩, none, true⟩,
                 ⟨⟨(some 51), .move (.tmp 7), 3, "", ⟨[]⟩, none⟩, none, true⟩,
                 ⟨⟨(some 52), .buildSlice 23 1 ⟨[(0, (.tmp 51))]⟩, 23, "", ⟨[]⟩, none⟩, none, true⟩,
                 ⟨⟨(some 54), .move (.tmp 5), 23, "", ⟨[]⟩, none⟩, none, true⟩,
                 ⟨⟨(some 55), .move (.tmp 8), 3, "", ⟨[]⟩, none⟩, none, true⟩,
                 ⟨⟨(some 56), .slice 23 (.tmp 54) (some (.tmp 55)) none none, 23, "", ⟨[]⟩, none⟩, none, true⟩,
                 ⟨⟨(some 50), .call ⟨.builtin .append, ⟨[(.tmp 46), (.tmp 49)]⟩, ⟨[23, 23]⟩⟩, 23, "", ⟨[]⟩, none⟩, none, true⟩,
                 ⟨⟨(some 53), .call ⟨.builtin .append, ⟨[(.tmp 50), (.tmp 52)]⟩, ⟨[23, 23]⟩⟩, 23, "", ⟨[]⟩, none⟩, none, true⟩,
                 ⟨⟨(some 57), .call ⟨.builtin .append, ⟨[(.tmp 53), (.tmp 56)]⟩, ⟨[23, 23]⟩⟩, 23, "", ⟨[]⟩, none⟩, none, false⟩,
                 ⟨⟨(some 5), .assign (.tmp 57), 23, "", ⟨[]⟩, none⟩, none, true⟩]))
def Try.s48b : SC :=
 (.seq
  (.ops false [
    ⟨⟨(some 2), .box 25 (.tmp 0), 0, "", ⟨[]⟩, none⟩, none, false⟩,
    ⟨⟨(some 4), .assign (.const (.slice none 0 0)), 23, "", ⟨[]⟩, none⟩, none, false⟩])
  (.seq
   (.ops false [
     ⟨⟨(some 5), .assign (.const (.slice none 0 0)), 23, "", ⟨[]⟩, none⟩, none, false⟩])
   (.seq
    (.seq
     (.ops false [
       ⟨⟨(some 6), .assign (.const (.int .i64 0)), 3, "", ⟨[]⟩, none⟩, none, false⟩])
     (.block 0
      (.loop
       (.seq
        (.seq
         (.ops false [
           ⟨⟨(some 10), .move (.tmp 6), 3, "", ⟨[]⟩, none⟩, none, false⟩,
           ⟨⟨(some 11), .fieldAddr 25 (.tmp 2) 0, 0, "", ⟨[]⟩, none⟩, none, false⟩,
           ⟨⟨(some 12), .load 22 (.tmp 11), 22, "", ⟨[]⟩, none⟩, none, false⟩,
           ⟨⟨(some 13), .call ⟨.builtin .len, ⟨[(.tmp 12)]⟩, ⟨[22]⟩⟩, 3, "", ⟨[]⟩, none⟩, none, false⟩,
           ⟨⟨(some 14), .binOp .lss 3 (.tmp 10) (.tmp 13) 3, 4, "", ⟨[]⟩, none⟩, none, false⟩])
         (.cond (.tmp 14)
          .skip
          (.exit 0)))
        (.seq
         (.block 1
          (.seq
           (.seq
            (.ops false [
              ⟨⟨(some 17), .fieldAddr 25 (.tmp 2) 0, 0, "", ⟨[]⟩, none⟩, none, false⟩,
              ⟨⟨(some 18), .load 22 (.tmp 17), 22, "", ⟨[]⟩, none⟩, none, false⟩,
              ⟨⟨(some 19), .move (.tmp 6), 3, "", ⟨[]⟩, none⟩, none, false⟩,
              ⟨⟨(some 20), .indexAddr 22 (.tmp 18) (.tmp 19), 0, "", ⟨[]⟩, none⟩, none, false⟩,
              ⟨⟨(some 21), .fieldAddr 66 (.tmp 20) 0, 0, "", ⟨[]⟩, none⟩, none, false⟩,
              ⟨⟨(some 22), .load 3 (.tmp 21), 3, "", ⟨[]⟩, none⟩, none, false⟩,
              ⟨⟨(some 23), .move (.tmp 1), 3, "", ⟨[]⟩, none⟩, none, false⟩,
              ⟨⟨(some 24), .binOp .neq 3 (.tmp 22) (.tmp 23) 3, 4, "", ⟨[]⟩, none⟩, none, false⟩])
            (.cond (.tmp 24)
             (.exit 1)
             .skip))
           (.seq
            (.ops true [
              ⟨⟨(some 25), .load 25 (.tmp 2), 25, "", ⟨[]⟩, none⟩, none, true⟩,
              ⟨⟨(some 26), .fieldAddr 25 (.tmp 2) 0, 0, "", ⟨[]⟩, none⟩, none, true⟩,
              ⟨⟨(some 27), .load 22 (.tmp 26), 22, "", ⟨[]⟩, none⟩, none, true⟩,
              ⟨⟨(some 28), .move (.tmp 6), 3, "", ⟨[]⟩, none⟩, none, true⟩,
              ⟨⟨(some 29), .indexAddr 22 (.tmp 27) (.tmp 28), 0, "", ⟨[]⟩, none⟩, none, true⟩,
              ⟨⟨(some 30), .load 66 (.tmp 29), 66, "", ⟨[]⟩, none⟩, none, true⟩,
              ⟨⟨(some 31), .call ⟨.value (.func 70), ⟨[(.tmp 25), (.tmp 30)]⟩, ⟨[25, 66]⟩⟩, 3, "", ⟨[]⟩, none⟩, none, false⟩,
              ⟨⟨(some 7), .assign (.tmp 31), 3, "", ⟨[]⟩, none⟩, none, true⟩])
            (.seq
             (.ops false [
               ⟨⟨(some 8), .assign (.const (.int .i64 0)), 3, "", ⟨[]⟩, none⟩, none, false⟩])
             (.seq
              (.block 2
               (.loop
                (.seq
                 (.seq
                  (.ops false [
                    ⟨⟨(some 32), .move (.tmp 8), 3, "", ⟨[]⟩, none⟩, none, false⟩,
                    ⟨⟨(some 33), .move (.tmp 5), 23, "", ⟨[]⟩, none⟩, none, false⟩,
                    ⟨⟨(some 34), .call ⟨.builtin .len, ⟨[(.tmp 33)]⟩, ⟨[23]⟩⟩, 3, "", ⟨[]⟩, none⟩, none, false⟩,
                    ⟨⟨(some 35), .binOp .lss 3 (.tmp 32) (.tmp 34) 3, 4, "", ⟨[]⟩, none⟩, none, false⟩,
                    ⟨⟨(some 36), .move (.tmp 35), 4, "", ⟨[]⟩, none⟩, none, false⟩,
                    ⟨⟨(some 37), .move (.tmp 5), 23, "", ⟨[]⟩, none⟩, some ((some 36), true), false⟩,
                    ⟨⟨(some 38), .move (.tmp 8), 3, "", ⟨[]⟩, none⟩, some ((some 36), true), false⟩,
                    ⟨⟨(some 39), .indexAddr 23 (.tmp 37) (.tmp 38), 0, "", ⟨[]⟩, none⟩, some ((some 36), true), false⟩,
                    ⟨⟨(some 40), .load 3 (.tmp 39), 3, "", ⟨[]⟩, none⟩, some ((some 36), true), false⟩,
                    ⟨⟨(some 41), .move (.tmp 7), 3, "", ⟨[]⟩, none⟩, some ((some 36), true), false⟩,
                    ⟨⟨(some 42), .binOp .leq 3 (.tmp 40) (.tmp 41) 3, 4, "", ⟨[]⟩, none⟩, some ((some 36), true), false⟩,
                    ⟨⟨(some 43), .pick (.tmp 36) (.tmp 42) (.const (.bool false)), 4, "", ⟨[]⟩, none⟩, none, false⟩])
                  (.cond (.tmp 43)
                   .skip
                   (.exit 2)))
                 (.block 3
                  (.ops false [
                    ⟨⟨(some 44), .move (.tmp 8), 3, "", ⟨[]⟩, none⟩, none, false⟩,
                    ⟨⟨(some 45), .binOp .add 3 (.tmp 44) (.const (.int .i64 1)) 3, 3, "", ⟨[]⟩, none⟩, none, false⟩,
                    ⟨⟨(some 8), .assign (.tmp 45), 3, "", ⟨[]⟩, none⟩, none, false⟩])))))
              Try.s48_c9)))))
         (.ops false [
           ⟨⟨(some 15), .move (.tmp 6), 3, "", ⟨[]⟩, none⟩, none, false⟩,
           ⟨⟨(some 16), .binOp .add 3 (.tmp 15) (.const (.int .i64 1)) 3, 3, "", ⟨[]⟩, none⟩, none, false⟩,
           ⟨⟨(some 6), .assign (.tmp 16), 3, "", ⟨[]⟩, none⟩, none, false⟩]))))))
    (.seq
     (.ops false [
       ⟨⟨(some 58), .move (.tmp 5), 23, "", ⟨[]⟩, none⟩, none, false⟩,
       ⟨⟨(some 4), .assign (.tmp 58), 23, "", ⟨[]⟩, none⟩, none, false⟩])
     .ret))))
theorem Try.s48b_eq : Try.f48.body.map sOf = some Try.s48b := by kernel_rfl
end Go.Proofs
