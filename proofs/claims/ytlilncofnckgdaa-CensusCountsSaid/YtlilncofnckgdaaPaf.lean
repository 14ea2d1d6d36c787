/- This program: its code, contracts, numbers, part 6. -/
import Derived.Test.YtlilncofnckgdaaPad
import Derived.Test.YtlilncofnckgdaaCz
import Derived.Test.YtlilncofnckgdaaPae
import Derived.Test.YtlilncofnckgdaaNc
import Derived.Test.YtlilncofnckgdaaRows
import Derived.ProofKit
import Derived.SizedLaws
set_option linter.unusedVariables false
set_option linter.unusedSimpArgs false
namespace Go.Proofs
open Go Go.RowKit Go.Sim
set_option maxRecDepth 100000
noncomputable def Try.s8r22 : Array Oper := match Try.f8.body with
  | some c => regionAt 22 c
  | none => #[]
noncomputable def Try.s8_c198 : SC :=
 (.seq
              (.seq
               (.ops false [
                 ⟨⟨(some 198), .load 24 (.tmp 3), 24, "", ⟨[]⟩, none⟩, none, false⟩,
                 ⟨⟨(some 199), .move (.tmp 22), 22, "", ⟨[]⟩, none⟩, none, false⟩,
                 ⟨⟨(some 200), .fieldAddr 54 (.tmp 4) 1, 0, "", ⟨[]⟩, none⟩, none, false⟩,
                 ⟨⟨(some 201), .load 22 (.tmp 200), 22, "", ⟨[]⟩, none⟩, none, false⟩,
                 ⟨⟨(some 202), .call ⟨.value (.func 16), ⟨[(.tmp 198), (.tmp 199), (.tmp 201)]⟩, ⟨[24, 22, 22]⟩⟩, 26, "", ⟨[]⟩, none⟩, none, false⟩,
                 ⟨⟨(some 197), .move (.tmp 202), 26, "", ⟨[]⟩, none⟩, none, false⟩,
                 ⟨⟨(some 203), .extract (.tmp 197) 0, 3, "", ⟨[]⟩, none⟩, none, false⟩,
                 ⟨⟨(some 204), .extract (.tmp 197) 1, 3, "", ⟨[]⟩, none⟩, none, false⟩,
                 ⟨⟨(some 205), .extract (.tmp 197) 2, 25, "", ⟨[]⟩, none⟩, none, false⟩,
                 ⟨⟨(some 24), .assign (.tmp 203), 3, "", ⟨[]⟩, none⟩, none, false⟩,
                 ⟨⟨(some 25), .assign (.tmp 204), 3, "", ⟨[]⟩, none⟩, none, false⟩,
                 ⟨⟨(some 26), .assign (.tmp 205), 25, "", ⟨[]⟩, none⟩, none, false⟩])
               (.seq
                (.ops false [
                  ⟨⟨(some 206), .move (.tmp 26), 25, "", ⟨[]⟩, none⟩, none, false⟩,
                  ⟨⟨(some 207), .binOp .eql 25 (.tmp 206) (.const (.int .i64 0)) 25, 4, "", ⟨[]⟩, none⟩, none, false⟩,
                  ⟨⟨(some 208), .move (.tmp 207), 4, "", ⟨[]⟩, none⟩, none, false⟩,
                  ⟨⟨(some 209), .move (.tmp 24), 3, "", ⟨[]⟩, none⟩, some ((some 208), true), false⟩,
                  ⟨⟨(some 210), .move (.tmp 8), 3, "", ⟨[]⟩, none⟩, some ((some 208), true), false⟩,
                  ⟨⟨(some 211), .binOp .mul 3 (.tmp 209) (.tmp 210) 3, 3, "", ⟨[]⟩, none⟩, some ((some 208), true), false⟩,
                  ⟨⟨(some 212), .move (.tmp 7), 3, "", ⟨[]⟩, none⟩, some ((some 208), true), false⟩,
                  ⟨⟨(some 213), .move (.tmp 25), 3, "", ⟨[]⟩, none⟩, some ((some 208), true), false⟩,
                  ⟨⟨(some 214), .binOp .mul 3 (.tmp 212) (.tmp 213) 3, 3, "", ⟨[]⟩, none⟩, some ((some 208), true), false⟩,
                  ⟨⟨(some 215), .binOp .gtr 3 (.tmp 211) (.tmp 214) 3, 4, "", ⟨[]⟩, none⟩, some ((some 208), true), false⟩,
                  ⟨⟨(some 216), .pick (.tmp 208) (.tmp 215) (.const (.bool false)), 4, "", ⟨[]⟩, none⟩, none, false⟩])
                (.cond (.tmp 216)
                 (.seq
                  (.ops false [
                    ⟨⟨(some 6), .assign (.const (.bool false)), 4, "", ⟨[]⟩, none⟩, none, false⟩])
                  .ret)
                 .skip)))
              (.seq
               (.seq
                (.ops false [
                  ⟨⟨(some 218), .load 24 (.tmp 3), 24, "", ⟨[]⟩, none⟩, none, false⟩,
                  ⟨⟨(some 219), .fieldAddr 54 (.tmp 4) 0, 0, "", ⟨[]⟩, none⟩, none, false⟩,
                  ⟨⟨(some 220), .load 22 (.tmp 219), 22, "", ⟨[]⟩, none⟩, none, false⟩,
                  ⟨⟨(some 221), .move (.tmp 23), 22, "", ⟨[]⟩, none⟩, none, false⟩,
                  ⟨⟨(some 222), .call ⟨.value (.func 16), ⟨[(.tmp 218), (.tmp 220), (.tmp 221)]⟩, ⟨[24, 22, 22]⟩⟩, 26, "", ⟨[]⟩, none⟩, none, false⟩,
                  ⟨⟨(some 217), .move (.tmp 222), 26, "", ⟨[]⟩, none⟩, none, false⟩,
                  ⟨⟨(some 223), .extract (.tmp 217) 0, 3, "", ⟨[]⟩, none⟩, none, false⟩,
                  ⟨⟨(some 224), .extract (.tmp 217) 1, 3, "", ⟨[]⟩, none⟩, none, false⟩,
                  ⟨⟨(some 225), .extract (.tmp 217) 2, 25, "", ⟨[]⟩, none⟩, none, false⟩,
                  ⟨⟨(some 27), .assign (.tmp 223), 3, "", ⟨[]⟩, none⟩, none, false⟩,
                  ⟨⟨(some 28), .assign (.tmp 224), 3, "", ⟨[]⟩, none⟩, none, false⟩,
                  ⟨⟨(some 29), .assign (.tmp 225), 25, "", ⟨[]⟩, none⟩, none, false⟩])
                (.seq
                 (.ops false [
                   ⟨⟨(some 226), .move (.tmp 29), 25, "", ⟨[]⟩, none⟩, none, false⟩,
                   ⟨⟨(some 227), .binOp .eql 25 (.tmp 226) (.const (.int .i64 0)) 25, 4, "", ⟨[]⟩, none⟩, none, false⟩,
                   ⟨⟨(some 228), .move (.tmp 227), 4, "", ⟨[]⟩, none⟩, none, false⟩,
                   ⟨⟨(some 229), .move (.tmp 28), 3, "", ⟨[]⟩, none⟩, some ((some 228), true), false⟩,
                   ⟨⟨(some 230), .move (.tmp 8), 3, "", ⟨[]⟩, none⟩, some ((some 228), true), false⟩,
                   ⟨⟨(some 231), .binOp .neq 3 (.tmp 229) (.tmp 230) 3, 4, "", ⟨[]⟩, none⟩, some ((some 228), true), false⟩,
                   ⟨⟨(some 232), .move (.tmp 231), 4, "", ⟨[]⟩, none⟩, some ((some 228), true), false⟩,
                   ⟨⟨(some 233), .move (.tmp 27), 3, "", ⟨[]⟩, none⟩, some ((some 232), false), false⟩,
                   ⟨⟨(some 234), .move (.tmp 7), 3, "", ⟨[]⟩, none⟩, some ((some 232), false), false⟩,
                   ⟨⟨(some 235), .binOp .gtr 3 (.tmp 233) (.tmp 234) 3, 4, "", ⟨[]⟩, none⟩, some ((some 232), false), false⟩,
                   ⟨⟨(some 236), .pick (.tmp 232) (.const (.bool true)) (.tmp 235), 4, "", ⟨[]⟩, none⟩, some ((some 228), true), false⟩,
                   ⟨⟨(some 237), .pick (.tmp 228) (.tmp 236) (.const (.bool false)), 4, "", ⟨[]⟩, none⟩, none, false⟩])
                 (.cond (.tmp 237)
                  (.seq
                   (.ops false [
                     ⟨⟨(some 6), .assign (.const (.bool false)), 4, "", ⟨[]⟩, none⟩, none, false⟩])
                   .ret)
                  .skip)))
               (.seq
                (.ops false [
                  ⟨⟨(some 238), .call ⟨.value (.func 25), ⟨[]⟩, ⟨[]⟩⟩, 4, "", ⟨[]⟩, none⟩, none, false⟩,
                  ⟨⟨(some 6), .assign (.tmp 238), 4, "", ⟨[]⟩, none⟩, none, false⟩])
                .ret)))
noncomputable def Try.s8_c155 : SC :=
 (.seq
          (.seq
           (.ops false [
             ⟨⟨(some 155), .load 24 (.tmp 3), 24, "", ⟨[]⟩, none⟩, none, false⟩,
             ⟨⟨(some 156), .fieldAddr 54 (.tmp 4) 0, 0, "", ⟨[]⟩, none⟩, none, false⟩,
             ⟨⟨(some 157), .load 22 (.tmp 156), 22, "", ⟨[]⟩, none⟩, none, false⟩,
             ⟨⟨(some 158), .move (.tmp 15), 22, "", ⟨[]⟩, none⟩, none, false⟩,
             ⟨⟨(some 159), .call ⟨.value (.func 16), ⟨[(.tmp 155), (.tmp 157), (.tmp 158)]⟩, ⟨[24, 22, 22]⟩⟩, 26, "", ⟨[]⟩, none⟩, none, false⟩,
             ⟨⟨(some 154), .move (.tmp 159), 26, "", ⟨[]⟩, none⟩, none, false⟩,
             ⟨⟨(some 160), .extract (.tmp 154) 0, 3, "", ⟨[]⟩, none⟩, none, false⟩,
             ⟨⟨(some 161), .extract (.tmp 154) 1, 3, "", ⟨[]⟩, none⟩, none, false⟩,
             ⟨⟨(some 162), .extract (.tmp 154) 2, 25, "", ⟨[]⟩, none⟩, none, false⟩,
             ⟨⟨(some 18), .assign (.tmp 160), 3, "", ⟨[]⟩, none⟩, none, false⟩,
             ⟨⟨(some 19), .assign (.tmp 161), 3, "", ⟨[]⟩, none⟩, none, false⟩,
             ⟨⟨(some 20), .assign (.tmp 162), 25, "", ⟨[]⟩, none⟩, none, false⟩])
           (.seq
            (.ops false [
              ⟨⟨(some 163), .move (.tmp 20), 25, "", ⟨[]⟩, none⟩, none, false⟩,
              ⟨⟨(some 164), .binOp .neq 25 (.tmp 163) (.const (.int .i64 0)) 25, 4, "", ⟨[]⟩, none⟩, none, false⟩,
              ⟨⟨(some 165), .move (.tmp 164), 4, "", ⟨[]⟩, none⟩, none, false⟩,
              ⟨⟨(some 166), .move (.tmp 18), 3, "", ⟨[]⟩, none⟩, some ((some 165), false), false⟩,
              ⟨⟨(some 167), .move (.tmp 16), 3, "", ⟨[]⟩, none⟩, some ((some 165), false), false⟩,
              ⟨⟨(some 168), .binOp .neq 3 (.tmp 166) (.tmp 167) 3, 4, "", ⟨[]⟩, none⟩, some ((some 165), false), false⟩,
              ⟨⟨(some 169), .pick (.tmp 165) (.const (.bool true)) (.tmp 168), 4, "", ⟨[]⟩, none⟩, none, false⟩])
            (.cond (.tmp 169)
             (.seq
              (.ops false [
                ⟨⟨(some 6), .assign (.const (.bool false)), 4, "", ⟨[]⟩, none⟩, none, false⟩])
              .ret)
             .skip)))
          (.seq
           (.ops false [
             ⟨⟨(some 170), .move (.tmp 2), 3, "", ⟨[]⟩, none⟩, none, false⟩,
             ⟨⟨(some 171), .fieldAddr 24 (.tmp 3) 0, 0, "", ⟨[]⟩, none⟩, none, false⟩,
             ⟨⟨(some 172), .load 22 (.tmp 171), 22, "", ⟨[]⟩, none⟩, none, false⟩,
             ⟨⟨(some 173), .call ⟨.builtin .len, ⟨[(.tmp 172)]⟩, ⟨[22]⟩⟩, 3, "", ⟨[]⟩, none⟩, none, false⟩,
             ⟨⟨(some 174), .call ⟨.value (.func 49), ⟨[(.tmp 170), (.tmp 173)]⟩, ⟨[3, 3]⟩⟩, 3, "", ⟨[]⟩, none⟩, none, false⟩,
             ⟨⟨(some 21), .assign (.tmp 174), 3, "", ⟨[]⟩, none⟩, none, false⟩])
           (.seq
            (.ops true [
              ⟨⟨(some 175), .fieldAddr 54 (.tmp 4) 0, 0, "", ⟨[]⟩, none⟩, none, true⟩,
              ⟨⟨(some 176), .load 22 (.tmp 175), 22, "", ⟨[]⟩, none⟩, none, true⟩,
              ⟨⟨(some 178), .fieldAddr 54 (.tmp 4) 1, 0, "", ⟨[]⟩, none⟩, none, true⟩,
              ⟨⟨(some 179), .load 22 (.tmp 178), 22, "", ⟨[]⟩, none⟩, none, true⟩,
              ⟨⟨(some 177), .call ⟨.value (.func 50), ⟨[(.tmp 176)]⟩, ⟨[22]⟩⟩, 22, "", ⟨[]⟩, none⟩, none, true⟩,
              ⟨⟨(some 180), .call ⟨.value (.func 50), ⟨[(.tmp 179)]⟩, ⟨[22]⟩⟩, 22, "", ⟨[]⟩, none⟩, none, false⟩,
              ⟨⟨(some 22), .assign (.tmp 177), 22, "", ⟨[]⟩, none⟩, none, true⟩,
              ⟨⟨(some 23), .assign (.tmp 180), 22, "", ⟨[]⟩, none⟩, none, true⟩])
            (.seq
             (.raw (.region 22 Try.s8r22 true))
             Try.s8_c198))))
noncomputable def Try.s8 : SC :=
 (.seq
  (.ops false [
    ⟨⟨(some 3), .box 24 (.tmp 0), 0, "", ⟨[]⟩, none⟩, none, false⟩,
    ⟨⟨(some 4), .box 54 (.tmp 1), 0, "", ⟨[]⟩, none⟩, none, false⟩,
    ⟨⟨(some 6), .assign (.const (.bool false)), 4, "", ⟨[]⟩, none⟩, none, false⟩])
  (.seq
   (.ops false [
     ⟨⟨(some 31), .load 24 (.tmp 3), 24, "", ⟨[]⟩, none⟩, none, false⟩,
     ⟨⟨(some 32), .fieldAddr 54 (.tmp 4) 0, 0, "", ⟨[]⟩, none⟩, none, false⟩,
     ⟨⟨(some 33), .load 22 (.tmp 32), 22, "", ⟨[]⟩, none⟩, none, false⟩,
     ⟨⟨(some 34), .fieldAddr 54 (.tmp 4) 1, 0, "", ⟨[]⟩, none⟩, none, false⟩,
     ⟨⟨(some 35), .load 22 (.tmp 34), 22, "", ⟨[]⟩, none⟩, none, false⟩,
     ⟨⟨(some 36), .call ⟨.value (.func 16), ⟨[(.tmp 31), (.tmp 33), (.tmp 35)]⟩, ⟨[24, 22, 22]⟩⟩, 26, "", ⟨[]⟩, none⟩, none, false⟩,
     ⟨⟨(some 30), .move (.tmp 36), 26, "", ⟨[]⟩, none⟩, none, false⟩,
     ⟨⟨(some 37), .extract (.tmp 30) 0, 3, "", ⟨[]⟩, none⟩, none, false⟩,
     ⟨⟨(some 38), .extract (.tmp 30) 1, 3, "", ⟨[]⟩, none⟩, none, false⟩,
     ⟨⟨(some 39), .extract (.tmp 30) 2, 25, "", ⟨[]⟩, none⟩, none, false⟩,
     ⟨⟨(some 7), .assign (.tmp 37), 3, "", ⟨[]⟩, none⟩, none, false⟩,
     ⟨⟨(some 8), .assign (.tmp 38), 3, "", ⟨[]⟩, none⟩, none, false⟩,
     ⟨⟨(some 9), .assign (.tmp 39), 25, "", ⟨[]⟩, none⟩, none, false⟩])
   (.seq
    (.seq
     (.ops false [
       ⟨⟨(some 40), .move (.tmp 9), 25, "", ⟨[]⟩, none⟩, none, false⟩,
       ⟨⟨(some 41), .binOp .neq 25 (.tmp 40) (.const (.int .i64 0)) 25, 4, "", ⟨[]⟩, none⟩, none, false⟩])
     (.cond (.tmp 41)
      (.seq
       (.ops false [
         ⟨⟨(some 42), .move (.tmp 7), 3, "", ⟨[]⟩, none⟩, none, false⟩,
         ⟨⟨(some 43), .binOp .eql 3 (.tmp 42) (.const (.int .i64 0)) 3, 4, "", ⟨[]⟩, none⟩, none, false⟩,
         ⟨⟨(some 44), .move (.tmp 43), 4, "", ⟨[]⟩, none⟩, none, false⟩,
         ⟨⟨(some 45), .move (.tmp 8), 3, "", ⟨[]⟩, none⟩, some ((some 44), true), false⟩,
         ⟨⟨(some 46), .binOp .eql 3 (.tmp 45) (.const (.int .i64 0)) 3, 4, "", ⟨[]⟩, none⟩, some ((some 44), true), false⟩,
         ⟨⟨(some 47), .pick (.tmp 44) (.tmp 46) (.const (.bool false)), 4, "", ⟨[]⟩, none⟩, none, false⟩,
         ⟨⟨(some 48), .move (.tmp 47), 4, "", ⟨[]⟩, none⟩, none, false⟩,
         ⟨⟨(some 49), .call ⟨.value (.func 25), ⟨[]⟩, ⟨[]⟩⟩, 4, "", ⟨[]⟩, none⟩, some ((some 48), true), false⟩,
         ⟨⟨(some 50), .pick (.tmp 48) (.tmp 49) (.const (.bool false)), 4, "", ⟨[]⟩, none⟩, none, false⟩,
         ⟨⟨(some 6), .assign (.tmp 50), 4, "", ⟨[]⟩, none⟩, none, false⟩])
       .ret)
      .skip))
    (.seq
     (.ops false [
       ⟨⟨(some 10), .assign (.const (.int .i64 1)), 3, "", ⟨[]⟩, none⟩, none, false⟩,
       ⟨⟨(some 11), .assign (.const (.int .i64 1)), 3, "", ⟨[]⟩, none⟩, none, false⟩])
     (.seq
      (.seq
       (.ops false [
         ⟨⟨(some 12), .assign (.const (.int .i64 0)), 3, "", ⟨[]⟩, none⟩, none, false⟩])
       (.block 0
        (.loop
         (.seq
          (.seq
           (.ops false [
             ⟨⟨(some 51), .move (.tmp 12), 3, "", ⟨[]⟩, none⟩, none, false⟩,
             ⟨⟨(some 52), .fieldAddr 24 (.tmp 3) 0, 0, "", ⟨[]⟩, none⟩, none, false⟩,
             ⟨⟨(some 53), .load 22 (.tmp 52), 22, "", ⟨[]⟩, none⟩, none, false⟩,
             ⟨⟨(some 54), .call ⟨.builtin .len, ⟨[(.tmp 53)]⟩, ⟨[22]⟩⟩, 3, "", ⟨[]⟩, none⟩, none, false⟩,
             ⟨⟨(some 55), .binOp .lss 3 (.tmp 51) (.tmp 54) 3, 4, "", ⟨[]⟩, none⟩, none, false⟩])
           (.cond (.tmp 55)
            .skip
            (.exit 0)))
          (.seq
           (.block 1
            (.seq
             (.seq
              (.ops false [
                ⟨⟨(some 58), .move (.tmp 12), 3, "", ⟨[]⟩, none⟩, none, false⟩,
                ⟨⟨(some 59), .fieldAddr 54 (.tmp 4) 0, 0, "", ⟨[]⟩, none⟩, none, false⟩,
                ⟨⟨(some 60), .load 22 (.tmp 59), 22, "", ⟨[]⟩, none⟩, none, false⟩,
                ⟨⟨(some 61), .call ⟨.builtin .len, ⟨[(.tmp 60)]⟩, ⟨[22]⟩⟩, 3, "", ⟨[]⟩, none⟩, none, false⟩,
                ⟨⟨(some 62), .binOp .geq 3 (.tmp 58) (.tmp 61) 3, 4, "", ⟨[]⟩, none⟩, none, false⟩,
                ⟨⟨(some 63), .move (.tmp 62), 4, "", ⟨[]⟩, none⟩, none, false⟩,
                ⟨⟨(some 64), .move (.tmp 12), 3, "", ⟨[]⟩, none⟩, some ((some 63), false), false⟩,
                ⟨⟨(some 65), .fieldAddr 54 (.tmp 4) 1, 0, "", ⟨[]⟩, none⟩, some ((some 63), false), false⟩,
                ⟨⟨(some 66), .load 22 (.tmp 65), 22, "", ⟨[]⟩, none⟩, some ((some 63), false), false⟩,
                ⟨⟨(some 67), .call ⟨.builtin .len, ⟨[(.tmp 66)]⟩, ⟨[22]⟩⟩, 3, "", ⟨[]⟩, none⟩, some ((some 63), false), false⟩,
                ⟨⟨(some 68), .binOp .geq 3 (.tmp 64) (.tmp 67) 3, 4, "", ⟨[]⟩, none⟩, some ((some 63), false), false⟩,
                ⟨⟨(some 69), .pick (.tmp 63) (.const (.bool true)) (.tmp 68), 4, "", ⟨[]⟩, none⟩, none, false⟩,
                ⟨⟨(some 70), .move (.tmp 69), 4, "", ⟨[]⟩, none⟩, none, false⟩,
                ⟨⟨(some 71), .fieldAddr 24 (.tmp 3) 0, 0, "", ⟨[]⟩, none⟩, some ((some 70), false), false⟩,
                ⟨⟨(some 72), .load 22 (.tmp 71), 22, "", ⟨[]⟩, none⟩, some ((some 70), false), false⟩,
                ⟨⟨(some 73), .move (.tmp 12), 3, "", ⟨[]⟩, none⟩, some ((some 70), false), false⟩,
                ⟨⟨(some 74), .indexAddr 22 (.tmp 72) (.tmp 73), 0, "", ⟨[]⟩, none⟩, some ((some 70), false), false⟩,
                ⟨⟨(some 75), .load 3 (.tmp 74), 3, "", ⟨[]⟩, none⟩, some ((some 70), false), false⟩,
                ⟨⟨(some 76), .call ⟨.value (.func 46), ⟨[(.const (.int .i64 0)), (.tmp 75), (.const (.int .i64 8))]⟩, ⟨[3, 3, 3]⟩⟩, 4, "", ⟨[]⟩, none⟩, some ((some 70), false), false⟩,
                ⟨⟨(some 77), .unOp .not 4 (.tmp 76), 4, "", ⟨[]⟩, none⟩, some ((some 70), false), false⟩,
                ⟨⟨(some 78), .pick (.tmp 70) (.const (.bool true)) (.tmp 77), 4, "", ⟨[]⟩, none⟩, none, false⟩])
              (.cond (.tmp 78)
               (.seq
                (.ops false [
                  ⟨⟨(some 6), .assign (.const (.bool false)), 4, "", ⟨[]⟩, none⟩, none, false⟩])
                .ret)
               .skip))
             (.seq
              (.ops true [
                ⟨⟨(some 80), .fieldAddr 24 (.tmp 3) 0, 0, "", ⟨[]⟩, none⟩, none, true⟩,
                ⟨⟨(some 81), .load 22 (.tmp 80), 22, "", ⟨[]⟩, none⟩, none, true⟩,
                ⟨⟨(some 82), .move (.tmp 12), 3, "", ⟨[]⟩, none⟩, none, true⟩,
                ⟨⟨(some 83), .indexAddr 22 (.tmp 81) (.tmp 82), 0, "", ⟨[]⟩, none⟩, none, true⟩,
                ⟨⟨(some 84), .load 3 (.tmp 83), 3, "", ⟨[]⟩, none⟩, none, true⟩,
                ⟨⟨(some 85), .fieldAddr 54 (.tmp 4) 0, 0, "", ⟨[]⟩, none⟩, none, true⟩,
                ⟨⟨(some 86), .load 22 (.tmp 85), 22, "", ⟨[]⟩, none⟩, none, true⟩,
                ⟨⟨(some 87), .move (.tmp 12), 3, "", ⟨[]⟩, none⟩, none, true⟩,
                ⟨⟨(some 88), .indexAddr 22 (.tmp 86) (.tmp 87), 0, "", ⟨[]⟩, none⟩, none, true⟩,
                ⟨⟨(some 89), .load 3 (.tmp 88), 3, "", ⟨[]⟩, none⟩, none, true⟩,
                ⟨⟨(some 90), .fieldAddr 54 (.tmp 4) 1, 0, "", ⟨[]⟩, none⟩, none, true⟩,
                ⟨⟨(some 91), .load 22 (.tmp 90), 22, "", ⟨[]⟩, none⟩, none, true⟩,
                ⟨⟨(some 92), .move (.tmp 12), 3, "", ⟨[]⟩, none⟩, none, true⟩,
                ⟨⟨(some 93), .indexAddr 22 (.tmp 91) (.tmp 92), 0, "", ⟨[]⟩, none⟩, none, true⟩,
                ⟨⟨(some 94), .load 3 (.tmp 93), 3, "", ⟨[]⟩, none⟩, none, true⟩,
                ⟨⟨(some 95), .call ⟨.value (.func 47), ⟨[(.tmp 84), (.tmp 89), (.tmp 94)]⟩, ⟨[3, 3, 3]⟩⟩, 56, "", ⟨[]⟩, none⟩, none, false⟩,
                ⟨⟨(some 79), .move (.tmp 95), 56, "", ⟨[]⟩, none⟩, none, true⟩,
                ⟨⟨(some 96), .extract (.tmp 79) 0, 3, "", ⟨[]⟩, none⟩, none, true⟩,
                ⟨⟨(some 97), .extract (.tmp 79) 1, 3, "", ⟨[]⟩, none⟩, none, true⟩,
                ⟨⟨(some 13), .assign (.tmp 96), 3, "", ⟨[]⟩, none⟩, none, true⟩,
                ⟨⟨(some 14), .assign (.tmp 97), 3, "", ⟨[]⟩, none⟩, none, true⟩])
              (.ops false [
                ⟨⟨(some 98), .move (.tmp 10), 3, "", ⟨[]⟩, none⟩, none, false⟩,
                ⟨⟨(some 99), .move (.tmp 13), 3, "", ⟨[]⟩, none⟩, none, false⟩,
                ⟨⟨(some 100), .binOp .mul 3 (.tmp 98) (.tmp 99) 3, 3, "", ⟨[]⟩, none⟩, none, false⟩,
                ⟨⟨(some 101), .move (.tmp 11), 3, "", ⟨[]⟩, none⟩, none, false⟩,
                ⟨⟨(some 102), .move (.tmp 14), 3, "", ⟨[]⟩, none⟩, none, false⟩,
                ⟨⟨(some 103), .binOp .mul 3 (.tmp 101) (.tmp 102) 3, 3, "", ⟨[]⟩, none⟩, none, false⟩,
                ⟨⟨(some 10), .assign (.tmp 100), 3, "", ⟨[]⟩, none⟩, none, false⟩,
                ⟨⟨(some 11), .assign (.tmp 103), 3, "", ⟨[]⟩, none⟩, none, false⟩]))))
           (.ops false [
             ⟨⟨(some 56), .move (.tmp 12), 3, "", ⟨[]⟩, none⟩, none, false⟩,
             ⟨⟨(some 57), .binOp .add 3 (.tmp 56) (.const (.int .i64 1)) 3, 3, "", ⟨[]⟩, none⟩, none, false⟩,
             ⟨⟨(some 12), .assign (.tmp 57), 3, "", ⟨[]⟩, none⟩, none, false⟩]))))))
      (.seq
       (.seq
        (.ops false [
          ⟨⟨(some 104), .move (.tmp 7), 3, "", ⟨[]⟩, none⟩, none, false⟩,
          ⟨⟨(some 105), .move (.tmp 11), 3, "", ⟨[]⟩, none⟩, none, false⟩,
          ⟨⟨(some 106), .binOp .neq 3 (.tmp 104) (.tmp 105) 3, 4, "", ⟨[]⟩, none⟩, none, false⟩,
          ⟨⟨(some 107), .move (.tmp 106), 4, "", ⟨[]⟩, none⟩, none, false⟩,
          ⟨⟨(some 108), .move (.tmp 8), 3, "", ⟨[]⟩, none⟩, some ((some 107), false), false⟩,
          ⟨⟨(some 109), .move (.tmp 10), 3, "", ⟨[]⟩, none⟩, some ((some 107), false), false⟩,
          ⟨⟨(some 110), .binOp .neq 3 (.tmp 108) (.tmp 109) 3, 4, "", ⟨[]⟩, none⟩, some ((some 107), false), false⟩,
          ⟨⟨(some 111), .pick (.tmp 107) (.const (.bool true)) (.tmp 110), 4, "", ⟨[]⟩, none⟩, none, false⟩,
          ⟨⟨(some 112), .move (.tmp 111), 4, "", ⟨[]⟩, none⟩, none, false⟩,
          ⟨⟨(some 113), .fieldAddr 24 (.tmp 3) 0, 0, "", ⟨[]⟩, none⟩, some ((some 112), false), false⟩,
          ⟨⟨(some 114), .load 22 (.tmp 113), 22, "", ⟨[]⟩, none⟩, some ((some 112), false), false⟩,
          ⟨⟨(some 115), .call ⟨.builtin .len, ⟨[(.tmp 114)]⟩, ⟨[22]⟩⟩, 3, "", ⟨[]⟩, none⟩, some ((some 112), false), false⟩,
          ⟨⟨(some 116), .binOp .eql 3 (.tmp 115) (.const (.int .i64 0)) 3, 4, "", ⟨[]⟩, none⟩, some ((some 112), false), false⟩,
          ⟨⟨(some 117), .pick (.tmp 112) (.const (.bool true)) (.tmp 116), 4, "", ⟨[]⟩, none⟩, none, false⟩])
        (.cond (.tmp 117)
         (.seq
          (.ops false [
            ⟨⟨(some 6), .assign (.const (.bool false)), 4, "", ⟨[]⟩, none⟩, none, false⟩])
          .ret)
         .skip))
       (.seq
        (.ops false [
          ⟨⟨(some 119), .load 24 (.tmp 3), 24, "", ⟨[]⟩, none⟩, none, false⟩,
          ⟨⟨(some 120), .fieldAddr 54 (.tmp 4) 0, 0, "", ⟨[]⟩, none⟩, none, false⟩,
          ⟨⟨(some 121), .load 22 (.tmp 120), 22, "", ⟨[]⟩, none⟩, none, false⟩,
          ⟨⟨(some 122), .call ⟨.value (.func 20), ⟨[(.tmp 119), (.tmp 121)]⟩, ⟨[24, 22]⟩⟩, 29, "", ⟨[]⟩, none⟩, none, false⟩,
          ⟨⟨(some 118), .move (.tmp 122), 29, "", ⟨[]⟩, none⟩, none, false⟩,
          ⟨⟨(some 123), .extract (.tmp 118) 0, 22, "", ⟨[]⟩, none⟩, none, false⟩,
          ⟨⟨(some 124), .extract (.tmp 118) 1, 3, "", ⟨[]⟩, none⟩, none, false⟩,
          ⟨⟨(some 125), .extract (.tmp 118) 2, 3, "", ⟨[]⟩, none⟩, none, false⟩,
          ⟨⟨(some 126), .extract (.tmp 118) 3, 25, "", ⟨[]⟩, none⟩, none, false⟩,
          ⟨⟨(some 15), .assign (.tmp 123), 22, "", ⟨[]⟩, none⟩, none, false⟩,
          ⟨⟨(some 16), .assign (.tmp 124), 3, "", ⟨[]⟩, none⟩, none, false⟩,
          ⟨⟨(some 17), .assign (.tmp 125), 3, "", ⟨[]⟩, none⟩, none, false⟩,
          ⟨⟨(some 9), .assign (.tmp 126), 25, "", ⟨[]⟩, none⟩, none, false⟩])
        (.seq
         (.seq
          (.ops true [
            ⟨⟨(some 127), .move (.tmp 9), 25, "", ⟨[]⟩, none⟩, none, true⟩,
            ⟨⟨(some 128), .binOp .neq 25 (.tmp 127) (.const (.int .i64 0)) 25, 4, "", ⟨[]⟩, none⟩, none, true⟩,
            ⟨⟨(some 129), .move (.tmp 128), 4, "", ⟨[]⟩, none⟩, none, true⟩,
            ⟨⟨(some 130), .move (.tmp 17), 3, "", ⟨[]⟩, none⟩, some ((some 129), false), true⟩,
            ⟨⟨(some 131), .move (.tmp 8), 3, "", ⟨[]⟩, none⟩, some ((some 129), false), true⟩,
            ⟨⟨(some 132), .binOp .neq 3 (.tmp 130) (.tmp 131) 3, 4, "", ⟨[]⟩, none⟩, some ((some 129), false), true⟩,
            ⟨⟨(some 133), .pick (.tmp 129) (.const (.bool true)) (.tmp 132), 4, "", ⟨[]⟩, none⟩, none, true⟩,
            ⟨⟨(some 134), .move (.tmp 133), 4, "", ⟨[]⟩, none⟩, none, true⟩,
            ⟨⟨(some 135), .move (.tmp 15), 22, "", ⟨[]⟩, none⟩, some ((some 134), false), true⟩,
            ⟨⟨(some 137), .fieldAddr 24 (.tmp 3) 2, 0, "", ⟨[]⟩, none⟩, some ((some 134), false), true⟩,
            ⟨⟨(some 138), .load 3 (.tmp 137), 3, "", ⟨[]⟩, none⟩, some ((some 134), false), true⟩,
            ⟨⟨(some 136), .call ⟨.value (.func 48), ⟨[(.tmp 135)]⟩, ⟨[22]⟩⟩, 3, "", ⟨[]⟩, none⟩, some ((some 134), false), true⟩,
            ⟨⟨(some 139), .binOp .neq 3 (.tmp 136) (.tmp 138) 3, 4, "", ⟨[]⟩, none⟩, some ((some 134), false), true⟩,
            ⟨⟨(some 140), .pick (.tmp 134) (.const (.bool true)) (.tmp 139), 4, "", ⟨[]⟩, none⟩, none, true⟩,
            ⟨⟨(some 141), .move (.tmp 140), 4, "", ⟨[]⟩, none⟩, none, true⟩,
            ⟨⟨(some 142), .fieldAddr 54 (.tmp 4) 1, 0, "", ⟨[]⟩, none⟩, some ((some 141), false), true⟩,
            ⟨⟨(some 143), .load 22 (.tmp 142), 22, "", ⟨[]⟩, none⟩, some ((some 141), false), true⟩,
            ⟨⟨(some 145), .fieldAddr 24 (.tmp 3) 2, 0, "", ⟨[]⟩, none⟩, some ((some 141), false), true⟩,
            ⟨⟨(some 146), .load 3 (.tmp 145), 3, "", ⟨[]⟩, none⟩, some ((some 141), false), true⟩,
            ⟨⟨(some 144), .call ⟨.value (.func 48), ⟨[(.tmp 143)]⟩, ⟨[22]⟩⟩, 3, "", ⟨[]⟩, none⟩, some ((some 141), false), true⟩,
            ⟨⟨(some 147), .binOp .eql 3 (.tmp 144) (.tmp 146) 3, 4, "", ⟨[]⟩, none⟩, some ((some 141), false), true⟩,
            ⟨⟨(some 148), .move (.tmp 147), 4, "", ⟨[]⟩, none⟩, some ((some 141), false), true⟩,
            ⟨⟨(some 149), .move (.tmp 7), 3, "", ⟨[]⟩, none⟩, some ((some 148), true), true⟩,
            ⟨⟨(some 150), .move (.tmp 16), 3, "", ⟨[]⟩, none⟩, some ((some 148), true), true⟩,
            ⟨⟨(some 151), .binOp .gtr 3 (.tmp 149) (.tmp 150) 3, 4, "", ⟨[]⟩, none⟩, some ((some 148), true), true⟩,
            ⟨⟨(some 152), .pick (.tmp 148) (.tmp 151) (.const (.bool false)), 4, "", ⟨[]⟩, none⟩, some ((some 141), false), true⟩,
            ⟨⟨(some 153), .pick (.tmp 141) (.const (.bool true)) (.tmp 152), 4, "", ⟨[]⟩, none⟩, none, true⟩])
          (.cond (.tmp 153)
           (.seq
            (.ops false [
              ⟨⟨(some 6), .assign (.const (.bool false)), 4, "", ⟨[]⟩, none⟩, none, false⟩])
            .ret)
           .skip))
         Try.s8_c155))))))))
def Try.x8r22 : List XOp := [
  ⟨⟨⟨(some 181), .move (.tmp 22), 22, "", ⟨[]⟩, none⟩, none, false⟩, 0, 0, false, none⟩,
  ⟨⟨⟨(some 182), .move (.tmp 21), 3, "", ⟨[]⟩, none⟩, none, false⟩, 1, 0, false, none⟩,
  ⟨⟨⟨(some 183), .move (.tmp 23), 22, "", ⟨[]⟩, none⟩, none, false⟩, 2, 0, false, none⟩,
  ⟨⟨⟨(some 184), .move (.tmp 21), 3, "", ⟨[]⟩, none⟩, none, false⟩, 3, 0, false, none⟩,
  ⟨⟨⟨(some 185), .move (.tmp 22), 22, "", ⟨[]⟩, none⟩, none, false⟩, 4, 0, false, none⟩,
  ⟨⟨⟨(some 186), .move (.tmp 21), 3, "", ⟨[]⟩, none⟩, none, false⟩, 5, 0, false, none⟩,
  ⟨⟨⟨(some 187), .indexAddr 22 (.tmp 185) (.tmp 186), 0, "", ⟨[]⟩, none⟩, none, false⟩, 6, 0, false, none⟩,
  ⟨⟨⟨(some 188), .load 3 (.tmp 187), 3, "", ⟨[]⟩, none⟩, none, false⟩, 7, 0, false, some (3, (.tmp 187))⟩,
  ⟨⟨⟨(some 189), .binOp .add 3 (.tmp 188) (.const (.int .i64 1)) 3, 3, "", ⟨[]⟩, none⟩, none, false⟩, 8, 0, false, none⟩,
  ⟨⟨⟨(some 190), .move (.tmp 23), 22, "", ⟨[]⟩, none⟩, none, false⟩, 9, 0, false, none⟩,
  ⟨⟨⟨(some 191), .move (.tmp 21), 3, "", ⟨[]⟩, none⟩, none, false⟩, 10, 0, false, none⟩,
  ⟨⟨⟨(some 192), .indexAddr 22 (.tmp 190) (.tmp 191), 0, "", ⟨[]⟩, none⟩, none, false⟩, 11, 0, false, none⟩,
  ⟨⟨⟨(some 193), .load 3 (.tmp 192), 3, "", ⟨[]⟩, none⟩, none, false⟩, 12, 0, false, some (3, (.tmp 192))⟩,
  ⟨⟨⟨(some 194), .binOp .add 3 (.tmp 193) (.const (.int .i64 1)) 3, 3, "", ⟨[]⟩, none⟩, none, false⟩, 13, 0, false, none⟩,
  ⟨⟨⟨(some 195), .indexAddr 22 (.tmp 181) (.tmp 182), 0, "", ⟨[]⟩, none⟩, none, false⟩, 14, 0, false, none⟩,
  ⟨⟨⟨none, .store 3 (.tmp 195) (.tmp 189), 0, "", ⟨[]⟩, none⟩, none, false⟩, 15, 24563, true, none⟩,
  ⟨⟨⟨(some 196), .indexAddr 22 (.tmp 183) (.tmp 184), 0, "", ⟨[]⟩, none⟩, none, false⟩, 16, 0, false, none⟩,
  ⟨⟨⟨none, .store 3 (.tmp 196) (.tmp 194), 0, "", ⟨[]⟩, none⟩, none, false⟩, 17, 131071, true, none⟩]
theorem Try.s8_eq : Try.f8.body.map (sOfX [22]) = some Try.s8 := by kernel_rfl
theorem Try.x8r22_eq : xRegion Try.s8r22 = some Try.x8r22 := by kernel_rfl
theorem Try.x8r22_kinds : xkinds Try.x8r22 = true := by kernel_rfl
end Go.Proofs

namespace Go.Proofs
open Go Go.RowKit Go.Sim
set_option maxRecDepth 100000
theorem fit_small {S L : List Int} (hS : okS S) (hl : L.length = S.length) (hL : FitS S L) : smallL L := by
  refine ⟨fun x hx => ?_, ?_⟩
  · obtain ⟨i, hi, rfl⟩ := List.mem_iff_getElem.1 hx
    have h1 := hL i (by omega)
    have h2 := hS.2.2 i (by omega)
    rw [W_at hi] at h1
    omega
  · have := hS.2.1
    omega
theorem ring_natC (x : Int) (k : Nat) (hk : 1 ≤ k) : ∃ r : Nat, r < k ∧ (if (k : Int) ≤ 0 then 0 else x % (k : Int)) = (r : Int) := by
  rw [if_neg (by omega)]
  have h0 := Int.emod_nonneg x (show (k : Int) ≠ 0 by omega)
  have h1 := Int.emod_lt_of_pos x (show (0 : Int) < (k : Int) by omega)
  exact ⟨(x % (k : Int)).toNat, by omega, by omega⟩
theorem arr_lenC {w : AW} {p : Option Addr} {m c : Nat} {L : List Int} (h : ArrOf w 1 icells (.slice p m c) L) : m = L.length := by
  obtain ⟨_, _, e, _⟩ := h.open
  injection e
theorem ic_get : ∀ {L : List Int} {r : Nat} (_ : r < L.length), (L.flatMap icells)[r]? = some (.int .i64 (W L r))
  | x :: L, 0, _ => rfl
  | x :: L, r + 1, h => by
    have := ic_get (L := L) (r := r) (by simpa using h)
    show (([Value.int .i64 x] ++ L.flatMap icells))[r + 1]? = some (.int .i64 (W L r))
    exact this
theorem RowA.bound {B : Nat} {w : AW} {v : Value} {L : List Int} (h : RowA B w v L) : AOwnS (fun j => B ≤ j ∧ j < w.next) w 3 1 v L.length (L.flatMap icells) := by
  rcases h with h | ⟨b, r, a1, a2, a3, a4, a5, a6, a7, a9, a8⟩
  · exact .inl h
  · exact .inr ⟨b, r, a1, ⟨a2, a3⟩, a3, ⟨a4, a5⟩, a5, a6, a7, a9, fun j hj => let ⟨c1, c2, c3⟩ := a8 j hj; ⟨⟨c1, c2⟩, c2, c3⟩⟩
theorem missE_fit {A : AudN} {P L : List Int} (h : missE A P L = 0) : fitB A.st P = true ∧ fitB A.st L = true := by
  unfold missE at h
  split at h
  · split at h
    · rename_i z2
      split at h
      · rename_i z3; exact ⟨z2, z3⟩
      · omega
    · omega
  · omega
theorem miss_more {A : AudN} {P L : List Int} {r : Nat} (hb : audB A = true) (hfP : fitB A.st P = true) (hfL : fitB A.st L = true) (hr : r < A.st.length) : ∃ v u : Nat, missV A (P.set r (W P r + 1)) L = (v : Int) ∧ missW A (P.set r (W P r + 1)) L = (u : Int) ∧ v ≤ 24010000 ∧ u ≤ 24010000 ∧ v * allI A.st P ≤ missI A.st P L * u := by
  obtain ⟨hS, _⟩ := audB_ok hb
  obtain ⟨hPl, hPf⟩ := fitB_iff.1 hfP
  obtain ⟨hLl, hLf⟩ := fitB_iff.1 hfL
  by_cases hE : missE A (P.set r (W P r + 1)) L = 0
  case neg => exact ⟨0, 0, by unfold missV; rw [if_neg hE]; rfl, by unfold missW; rw [if_neg hE]; rfl, by omega, by omega, by simp⟩
  obtain ⟨h1, _⟩ := missE_fit hE
  obtain ⟨hl1, hf1⟩ := fitB_iff.1 h1
  refine ⟨_, _, by unfold missV; rw [if_pos hE], by unfold missW; rw [if_pos hE], missI_b hS hf1 hLf, allI_b hS hf1, ?_⟩
  have := hf1 r hr
  rw [W_set (by omega), if_pos rfl] at this
  exact looked_more hS hPf hLf hr hPl this.2
theorem miss_worse {A : AudN} {P L : List Int} {r : Nat} (hb : audB A = true) (hfP : fitB A.st P = true) (hfL : fitB A.st L = true) (hr : r < A.st.length) : ∃ v u : Nat, missV A P (L.set r (W L r + 1)) = (v : Int) ∧ missW A P (L.set r (W L r + 1)) = (u : Int) ∧ v ≤ 24010000 ∧ u ≤ 24010000 ∧ (missE A P (L.set r (W L r + 1)) = 0 → u = allI A.st P ∧ v ≤ missI A.st P L) := by
  obtain ⟨hS, _⟩ := audB_ok hb
  obtain ⟨hPl, hPf⟩ := fitB_iff.1 hfP
  obtain ⟨hLl, hLf⟩ := fitB_iff.1 hfL
  by_cases hE : missE A P (L.set r (W L r + 1)) = 0
  case neg => exact ⟨0, 0, by unfold missV; rw [if_neg hE]; rfl, by unfold missW; rw [if_neg hE]; rfl, by omega, by omega, fun h => absurd h hE⟩
  obtain ⟨_, h1⟩ := missE_fit hE
  obtain ⟨hl1, hf1⟩ := fitB_iff.1 h1
  refine ⟨_, _, by unfold missV; rw [if_pos hE], by unfold missW; rw [if_pos hE], missI_b hS hPf hf1, allI_b hS hPf, fun _ => ⟨rfl, ?_⟩⟩
  have := hf1 r hr
  rw [W_set (by omega), if_pos rfl] at this
  exact lost_more hS hPf hLf hr hLl this.2
theorem tup2_same (a b : Int) : same 12 (.tuple #[.int .i64 a, .int .i64 b]) (.tuple #[.int .i64 a, .int .i64 b]) = true := by simp [same, same.all, intEq_eq]
set_option maxHeartbeats 64000000 in
theorem counts_law (w : AW) (xs : List Value) (f : Fresh w) (h : HdAll Try.prog w [24, 54, 3] xs) : CallT Try.prog Try.T1 (.fn (.func 8) #[]) xs.toArray w fun v _ => v = .bool true := by
  cases h with
  | cons n1 h1 h =>
  cases h with
  | cons n2 h2 h =>
  cases h with
  | cons n3 h3 h =>
  cases h
  rename_i v1 v2 v3
  obtain ⟨A, p, q, a, c, rfl, hs, hcut, hc, _, _, _, _⟩ := given_audit h1
  obtain ⟨P, L, pP, pL, cP, cL, rfl, hPa, hLa, _, _⟩ := given_loss h2
  obtain ⟨x0, rfl, _, _⟩ := given_num h3
  clear h1 h2 h3
  show CallT Try.prog Try.T1 (.fn (.func 8) #[]) #[.agg (audC p q a c A).toArray, .agg #[.slice pP P.length cP, .slice pL L.length cL], .int .i64 x0] w _
  have g1 := (Grown.refl f).push (.cells (audC p q a c A) 24 w.next 0 0)
  have O1 := Own.new f 24 (audC p q a c A)
  have g2 := g1.push (.cells [.slice pP P.length cP, .slice pL L.length cL] 54 (w.next + 1) 0 0)
  have O2 := Own.new g1.2 54 [.slice pP P.length cP, .slice pL L.length cL]
  rw [AW.next_push] at O2
  have O1' := O1.push (.cells [.slice pP P.length cP, .slice pL L.length cL] 54 (w.next + 1) 0 0)
  have hmiss := fun (P' L' : List Int) (v u : Value) (w' : AW) (g' : Grown w w') (hv : ArrOf w' 1 icells v P') (hu : ArrOf w' 1 icells u L') => Miss_ok A P' L' p q a c v u w' g'.2 (hs.grown g') (hc.grown g') hv hu
  have hworst := fun (w' : AW) (g' : Grown w w') (v : Value) (hv : ArrOf w' 1 icells v P) => Worst_ok A P p q a c v w' g'.2 (hs.grown g') (hcut.grown g'.1) (hc.grown g') hv
  refine callT_codeX [22] rfl Try.func8 rfl Try.s8_eq rfl ?_
  unfold Try.s8
  unfold audC at *
  simp -dsimp -implicitDefEqProofs (maxSteps := 2000000) (disch := first | assumption | omega | (simp only [nx]; omega) | ((repeat refine Fresh.push ?_ _); assumption) | (simp only [smA]; done) | (simp [oneCell, AW.next_push]; done) | fail) only [go_sem, Nat.reduceEqDiff, reduceIte, Nat.reduceAdd, Int.toNat_natCast, Nat.add_zero, Owes_true, Try.results8]
  generalize (w.push (.cells [.slice p A.st.length a, .slice q A.co.length c, .int .i64 A.lost, .int .i64 A.sure] 24 w.next 0 0)).push (.cells [.slice pP P.length cP, .slice pL L.length cL] 54 (w.next + 1) 0 0) = w1 at *
  have a0 := O1'.cell (o := 0) rfl rfl
  have a1 := O1'.cell (o := 1) rfl rfl
  have a2 := O1'.cell (o := 2) rfl rfl
  have a3 := O1'.cell (o := 3) rfl rfl
  have b0 := O2.cell (o := 0) rfl rfl
  have b1 := O2.cell (o := 1) rfl rfl
  have m1 := hmiss P L _ _ w1 g2 (hPa.grown g2) (hLa.grown g2)
  apply callV_of (e := rfl)
  · exact m1
  rintro _ w2 ⟨rfl, g3⟩
  have gg3 := g2.trans g3
  have O1b := O1'.keep g3.1
  have O2b := O2.keep g3.1
  have c0 := O1b.cell (o := 0) rfl rfl
  have c1 := O1b.cell (o := 1) rfl rfl
  have c2 := O1b.cell (o := 2) rfl rfl
  have c3 := O1b.cell (o := 3) rfl rfl
  have k0 := O2b.cell (o := 0) rfl rfl
  have k1 := O2b.cell (o := 1) rfl rfl
  have d00 : decide ((0 : Int) = 0) = true := rfl
  by_cases hE : missE A P L = 0
  case neg =>
    have hd : decide (missE A P L = 0) = false := decide_eq_false hE
    have hV : missV A P L = 0 := by unfold missV; rw [if_neg hE]
    have hW : missW A P L = 0 := by unfold missW; rw [if_neg hE]
    rw [hV, hW]
    simp -dsimp -implicitDefEqProofs (maxSteps := 2000000) (disch := first | assumption | omega | (simp only [nx]; omega) | ((repeat refine Fresh.push ?_ _); assumption) | (simp only [smA]; done) | (simp [oneCell, AW.next_push]; done) | fail) only [go_sem, Nat.reduceEqDiff, reduceIte, Nat.reduceAdd, Int.toNat_natCast, Nat.add_zero, Owes_true, Try.results8, hd, d00]
    apply callV_of (e := rfl)
    · exact callT_told (Q := fun v w' => v = .bool true ∧ w2 = w') (v := .bool true) (w' := w2) rfl ⟨rfl, rfl⟩
    rintro _ _ ⟨rfl, rfl⟩
    simp -dsimp -implicitDefEqProofs (maxSteps := 2000000) (disch := first | assumption | omega | (simp only [nx]; omega) | ((repeat refine Fresh.push ?_ _); assumption) | (simp only [smA]; done) | (simp [oneCell, AW.next_push]; done) | fail) only [go_sem, Nat.reduceEqDiff, reduceIte, Nat.reduceAdd, Int.toNat_natCast, Nat.add_zero, Owes_true, Try.results8]
  have hd : decide (missE A P L = 0) = true := decide_eq_true hE
  have hV : missV A P L = (missI A.st P L : Int) := by unfold missV; rw [if_pos hE]
  have hW : missW A P L = (allI A.st P : Int) := by unfold missW; rw [if_pos hE]
  obtain ⟨hb, hfP, hfL⟩ : audB A = true ∧ fitB A.st P = true ∧ fitB A.st L = true := by
    unfold missE at hE
    split at hE
    · rename_i z1
      split at hE
      · rename_i z2
        split at hE
        · rename_i z3; exact ⟨z1, z2, z3⟩
        · omega
      · omega
    · omega
  obtain ⟨hS, hco, _, hl1, hl2, _⟩ := audB_ok hb
  obtain ⟨hPl, hPf⟩ := fitB_iff.1 hfP
  obtain ⟨hLl, hLf⟩ := fitB_iff.1 hfL
  have hMb := missI_b hS hPf hLf
  have hAb := allI_b hS hPf
  rw [hV, hW]
  simp -dsimp -implicitDefEqProofs (maxSteps := 2000000) (disch := first | assumption | omega | (simp only [nx]; omega) | ((repeat refine Fresh.push ?_ _); assumption) | (simp only [smA]; done) | (simp [oneCell, AW.next_push]; done) | fail) only [go_sem, Nat.reduceEqDiff, reduceIte, Nat.reduceAdd, Int.toNat_natCast, Nat.add_zero, Owes_true, Try.results8, hd]
  obtain ⟨_, _, epd, _, _, hat⟩ := id hs.open
  injection epd with epd1 epd2 epd3
  subst epd1 epd3
  obtain ⟨_, _, epd, _, _, hatP⟩ := id hPa.open
  injection epd with epd1 epd2 epd3
  subst epd1 epd3
  obtain ⟨_, _, epd, _, _, hatL⟩ := id hLa.open
  injection epd with epd1 epd2 epd3
  subst epd1 epd3
  refine loopR (fun k t ds w3 => ∃ i : Nat, i ≤ A.st.length ∧ k = A.st.length - i ∧ ds = [] ∧ ev t (.tmp 2) = .int .i64 x0 ∧ ev t (.tmp 3) = ptr w.next ∧ ev t (.tmp 4) = ptr (w.next + 1) ∧ ev t (.tmp 7) = .int .i64 (missI A.st P L : Int) ∧ ev t (.tmp 8) = .int .i64 (allI A.st P : Int) ∧ ev t (.tmp 10) = .int .i64 (missTo A.st P [] i : Int) ∧ ev t (.tmp 11) = .int .i64 (missTo A.st P L i : Int) ∧ ev t (.tmp 12) = .int .i64 (i : Int) ∧ w2 = w3) (A.st.length) ?_ ?_
  · refine ⟨0, by omega, by omega, rfl, ?_, ?_, ?_, ?_, ?_, ?_, ?_, ?_, rfl⟩ <;> simp -dsimp -implicitDefEqProofs (maxSteps := 2000000) (disch := first | assumption | omega | (simp only [nx]; omega) | ((repeat refine Fresh.push ?_ _); assumption) | (simp only [smA]; done) | (simp [oneCell, AW.next_push]; done) | fail) only [go_sem, Nat.reduceEqDiff, reduceIte, Nat.reduceAdd, Int.toNat_natCast, Nat.add_zero, Owes_true] <;> rfl
  rintro k t ds w3 ⟨i, hii, rfl, rfl, e2, e3, e4, e7, e8, e10, e11, e12, hw⟩
  subst hw
  by_cases hlt : (i : Int) < (A.st.length : Int)
  case pos =>
    have hlt' : i < A.st.length := by omega
    obtain ⟨y1, o1, rfl, _, hc1⟩ := hat i hlt'
    obtain ⟨y2, o2, rfl, _, hc2⟩ := hatP i (by omega)
    obtain ⟨y3, o3, rfl, _, hc3⟩ := hatL i (by omega)
    have z1 := hc1 w2 gg3.1 0 _ rfl
    have z2 := hc2 w2 gg3.1 0 _ rfl
    have z3 := hc3 w2 gg3.1 0 _ rfl
    rw [Nat.add_zero, ← W_at hlt'] at z1
    rw [Nat.add_zero, ← W_at (by omega)] at z2 z3
    have hSi := hS.2.2 i hlt'
    have hPi := hPf i hlt'
    have hLi := hLf i hlt'
    obtain ⟨n, hn⟩ : ∃ n : Nat, W A.st i = (n : Int) := ⟨(W A.st i).toNat, by omega⟩
    obtain ⟨m, hm⟩ : ∃ m : Nat, W P i = (m : Int) := ⟨(W P i).toNat, by omega⟩
    obtain ⟨l, hl⟩ : ∃ l : Nat, W L i = (l : Int) := ⟨(W L i).toNat, by omega⟩
    have q1 : missTo A.st P [] (i + 1) = missTo A.st P [] i * chs n m := by rw [missTo, W_nil, hn, hm, Int.sub_zero]; rfl
    have q2 : missTo A.st P L (i + 1) = missTo A.st P L i * chs (n - l) m := by rw [missTo, hn, hm, hl, show ((n : Int) - (l : Int)).toNat = n - l by omega]; rfl
    have r1 := missTo_b hS hPf (fun i hi => by rw [W_nil]; have := hS.2.2 i hi; omega) (L := []) (i := i + 1) (by omega)
    have r2 := missTo_b hS hPf hLf (i := i + 1) (by omega)
    rw [q1] at r1
    rw [q2] at r2
    have s1 : (missTo A.st P [] i : Int) * (chs n m : Int) = ((missTo A.st P [] i * chs n m : Nat) : Int) := by push_cast; rfl
    have s2 : (missTo A.st P L i : Int) * (chs (n - l) m : Int) = ((missTo A.st P L i * chs (n - l) m : Nat) : Int) := by push_cast; rfl
    have hge1 : decide ((i : Int) ≥ (P.length : Int)) = false := decide_eq_false (by omega)
    have hge2 : decide ((i : Int) ≥ (L.length : Int)) = false := decide_eq_false (by omega)
    have hlP : (i : Int) < (P.length : Int) := by omega
    have hlL : (i : Int) < (L.length : Int) := by omega
    have ht2 := tup2_same (chs n m : Int) (chs (n - l) m : Int)
    have i1 : inR 0 (n : Int) 8 = true := (inR_iff _ _ _).2 (by omega)
    rw [hn] at z1
    rw [hm] at z2
    rw [hl] at z3
    have hle2 : WLe w2 w2 := (Grown.refl gg3.2).1.wle gg3.2
    simp -dsimp -implicitDefEqProofs (maxSteps := 2000000) (disch := first | assumption | omega | (simp only [nx]; omega) | ((repeat refine Fresh.push ?_ _); assumption) | (simp only [smA]; done) | (simp [oneCell, AW.next_push]; done) | fail) only [go_sem, Nat.reduceEqDiff, reduceIte, Nat.reduceAdd, Int.toNat_natCast, Nat.add_zero, Owes_true, Try.results8, e2, e3, e4, e7, e8, e10, e11, e12, hlt, c0, k0, k1, Nat.zero_add, hge1, hge2, hlP, hlL, indexV_eq, z1, z2, z3]
    apply callV_of (e := rfl)
    · exact From_ok _ _ _ _
    rintro _ _ ⟨rfl, rfl⟩
    simp -dsimp -implicitDefEqProofs (maxSteps := 2000000) (disch := first | assumption | omega | (simp only [nx]; omega) | ((repeat refine Fresh.push ?_ _); assumption) | (simp only [smA]; done) | (simp [oneCell, AW.next_push]; done) | fail) only [go_sem, Nat.reduceEqDiff, reduceIte, Nat.reduceAdd, Int.toNat_natCast, Nat.add_zero, Owes_true, Try.results8, e2, e3, e4, e7, e8, e10, e11, e12, hlt, c0, k0, k1, Nat.zero_add, hge1, hge2, hlP, hlL, indexV_eq, z1, z2, z3, i1]
    apply callV_of (e := rfl)
    · exact choices_ok n m l (by omega) w2
    rintro _ _ ⟨rfl, rfl⟩
    rw [chA_is (by omega) (by omega), chN_is (by omega) (by omega) (by omega)]
    generalize missTo A.st P [] i = M1 at *
    generalize missTo A.st P L i = M2 at *
    simp -dsimp -implicitDefEqProofs (maxSteps := 2000000) (disch := first | assumption | omega | (simp only [nx]; omega) | ((repeat refine Fresh.push ?_ _); assumption) | (simp only [smA]; done) | (simp [oneCell, AW.next_push]; done) | fail) only [go_sem, Nat.reduceEqDiff, reduceIte, Nat.reduceAdd, Int.toNat_natCast, Nat.add_zero, Owes_true, Try.results8, e2, e3, e4, e7, e8, e10, e11, e12, hle2, s1, s2]
    refine ⟨_, by omega, i + 1, by omega, rfl, rfl, by (simp -dsimp -implicitDefEqProofs (maxSteps := 2000000) (disch := first | assumption | omega | (simp only [nx]; omega) | ((repeat refine Fresh.push ?_ _); assumption) | (simp only [smA]; done) | (simp [oneCell, AW.next_push]; done) | fail) only [go_sem, Nat.reduceEqDiff, reduceIte, Nat.reduceAdd, Int.toNat_natCast, Nat.add_zero, Owes_true, e2, q1, q2]; try rfl), by (simp -dsimp -implicitDefEqProofs (maxSteps := 2000000) (disch := first | assumption | omega | (simp only [nx]; omega) | ((repeat refine Fresh.push ?_ _); assumption) | (simp only [smA]; done) | (simp [oneCell, AW.next_push]; done) | fail) only [go_sem, Nat.reduceEqDiff, reduceIte, Nat.reduceAdd, Int.toNat_natCast, Nat.add_zero, Owes_true, e3, q1, q2]; try rfl), by (simp -dsimp -implicitDefEqProofs (maxSteps := 2000000) (disch := first | assumption | omega | (simp only [nx]; omega) | ((repeat refine Fresh.push ?_ _); assumption) | (simp only [smA]; done) | (simp [oneCell, AW.next_push]; done) | fail) only [go_sem, Nat.reduceEqDiff, reduceIte, Nat.reduceAdd, Int.toNat_natCast, Nat.add_zero, Owes_true, e4, q1, q2]; try rfl), by (simp -dsimp -implicitDefEqProofs (maxSteps := 2000000) (disch := first | assumption | omega | (simp only [nx]; omega) | ((repeat refine Fresh.push ?_ _); assumption) | (simp only [smA]; done) | (simp [oneCell, AW.next_push]; done) | fail) only [go_sem, Nat.reduceEqDiff, reduceIte, Nat.reduceAdd, Int.toNat_natCast, Nat.add_zero, Owes_true, e7, q1, q2]; try rfl), by (simp -dsimp -implicitDefEqProofs (maxSteps := 2000000) (disch := first | assumption | omega | (simp only [nx]; omega) | ((repeat refine Fresh.push ?_ _); assumption) | (simp only [smA]; done) | (simp [oneCell, AW.next_push]; done) | fail) only [go_sem, Nat.reduceEqDiff, reduceIte, Nat.reduceAdd, Int.toNat_natCast, Nat.add_zero, Owes_true, e8, q1, q2]; try rfl), by (simp -dsimp -implicitDefEqProofs (maxSteps := 2000000) (disch := first | assumption | omega | (simp only [nx]; omega) | ((repeat refine Fresh.push ?_ _); assumption) | (simp only [smA]; done) | (simp [oneCell, AW.next_push]; done) | fail) only [go_sem, Nat.reduceEqDiff, reduceIte, Nat.reduceAdd, Int.toNat_natCast, Nat.add_zero, Owes_true, e10, q1, q2]; try rfl), by (simp -dsimp -implicitDefEqProofs (maxSteps := 2000000) (disch := first | assumption | omega | (simp only [nx]; omega) | ((repeat refine Fresh.push ?_ _); assumption) | (simp only [smA]; done) | (simp [oneCell, AW.next_push]; done) | fail) only [go_sem, Nat.reduceEqDiff, reduceIte, Nat.reduceAdd, Int.toNat_natCast, Nat.add_zero, Owes_true, e11, q1, q2]; try rfl), by (simp -dsimp -implicitDefEqProofs (maxSteps := 2000000) (disch := first | assumption | omega | (simp only [nx]; omega) | ((repeat refine Fresh.push ?_ _); assumption) | (simp only [smA]; done) | (simp [oneCell, AW.next_push]; done) | fail) only [go_sem, Nat.reduceEqDiff, reduceIte, Nat.reduceAdd, Int.toNat_natCast, Nat.add_zero, Owes_true, e12, q1, q2]; try rfl), rfl⟩
  obtain rfl : i = A.st.length := by omega
  rw [show missTo A.st P L A.st.length = missI A.st P L from rfl] at e11
  rw [show missTo A.st P [] A.st.length = allI A.st P from rfl] at e10
  have dw : decide ((missI A.st P L : Int) = (missI A.st P L : Int)) = true := decide_eq_true rfl
  have da : decide ((allI A.st P : Int) = (allI A.st P : Int)) = true := decide_eq_true rfl
  have hn1 : 1 ≤ A.st.length := hS.1
  have dl : decide ((A.st.length : Int) = 0) = false := decide_eq_false (by omega)
  have hnlt : ¬ (A.st.length : Int) < (A.st.length : Int) := by omega
  simp -dsimp -implicitDefEqProofs (maxSteps := 2000000) (disch := first | assumption | omega | (simp only [nx]; omega) | ((repeat refine Fresh.push ?_ _); assumption) | (simp only [smA]; done) | (simp [oneCell, AW.next_push]; done) | fail) only [go_sem, Nat.reduceEqDiff, reduceIte, Nat.reduceAdd, Int.toNat_natCast, Nat.add_zero, Owes_true, Try.results8, e2, e3, e4, e7, e8, e10, e11, e12, hnlt, c0, c1, c2, c3, k0, k1, Nat.zero_add, dw, da, dl]
  have m2 := hworst w2 gg3 _ (hPa.grown gg3)
  apply callV_of (e := rfl)
  · exact m2
  rintro _ w4 ⟨g4, pu, nu, cu, rfl, hwA⟩
  have gg4 := gg3.trans g4
  have O1d := O1b.keep g4.1
  have O2d := O2b.keep g4.1
  have f0 := O1d.cell (o := 0) rfl rfl
  have f1 := O1d.cell (o := 1) rfl rfl
  have f2 := O1d.cell (o := 2) rfl rfl
  have f3 := O1d.cell (o := 3) rfl rfl
  have j0 := O2d.cell (o := 0) rfl rfl
  have j1 := O2d.cell (o := 1) rfl rfl
  have hsE : samE A P = 0 := by unfold samE; rw [if_pos hb, if_pos hfP]
  have hwE : wE A P = (worstX A P).1 := by unfold wE; rw [if_pos hsE]
  have hwAl : wA A P = (allI A.st P : Int) := by unfold wA; rw [if_pos hsE]
  have hwL : wL A P = (worstX A P).2 := by unfold wL; rw [if_pos hsE]
  obtain ⟨hx1, hx2, hx3⟩ := worstX_is hb P
  obtain ⟨hxl, hxf, hxs⟩ := (losses_mem hb _).1 hx1
  rw [hwE, hwAl, hsE, hx2]
  rw [hwL] at hwA
  simp -dsimp -implicitDefEqProofs (maxSteps := 2000000) (disch := first | assumption | omega | (simp only [nx]; omega) | ((repeat refine Fresh.push ?_ _); assumption) | (simp only [smA]; done) | (simp [oneCell, AW.next_push]; done) | fail) only [go_sem, Nat.reduceEqDiff, reduceIte, Nat.reduceAdd, Int.toNat_natCast, Nat.add_zero, Owes_true, Try.results8, e2, e3, e4, e7, e8, f0, f1, f2, f3, j0, j1, Nat.zero_add, d00, da]
  have hle4 : WLe w4 w4 := (Grown.refl gg4.2).1.wle gg4.2
  apply callV_of (e := rfl)
  · exact Sum_ok (worstX A P).2 _ w4 hwA
  rintro _ _ ⟨rfl, s1, rfl, hs1⟩
  have hs1' := hs1 (fit_small hS hxl hxf)
  rw [hxs] at hs1'
  subst hs1'
  have dlo : decide (A.lost = A.lost) = true := decide_eq_true rfl
  simp -dsimp -implicitDefEqProofs (maxSteps := 2000000) (disch := first | assumption | omega | (simp only [nx]; omega) | ((repeat refine Fresh.push ?_ _); assumption) | (simp only [smA]; done) | (simp [oneCell, AW.next_push]; done) | fail) only [go_sem, Nat.reduceEqDiff, reduceIte, Nat.reduceAdd, Int.toNat_natCast, Nat.add_zero, Owes_true, Try.results8, e2, e3, e4, e7, e8, f0, f1, f2, f3, j0, j1, Nat.zero_add, d00, da, hle4, dlo]
  apply callV_of (e := rfl)
  · exact Sum_ok L _ w4 (hLa.grown gg4)
  rintro _ _ ⟨rfl, s2, rfl, hs2⟩
  have hs2' := hs2 (fit_small hS hLl hLf)
  subst hs2'
  obtain ⟨bq, hqd, hgt⟩ : ∃ bq, decide (L.sum = A.lost) = bq ∧ (bq = true → decide ((missI A.st P L : Int) > (missI A.st P (worstX A P).2 : Int)) = false) := by
    refine ⟨_, rfl, fun h => decide_eq_false ?_⟩
    have := hx3 L ((losses_mem hb L).2 ⟨hLl, hLf, of_decide_eq_true h⟩)
    rw [hx2] at this
    omega
  have hEl : missE A P (worstX A P).2 = 0 := by unfold missE; rw [if_pos hb, if_pos hfP, if_pos (fitB_iff.2 ⟨hxl, hxf⟩)]
  have hVl : missV A P (worstX A P).2 = (missI A.st P (worstX A P).2 : Int) := by unfold missV; rw [if_pos hEl]
  have dx : decide ((missI A.st P (worstX A P).2 : Int) = (missI A.st P (worstX A P).2 : Int)) = true := decide_eq_true rfl
  obtain ⟨r, hr, hre⟩ := ring_natC x0 A.st.length hn1
  have hqn : nu = (worstX A P).2.length := arr_lenC hwA
  have m4 := hmiss P (worstX A P).2 _ _ w4 gg4 (hPa.grown gg4) hwA
  rw [hEl, hVl] at m4
  apply joinC (F := fun t => ev t (.tmp 2) = .int .i64 x0 ∧ ev t (.tmp 3) = ptr w.next ∧ ev t (.tmp 4) = ptr (w.next + 1) ∧ ev t (.tmp 7) = .int .i64 (missI A.st P L : Int) ∧ ev t (.tmp 8) = .int .i64 (allI A.st P : Int) ∧ ev t (.tmp 15) = .slice pu nu cu ∧ ev t (.tmp 16) = .int .i64 (missI A.st P (worstX A P).2 : Int)) (w := w4)
  case mainC =>
    intro go
    cases bq
    all_goals
      try have hgt := hgt rfl
      simp -dsimp -implicitDefEqProofs (maxSteps := 2000000) (disch := first | assumption | omega | (simp only [nx]; omega) | ((repeat refine Fresh.push ?_ _); assumption) | (simp only [smA]; done) | (simp [oneCell, AW.next_push]; done) | fail) only [go_sem, Nat.reduceEqDiff, reduceIte, Nat.reduceAdd, Int.toNat_natCast, Nat.add_zero, Owes_true, Try.results8, e2, e3, e4, e7, e8, f0, f1, f2, f3, j0, j1, Nat.zero_add, d00, da, hle4, dlo, hqd, hgt]
      exact joinC_use go ⟨by (simp -dsimp -implicitDefEqProofs (maxSteps := 2000000) (disch := first | assumption | omega | (simp only [nx]; omega) | ((repeat refine Fresh.push ?_ _); assumption) | (simp only [smA]; done) | (simp [oneCell, AW.next_push]; done) | fail) only [go_sem, Nat.reduceEqDiff, reduceIte, Nat.reduceAdd, Int.toNat_natCast, Nat.add_zero, Owes_true, e2]; try rfl), by (simp -dsimp -implicitDefEqProofs (maxSteps := 2000000) (disch := first | assumption | omega | (simp only [nx]; omega) | ((repeat refine Fresh.push ?_ _); assumption) | (simp only [smA]; done) | (simp [oneCell, AW.next_push]; done) | fail) only [go_sem, Nat.reduceEqDiff, reduceIte, Nat.reduceAdd, Int.toNat_natCast, Nat.add_zero, Owes_true, e3]; try rfl), by (simp -dsimp -implicitDefEqProofs (maxSteps := 2000000) (disch := first | assumption | omega | (simp only [nx]; omega) | ((repeat refine Fresh.push ?_ _); assumption) | (simp only [smA]; done) | (simp [oneCell, AW.next_push]; done) | fail) only [go_sem, Nat.reduceEqDiff, reduceIte, Nat.reduceAdd, Int.toNat_natCast, Nat.add_zero, Owes_true, e4]; try rfl), by (simp -dsimp -implicitDefEqProofs (maxSteps := 2000000) (disch := first | assumption | omega | (simp only [nx]; omega) | ((repeat refine Fresh.push ?_ _); assumption) | (simp only [smA]; done) | (simp [oneCell, AW.next_push]; done) | fail) only [go_sem, Nat.reduceEqDiff, reduceIte, Nat.reduceAdd, Int.toNat_natCast, Nat.add_zero, Owes_true, e7]; try rfl), by (simp -dsimp -implicitDefEqProofs (maxSteps := 2000000) (disch := first | assumption | omega | (simp only [nx]; omega) | ((repeat refine Fresh.push ?_ _); assumption) | (simp only [smA]; done) | (simp [oneCell, AW.next_push]; done) | fail) only [go_sem, Nat.reduceEqDiff, reduceIte, Nat.reduceAdd, Int.toNat_natCast, Nat.add_zero, Owes_true, e8]; try rfl), by (simp -dsimp -implicitDefEqProofs (maxSteps := 2000000) (disch := first | assumption | omega | (simp only [nx]; omega) | ((repeat refine Fresh.push ?_ _); assumption) | (simp only [smA]; done) | (simp [oneCell, AW.next_push]; done) | fail) only [go_sem, Nat.reduceEqDiff, reduceIte, Nat.reduceAdd, Int.toNat_natCast, Nat.add_zero, Owes_true]; try rfl), by (simp -dsimp -implicitDefEqProofs (maxSteps := 2000000) (disch := first | assumption | omega | (simp only [nx]; omega) | ((repeat refine Fresh.push ?_ _); assumption) | (simp only [smA]; done) | (simp [oneCell, AW.next_push]; done) | fail) only [go_sem, Nat.reduceEqDiff, reduceIte, Nat.reduceAdd, Int.toNat_natCast, Nat.add_zero, Owes_true]; try rfl)⟩
  case restC =>
  clear e2 e3 e4 e7 e8 e10 e11 e12
  rintro t ⟨e2, e3, e4, e7, e8, e15, e16⟩
  unfold Try.s8_c155
  simp -dsimp -implicitDefEqProofs (maxSteps := 2000000) (disch := first | assumption | omega | (simp only [nx]; omega) | ((repeat refine Fresh.push ?_ _); assumption) | (simp only [smA]; done) | (simp [oneCell, AW.next_push]; done) | fail) only [go_sem, Nat.reduceEqDiff, reduceIte, Nat.reduceAdd, Int.toNat_natCast, Nat.add_zero, Owes_true, Try.results8, e2, e3, e4, e7, e8, e15, e16, f0, f1, f2, f3, j0, j1, Nat.zero_add]
  apply callV_of (e := rfl)
  · exact m4
  rintro _ w5 ⟨rfl, g5⟩
  have gg5 := gg4.trans g5
  have O1e := O1d.keep g5.1
  have O2e := O2d.keep g5.1
  have f0 := O1e.cell (o := 0) rfl rfl
  have f1 := O1e.cell (o := 1) rfl rfl
  have f2 := O1e.cell (o := 2) rfl rfl
  have f3 := O1e.cell (o := 3) rfl rfl
  have j0 := O2e.cell (o := 0) rfl rfl
  have j1 := O2e.cell (o := 1) rfl rfl
  simp -dsimp -implicitDefEqProofs (maxSteps := 2000000) (disch := first | assumption | omega | (simp only [nx]; omega) | ((repeat refine Fresh.push ?_ _); assumption) | (simp only [smA]; done) | (simp [oneCell, AW.next_push]; done) | fail) only [go_sem, Nat.reduceEqDiff, reduceIte, Nat.reduceAdd, Int.toNat_natCast, Nat.add_zero, Owes_true, Try.results8, e2, e3, e4, e7, e8, e15, e16, f0, f1, f2, f3, j0, j1, Nat.zero_add, d00, dx]
  apply callV_of (e := rfl)
  · exact Ring_ok x0 (A.st.length : Int) (by have := hS.2.1; omega) w5
  rintro _ _ ⟨rfl, rfl⟩
  rw [hre]
  simp -dsimp -implicitDefEqProofs (maxSteps := 2000000) (disch := first | assumption | omega | (simp only [nx]; omega) | ((repeat refine Fresh.push ?_ _); assumption) | (simp only [smA]; done) | (simp [oneCell, AW.next_push]; done) | fail) only [go_sem, Nat.reduceEqDiff, reduceIte, Nat.reduceAdd, Int.toNat_natCast, Nat.add_zero, Owes_true, Try.results8, e2, e3, e4, e7, e8, e15, e16, f0, f1, f2, f3, j0, j1, Nat.zero_add, d00, dx]
  apply callV_of (e := rfl)
  · exact Own_ok P _ w5 gg5.2 (hPa.grown gg5) (by have := hS.2.1; omega)
  rintro _ w6 ⟨hm1, g6⟩
  have hle6 : WLe w5 w6 := g6.1.wle gg5.2
  have R1 := making_row hm1 rfl (by omega)
  have hone1 := making_one hm1
  have hsm1 := making_same hm1
  simp -dsimp -implicitDefEqProofs (maxSteps := 2000000) (disch := first | assumption | omega | (simp only [nx]; omega) | ((repeat refine Fresh.push ?_ _); assumption) | (simp only [smA]; done) | (simp [oneCell, AW.next_push]; done) | fail) only [go_sem, Nat.reduceEqDiff, reduceIte, Nat.reduceAdd, Int.toNat_natCast, Nat.add_zero, Owes_true, Try.results8, e2, e3, e4, e7, e8, e15, e16, hle6, hone1, hsm1]
  apply callV_of (e := rfl)
  · exact Own_ok L _ w6 g6.2 (hLa.grown (gg5.trans g6)) (by have := hS.2.1; omega)
  rintro _ w7 ⟨hm2, g7⟩
  have hle7 : WLe w6 w7 := g7.1.wle g6.2
  have R2 := making_row hm2 rfl (by omega)
  have hone2 := making_one hm2
  have hsm2 := making_same hm2
  have hP0 := hPf r hr
  have hL0 := hLf r hr
  have hS0 := hS.2.2 r hr
  have R1k := RowA.bound R1
  have R1' := AOwnS.keepS R1k (fun j hj => g7.1.blk j hj) (fun j hj _ => g7.1.fam j hj) g7.1.next
  simp -dsimp -implicitDefEqProofs (maxSteps := 2000000) (disch := first | assumption | omega | (simp only [nx]; omega) | ((repeat refine Fresh.push ?_ _); assumption) | (simp only [smA]; done) | (simp [oneCell, AW.next_push]; done) | fail) only [go_sem, Nat.reduceEqDiff, reduceIte, Nat.reduceAdd, Int.toNat_natCast, Nat.add_zero, Owes_true, Try.results8, e2, e3, e4, e7, e8, e15, e16, hle7, hone2, hsm2]
  have o1 : r < (P.flatMap icells).length := by rw [icells_flat_len]; omega
  have o2 : r < (L.flatMap icells).length := by rw [icells_flat_len]; omega
  obtain ⟨b1, rfl, _, _, hcl1⟩ := AOwnS.cells R1' (fun _ => rfl) (by omega)
  obtain ⟨b2, rfl, _, _, hcl2⟩ := AOwnS.cells (S := fun j => w6.next ≤ j) R2 (fun _ => rfl) (by omega)
  obtain ⟨b1', h1e, _, w8, st1, S1, M1, nx1, _⟩ := aownS_store R1' g7.2 (by omega) (o := r) (x := .int .i64 (W P r + 1)) o1 rfl
  injection h1e with h1e; injection h1e with h1e; injection h1e with h1e _ _
  subst h1e
  have R2k := AOwnS.other (S := fun j => w6.next ≤ j) R2 M1 (fun j hj hS => by have := hS.2; omega)
  obtain ⟨b2', h2e, _, w9, st2, S2, M2, nx2, _⟩ := aownS_store R2k M1.fresh (by omega) (o := r) (x := .int .i64 (W L r + 1)) o2 rfl
  injection h2e with h2e; injection h2e with h2e; injection h2e with h2e _ _
  subst h2e
  have S1' := AOwnS.other S1 M2 (fun j hj hS => by have := hj.2; omega)
  rw [setL_ic] at S1 S1' S2
  have k1 := hcl1 r _ (ic_get (by omega))
  have k2 := hcl2 r _ (ic_get (by omega))
  have x1 : indexV 1 (.slice (some ⟨b1, 0, none⟩) P.length P.length) (.int .i64 (r : Int)) = some (.pointer (some ⟨b1, r, none⟩)) := by rw [indexV_eq (by omega) (by omega)]; simp
  have x2 : indexV 1 (.slice (some ⟨b2, 0, none⟩) L.length L.length) (.int .i64 (r : Int)) = some (.pointer (some ⟨b2, r, none⟩)) := by rw [indexV_eq (by omega) (by omega)]; simp
  apply joinC (F := fun t => ev t (.tmp 3) = ptr w.next ∧ ev t (.tmp 4) = ptr (w.next + 1) ∧ ev t (.tmp 7) = .int .i64 (missI A.st P L : Int) ∧ ev t (.tmp 8) = .int .i64 (allI A.st P : Int) ∧ ev t (.tmp 22) = .slice (some ⟨b1, 0, none⟩) P.length P.length ∧ ev t (.tmp 23) = .slice (some ⟨b2, 0, none⟩) L.length L.length) (w := w9)
  case mainC =>
    intro go
    show CodeT _ _ _ _ _ _ _ _
    refine codeT_regX Try.x8r22_eq Try.x8r22_kinds ?_
    unfold Try.x8r22
    simp -dsimp -implicitDefEqProofs (maxSteps := 2000000) (disch := first | assumption | omega | (simp only [nx]; omega) | ((repeat refine Fresh.push ?_ _); assumption) | (simp only [smA]; done) | (simp [oneCell, AW.next_push]; done) | fail) only [go_sem, Nat.reduceEqDiff, reduceIte, Nat.reduceAdd, Int.toNat_natCast, Nat.add_zero, Owes_true, e2, e3, e4, e7, e8, e15, e16, x1, x2, k1, k2, st1]
    refine ⟨⟨.inl (show Nat.testBit 24563 12 = true by decide), .inl (show Nat.testBit 24563 7 = true by decide), trivial⟩, ?_⟩
    simp -dsimp -implicitDefEqProofs (maxSteps := 2000000) (disch := first | assumption | omega | (simp only [nx]; omega) | ((repeat refine Fresh.push ?_ _); assumption) | (simp only [smA]; done) | (simp [oneCell, AW.next_push]; done) | fail) only [go_sem, Nat.reduceEqDiff, reduceIte, Nat.reduceAdd, Int.toNat_natCast, Nat.add_zero, Owes_true, e2, e3, e4, e7, e8, e15, e16, x1, x2, k1, k2, st2]
    refine ⟨⟨.inl (show Nat.testBit 131071 12 = true by decide), .inl (show Nat.testBit 131071 7 = true by decide), trivial⟩, ?_⟩
    simp -dsimp -implicitDefEqProofs (maxSteps := 2000000) (disch := first | assumption | omega | (simp only [nx]; omega) | ((repeat refine Fresh.push ?_ _); assumption) | (simp only [smA]; done) | (simp [oneCell, AW.next_push]; done) | fail) only [go_sem, Nat.reduceEqDiff, reduceIte, Nat.reduceAdd, Int.toNat_natCast, Nat.add_zero, Owes_true, Try.results8]
    exact joinC_use go ⟨by (simp -dsimp -implicitDefEqProofs (maxSteps := 2000000) (disch := first | assumption | omega | (simp only [nx]; omega) | ((repeat refine Fresh.push ?_ _); assumption) | (simp only [smA]; done) | (simp [oneCell, AW.next_push]; done) | fail) only [go_sem, Nat.reduceEqDiff, reduceIte, Nat.reduceAdd, Int.toNat_natCast, Nat.add_zero, Owes_true, e3]; try rfl), by (simp -dsimp -implicitDefEqProofs (maxSteps := 2000000) (disch := first | assumption | omega | (simp only [nx]; omega) | ((repeat refine Fresh.push ?_ _); assumption) | (simp only [smA]; done) | (simp [oneCell, AW.next_push]; done) | fail) only [go_sem, Nat.reduceEqDiff, reduceIte, Nat.reduceAdd, Int.toNat_natCast, Nat.add_zero, Owes_true, e4]; try rfl), by (simp -dsimp -implicitDefEqProofs (maxSteps := 2000000) (disch := first | assumption | omega | (simp only [nx]; omega) | ((repeat refine Fresh.push ?_ _); assumption) | (simp only [smA]; done) | (simp [oneCell, AW.next_push]; done) | fail) only [go_sem, Nat.reduceEqDiff, reduceIte, Nat.reduceAdd, Int.toNat_natCast, Nat.add_zero, Owes_true, e7]; try rfl), by (simp -dsimp -implicitDefEqProofs (maxSteps := 2000000) (disch := first | assumption | omega | (simp only [nx]; omega) | ((repeat refine Fresh.push ?_ _); assumption) | (simp only [smA]; done) | (simp [oneCell, AW.next_push]; done) | fail) only [go_sem, Nat.reduceEqDiff, reduceIte, Nat.reduceAdd, Int.toNat_natCast, Nat.add_zero, Owes_true, e8]; try rfl), by (simp -dsimp -implicitDefEqProofs (maxSteps := 2000000) (disch := first | assumption | omega | (simp only [nx]; omega) | ((repeat refine Fresh.push ?_ _); assumption) | (simp only [smA]; done) | (simp [oneCell, AW.next_push]; done) | fail) only [go_sem, Nat.reduceEqDiff, reduceIte, Nat.reduceAdd, Int.toNat_natCast, Nat.add_zero, Owes_true]; try rfl), by (simp -dsimp -implicitDefEqProofs (maxSteps := 2000000) (disch := first | assumption | omega | (simp only [nx]; omega) | ((repeat refine Fresh.push ?_ _); assumption) | (simp only [smA]; done) | (simp [oneCell, AW.next_push]; done) | fail) only [go_sem, Nat.reduceEqDiff, reduceIte, Nat.reduceAdd, Int.toNat_natCast, Nat.add_zero, Owes_true]; try rfl)⟩
  case restC =>
  clear e2 e3 e4 e7 e8 e15 e16
  rintro t ⟨e3, e4, e7, e8, e22, e23⟩
  unfold Try.s8_c198
  have gg7 := gg5.trans (g6.trans g7)
  have kk8 := gg7.1.trans (M1.keep (fun j hj => by have := hj.1; have := gg5.1.next; omega) gg7.1.next)
  have kk9 := kk8.trans (M2.keep (fun j hj => by have : w6.next ≤ j := hj; have := (gg5.trans g6).1.next; omega) kk8.next)
  have gg9 : Grown w w9 := ⟨kk9, M2.fresh⟩
  have O1f := M2.own (M1.own (O1e.keep (g6.trans g7).1) (fun h => by have := h.1; have := gg5.1.next; have := O1e.lt; omega)) (fun h => by have : w6.next ≤ w.next := h; have := g6.1.next; have := O1e.lt; omega)
  have O2f := M2.own (M1.own (O2e.keep (g6.trans g7).1) (fun h => by have := h.1; have := O2e.lt; omega)) (fun h => by have : w6.next ≤ w.next + 1 := h; have := g6.1.next; have := O2e.lt; omega)
  have f0 := O1f.cell (o := 0) rfl rfl
  have f1 := O1f.cell (o := 1) rfl rfl
  have f2 := O1f.cell (o := 2) rfl rfl
  have f3 := O1f.cell (o := 3) rfl rfl
  have j0 := O2f.cell (o := 0) rfl rfl
  have j1 := O2f.cell (o := 1) rfl rfl
  have A1 : RowA 0 w9 (.slice (some ⟨b1, 0, none⟩) P.length P.length) (P.set r (W P r + 1)) := by unfold RowA; rw [List.length_set]; exact AOwnS.own S1'
  have A2 : RowA 0 w9 (.slice (some ⟨b2, 0, none⟩) L.length L.length) (L.set r (W L r + 1)) := by unfold RowA; rw [List.length_set]; exact AOwnS.own S2
  have A1a := A1.arr (by rw [List.length_set]; have := hS.2.1; omega)
  have A2a := A2.arr (by rw [List.length_set]; have := hS.2.1; omega)
  simp -dsimp -implicitDefEqProofs (maxSteps := 2000000) (disch := first | assumption | omega | (simp only [nx]; omega) | ((repeat refine Fresh.push ?_ _); assumption) | (simp only [smA]; done) | (simp [oneCell, AW.next_push]; done) | fail) only [go_sem, Nat.reduceEqDiff, reduceIte, Nat.reduceAdd, Int.toNat_natCast, Nat.add_zero, Owes_true, Try.results8, e3, e4, e7, e8, e22, e23, f0, f1, f2, f3, j0, j1, Nat.zero_add]
  have m6 := hmiss (P.set r (W P r + 1)) L _ _ w9 gg9 A1a (hLa.grown gg9)
  apply callV_of (e := rfl)
  · exact m6
  rintro _ w10 ⟨rfl, g10⟩
  obtain ⟨v, u, hv, hu, bv, bu, hvu⟩ := miss_more hb hfP hfL hr
  rw [hv, hu]
  have gg10 := gg9.trans g10
  have O1g := O1f.keep g10.1
  have O2g := O2f.keep g10.1
  have f0 := O1g.cell (o := 0) rfl rfl
  have f1 := O1g.cell (o := 1) rfl rfl
  have f2 := O1g.cell (o := 2) rfl rfl
  have f3 := O1g.cell (o := 3) rfl rfl
  have j0 := O2g.cell (o := 0) rfl rfl
  have j1 := O2g.cell (o := 1) rfl rfl
  have p1 : (v : Int) * (allI A.st P : Int) = ((v * allI A.st P : Nat) : Int) := by push_cast; rfl
  have p2 : (missI A.st P L : Int) * (u : Int) = ((missI A.st P L * u : Nat) : Int) := by push_cast; rfl
  have pb1 : v * allI A.st P ≤ 24010000 * 24010000 := Nat.mul_le_mul bv hAb
  have pb2 : missI A.st P L * u ≤ 24010000 * 24010000 := Nat.mul_le_mul hMb bu
  have dgt : decide (((v * allI A.st P : Nat) : Int) > ((missI A.st P L * u : Nat) : Int)) = false := decide_eq_false (by omega)
  obtain ⟨be, hbe⟩ : ∃ be, decide (missE A (P.set r (W P r + 1)) L = 0) = be := ⟨_, rfl⟩
  have A2b := A2a.grown ⟨g10.1, g10.2⟩
  have m7 := hmiss P (L.set r (W L r + 1)) _ _ w10 gg10 (hPa.grown gg10) A2b
  obtain ⟨v2, u2, hv2, hu2, bv2, bu2, hvu2⟩ := miss_worse hb hfP hfL hr
  rw [hv2, hu2] at m7
  obtain ⟨bf, hbf, hbg⟩ : ∃ bf, decide (missE A P (L.set r (W L r + 1)) = 0) = bf ∧ (bf = true → decide ((u2 : Int) = (allI A.st P : Int)) = true ∧ decide ((v2 : Int) > (missI A.st P L : Int)) = false) := by
    refine ⟨_, rfl, fun h => ?_⟩
    obtain ⟨h1, h2⟩ := hvu2 (of_decide_eq_true h)
    exact ⟨decide_eq_true (by omega), decide_eq_false (by omega)⟩
  cases be
  all_goals
    simp -dsimp -implicitDefEqProofs (maxSteps := 2000000) (disch := first | assumption | omega | (simp only [nx]; omega) | ((repeat refine Fresh.push ?_ _); assumption) | (simp only [smA]; done) | (simp [oneCell, AW.next_push]; done) | fail) only [go_sem, Nat.reduceEqDiff, reduceIte, Nat.reduceAdd, Int.toNat_natCast, Nat.add_zero, Owes_true, Try.results8, e3, e4, e7, e8, e22, e23, f0, f1, f2, f3, j0, j1, Nat.zero_add, hbe, d00, p1, p2, dgt]
    apply callV_of (e := rfl)
    · exact m7
    rintro _ w11 ⟨rfl, g11⟩
    cases bf
  all_goals
    try have hbg := hbg rfl
    simp -dsimp -implicitDefEqProofs (maxSteps := 2000000) (disch := first | assumption | omega | (simp only [nx]; omega) | ((repeat refine Fresh.push ?_ _); assumption) | (simp only [smA]; done) | (simp [oneCell, AW.next_push]; done) | fail) only [go_sem, Nat.reduceEqDiff, reduceIte, Nat.reduceAdd, Int.toNat_natCast, Nat.add_zero, Owes_true, Try.results8, e3, e4, e7, e8, e22, e23, hbf, hbg, d00]
    apply callV_of (e := rfl)
    · exact callT_told (Q := fun v w' => v = .bool true ∧ w11 = w') (v := .bool true) (w' := w11) rfl ⟨rfl, rfl⟩
    rintro _ _ ⟨rfl, rfl⟩
    simp -dsimp -implicitDefEqProofs (maxSteps := 2000000) (disch := first | assumption | omega | (simp only [nx]; omega) | ((repeat refine Fresh.push ?_ _); assumption) | (simp only [smA]; done) | (simp [oneCell, AW.next_push]; done) | fail) only [go_sem, Nat.reduceEqDiff, reduceIte, Nat.reduceAdd, Int.toNat_natCast, Nat.add_zero, Owes_true, Try.results8]
end Go.Proofs

namespace Go.Proofs
open Go Go.RowKit Go.Sim Go.ChangeShapes Go.WideShapes Go.ChangeAt
set_option maxRecDepth 100000
theorem Try.own : ownKnob Try.prog.godebug = none := by kernel_rfl
theorem Try.laidOut : laidOutB Try.prog = true := by kernel_rfl
end Go.Proofs
