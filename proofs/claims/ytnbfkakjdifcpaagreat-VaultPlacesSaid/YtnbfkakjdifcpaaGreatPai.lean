/- This program: its code, contracts, numbers, part 9. -/
import Derived.Test.YtnbfkakjdifcpaaGreatPaf
import Derived.Test.YtnbfkakjdifcpaaGreatCz
import Derived.Test.YtnbfkakjdifcpaaGreatNc
import Derived.Test.YtnbfkakjdifcpaaGreatPah
import Derived.Test.YtnbfkakjdifcpaaGreatPaa
import Derived.Test.YtnbfkakjdifcpaaGreatNa
import Derived.Test.YtnbfkakjdifcpaaGreatProg
set_option linter.unusedVariables false
set_option linter.unusedSimpArgs false
namespace Go.Proofs
open Go Go.RowKit Go.Sim
set_option maxRecDepth 100000
noncomputable def Tryz.s11r13:Array Oper:=match Tryz.f11.body with
  | some c=>regionAt 13 c
  | none=>#[]
noncomputable def Tryz.s11r23:Array Oper:=match Tryz.f11.body with
  | some c=>regionAt 23 c
  | none=>#[]
noncomputable def Tryz.s11_c14 : SC :=
 (.seq
                      (.ops false [
                        ⟨⟨(some 14),.assign (.const (.int .i64 0)), 3, "",⟨[]⟩,none⟩,none,false⟩])
                      (.block 3
                       (.loop
                        (.seq
                         (.seq
                          (.ops false [
                            ⟨⟨(some 160),.move (.tmp 14), 3, "",⟨[]⟩,none⟩,none,false⟩,
                            ⟨⟨(some 161),.binOp .lss 3 (.tmp 160) (.const (.int .i64 32)) 3, 4, "",⟨[]⟩,none⟩,none,false⟩])
                          (.cond (.tmp 161)
                           .skip
                           (.exit 3)))
                         (.seq
                          (.block 4
                           (.seq
                            (.ops false [
                              ⟨⟨(some 165),.load 26 (.tmp 2),26, "",⟨[]⟩,none⟩,none,false⟩,
                              ⟨⟨(some 166),.move (.tmp 1),44, "",⟨[]⟩,none⟩,none,false⟩,
                              ⟨⟨(some 167),.move (.tmp 14), 3, "",⟨[]⟩,none⟩,none,false⟩,
                              ⟨⟨(some 168),.fieldAddr 62 (.tmp 10) 0, 0, "",⟨[]⟩,none⟩,none,false⟩,
                              ⟨⟨(some 169),.load 3 (.tmp 168), 3, "",⟨[]⟩,none⟩,none,false⟩,
                              ⟨⟨(some 170),.call ⟨.value (.func 33),⟨[(.tmp 165),(.tmp 166),(.tmp 167),(.tmp 169)]⟩,⟨[26,44,3,3]⟩⟩,28, "",⟨[]⟩,none⟩,none,false⟩,
                              ⟨⟨(some 164),.move (.tmp 170),28, "",⟨[]⟩,none⟩,none,false⟩,
                              ⟨⟨(some 171),.extract (.tmp 164) 0, 3, "",⟨[]⟩,none⟩,none,false⟩,
                              ⟨⟨(some 172),.extract (.tmp 164) 1,27, "",⟨[]⟩,none⟩,none,false⟩,
                              ⟨⟨(some 15),.assign (.tmp 171), 3, "",⟨[]⟩,none⟩,none,false⟩,
                              ⟨⟨(some 16),.assign (.tmp 172),27, "",⟨[]⟩,none⟩,none,false⟩])
                            (.seq
                             (.ops false [
                               ⟨⟨(some 173),.move (.tmp 16),27, "",⟨[]⟩,none⟩,none,false⟩,
                               ⟨⟨(some 174),.binOp .neq 27 (.tmp 173) (.const (.int .i64 0)) 27, 4, "",⟨[]⟩,none⟩,none,false⟩,
                               ⟨⟨(some 175),.move (.tmp 174), 4, "",⟨[]⟩,none⟩,none,false⟩,
                               ⟨⟨(some 176),.move (.tmp 15), 3, "",⟨[]⟩,none⟩,some ((some 175),false),false⟩,
                               ⟨⟨(some 177),.move (.tmp 8),24, "",⟨[]⟩,none⟩,some ((some 175),false),false⟩,
                               ⟨⟨(some 178),.move (.tmp 14), 3, "",⟨[]⟩,none⟩,some ((some 175),false),false⟩,
                               ⟨⟨(some 179),.indexAddr 24 (.tmp 177) (.tmp 178), 0, "",⟨[]⟩,none⟩,some ((some 175),false),false⟩,
                               ⟨⟨(some 180),.load 3 (.tmp 179), 3, "",⟨[]⟩,none⟩,some ((some 175),false),false⟩,
                               ⟨⟨(some 181),.binOp .neq 3 (.tmp 176) (.tmp 180) 3, 4, "",⟨[]⟩,none⟩,some ((some 175),false),false⟩,
                               ⟨⟨(some 182),.pick (.tmp 175) (.const (.bool true)) (.tmp 181), 4, "",⟨[]⟩,none⟩,none,false⟩])
                             (.cond (.tmp 182)
                              (.seq
                               (.ops false [
                                 ⟨⟨(some 4),.assign (.const (.bool false)), 4, "",⟨[]⟩,none⟩,none,false⟩])
                               .ret)
                              .skip))))
                          (.ops false [
                            ⟨⟨(some 162),.move (.tmp 14), 3, "",⟨[]⟩,none⟩,none,false⟩,
                            ⟨⟨(some 163),.binOp .add 3 (.tmp 162) (.const (.int .i64 1)) 3, 3, "",⟨[]⟩,none⟩,none,false⟩,
                            ⟨⟨(some 14),.assign (.tmp 163), 3, "",⟨[]⟩,none⟩,none,false⟩]))))))
noncomputable def Tryz.s11_c112:SC :=
 (.seq
                   (.seq
                    (.ops false [
                      ⟨⟨(some 112),.move (.tmp 12),27, "",⟨[]⟩,none⟩,none,false⟩,
                      ⟨⟨(some 113),.binOp .neq 27 (.tmp 112) (.const (.int .i64 0)) 27, 4, "",⟨[]⟩,none⟩,none,false⟩,
                      ⟨⟨(some 114),.move (.tmp 113), 4, "",⟨[]⟩,none⟩,none,false⟩,
                      ⟨⟨(some 115),.move (.tmp 13), 3, "",⟨[]⟩,none⟩,some ((some 114),false),false⟩,
                      ⟨⟨(some 116),.call ⟨.value (.func 39),⟨[(.const (.int .i64 0)),(.tmp 115),(.const (.int .i64 5))]⟩,⟨[3,3,3]⟩⟩, 4, "",⟨[]⟩,none⟩,some ((some 114),false),false⟩,
                      ⟨⟨(some 117),.unOp .not 4 (.tmp 116), 4, "",⟨[]⟩,none⟩,some ((some 114),false),false⟩,
                      ⟨⟨(some 118),.pick (.tmp 114) (.const (.bool true)) (.tmp 117), 4, "",⟨[]⟩,none⟩,none,false⟩,
                      ⟨⟨(some 119),.move (.tmp 118), 4, "",⟨[]⟩,none⟩,none,false⟩,
                      ⟨⟨(some 120),.move (.tmp 11), 3, "",⟨[]⟩,none⟩,some ((some 119),false),false⟩,
                      ⟨⟨(some 121),.move (.tmp 13), 3, "",⟨[]⟩,none⟩,some ((some 119),false),false⟩,
                      ⟨⟨(some 122),.call ⟨.value (.func 40),⟨[(.tmp 120),(.tmp 121)]⟩,⟨[3,3]⟩⟩, 4, "",⟨[]⟩,none⟩,some ((some 119),false),false⟩,
                      ⟨⟨(some 123),.unOp .not 4 (.tmp 122), 4, "",⟨[]⟩,none⟩,some ((some 119),false),false⟩,
                      ⟨⟨(some 124),.pick (.tmp 119) (.const (.bool true)) (.tmp 123), 4, "",⟨[]⟩,none⟩,none,false⟩,
                      ⟨⟨(some 125),.move (.tmp 124), 4, "",⟨[]⟩,none⟩,none,false⟩,
                      ⟨⟨(some 126),.move (.tmp 8),24, "",⟨[]⟩,none⟩,some ((some 125),false),false⟩,
                      ⟨⟨(some 127),.fieldAddr 62 (.tmp 10) 2, 0, "",⟨[]⟩,none⟩,some ((some 125),false),false⟩,
                      ⟨⟨(some 128),.load 3 (.tmp 127), 3, "",⟨[]⟩,none⟩,some ((some 125),false),false⟩,
                      ⟨⟨(some 129),.indexAddr 24 (.tmp 126) (.tmp 128), 0, "",⟨[]⟩,none⟩,some ((some 125),false),false⟩,
                      ⟨⟨(some 130),.load 3 (.tmp 129), 3, "",⟨[]⟩,none⟩,some ((some 125),false),false⟩,
                      ⟨⟨(some 131),.call ⟨.value (.func 39),⟨[(.const (.int .i64 0)),(.tmp 130),(.const (.int .i64 5))]⟩,⟨[3,3,3]⟩⟩, 4, "",⟨[]⟩,none⟩,some ((some 125),false),false⟩,
                      ⟨⟨(some 132),.unOp .not 4 (.tmp 131), 4, "",⟨[]⟩,none⟩,some ((some 125),false),false⟩,
                      ⟨⟨(some 133),.pick (.tmp 125) (.const (.bool true)) (.tmp 132), 4, "",⟨[]⟩,none⟩,none,false⟩,
                      ⟨⟨(some 134),.move (.tmp 133), 4, "",⟨[]⟩,none⟩,none,false⟩,
                      ⟨⟨(some 135),.move (.tmp 11), 3, "",⟨[]⟩,none⟩,some ((some 134),false),false⟩,
                      ⟨⟨(some 136),.move (.tmp 8),24, "",⟨[]⟩,none⟩,some ((some 134),false),false⟩,
                      ⟨⟨(some 137),.fieldAddr 62 (.tmp 10) 2, 0, "",⟨[]⟩,none⟩,some ((some 134),false),false⟩,
                      ⟨⟨(some 138),.load 3 (.tmp 137), 3, "",⟨[]⟩,none⟩,some ((some 134),false),false⟩,
                      ⟨⟨(some 139),.indexAddr 24 (.tmp 136) (.tmp 138), 0, "",⟨[]⟩,none⟩,some ((some 134),false),false⟩,
                      ⟨⟨(some 140),.load 3 (.tmp 139), 3, "",⟨[]⟩,none⟩,some ((some 134),false),false⟩,
                      ⟨⟨(some 141),.call ⟨.value (.func 40),⟨[(.tmp 135),(.tmp 140)]⟩,⟨[3,3]⟩⟩, 4, "",⟨[]⟩,none⟩,some ((some 134),false),false⟩,
                      ⟨⟨(some 142),.unOp .not 4 (.tmp 141), 4, "",⟨[]⟩,none⟩,some ((some 134),false),false⟩,
                      ⟨⟨(some 143),.pick (.tmp 134) (.const (.bool true)) (.tmp 142), 4, "",⟨[]⟩,none⟩,none,false⟩])
                    (.cond (.tmp 143)
                     (.seq
                      (.ops false [
                        ⟨⟨(some 4),.assign (.const (.bool false)), 4, "",⟨[]⟩,none⟩,none,false⟩])
                      .ret)
                     .skip))
                   (.seq
                    (.raw (.region 23 Tryz.s11r23 true))
                    (.cond (.tmp 159)
                     Tryz.s11_c14
                     .skip)))
noncomputable def Tryz.s11:SC :=
 (.seq
  (.ops false [
    ⟨⟨(some 2),.box 26 (.tmp 0), 0, "",⟨[]⟩,none⟩,none,false⟩,
    ⟨⟨(some 4),.assign (.const (.bool false)), 4, "",⟨[]⟩,none⟩,none,false⟩])
  (.seq
   (.ops false [
     ⟨⟨(some 18),.load 26 (.tmp 2),26, "",⟨[]⟩,none⟩,none,false⟩,
     ⟨⟨(some 19),.move (.tmp 1),44, "",⟨[]⟩,none⟩,none,false⟩,
     ⟨⟨(some 20),.call ⟨.value (.func 31),⟨[(.tmp 18),(.tmp 19)]⟩,⟨[26,44]⟩⟩,49, "",⟨[]⟩,none⟩,none,false⟩,
     ⟨⟨(some 17),.move (.tmp 20),49, "",⟨[]⟩,none⟩,none,false⟩,
     ⟨⟨(some 21),.extract (.tmp 17) 0,48, "",⟨[]⟩,none⟩,none,false⟩,
     ⟨⟨(some 22),.extract (.tmp 17) 1, 3, "",⟨[]⟩,none⟩,none,false⟩,
     ⟨⟨(some 23),.extract (.tmp 17) 2,27, "",⟨[]⟩,none⟩,none,false⟩,
     ⟨⟨(some 5),.alloc 48, 0, "",⟨[]⟩,none⟩,none,false⟩,
     ⟨⟨none,.store 48 (.tmp 5) (.tmp 21), 0, "",⟨[]⟩,none⟩,none,false⟩,
     ⟨⟨(some 6),.assign (.tmp 22), 3, "",⟨[]⟩,none⟩,none,false⟩,
     ⟨⟨(some 7),.assign (.tmp 23),27, "",⟨[]⟩,none⟩,none,false⟩])
   (.seq
    (.seq
     (.ops false [
       ⟨⟨(some 24),.move (.tmp 7),27, "",⟨[]⟩,none⟩,none,false⟩,
       ⟨⟨(some 25),.binOp .neq 27 (.tmp 24) (.const (.int .i64 0)) 27, 4, "",⟨[]⟩,none⟩,none,false⟩])
     (.cond (.tmp 25)
      (.seq
       (.ops false [
         ⟨⟨(some 26),.load 48 (.tmp 5),48, "",⟨[]⟩,none⟩,none,false⟩,
         ⟨⟨(some 27),.build 48 ⟨[]⟩,48, "",⟨[]⟩,none⟩,none,false⟩,
         ⟨⟨(some 28),.binOp .eql 48 (.tmp 26) (.tmp 27) 48, 4, "",⟨[]⟩,none⟩,none,false⟩,
         ⟨⟨(some 29),.move (.tmp 28), 4, "",⟨[]⟩,none⟩,none,false⟩,
         ⟨⟨(some 30),.move (.tmp 6), 3, "",⟨[]⟩,none⟩,some ((some 29),true),false⟩,
         ⟨⟨(some 31),.move (.tmp 1),44, "",⟨[]⟩,none⟩,some ((some 29),true),false⟩,
         ⟨⟨(some 32),.call ⟨.builtin .len,⟨[(.tmp 31)]⟩,⟨[44]⟩⟩, 3, "",⟨[]⟩,none⟩,some ((some 29),true),false⟩,
         ⟨⟨(some 33),.binOp .sub 3 (.tmp 32) (.const (.int .i64 1)) 3, 3, "",⟨[]⟩,none⟩,some ((some 29),true),false⟩,
         ⟨⟨(some 34),.call ⟨.builtin .max,⟨[(.const (.int .i64 0)),(.tmp 33)]⟩,⟨[3,3]⟩⟩, 3, "",⟨[]⟩,none⟩,some ((some 29),true),false⟩,
         ⟨⟨(some 35),.call ⟨.value (.func 39),⟨[(.const (.int .i64 0)),(.tmp 30),(.tmp 34)]⟩,⟨[3,3,3]⟩⟩, 4, "",⟨[]⟩,none⟩,some ((some 29),true),false⟩,
         ⟨⟨(some 36),.pick (.tmp 29) (.tmp 35) (.const (.bool false)), 4, "",⟨[]⟩,none⟩,none,false⟩,
         ⟨⟨(some 37),.move (.tmp 36), 4, "",⟨[]⟩,none⟩,none,false⟩,
         ⟨⟨(some 38),.call ⟨.value (.func 21),⟨[]⟩,⟨[]⟩⟩, 4, "",⟨[]⟩,none⟩,some ((some 37),true),false⟩,
         ⟨⟨(some 39),.pick (.tmp 37) (.tmp 38) (.const (.bool false)), 4, "",⟨[]⟩,none⟩,none,false⟩,
         ⟨⟨(some 4),.assign (.tmp 39), 4, "",⟨[]⟩,none⟩,none,false⟩])
       .ret)
      .skip))
    (.seq
     (.seq
      (.ops false [
        ⟨⟨(some 40),.move (.tmp 6), 3, "",⟨[]⟩,none⟩,none,false⟩,
        ⟨⟨(some 41),.move (.tmp 1),44, "",⟨[]⟩,none⟩,none,false⟩,
        ⟨⟨(some 42),.call ⟨.builtin .len,⟨[(.tmp 41)]⟩,⟨[44]⟩⟩, 3, "",⟨[]⟩,none⟩,none,false⟩,
        ⟨⟨(some 43),.binOp .neq 3 (.tmp 40) (.tmp 42) 3, 4, "",⟨[]⟩,none⟩,none,false⟩])
      (.cond (.tmp 43)
       (.seq
        (.ops false [
          ⟨⟨(some 4),.assign (.const (.bool false)), 4, "",⟨[]⟩,none⟩,none,false⟩])
        .ret)
       .skip))
     (.seq
      (.ops false [
        ⟨⟨(some 44),.makeSlice 24 (.const (.int .i64 32)) (.const (.int .i64 32)),24, "",⟨[]⟩,none⟩,none,false⟩,
        ⟨⟨(some 8),.assign (.tmp 44),24, "",⟨[]⟩,none⟩,none,false⟩])
      (.seq
       (.seq
        (.ops false [
          ⟨⟨(some 9),.assign (.const (.int .i64 0)), 3, "",⟨[]⟩,none⟩,none,false⟩])
        (.block 0
         (.loop
          (.seq
           (.seq
            (.ops false [
              ⟨⟨(some 45),.move (.tmp 9), 3, "",⟨[]⟩,none⟩,none,false⟩,
              ⟨⟨(some 46),.move (.tmp 1),44, "",⟨[]⟩,none⟩,none,false⟩,
              ⟨⟨(some 47),.call ⟨.builtin .len,⟨[(.tmp 46)]⟩,⟨[44]⟩⟩, 3, "",⟨[]⟩,none⟩,none,false⟩,
              ⟨⟨(some 48),.binOp .lss 3 (.tmp 45) (.tmp 47) 3, 4, "",⟨[]⟩,none⟩,none,false⟩])
            (.cond (.tmp 48)
             .skip
             (.exit 0)))
           (.seq
            (.block 1
             (.seq
              (.ops false [
                ⟨⟨(some 51),.move (.tmp 1),44, "",⟨[]⟩,none⟩,none,false⟩,
                ⟨⟨(some 52),.move (.tmp 9), 3, "",⟨[]⟩,none⟩,none,false⟩,
                ⟨⟨(some 53),.indexAddr 44 (.tmp 51) (.tmp 52), 0, "",⟨[]⟩,none⟩,none,false⟩,
                ⟨⟨(some 54),.load 62 (.tmp 53),62, "",⟨[]⟩,none⟩,none,false⟩,
                ⟨⟨(some 10),.alloc 62, 0, "",⟨[]⟩,none⟩,none,false⟩,
                ⟨⟨none,.store 62 (.tmp 10) (.tmp 54), 0, "",⟨[]⟩,none⟩,none,false⟩])
              (.seq
               (.seq
                (.ops false [
                  ⟨⟨(some 55),.fieldAddr 62 (.tmp 10) 2, 0, "",⟨[]⟩,none⟩,none,false⟩,
                  ⟨⟨(some 56),.load 3 (.tmp 55), 3, "",⟨[]⟩,none⟩,none,false⟩,
                  ⟨⟨(some 57),.call ⟨.value (.func 39),⟨[(.const (.int .i64 0)),(.tmp 56),(.const (.int .i64 31))]⟩,⟨[3,3,3]⟩⟩, 4, "",⟨[]⟩,none⟩,none,false⟩,
                  ⟨⟨(some 58),.unOp .not 4 (.tmp 57), 4, "",⟨[]⟩,none⟩,none,false⟩,
                  ⟨⟨(some 59),.move (.tmp 58), 4, "",⟨[]⟩,none⟩,none,false⟩,
                  ⟨⟨(some 60),.fieldAddr 62 (.tmp 10) 4, 0, "",⟨[]⟩,none⟩,some ((some 59),false),false⟩,
                  ⟨⟨(some 61),.load 3 (.tmp 60), 3, "",⟨[]⟩,none⟩,some ((some 59),false),false⟩,
                  ⟨⟨(some 62),.fieldAddr 62 (.tmp 10) 5, 0, "",⟨[]⟩,none⟩,some ((some 59),false),false⟩,
                  ⟨⟨(some 63),.load 3 (.tmp 62), 3, "",⟨[]⟩,none⟩,some ((some 59),false),false⟩,
                  ⟨⟨(some 64),.binOp .eql 3 (.tmp 61) (.tmp 63) 3, 4, "",⟨[]⟩,none⟩,some ((some 59),false),false⟩,
                  ⟨⟨(some 65),.pick (.tmp 59) (.const (.bool true)) (.tmp 64), 4, "",⟨[]⟩,none⟩,none,false⟩,
                  ⟨⟨(some 66),.move (.tmp 65), 4, "",⟨[]⟩,none⟩,none,false⟩,
                  ⟨⟨(some 67),.fieldAddr 62 (.tmp 10) 4, 0, "",⟨[]⟩,none⟩,some ((some 66),false),false⟩,
                  ⟨⟨(some 68),.load 3 (.tmp 67), 3, "",⟨[]⟩,none⟩,some ((some 66),false),false⟩,
                  ⟨⟨(some 69),.call ⟨.value (.func 39),⟨[(.const (.int .i64 0)),(.tmp 68),(.const (.int .i64 5))]⟩,⟨[3,3,3]⟩⟩, 4, "",⟨[]⟩,none⟩,some ((some 66),false),false⟩,
                  ⟨⟨(some 70),.unOp .not 4 (.tmp 69), 4, "",⟨[]⟩,none⟩,some ((some 66),false),false⟩,
                  ⟨⟨(some 71),.pick (.tmp 66) (.const (.bool true)) (.tmp 70), 4, "",⟨[]⟩,none⟩,none,false⟩,
                  ⟨⟨(some 72),.move (.tmp 71), 4, "",⟨[]⟩,none⟩,none,false⟩,
                  ⟨⟨(some 73),.fieldAddr 62 (.tmp 10) 5, 0, "",⟨[]⟩,none⟩,some ((some 72),false),false⟩,
                  ⟨⟨(some 74),.load 3 (.tmp 73), 3, "",⟨[]⟩,none⟩,some ((some 72),false),false⟩,
                  ⟨⟨(some 75),.call ⟨.value (.func 39),⟨[(.const (.int .i64 0)),(.tmp 74),(.const (.int .i64 5))]⟩,⟨[3,3,3]⟩⟩, 4, "",⟨[]⟩,none⟩,some ((some 72),false),false⟩,
                  ⟨⟨(some 76),.unOp .not 4 (.tmp 75), 4, "",⟨[]⟩,none⟩,some ((some 72),false),false⟩,
                  ⟨⟨(some 77),.pick (.tmp 72) (.const (.bool true)) (.tmp 76), 4, "",⟨[]⟩,none⟩,none,false⟩])
                (.cond (.tmp 77)
                 (.seq
                  (.ops false [
                    ⟨⟨(some 4),.assign (.const (.bool false)), 4, "",⟨[]⟩,none⟩,none,false⟩])
                  .ret)
                 .skip))
               (.seq
                (.raw (.region 13 Tryz.s11r13 true))
                (.seq
                 (.ops false [
                   ⟨⟨(some 90),.move (.tmp 8),24, "",⟨[]⟩,none⟩,none,false⟩,
                   ⟨⟨(some 91),.fieldAddr 62 (.tmp 10) 2, 0, "",⟨[]⟩,none⟩,none,false⟩,
                   ⟨⟨(some 92),.load 3 (.tmp 91), 3, "",⟨[]⟩,none⟩,none,false⟩,
                   ⟨⟨(some 93),.indexAddr 24 (.tmp 90) (.tmp 92), 0, "",⟨[]⟩,none⟩,none,false⟩,
                   ⟨⟨(some 94),.load 3 (.tmp 93), 3, "",⟨[]⟩,none⟩,none,false⟩,
                   ⟨⟨(some 13),.assign (.tmp 94), 3, "",⟨[]⟩,none⟩,none,false⟩])
                 (.seq
                  (.seq
                   (.ops false [
                     ⟨⟨(some 95),.fieldAddr 62 (.tmp 10) 1, 0, "",⟨[]⟩,none⟩,none,false⟩,
                     ⟨⟨(some 96),.load 3 (.tmp 95), 3, "",⟨[]⟩,none⟩,none,false⟩])
                   (.block 2
                    (.seq
                     (.seq
                      (.ops false [
                        ⟨⟨(some 98),.binOp .eql 3 (.tmp 96) (.const (.int .i64 1)) 3, 4, "",⟨[]⟩,none⟩,none,false⟩,
                        ⟨⟨(some 97),.assign (.tmp 98), 4, "",⟨[]⟩,none⟩,none,false⟩])
                      (.cond (.tmp 97)
                       .skip
                       (.ops false [
                         ⟨⟨(some 99),.binOp .eql 3 (.tmp 96) (.const (.int .i64 2)) 3, 4, "",⟨[]⟩,none⟩,none,false⟩,
                         ⟨⟨(some 97),.assign (.tmp 99), 4, "",⟨[]⟩,none⟩,none,false⟩])))
                     (.cond (.tmp 97)
                      (.ops false [
                        ⟨⟨(some 100),.move (.tmp 8),24, "",⟨[]⟩,none⟩,none,false⟩,
                        ⟨⟨(some 101),.fieldAddr 62 (.tmp 10) 2, 0, "",⟨[]⟩,none⟩,none,false⟩,
                        ⟨⟨(some 102),.load 3 (.tmp 101), 3, "",⟨[]⟩,none⟩,none,false⟩,
                        ⟨⟨(some 103),.fieldAddr 62 (.tmp 10) 3, 0, "",⟨[]⟩,none⟩,none,false⟩,
                        ⟨⟨(some 104),.load 3 (.tmp 103), 3, "",⟨[]⟩,none⟩,none,false⟩,
                        ⟨⟨(some 105),.indexAddr 24 (.tmp 100) (.tmp 102), 0, "",⟨[]⟩,none⟩,none,false⟩,
                        ⟨⟨none,.store 3 (.tmp 105) (.tmp 104), 0, "",⟨[]⟩,none⟩,none,false⟩])
                      (.seq
                       (.ops false [
                         ⟨⟨(some 107),.binOp .eql 3 (.tmp 96) (.const (.int .i64 5)) 3, 4, "",⟨[]⟩,none⟩,none,false⟩,
                         ⟨⟨(some 106),.assign (.tmp 107), 4, "",⟨[]⟩,none⟩,none,false⟩])
                       (.cond (.tmp 106)
                        (.ops false [
                          ⟨⟨(some 108),.move (.tmp 8),24, "",⟨[]⟩,none⟩,none,false⟩,
                          ⟨⟨(some 109),.fieldAddr 62 (.tmp 10) 2, 0, "",⟨[]⟩,none⟩,none,false⟩,
                          ⟨⟨(some 110),.load 3 (.tmp 109), 3, "",⟨[]⟩,none⟩,none,false⟩,
                          ⟨⟨(some 111),.indexAddr 24 (.tmp 108) (.tmp 110), 0, "",⟨[]⟩,none⟩,none,false⟩,
                          ⟨⟨none,.store 3 (.tmp 111) (.const (.int .i64 0)), 0, "",⟨[]⟩,none⟩,none,false⟩])
                        .skip))))))
                  Tryz.s11_c112))))))
            (.ops false [
              ⟨⟨(some 49),.move (.tmp 9), 3, "",⟨[]⟩,none⟩,none,false⟩,
              ⟨⟨(some 50),.binOp .add 3 (.tmp 49) (.const (.int .i64 1)) 3, 3, "",⟨[]⟩,none⟩,none,false⟩,
              ⟨⟨(some 9),.assign (.tmp 50), 3, "",⟨[]⟩,none⟩,none,false⟩]))))))
       (.seq
        (.ops false [
          ⟨⟨(some 183),.load 26 (.tmp 2),26, "",⟨[]⟩,none⟩,none,false⟩,
          ⟨⟨(some 184),.load 48 (.tmp 5),48, "",⟨[]⟩,none⟩,none,false⟩,
          ⟨⟨(some 185),.move (.tmp 8),24, "",⟨[]⟩,none⟩,none,false⟩,
          ⟨⟨(some 186),.call ⟨.value (.func 43),⟨[(.tmp 183),(.tmp 184),(.tmp 185)]⟩,⟨[26,48,24]⟩⟩, 4, "",⟨[]⟩,none⟩,none,false⟩,
          ⟨⟨(some 187),.move (.tmp 186), 4, "",⟨[]⟩,none⟩,none,false⟩,
          ⟨⟨(some 188),.call ⟨.value (.func 21),⟨[]⟩,⟨[]⟩⟩, 4, "",⟨[]⟩,none⟩,some ((some 187),true),false⟩,
          ⟨⟨(some 189),.pick (.tmp 187) (.tmp 188) (.const (.bool false)), 4, "",⟨[]⟩,none⟩,none,false⟩,
          ⟨⟨(some 4),.assign (.tmp 189), 4, "",⟨[]⟩,none⟩,none,false⟩])
        .ret)))))))
def Tryz.x11r13:List XOp:=[
  ⟨⟨⟨(some 79),.load 26 (.tmp 2),26, "",⟨[]⟩,none⟩,none,false⟩,0,0,false,some (26,(.tmp 2))⟩,
  ⟨⟨⟨(some 80),.fieldAddr 62 (.tmp 10) 4, 0, "",⟨[]⟩,none⟩,none,false⟩,1,0,false,none⟩,
  ⟨⟨⟨(some 81),.load 3 (.tmp 80), 3, "",⟨[]⟩,none⟩,none,false⟩,2,0,false,some (3,(.tmp 80))⟩,
  ⟨⟨⟨(some 82),.binOp .shl 3 (.const (.int .i64 1)) (.tmp 81) 3, 3, "",⟨[]⟩,none⟩,none,false⟩,3,0,false,none⟩,
  ⟨⟨⟨(some 83),.fieldAddr 62 (.tmp 10) 5, 0, "",⟨[]⟩,none⟩,none,false⟩,4,0,false,none⟩,
  ⟨⟨⟨(some 84),.load 3 (.tmp 83), 3, "",⟨[]⟩,none⟩,none,false⟩,5,0,false,some (3,(.tmp 83))⟩,
  ⟨⟨⟨(some 85),.binOp .shl 3 (.const (.int .i64 1)) (.tmp 84) 3, 3, "",⟨[]⟩,none⟩,none,false⟩,6,0,false,none⟩,
  ⟨⟨⟨(some 86),.binOp .or 3 (.tmp 82) (.tmp 85) 3, 3, "",⟨[]⟩,none⟩,none,false⟩,7,0,false,none⟩,
  ⟨⟨⟨(some 87),.call ⟨.value (.func 15),⟨[(.tmp 79),(.tmp 86)]⟩,⟨[26,3]⟩⟩,28, "",⟨[]⟩,none⟩,none,false⟩,8,255,true,none⟩,
  ⟨⟨⟨(some 78),.move (.tmp 87),28, "",⟨[]⟩,none⟩,none,false⟩,9,0,false,none⟩,
  ⟨⟨⟨(some 88),.extract (.tmp 78) 0, 3, "",⟨[]⟩,none⟩,none,false⟩,10,0,false,none⟩,
  ⟨⟨⟨(some 89),.extract (.tmp 78) 1,27, "",⟨[]⟩,none⟩,none,false⟩,11,0,false,none⟩,
  ⟨⟨⟨(some 11),.assign (.tmp 88), 3, "",⟨[]⟩,none⟩,none,false⟩,12,0,false,none⟩,
  ⟨⟨⟨(some 12),.assign (.tmp 89),27, "",⟨[]⟩,none⟩,none,false⟩,13,0,false,none⟩]
def Tryz.x11r23:List XOp:=[
  ⟨⟨⟨(some 144),.move (.tmp 9), 3, "",⟨[]⟩,none⟩,none,false⟩,0,0,false,none⟩,
  ⟨⟨⟨(some 145),.binOp .add 3 (.tmp 144) (.const (.int .i64 1)) 3, 3, "",⟨[]⟩,none⟩,none,false⟩,1,0,false,none⟩,
  ⟨⟨⟨(some 146),.move (.tmp 1),44, "",⟨[]⟩,none⟩,none,false⟩,2,0,false,none⟩,
  ⟨⟨⟨(some 147),.call ⟨.builtin .len,⟨[(.tmp 146)]⟩,⟨[44]⟩⟩, 3, "",⟨[]⟩,none⟩,none,false⟩,3,1,false,none⟩,
  ⟨⟨⟨(some 148),.binOp .eql 3 (.tmp 145) (.tmp 147) 3, 4, "",⟨[]⟩,none⟩,none,false⟩,4,0,false,none⟩,
  ⟨⟨⟨(some 149),.move (.tmp 148), 4, "",⟨[]⟩,none⟩,none,false⟩,5,0,false,none⟩,
  ⟨⟨⟨(some 150),.move (.tmp 1),44, "",⟨[]⟩,none⟩,some ((some 149),false),false⟩,6,0,false,none⟩,
  ⟨⟨⟨(some 151),.move (.tmp 9), 3, "",⟨[]⟩,none⟩,some ((some 149),false),false⟩,7,0,false,none⟩,
  ⟨⟨⟨(some 152),.binOp .add 3 (.tmp 151) (.const (.int .i64 1)) 3, 3, "",⟨[]⟩,none⟩,some ((some 149),false),false⟩,8,0,false,none⟩,
  ⟨⟨⟨(some 153),.indexAddr 44 (.tmp 150) (.tmp 152), 0, "",⟨[]⟩,none⟩,some ((some 149),false),false⟩,9,0,false,none⟩,
  ⟨⟨⟨(some 154),.fieldAddr 62 (.tmp 153) 0, 0, "",⟨[]⟩,none⟩,some ((some 149),false),false⟩,10,0,false,none⟩,
  ⟨⟨⟨(some 155),.load 3 (.tmp 154), 3, "",⟨[]⟩,none⟩,some ((some 149),false),false⟩,11,0,false,some (3,(.tmp 154))⟩,
  ⟨⟨⟨(some 156),.fieldAddr 62 (.tmp 10) 0, 0, "",⟨[]⟩,none⟩,some ((some 149),false),false⟩,12,0,false,none⟩,
  ⟨⟨⟨(some 157),.load 3 (.tmp 156), 3, "",⟨[]⟩,none⟩,some ((some 149),false),false⟩,13,0,false,some (3,(.tmp 156))⟩,
  ⟨⟨⟨(some 158),.binOp .gtr 3 (.tmp 155) (.tmp 157) 3, 4, "",⟨[]⟩,none⟩,some ((some 149),false),false⟩,14,0,false,none⟩,
  ⟨⟨⟨(some 159),.pick (.tmp 149) (.const (.bool true)) (.tmp 158), 4, "",⟨[]⟩,none⟩,none,false⟩,15,0,false,none⟩]
theorem Tryz.s11_eq:Tryz.f11.body.map (sOfX [13,23])=some Tryz.s11:=by kernel_rfl
theorem Tryz.x11r13_eq:xRegion Tryz.s11r13=some Tryz.x11r13:=by kernel_rfl
theorem Tryz.x11r13_kinds:xkinds Tryz.x11r13=true:=by kernel_rfl
theorem Tryz.x11r23_eq:xRegion Tryz.s11r23=some Tryz.x11r23:=by kernel_rfl
theorem Tryz.x11r23_kinds:xkinds Tryz.x11r23=true:=by kernel_rfl
end Go.Proofs

namespace Go.Sim
open Go Go.RowKit
def RestW (P:Program) (told:ToldF) (F:Tmps→AW→Prop) (env:Env) (c:SC) (ds:List DI) (Q:Post):Prop:=∀ t w,F t w→CodeR P told env c t ds w Q .mk
theorem joinW {P:Program} {told:ToldF} {G:Prop} {F:Tmps→AW→Prop} {env:Env} {c:SC} {ds:List DI} {Q:Post} (mainC:RestW P told F env c ds Q→G) (restC:RestW P told F env c ds Q):G:=mainC restC
theorem joinW_use {P:Program} {told:ToldF} {F:Tmps→AW→Prop} {env:Env} {c:SC} {t:Tmps} {ds:List DI} {w:AW} {Q:Post} {x:Tok (c,t,ds,w,Q)} (h:RestW P told F env c ds Q) (k:F t w):CodeR P told env c t ds w Q x:=h t w k
end Go.Sim

namespace Go.Proofs
open Go Go.RowKit Go.Sim
set_option maxRecDepth 100000
theorem shelf48_inP (n:Nat) (xs ys:List BagN) (hx:xs.length=32) (hy:ys.length=32):prun Tryz.prog (Op.equalIn (n+3) 48 (.agg (xs.flatMap bagC).toArray) (.agg (ys.flatMap bagC).toArray))=some (decide (xs=ys)):=by
  rw [← shelf_in n xs ys hx hy]
  rw [Op.equalIn,Op.equalIn]
  rw [prun_bindS _ _ (prun_underlying (show Tryz.prog.underlying 107=some (.array 32 47) from by kernel_rfl)),prun_bindS _ _ (prun_underlying (show Tryz.prog.underlying 48=some (.array 32 47) from by kernel_rfl))]
theorem guard48P (A B:Array Value):prun Tryz.prog (eqGuard .eql 48 (.const undef) (.const undef) (.agg A) (.agg B))=some ():=by kernel_rfl
theorem shelf48_eqlP (xs ys:List BagN) (hx:xs.length=32) (hy:ys.length=32):eqQ Tryz.prog .eql 48 (.agg (xs.flatMap bagC).toArray) (.agg (ys.flatMap bagC).toArray)=some (.bool (decide (xs=ys))):=by
  exact eqQ_eql (guard48P _ _) (by rw [flat_one _ (bags_ints xs),flat_one _ (bags_ints ys)];rfl) (shelf48_inP 9997 xs ys hx hy)
theorem Tryz.bd48z (t:Tmps) (w:AW):fast (prg Tryz.prog) t w (.build 48 ⟨[]⟩)=some (.agg (shelf0.flatMap bagC).toArray):=by
  simp only [fast,Tryz.ty48z,Tryz.ty47,List.map_toArray,List.map_nil]
  rfl
attribute [go_sem] Tryz.ty48 Tryz.ty107 Tryz.ty111
attribute [-go_sem] Tryz.ty48 Tryz.ty107 Tryz.ty111
attribute [go_sem] Tryz.bd48z
set_option maxHeartbeats 64000000 in
theorem places_law (w:AW) (xs:List Value) (f:Fresh w) (h:HdAll Tryz.prog w [26,44] xs):CallT Tryz.prog Tryz.T1 (.fn (.func 11) #[]) xs.toArray w fun v _=>v=.bool true:=by
  cases h with
  | cons n1 h1 h =>
  cases h with
  | cons n2 h2 h =>
  cases h
  rename_i v1 v2
  obtain ⟨s,pR,pG,pS,cR,cG,cS,rfl,hA⟩:=given_strong h1
  obtain ⟨pL,cL,L,rfl,hL,hPr⟩:=given_cars h2
  clear h1 h2
  show CallT Tryz.prog Tryz.T1 (.fn (.func 11) #[]) #[.agg (strC pR pG pS cR cG cS s).toArray,.slice pL L.length cL] w _
  have hcap:L.length≤cL∧(cL:Int)≤140737488355328:=by
    obtain ⟨_,_,e,h1,h2,_⟩:=hL.open
    injection e with e1 e2 e3
    subst e3
    exact ⟨h1,h2⟩
  have g1:=(Grown.refl f).push (.cells (strC pR pG pS cR cG cS s) 26 w.next 0 0)
  have O1:=Own.new f 26 (strC pR pG pS cR cG cS s)
  have hn1:(w.push (.cells (strC pR pG pS cR cG cS s) 26 w.next 0 0)).next=w.next+1:=AW.next_push _ _
  obtain ⟨w1,hw1⟩:∃ w1,w.push (.cells (strC pR pG pS cR cG cS s) 26 w.next 0 0)=w1:=⟨_,rfl⟩
  rw [hw1] at g1 O1 hn1
  have hls:=fun w' (O:Own w' w.next 26 (strC pR pG pS cR cG cS s))=>loadAll O (n:=3) rfl (by simp [strC,oneCell])
  have hl1:=hls w1 O1
  have h0l:(shelf0.flatMap bagC).length=160:=by rw [flat_len bagC_len];rfl
  have hone:∀ L:List BagN,(L.flatMap bagC).all oneCell=true:=fun L=>List.all_eq_true.2 (bags_one L)
  have hP0:=Play_ok s pR pG pS cR cG cS pL cL L w1 g1.2 (hA.grown g1) (hL.grown g1)
  have hss:=same_str pR pG pS s.rooms.length s.gates.length s.staff.length cR cG cS
  unfold strC at *
  refine callT_codeX [13,23] rfl Tryz.func11 rfl Tryz.s11_eq rfl ?_
  unfold Tryz.s11
  simp -dsimp -implicitDefEqProofs (maxSteps:=2000000) (disch:=first|assumption|omega|(simp only [nx];omega)|((repeat refine Fresh.push ?_ _);assumption)|(simp only [smA];done)|(simp [oneCell,AW.next_push];done)|fail) only [go_sem,Nat.reduceEqDiff,reduceIte,Nat.reduceAdd,Tryz.results11,hw1,hl1]
  try rw [hw1]
  apply callV_of (e:=rfl)
  · exact hP0
  rintro _ w2 ⟨rfl,g2⟩
  have gg2:=g1.trans g2
  have O12:=O1.keep g2.1
  have f2:=gg2.2
  have hbl0:((playI s L).1.flatMap bagC).length=160:=by
    rw [flat_len bagC_len]
    unfold playI
    split
    · rename_i q
      rw [(run_log q).2.2]
      have:=(logOf_ok L x0 x0_ok).bags
      show (logOf L).bags.length * 5=160
      unfold logOf;rw [this]
    · rfl
  have O3:=Own.new f2 48 (shelf0.flatMap bagC)
  have g3:=gg2.push (.cells (shelf0.flatMap bagC) 48 w2.next 0 0)
  have O13:=O12.push (.cells (shelf0.flatMap bagC) 48 w2.next 0 0)
  have hn3:(w2.push (.cells (shelf0.flatMap bagC) 48 w2.next 0 0)).next=w2.next+1:=AW.next_push _ _
  obtain ⟨w3,hw3⟩:∃ w3,w2.push (.cells (shelf0.flatMap bagC) 48 w2.next 0 0)=w3:=⟨_,rfl⟩
  rw [hw3] at O3 g3 O13 hn3
  have hge1:=g1.1.next
  have hge2:=gg2.1.next
  have hO1l:=O12.lt
  obtain ⟨w4,st4,O4,m4,hn4⟩:=store_new (n:=160) g3.2 O3 h0l hbl0 (by omega) (hone _)
  have O14:=m4.own O13 (fun q=>by omega)
  have g4:Grown w w4:=⟨g3.1.trans (m4.keep (fun j q=>by have:j=w2.next:=q;omega) g3.1.next),m4.fresh⟩
  have hl4:=hls w4 O14
  by_cases he:(playI s L).2.2=0
  case neg =>
    have he':¬ ((playI s L).2.2:Int)=0:=by omega
    have her:¬ (runI s L).2.1=0:=by
      intro q;apply he;unfold playI;rw [if_pos q]
    have hpl:playI s L=(shelf0,(runI s L).1,(runI s L).2.1):=by unfold playI;rw [if_neg her]
    have hre:=run_err her
    have heq:=shelf48_eqlP shelf0 shelf0 rfl rfl
    rw [decide_eq_true rfl] at heq
    rw [hpl] at O4 st4 he' ⊢
    have hl5:=loadAll O4 h0l (bags_one _)
    generalize (runI s L).2.1=E at *
    generalize (runI s L).1=A at *
    simp -dsimp -implicitDefEqProofs (maxSteps:=2000000) (disch:=first|assumption|omega|(simp only [nx];omega)|((repeat refine Fresh.push ?_ _);assumption)|(simp only [smA];done)|(simp [oneCell,AW.next_push];done)|fail) only [go_sem,Nat.reduceEqDiff,reduceIte,Nat.reduceAdd,Tryz.results11,hw3,st4,he',hl5,heq,binQ_aggsV]
    try rw [hw3]
    apply callV_of (e:=rfl)
    · exact From_ok 0 (A:Int) _ w4
    rintro _ _ ⟨rfl,rfl⟩
    rw [hre]
    simp -dsimp -implicitDefEqProofs (maxSteps:=2000000) (disch:=first|assumption|omega|(simp only [nx];omega)|((repeat refine Fresh.push ?_ _);assumption)|(simp only [smA];done)|(simp [oneCell,AW.next_push];done)|fail) only [go_sem,Nat.reduceEqDiff,reduceIte,Nat.reduceAdd,Tryz.results11]
    apply callV_of (e:=rfl)
    · exact callT_told (Q:=fun v w'=>v=.bool true∧w4=w') (v:=.bool true) (w':=w4) rfl ⟨rfl,rfl⟩
    rintro _ _ ⟨rfl,rfl⟩
    simp -dsimp -implicitDefEqProofs (maxSteps:=2000000) (disch:=first|assumption|omega|(simp only [nx];omega)|((repeat refine Fresh.push ?_ _);assumption)|(simp only [smA];done)|(simp [oneCell,AW.next_push];done)|fail) only [go_sem,Nat.reduceEqDiff,reduceIte,Nat.reduceAdd,Tryz.results11]
  have he':((playI s L).2.2:Int)=0:=by omega
  have her:(runI s L).2.1=0:=by
    unfold playI at he
    split at he
    · assumption
    · exact he
  obtain ⟨hs,ha,hru⟩:=run_log her
  have hpl:playI s L=((logOf L).bags,L.length,0):=by unfold playI;rw [if_pos her,hru]
  rw [hpl] at O4 st4 he' hbl0 ⊢
  have f4:=g4.2
  have hrl:=(str_rooms hs).2
  have hms:=Tryz.ms24b
  have g5:=g4.push (.cells ((roomsI x0).flatMap icells) 3 w4.next 0 0)
  have O5:=Own.new f4 3 ((roomsI x0).flatMap icells)
  have O15:=O14.push (.cells ((roomsI x0).flatMap icells) 3 w4.next 0 0)
  have O45:=O4.push (.cells ((roomsI x0).flatMap icells) 3 w4.next 0 0)
  have hn5:(w4.push (.cells ((roomsI x0).flatMap icells) 3 w4.next 0 0)).next=w4.next+1:=AW.next_push _ _
  obtain ⟨w5,hw5⟩:∃ w5,w4.push (.cells ((roomsI x0).flatMap icells) 3 w4.next 0 0)=w5:=⟨_,rfl⟩
  rw [hw5] at g5 O5 O15 O45 hn5
  have h00:roomsI x0=roomsI (logOf (L.take 0)):=rfl
  rw [h00] at O5
  generalize hZ:(roomsI x0).flatMap icells=Z at *
  generalize hSA:((logOf L).bags.flatMap bagC).toArray=SA at *
  simp -dsimp -implicitDefEqProofs (maxSteps:=2000000) (disch:=first|assumption|omega|(simp only [nx];omega)|((repeat refine Fresh.push ?_ _);assumption)|(simp only [smA];done)|(simp [oneCell,AW.next_push];done)|fail) only [go_sem,Nat.reduceEqDiff,reduceIte,Nat.reduceAdd,Tryz.results11,hw3,st4,hms,hw5,Int.natCast_zero]
  try rw [hw3]
  try rw [hw5]
  have hge4:=g4.1.next
  have hO4l:=O4.lt
  refine loopR (fun k t ds w6=>∃ i:Nat,i≤L.length∧k=L.length - i∧ds=[]∧ev t (.tmp 1)=.slice pL L.length cL∧ev t (.tmp 2)=.pointer (some ⟨w.next,0,none⟩)∧ev t (.tmp 5)=.pointer (some ⟨w2.next,0,none⟩)∧ev t (.tmp 8)=.slice (some ⟨w4.next,0,none⟩) 32 32∧ev t (.tmp 9)=.int .i64 (i:Int)∧Own w6 w4.next 3 ((roomsI (logOf (L.take i))).flatMap icells)∧MutS (fun j=>j=w4.next) w5 w6) (L.length) ?_ ?_
  · refine ⟨0,by omega,by omega,rfl,?_,?_,?_,?_,?_,O5,MutS.refl g5.2⟩ <;> simp -dsimp -implicitDefEqProofs (maxSteps:=2000000) (disch:=first|assumption|omega|(simp only [nx];omega)|((repeat refine Fresh.push ?_ _);assumption)|(simp only [smA];done)|(simp [oneCell,AW.next_push];done)|fail) only [go_sem,Nat.reduceEqDiff,reduceIte,Nat.reduceAdd] <;> rfl
  rintro k t ds w6 ⟨i,hii,rfl,rfl,e1,e2,e5,e8,e9,O6,m6⟩
  have hge5:=g5.1.next
  have g6:Grown w w6:=⟨g5.1.trans (m6.keep (fun j q=>by have:j=w4.next:=q;omega) g5.1.next),m6.fresh⟩
  have O16:=m6.own O15 (fun q=>by have:w.next=w4.next:=q;omega)
  have O46:=m6.own O45 (fun q=>by have:w2.next=w4.next:=q;omega)
  have hl6:=hls w6 O16
  have f6:=g6.2
  by_cases hlt:(i:Int) < (L.length:Int)
  case neg =>
    obtain rfl:i=L.length:=by omega
    rw [List.take_length] at O6
    have hk:=logOf_ok L x0 x0_ok
    have hk':LogOk (logOf L):=hk
    have hIn:=logOf_inv her L.length (Nat.le_refl _)
    rw [List.take_length] at hIn
    have hlb6:=loadAll O46 hbl0 (bags_one _)
    have hR:=Own.iarr O6 (by rw [roomsI_len hk'];omega)
    rw [roomsI_len hk'] at hR
    have hst:=stored_ok hs hk' hIn.1 hIn.2 pR pG pS cR cG cS (.slice (some ⟨w4.next,0,none⟩) 32 32) w6 f6 (hA.grown g6) hR
    rw [hSA] at hlb6 hst
    simp -dsimp -implicitDefEqProofs (maxSteps:=2000000) (disch:=first|assumption|omega|(simp only [nx];omega)|((repeat refine Fresh.push ?_ _);assumption)|(simp only [smA];done)|(simp [oneCell,AW.next_push];done)|fail) only [go_sem,Nat.reduceEqDiff,reduceIte,Nat.reduceAdd,Tryz.results11,e1,e2,e5,e8,e9,hlt,hl6,hlb6]
    apply callV_of (e:=rfl)
    · exact hst
    rintro _ w7 ⟨rfl,g7⟩
    simp -dsimp -implicitDefEqProofs (maxSteps:=2000000) (disch:=first|assumption|omega|(simp only [nx];omega)|((repeat refine Fresh.push ?_ _);assumption)|(simp only [smA];done)|(simp [oneCell,AW.next_push];done)|fail) only [go_sem,Nat.reduceEqDiff,reduceIte,Nat.reduceAdd,Tryz.results11]
    apply callV_of (e:=rfl)
    · exact callT_told (Q:=fun v w'=>v=.bool true∧w7=w') (v:=.bool true) (w':=w7) rfl ⟨rfl,rfl⟩
    rintro _ _ ⟨rfl,rfl⟩
    simp -dsimp -implicitDefEqProofs (maxSteps:=2000000) (disch:=first|assumption|omega|(simp only [nx];omega)|((repeat refine Fresh.push ?_ _);assumption)|(simp only [smA];done)|(simp [oneCell,AW.next_push];done)|fail) only [go_sem,Nat.reduceEqDiff,reduceIte,Nat.reduceAdd,Tryz.results11]
  have hi:i < L.length:=by omega
  obtain ⟨hco,hk1,hk5⟩:=run_cars her i hi
  have hstep:=run_steps her i hi
  obtain ⟨hrb1,hrb2⟩:=reach_bit hstep
  have hXo:LogOk (logOf (L.take i)):=logOf_ok _ x0 x0_ok
  have hXo1:LogOk (logOf (L.take (i+1))):=logOf_ok _ x0 x0_ok
  have hnx:=logOf_snoc hi
  have hall:=days_all L 0 (by omega) (by unfold areB at ha;rw [Bool.and_eq_true] at ha;exact ha.2) L[i] (List.getElem_mem hi)
  obtain ⟨hcc,_,_⟩:=carry_nat hs hall.1 hall.2
  have htwo:=two_people hall.1
  obtain ⟨t1,t2,t3,t4,t5⟩:=toN_eq hcc
  obtain ⟨hpa,hpb⟩:=pair_asked hs hco
  have hen:=fun w' (g':Grown w w')=>EnterV_ok s pR pG pS cR cG cS (pairN L[i].toN:Int) w' g'.2 (hA.grown g')
  simp only [hpa,hpb] at hen
  have hwh:=fun (j:Nat) w' (g':Grown w w')=>Where_ok s pR pG pS cR cG cS pL cL L (j:Int) L[i].day w' g'.2 (hA.grown g') (hL.grown g') (hPr.grown g')
  have hwa:=fun h j hj=>where_at her i hi h j hj
  have hrn0:=roomsI_next hXo L[i].toN hco.bag
  have hrs0:=roomsI_same hXo L[i].toN hco.bag
  rw [← hnx] at hrn0 hrs0
  have hra:=fun n hn=>roomsI_at hXo1 (n:=n) hn
  have hrl1:=roomsI_len hXo1
  have hrl0:=roomsI_len hXo
  have hfrom:=roomsI_at hXo hco.bag
  have hnew:=roomsI_at hXo1 hco.bag
  have hroom1:((logOf (L.take (i+1))).bag L[i].toN.bag).room=(bagB (logOf (L.take i)) L[i].toN).room:=by
    rw [room_next her i hi _ hco.bag,if_pos rfl]
  rw [hroom1] at hnew
  have hIn0:=(logOf_inv her i (by omega)).2.bag hXo _ hco.bag
  have hIn1:=(logOf_inv her (i+1) (by omega)).2.bag hXo1 _ hco.bag
  rw [hroom1] at hIn1
  have hsl:=(str_staff hs).2.1
  have hein:=(endR_in hs (pairN L[i].toN)).1
  have hsA:=full_shl (n:=L[i].toN.ca) (by have:=hco.ca;omega)
  have hsB:=full_shl (n:=L[i].toN.cb) (by have:=hco.cb;omega)
  have hpA:=pow_lt6 (a:=L[i].toN.ca) (by have:=hco.ca;omega)
  have hpB:=pow_lt6 (a:=L[i].toN.cb) (by have:=hco.cb;omega)
  have hca6:L[i].toN.ca < 6:=by have:=hco.ca;omega
  have hcb6:L[i].toN.cb < 6:=by have:=hco.cb;omega
  have h0A:¬ (L[i].toN.ca:Int) < 0:=by omega
  have h0B:¬ (L[i].toN.cb:Int) < 0:=by omega
  have hor:=or_nat (a:=2 ^ L[i].toN.ca) (b:=2 ^ L[i].toN.cb) (by omega) (by omega)
  rw [show 2 ^ L[i].toN.ca ||| 2 ^ L[i].toN.cb=pairN L[i].toN from rfl] at hor
  have hcells:∀ (h1:i+1 < L.length),∃ b o,pL=some ⟨b,o,none⟩∧b < w.next∧∀ w',Keep w.next w w'→w'.cell? ⟨b,o+(i+1) * 8,none⟩=some (.int .i64 (L[i+1]).day):=fun h1=>by
    obtain ⟨_,_,ex,_,_,hat⟩:=hL.open
    injection ex with ex1 ex2 ex3
    subst ex1
    obtain ⟨b,o,e,hb,hc⟩:=hat (i+1) h1
    refine ⟨b,o,e,hb,fun w' k=>?_⟩
    have:=hc w' k 0 _ rfl
    rwa [Nat.add_zero] at this
  obtain ⟨b8,o8,rfl,hb8,hrow⟩:=arr_row hL carIC_len carIC_one hi
  have hld6:=hrow w6 g6.1
  have hcells:∀ (h1:i+1 < L.length),∀ w',Keep w.next w w'→w'.cell? ⟨b8,o8+(i+1) * 8,none⟩=some (.int .i64 (L[i+1]).day):=fun h1 w' k=>by
    obtain ⟨b,o,e,_,hc⟩:=hcells h1
    injection e with e
    injection e with e1 e2
    subst e1 e2
    exact hc w' k
  have hkI:(L[i].toN.bag:Int) < 32:=by have:=hco.bag;omega
  have hc31:inR 0 (L[i].toN.bag:Int) 31=true:=by rw [inR_iff];omega
  have hcA5:inR 0 (L[i].toN.ca:Int) 5=true:=by rw [inR_iff];omega
  have hcB5:inR 0 (L[i].toN.cb:Int) 5=true:=by rw [inR_iff];omega
  have hne2:¬ (L[i].toN.ca:Int)=(L[i].toN.cb:Int):=by rw [← t4,← t5];exact htwo
  have hbB:L[i].toN.bag < 32:=hco.bag
  have hbt:=fun (h:L[i].toN.kind=1 ∨ L[i].toN.kind=2)=>bagB_to (x:=logOf (L.take i)) (c:=L[i].toN) h
  have hbo:=fun (h:L[i].toN.kind=5)=>bagB_out (x:=logOf (L.take i)) (c:=L[i].toN) h
  have hbs:=fun (h:L[i].toN.kind=3 ∨ L[i].toN.kind=4)=>bagB_stay (x:=logOf (L.take i)) (c:=L[i].toN) h
  have O7:=Own.new f6 62 (carIC car0)
  have g7:=(Grown.refl f6).push (.cells (carIC car0) 62 w6.next 0 0)
  have hz8:carIC car0=[.int .i64 0,.int .i64 0,.int .i64 0,.int .i64 0,.int .i64 0,.int .i64 0,.int .i64 0,.int .i64 0]:=rfl
  obtain ⟨w7,hw7⟩:∃ w7,w6.push (.cells (carIC car0) 62 w6.next 0 0)=w7:=⟨_,rfl⟩
  rw [hw7] at O7 g7
  rw [hz8] at hw7
  obtain ⟨w8,st8,O8,m8,hn8⟩:=store_new (n:=8) (l:=carIC L[i]) g7.2 O7 rfl rfl (by omega) rfl
  have g68:Grown w6 w8:=⟨g7.1.trans (m8.keep (fun j q=>by have:j=w6.next:=q;omega) g7.1.next),m8.fresh⟩
  have g8:=g6.trans g68
  have f8:=g8.2
  have O18:=O16.keep g68.1
  have hl8:=hls w8 O18
  have O68:=O6.keep g68.1
  have k0:=O8.cell (o:=0) (v:=.int .i64 (L[i]).day) rfl rfl
  have k1:=O8.cell (o:=1) (v:=.int .i64 (L[i]).kind) rfl rfl
  have k2:=O8.cell (o:=2) (v:=.int .i64 (L[i]).bag) rfl rfl
  have k3:=O8.cell (o:=3) (v:=.int .i64 (L[i]).to) rfl rfl
  have k4:=O8.cell (o:=4) (v:=.int .i64 (L[i]).ca) rfl rfl
  have k5:=O8.cell (o:=5) (v:=.int .i64 (L[i]).cb) rfl rfl
  rw [t1] at k1
  rw [t2] at k2
  rw [t3] at k3
  rw [t4] at k4
  rw [t5] at k5
  have hen8:=hen w8 g8
  have hge6:=g6.1.next
  have hmn6:=m6.next
  generalize pairN L[i].toN=PN at *
  generalize 2 ^ L[i].toN.ca=PA at *
  generalize 2 ^ L[i].toN.cb=PB at *
  simp -dsimp -implicitDefEqProofs (maxSteps:=2000000) (disch:=first|assumption|omega|(simp only [nx];omega)|((repeat refine Fresh.push ?_ _);assumption)|(simp only [smA];done)|(simp [oneCell,AW.next_push];done)|fail) only [go_sem,Nat.reduceEqDiff,reduceIte,Nat.reduceAdd,Tryz.results11,e1,e2,e5,e8,e9,hlt,indexV_eq,hld6,hw7,st8,k2,Nat.zero_add]
  apply callV_of (e:=rfl)
  · exact From_ok 0 (L[i].toN.bag:Int) 31 w8
  rintro _ _ ⟨rfl,rfl⟩
  rw [hc31]
  simp -dsimp -implicitDefEqProofs (maxSteps:=2000000) (disch:=first|assumption|omega|(simp only [nx];omega)|((repeat refine Fresh.push ?_ _);assumption)|(simp only [smA];done)|(simp [oneCell,AW.next_push];done)|fail) only [go_sem,Nat.reduceEqDiff,reduceIte,Nat.reduceAdd,Tryz.results11,e1,e2,e5,e8,e9,k2,k4,k5,hne2,Nat.zero_add]
  apply callV_of (e:=rfl)
  · exact From_ok 0 (L[i].toN.ca:Int) 5 w8
  rintro _ _ ⟨rfl,rfl⟩
  rw [hcA5]
  simp -dsimp -implicitDefEqProofs (maxSteps:=2000000) (disch:=first|assumption|omega|(simp only [nx];omega)|((repeat refine Fresh.push ?_ _);assumption)|(simp only [smA];done)|(simp [oneCell,AW.next_push];done)|fail) only [go_sem,Nat.reduceEqDiff,reduceIte,Nat.reduceAdd,Tryz.results11,e1,e2,e5,e8,e9,k2,k4,k5,hne2,Nat.zero_add]
  apply callV_of (e:=rfl)
  · exact From_ok 0 (L[i].toN.cb:Int) 5 w8
  rintro _ _ ⟨rfl,rfl⟩
  rw [hcB5]
  simp -dsimp -implicitDefEqProofs (maxSteps:=2000000) (disch:=first|assumption|omega|(simp only [nx];omega)|((repeat refine Fresh.push ?_ _);assumption)|(simp only [smA];done)|(simp [oneCell,AW.next_push];done)|fail) only [go_sem,Nat.reduceEqDiff,reduceIte,Nat.reduceAdd,Tryz.results11,e1,e2,e5,e8,e9,k2,k4,k5,hne2,Nat.zero_add]
  show CodeT _ _ _ _ _ _ _ _
  refine codeT_regX Tryz.x11r13_eq Tryz.x11r13_kinds ?_
  unfold Tryz.x11r13
  simp -dsimp -implicitDefEqProofs (maxSteps:=2000000) (disch:=first|assumption|omega|(simp only [nx];omega)|((repeat refine Fresh.push ?_ _);assumption)|(simp only [smA];done)|(simp [oneCell,AW.next_push];done)|fail) only [go_sem,Nat.reduceEqDiff,reduceIte,Nat.reduceAdd,Tryz.results11,e1,e2,e5,e8,e9,hl8,hss,k4,k5,h0A,h0B,hsA,hsB,hor,Nat.zero_add]
  apply callV_of (e:=rfl)
  · exact hen8
  rintro _ w9 ⟨rfl,g9⟩
  have htu:same 12 (.tuple #[.int .i64 (endR s PN 1:Int),.int .i64 0]) (.tuple #[.int .i64 (endR s PN 1:Int),.int .i64 0])=true:=by simp [same,same.all,intEq_eq]
  simp -dsimp -implicitDefEqProofs (maxSteps:=2000000) (disch:=first|assumption|omega|(simp only [nx];omega)|((repeat refine Fresh.push ?_ _);assumption)|(simp only [smA];done)|(simp [oneCell,AW.next_push];done)|fail) only [go_sem,Nat.reduceEqDiff,reduceIte,Nat.reduceAdd,Tryz.results11]
  refine ⟨⟨.inl (show Nat.testBit 255 5=true by decide),.inl (show Nat.testBit 255 2=true by decide),.inl (show Nat.testBit 255 0=true by decide),trivial⟩,?_⟩
  have O69:=O68.keep g9.1
  have O89:=O8.keep g9.1
  have g69:=g68.trans g9
  have gg9:=g8.trans g9
  have f9:=gg9.2
  have hge8:=g68.1.next
  have hge9:=g9.1.next
  have k1:=O89.cell (o:=1) (v:=.int .i64 (L[i]).kind) rfl rfl
  have k2:=O89.cell (o:=2) (v:=.int .i64 (L[i]).bag) rfl rfl
  have k3:=O89.cell (o:=3) (v:=.int .i64 (L[i]).to) rfl rfl
  rw [t1] at k1
  rw [t2] at k2
  rw [t3] at k3
  have cF:=O69.icell (i:=L[i].toN.bag) (by rw [hrl0];exact hbB)
  rw [hfrom] at cF
  have gk9:MutS (fun j=>j=w4.next) w5 w9:=m6.trans (MutS.of g69) (Within.refl _ _)
  generalize hE:endR s PN 1=EN at *
  apply joinW (F:=fun t w'=>ev t (.tmp 1)=.slice (some ⟨b8,o8,none⟩) L.length cL∧ev t (.tmp 2)=.pointer (some ⟨w.next,0,none⟩)∧ev t (.tmp 5)=.pointer (some ⟨w2.next,0,none⟩)∧ev t (.tmp 8)=.slice (some ⟨w4.next,0,none⟩) 32 32∧ev t (.tmp 9)=.int .i64 (i:Int)∧ev t (.tmp 10)=.pointer (some ⟨w6.next,0,none⟩)∧ev t (.tmp 11)=.int .i64 (EN:Int)∧ev t (.tmp 12)=.int .i64 0∧ev t (.tmp 13)=.int .i64 (((logOf (L.take i)).bag L[i].toN.bag).room:Int)∧Own w' w4.next 3 ((roomsI (logOf (L.take (i+1)))).flatMap icells)∧MutS (fun j=>j=w4.next) w9 w')
  case mainC =>
    intro go
    have hkk:L[i].toN.kind=1 ∨ L[i].toN.kind=2 ∨ L[i].toN.kind=3 ∨ L[i].toN.kind=4 ∨ L[i].toN.kind=5:=by omega
    have put:∀ v:Int,(roomsI (logOf (L.take i))).set L[i].toN.bag v=roomsI (logOf (L.take (i+1)))→∃ w10,storeV w9 false 1 (.pointer (some ⟨w4.next,L[i].toN.bag,none⟩)) (.int .i64 v)=some w10∧Own w10 w4.next 3 ((roomsI (logOf (L.take (i+1)))).flatMap icells)∧MutS (fun j=>j=w4.next) w9 w10:=fun v hv=>by
      obtain ⟨w10,st,O,m,_⟩:=store_one (v:=.int .i64 v) (o:=L[i].toN.bag) f9 O69 (by rw [icells_flat_len,hrl0];exact hbB) rfl
      rw [setL_ic,hv] at O
      exact ⟨w10,st,O,m⟩
    rcases hkk with q|q|q|q|q
    · obtain ⟨w10,st10,O10,m10⟩:=put (L[i].toN.to:Int) (by rw [hrn0,hbt (.inl q)])
      rw [show (L[i].toN.kind:Int)=1 by omega] at k1
      simp -dsimp -implicitDefEqProofs (maxSteps:=2000000) (disch:=first|assumption|omega|(simp only [nx];omega)|((repeat refine Fresh.push ?_ _);assumption)|(simp only [smA];done)|(simp [oneCell,AW.next_push];done)|fail) only [go_sem,Nat.reduceEqDiff,reduceIte,Nat.reduceAdd,Tryz.results11,htu,e1,e2,e5,e8,e9,k1,k2,k3,cF,indexV_eq,hkI,st10,Nat.zero_add,Nat.mul_one]
      exact joinW_use go ⟨by (simp -dsimp -implicitDefEqProofs (maxSteps:=2000000) (disch:=first|assumption|omega|(simp only [nx];omega)|((repeat refine Fresh.push ?_ _);assumption)|(simp only [smA];done)|(simp [oneCell,AW.next_push];done)|fail) only [go_sem,Nat.reduceEqDiff,reduceIte,Nat.reduceAdd,e1];try rfl),by (simp -dsimp -implicitDefEqProofs (maxSteps:=2000000) (disch:=first|assumption|omega|(simp only [nx];omega)|((repeat refine Fresh.push ?_ _);assumption)|(simp only [smA];done)|(simp [oneCell,AW.next_push];done)|fail) only [go_sem,Nat.reduceEqDiff,reduceIte,Nat.reduceAdd,e2];try rfl),by (simp -dsimp -implicitDefEqProofs (maxSteps:=2000000) (disch:=first|assumption|omega|(simp only [nx];omega)|((repeat refine Fresh.push ?_ _);assumption)|(simp only [smA];done)|(simp [oneCell,AW.next_push];done)|fail) only [go_sem,Nat.reduceEqDiff,reduceIte,Nat.reduceAdd,e5];try rfl),by (simp -dsimp -implicitDefEqProofs (maxSteps:=2000000) (disch:=first|assumption|omega|(simp only [nx];omega)|((repeat refine Fresh.push ?_ _);assumption)|(simp only [smA];done)|(simp [oneCell,AW.next_push];done)|fail) only [go_sem,Nat.reduceEqDiff,reduceIte,Nat.reduceAdd,e8];try rfl),by (simp -dsimp -implicitDefEqProofs (maxSteps:=2000000) (disch:=first|assumption|omega|(simp only [nx];omega)|((repeat refine Fresh.push ?_ _);assumption)|(simp only [smA];done)|(simp [oneCell,AW.next_push];done)|fail) only [go_sem,Nat.reduceEqDiff,reduceIte,Nat.reduceAdd,e9];try rfl),by (simp -dsimp -implicitDefEqProofs (maxSteps:=2000000) (disch:=first|assumption|omega|(simp only [nx];omega)|((repeat refine Fresh.push ?_ _);assumption)|(simp only [smA];done)|(simp [oneCell,AW.next_push];done)|fail) only [go_sem,Nat.reduceEqDiff,reduceIte,Nat.reduceAdd];try rfl),by (simp -dsimp -implicitDefEqProofs (maxSteps:=2000000) (disch:=first|assumption|omega|(simp only [nx];omega)|((repeat refine Fresh.push ?_ _);assumption)|(simp only [smA];done)|(simp [oneCell,AW.next_push];done)|fail) only [go_sem,Nat.reduceEqDiff,reduceIte,Nat.reduceAdd];try rfl),by (simp -dsimp -implicitDefEqProofs (maxSteps:=2000000) (disch:=first|assumption|omega|(simp only [nx];omega)|((repeat refine Fresh.push ?_ _);assumption)|(simp only [smA];done)|(simp [oneCell,AW.next_push];done)|fail) only [go_sem,Nat.reduceEqDiff,reduceIte,Nat.reduceAdd];try rfl),by (simp -dsimp -implicitDefEqProofs (maxSteps:=2000000) (disch:=first|assumption|omega|(simp only [nx];omega)|((repeat refine Fresh.push ?_ _);assumption)|(simp only [smA];done)|(simp [oneCell,AW.next_push];done)|fail) only [go_sem,Nat.reduceEqDiff,reduceIte,Nat.reduceAdd];try rfl),O10,m10⟩
    · obtain ⟨w10,st10,O10,m10⟩:=put (L[i].toN.to:Int) (by rw [hrn0,hbt (.inr q)])
      rw [show (L[i].toN.kind:Int)=2 by omega] at k1
      simp -dsimp -implicitDefEqProofs (maxSteps:=2000000) (disch:=first|assumption|omega|(simp only [nx];omega)|((repeat refine Fresh.push ?_ _);assumption)|(simp only [smA];done)|(simp [oneCell,AW.next_push];done)|fail) only [go_sem,Nat.reduceEqDiff,reduceIte,Nat.reduceAdd,Tryz.results11,htu,e1,e2,e5,e8,e9,k1,k2,k3,cF,indexV_eq,hkI,st10,Nat.zero_add,Nat.mul_one]
      exact joinW_use go ⟨by (simp -dsimp -implicitDefEqProofs (maxSteps:=2000000) (disch:=first|assumption|omega|(simp only [nx];omega)|((repeat refine Fresh.push ?_ _);assumption)|(simp only [smA];done)|(simp [oneCell,AW.next_push];done)|fail) only [go_sem,Nat.reduceEqDiff,reduceIte,Nat.reduceAdd,e1];try rfl),by (simp -dsimp -implicitDefEqProofs (maxSteps:=2000000) (disch:=first|assumption|omega|(simp only [nx];omega)|((repeat refine Fresh.push ?_ _);assumption)|(simp only [smA];done)|(simp [oneCell,AW.next_push];done)|fail) only [go_sem,Nat.reduceEqDiff,reduceIte,Nat.reduceAdd,e2];try rfl),by (simp -dsimp -implicitDefEqProofs (maxSteps:=2000000) (disch:=first|assumption|omega|(simp only [nx];omega)|((repeat refine Fresh.push ?_ _);assumption)|(simp only [smA];done)|(simp [oneCell,AW.next_push];done)|fail) only [go_sem,Nat.reduceEqDiff,reduceIte,Nat.reduceAdd,e5];try rfl),by (simp -dsimp -implicitDefEqProofs (maxSteps:=2000000) (disch:=first|assumption|omega|(simp only [nx];omega)|((repeat refine Fresh.push ?_ _);assumption)|(simp only [smA];done)|(simp [oneCell,AW.next_push];done)|fail) only [go_sem,Nat.reduceEqDiff,reduceIte,Nat.reduceAdd,e8];try rfl),by (simp -dsimp -implicitDefEqProofs (maxSteps:=2000000) (disch:=first|assumption|omega|(simp only [nx];omega)|((repeat refine Fresh.push ?_ _);assumption)|(simp only [smA];done)|(simp [oneCell,AW.next_push];done)|fail) only [go_sem,Nat.reduceEqDiff,reduceIte,Nat.reduceAdd,e9];try rfl),by (simp -dsimp -implicitDefEqProofs (maxSteps:=2000000) (disch:=first|assumption|omega|(simp only [nx];omega)|((repeat refine Fresh.push ?_ _);assumption)|(simp only [smA];done)|(simp [oneCell,AW.next_push];done)|fail) only [go_sem,Nat.reduceEqDiff,reduceIte,Nat.reduceAdd];try rfl),by (simp -dsimp -implicitDefEqProofs (maxSteps:=2000000) (disch:=first|assumption|omega|(simp only [nx];omega)|((repeat refine Fresh.push ?_ _);assumption)|(simp only [smA];done)|(simp [oneCell,AW.next_push];done)|fail) only [go_sem,Nat.reduceEqDiff,reduceIte,Nat.reduceAdd];try rfl),by (simp -dsimp -implicitDefEqProofs (maxSteps:=2000000) (disch:=first|assumption|omega|(simp only [nx];omega)|((repeat refine Fresh.push ?_ _);assumption)|(simp only [smA];done)|(simp [oneCell,AW.next_push];done)|fail) only [go_sem,Nat.reduceEqDiff,reduceIte,Nat.reduceAdd];try rfl),by (simp -dsimp -implicitDefEqProofs (maxSteps:=2000000) (disch:=first|assumption|omega|(simp only [nx];omega)|((repeat refine Fresh.push ?_ _);assumption)|(simp only [smA];done)|(simp [oneCell,AW.next_push];done)|fail) only [go_sem,Nat.reduceEqDiff,reduceIte,Nat.reduceAdd];try rfl),O10,m10⟩
    · have O10:=O69
      rw [← hrs0 (hbs (.inl q))] at O10
      rw [show (L[i].toN.kind:Int)=3 by omega] at k1
      simp -dsimp -implicitDefEqProofs (maxSteps:=2000000) (disch:=first|assumption|omega|(simp only [nx];omega)|((repeat refine Fresh.push ?_ _);assumption)|(simp only [smA];done)|(simp [oneCell,AW.next_push];done)|fail) only [go_sem,Nat.reduceEqDiff,reduceIte,Nat.reduceAdd,Tryz.results11,htu,e1,e2,e5,e8,e9,k1,k2,k3,cF,indexV_eq,hkI,Nat.zero_add,Nat.mul_one]
      exact joinW_use go ⟨by (simp -dsimp -implicitDefEqProofs (maxSteps:=2000000) (disch:=first|assumption|omega|(simp only [nx];omega)|((repeat refine Fresh.push ?_ _);assumption)|(simp only [smA];done)|(simp [oneCell,AW.next_push];done)|fail) only [go_sem,Nat.reduceEqDiff,reduceIte,Nat.reduceAdd,e1];try rfl),by (simp -dsimp -implicitDefEqProofs (maxSteps:=2000000) (disch:=first|assumption|omega|(simp only [nx];omega)|((repeat refine Fresh.push ?_ _);assumption)|(simp only [smA];done)|(simp [oneCell,AW.next_push];done)|fail) only [go_sem,Nat.reduceEqDiff,reduceIte,Nat.reduceAdd,e2];try rfl),by (simp -dsimp -implicitDefEqProofs (maxSteps:=2000000) (disch:=first|assumption|omega|(simp only [nx];omega)|((repeat refine Fresh.push ?_ _);assumption)|(simp only [smA];done)|(simp [oneCell,AW.next_push];done)|fail) only [go_sem,Nat.reduceEqDiff,reduceIte,Nat.reduceAdd,e5];try rfl),by (simp -dsimp -implicitDefEqProofs (maxSteps:=2000000) (disch:=first|assumption|omega|(simp only [nx];omega)|((repeat refine Fresh.push ?_ _);assumption)|(simp only [smA];done)|(simp [oneCell,AW.next_push];done)|fail) only [go_sem,Nat.reduceEqDiff,reduceIte,Nat.reduceAdd,e8];try rfl),by (simp -dsimp -implicitDefEqProofs (maxSteps:=2000000) (disch:=first|assumption|omega|(simp only [nx];omega)|((repeat refine Fresh.push ?_ _);assumption)|(simp only [smA];done)|(simp [oneCell,AW.next_push];done)|fail) only [go_sem,Nat.reduceEqDiff,reduceIte,Nat.reduceAdd,e9];try rfl),by (simp -dsimp -implicitDefEqProofs (maxSteps:=2000000) (disch:=first|assumption|omega|(simp only [nx];omega)|((repeat refine Fresh.push ?_ _);assumption)|(simp only [smA];done)|(simp [oneCell,AW.next_push];done)|fail) only [go_sem,Nat.reduceEqDiff,reduceIte,Nat.reduceAdd];try rfl),by (simp -dsimp -implicitDefEqProofs (maxSteps:=2000000) (disch:=first|assumption|omega|(simp only [nx];omega)|((repeat refine Fresh.push ?_ _);assumption)|(simp only [smA];done)|(simp [oneCell,AW.next_push];done)|fail) only [go_sem,Nat.reduceEqDiff,reduceIte,Nat.reduceAdd];try rfl),by (simp -dsimp -implicitDefEqProofs (maxSteps:=2000000) (disch:=first|assumption|omega|(simp only [nx];omega)|((repeat refine Fresh.push ?_ _);assumption)|(simp only [smA];done)|(simp [oneCell,AW.next_push];done)|fail) only [go_sem,Nat.reduceEqDiff,reduceIte,Nat.reduceAdd];try rfl),by (simp -dsimp -implicitDefEqProofs (maxSteps:=2000000) (disch:=first|assumption|omega|(simp only [nx];omega)|((repeat refine Fresh.push ?_ _);assumption)|(simp only [smA];done)|(simp [oneCell,AW.next_push];done)|fail) only [go_sem,Nat.reduceEqDiff,reduceIte,Nat.reduceAdd];try rfl),O10,MutS.refl f9⟩
    · have O10:=O69
      rw [← hrs0 (hbs (.inr q))] at O10
      rw [show (L[i].toN.kind:Int)=4 by omega] at k1
      simp -dsimp -implicitDefEqProofs (maxSteps:=2000000) (disch:=first|assumption|omega|(simp only [nx];omega)|((repeat refine Fresh.push ?_ _);assumption)|(simp only [smA];done)|(simp [oneCell,AW.next_push];done)|fail) only [go_sem,Nat.reduceEqDiff,reduceIte,Nat.reduceAdd,Tryz.results11,htu,e1,e2,e5,e8,e9,k1,k2,k3,cF,indexV_eq,hkI,Nat.zero_add,Nat.mul_one]
      exact joinW_use go ⟨by (simp -dsimp -implicitDefEqProofs (maxSteps:=2000000) (disch:=first|assumption|omega|(simp only [nx];omega)|((repeat refine Fresh.push ?_ _);assumption)|(simp only [smA];done)|(simp [oneCell,AW.next_push];done)|fail) only [go_sem,Nat.reduceEqDiff,reduceIte,Nat.reduceAdd,e1];try rfl),by (simp -dsimp -implicitDefEqProofs (maxSteps:=2000000) (disch:=first|assumption|omega|(simp only [nx];omega)|((repeat refine Fresh.push ?_ _);assumption)|(simp only [smA];done)|(simp [oneCell,AW.next_push];done)|fail) only [go_sem,Nat.reduceEqDiff,reduceIte,Nat.reduceAdd,e2];try rfl),by (simp -dsimp -implicitDefEqProofs (maxSteps:=2000000) (disch:=first|assumption|omega|(simp only [nx];omega)|((repeat refine Fresh.push ?_ _);assumption)|(simp only [smA];done)|(simp [oneCell,AW.next_push];done)|fail) only [go_sem,Nat.reduceEqDiff,reduceIte,Nat.reduceAdd,e5];try rfl),by (simp -dsimp -implicitDefEqProofs (maxSteps:=2000000) (disch:=first|assumption|omega|(simp only [nx];omega)|((repeat refine Fresh.push ?_ _);assumption)|(simp only [smA];done)|(simp [oneCell,AW.next_push];done)|fail) only [go_sem,Nat.reduceEqDiff,reduceIte,Nat.reduceAdd,e8];try rfl),by (simp -dsimp -implicitDefEqProofs (maxSteps:=2000000) (disch:=first|assumption|omega|(simp only [nx];omega)|((repeat refine Fresh.push ?_ _);assumption)|(simp only [smA];done)|(simp [oneCell,AW.next_push];done)|fail) only [go_sem,Nat.reduceEqDiff,reduceIte,Nat.reduceAdd,e9];try rfl),by (simp -dsimp -implicitDefEqProofs (maxSteps:=2000000) (disch:=first|assumption|omega|(simp only [nx];omega)|((repeat refine Fresh.push ?_ _);assumption)|(simp only [smA];done)|(simp [oneCell,AW.next_push];done)|fail) only [go_sem,Nat.reduceEqDiff,reduceIte,Nat.reduceAdd];try rfl),by (simp -dsimp -implicitDefEqProofs (maxSteps:=2000000) (disch:=first|assumption|omega|(simp only [nx];omega)|((repeat refine Fresh.push ?_ _);assumption)|(simp only [smA];done)|(simp [oneCell,AW.next_push];done)|fail) only [go_sem,Nat.reduceEqDiff,reduceIte,Nat.reduceAdd];try rfl),by (simp -dsimp -implicitDefEqProofs (maxSteps:=2000000) (disch:=first|assumption|omega|(simp only [nx];omega)|((repeat refine Fresh.push ?_ _);assumption)|(simp only [smA];done)|(simp [oneCell,AW.next_push];done)|fail) only [go_sem,Nat.reduceEqDiff,reduceIte,Nat.reduceAdd];try rfl),by (simp -dsimp -implicitDefEqProofs (maxSteps:=2000000) (disch:=first|assumption|omega|(simp only [nx];omega)|((repeat refine Fresh.push ?_ _);assumption)|(simp only [smA];done)|(simp [oneCell,AW.next_push];done)|fail) only [go_sem,Nat.reduceEqDiff,reduceIte,Nat.reduceAdd];try rfl),O10,MutS.refl f9⟩
    · obtain ⟨w10,st10,O10,m10⟩:=put 0 (by rw [hrn0,hbo q];rfl)
      rw [show (L[i].toN.kind:Int)=5 by omega] at k1
      simp -dsimp -implicitDefEqProofs (maxSteps:=2000000) (disch:=first|assumption|omega|(simp only [nx];omega)|((repeat refine Fresh.push ?_ _);assumption)|(simp only [smA];done)|(simp [oneCell,AW.next_push];done)|fail) only [go_sem,Nat.reduceEqDiff,reduceIte,Nat.reduceAdd,Tryz.results11,htu,e1,e2,e5,e8,e9,k1,k2,k3,cF,indexV_eq,hkI,st10,Nat.zero_add,Nat.mul_one]
      exact joinW_use go ⟨by (simp -dsimp -implicitDefEqProofs (maxSteps:=2000000) (disch:=first|assumption|omega|(simp only [nx];omega)|((repeat refine Fresh.push ?_ _);assumption)|(simp only [smA];done)|(simp [oneCell,AW.next_push];done)|fail) only [go_sem,Nat.reduceEqDiff,reduceIte,Nat.reduceAdd,e1];try rfl),by (simp -dsimp -implicitDefEqProofs (maxSteps:=2000000) (disch:=first|assumption|omega|(simp only [nx];omega)|((repeat refine Fresh.push ?_ _);assumption)|(simp only [smA];done)|(simp [oneCell,AW.next_push];done)|fail) only [go_sem,Nat.reduceEqDiff,reduceIte,Nat.reduceAdd,e2];try rfl),by (simp -dsimp -implicitDefEqProofs (maxSteps:=2000000) (disch:=first|assumption|omega|(simp only [nx];omega)|((repeat refine Fresh.push ?_ _);assumption)|(simp only [smA];done)|(simp [oneCell,AW.next_push];done)|fail) only [go_sem,Nat.reduceEqDiff,reduceIte,Nat.reduceAdd,e5];try rfl),by (simp -dsimp -implicitDefEqProofs (maxSteps:=2000000) (disch:=first|assumption|omega|(simp only [nx];omega)|((repeat refine Fresh.push ?_ _);assumption)|(simp only [smA];done)|(simp [oneCell,AW.next_push];done)|fail) only [go_sem,Nat.reduceEqDiff,reduceIte,Nat.reduceAdd,e8];try rfl),by (simp -dsimp -implicitDefEqProofs (maxSteps:=2000000) (disch:=first|assumption|omega|(simp only [nx];omega)|((repeat refine Fresh.push ?_ _);assumption)|(simp only [smA];done)|(simp [oneCell,AW.next_push];done)|fail) only [go_sem,Nat.reduceEqDiff,reduceIte,Nat.reduceAdd,e9];try rfl),by (simp -dsimp -implicitDefEqProofs (maxSteps:=2000000) (disch:=first|assumption|omega|(simp only [nx];omega)|((repeat refine Fresh.push ?_ _);assumption)|(simp only [smA];done)|(simp [oneCell,AW.next_push];done)|fail) only [go_sem,Nat.reduceEqDiff,reduceIte,Nat.reduceAdd];try rfl),by (simp -dsimp -implicitDefEqProofs (maxSteps:=2000000) (disch:=first|assumption|omega|(simp only [nx];omega)|((repeat refine Fresh.push ?_ _);assumption)|(simp only [smA];done)|(simp [oneCell,AW.next_push];done)|fail) only [go_sem,Nat.reduceEqDiff,reduceIte,Nat.reduceAdd];try rfl),by (simp -dsimp -implicitDefEqProofs (maxSteps:=2000000) (disch:=first|assumption|omega|(simp only [nx];omega)|((repeat refine Fresh.push ?_ _);assumption)|(simp only [smA];done)|(simp [oneCell,AW.next_push];done)|fail) only [go_sem,Nat.reduceEqDiff,reduceIte,Nat.reduceAdd];try rfl),by (simp -dsimp -implicitDefEqProofs (maxSteps:=2000000) (disch:=first|assumption|omega|(simp only [nx];omega)|((repeat refine Fresh.push ?_ _);assumption)|(simp only [smA];done)|(simp [oneCell,AW.next_push];done)|fail) only [go_sem,Nat.reduceEqDiff,reduceIte,Nat.reduceAdd];try rfl),O10,m10⟩
  case restC =>
  clear e1 e2 e5 e8 e9 k0 k1 k2 k3 k4 k5 cF
  rintro t w10 ⟨e1,e2,e5,e8,e9,e10,e11,e12,e13,O10,m10⟩
  have O810:=m10.own O89 (fun q=>by have:w6.next=w4.next:=q;omega)
  have m510:=gk9.trans m10 (Within.refl _ _)
  have g10:Grown w w10:=⟨g5.1.trans (m510.keep (fun j q=>by have:j=w4.next:=q;omega) g5.1.next),m510.fresh⟩
  have k0:=O810.cell (o:=0) (v:=.int .i64 (L[i]).day) rfl rfl
  have k2:=O810.cell (o:=2) (v:=.int .i64 (L[i]).bag) rfl rfl
  rw [t2] at k2
  have cN:=O10.icell (i:=L[i].toN.bag) (by rw [hrl1];exact hbB)
  rw [hnew] at cN
  have hf0:inR 0 (((logOf (L.take i)).bag L[i].toN.bag).room:Int) 5=true:=by rw [inR_iff];omega
  have hf1:inR 0 ((bagB (logOf (L.take i)) L[i].toN).room:Int) 5=true:=by rw [inR_iff];omega
  have hle10:WLe w10 w10:=(Grown.refl g10.2).1.wle g10.2
  have hr0:((logOf (L.take i)).bag L[i].toN.bag).room≤8:=by omega
  have hr1:(bagB (logOf (L.take i)) L[i].toN).room≤8:=by omega
  generalize ((logOf (L.take i)).bag L[i].toN.bag).room=RA at *
  generalize (bagB (logOf (L.take i)) L[i].toN).room=RB at *
  unfold Tryz.s11_c112
  simp -dsimp -implicitDefEqProofs (maxSteps:=2000000) (disch:=first|assumption|omega|(simp only [nx];omega)|((repeat refine Fresh.push ?_ _);assumption)|(simp only [smA];done)|(simp [oneCell,AW.next_push];done)|fail) only [go_sem,Nat.reduceEqDiff,reduceIte,Nat.reduceAdd,Tryz.results11,e1,e2,e5,e8,e9,e10,e11,e12,e13]
  apply callV_of (e:=rfl)
  · exact From_ok 0 (RA:Int) 5 w10
  rintro _ _ ⟨rfl,rfl⟩
  rw [hf0]
  simp -dsimp -implicitDefEqProofs (maxSteps:=2000000) (disch:=first|assumption|omega|(simp only [nx];omega)|((repeat refine Fresh.push ?_ _);assumption)|(simp only [smA];done)|(simp [oneCell,AW.next_push];done)|fail) only [go_sem,Nat.reduceEqDiff,reduceIte,Nat.reduceAdd,Tryz.results11,hle10,e1,e2,e5,e8,e9,e10,e11,e12,e13]
  apply callV_of (e:=rfl)
  · exact Bit_ok EN RA (by omega) hr0 w10
  rintro _ _ ⟨rfl,rfl⟩
  rw [hrb1]
  simp -dsimp -implicitDefEqProofs (maxSteps:=2000000) (disch:=first|assumption|omega|(simp only [nx];omega)|((repeat refine Fresh.push ?_ _);assumption)|(simp only [smA];done)|(simp [oneCell,AW.next_push];done)|fail) only [go_sem,Nat.reduceEqDiff,reduceIte,Nat.reduceAdd,Tryz.results11,hle10,e1,e2,e5,e8,e9,e10,e11,e12,e13,k2,cN,indexV_eq,hkI,Nat.zero_add,Nat.mul_one]
  apply callV_of (e:=rfl)
  · exact From_ok 0 (RB:Int) 5 w10
  rintro _ _ ⟨rfl,rfl⟩
  rw [hf1]
  simp -dsimp -implicitDefEqProofs (maxSteps:=2000000) (disch:=first|assumption|omega|(simp only [nx];omega)|((repeat refine Fresh.push ?_ _);assumption)|(simp only [smA];done)|(simp [oneCell,AW.next_push];done)|fail) only [go_sem,Nat.reduceEqDiff,reduceIte,Nat.reduceAdd,Tryz.results11,hle10,e1,e2,e5,e8,e9,e10,e11,e12,e13,k2,cN,indexV_eq,hkI,Nat.zero_add,Nat.mul_one]
  apply callV_of (e:=rfl)
  · exact Bit_ok EN RB (by omega) hr1 w10
  rintro _ _ ⟨rfl,rfl⟩
  rw [hrb2]
  simp -dsimp -implicitDefEqProofs (maxSteps:=2000000) (disch:=first|assumption|omega|(simp only [nx];omega)|((repeat refine Fresh.push ?_ _);assumption)|(simp only [smA];done)|(simp [oneCell,AW.next_push];done)|fail) only [go_sem,Nat.reduceEqDiff,reduceIte,Nat.reduceAdd,Tryz.results11,hle10,e1,e2,e5,e8,e9,e10,e11,e12,e13]
  have hi1:(i:Int)+1=((i+1:Nat):Int):=by omega
  apply joinC (F:=fun t=>(∀ hn:i+1 < L.length,L[i].day < L[i+1].day)∧ev t (.tmp 1)=.slice (some ⟨b8,o8,none⟩) L.length cL∧ev t (.tmp 2)=.pointer (some ⟨w.next,0,none⟩)∧ev t (.tmp 5)=.pointer (some ⟨w2.next,0,none⟩)∧ev t (.tmp 8)=.slice (some ⟨w4.next,0,none⟩) 32 32∧ev t (.tmp 9)=.int .i64 (i:Int)∧ev t (.tmp 10)=.pointer (some ⟨w6.next,0,none⟩)) (w:=w10)
  case mainC =>
    intro go
    show CodeT _ _ _ _ _ _ _ _
    refine codeT_regX Tryz.x11r23_eq Tryz.x11r23_kinds ?_
    unfold Tryz.x11r23
    by_cases hq:i+1=L.length
    · have hqI:(i:Int)+1=(L.length:Int):=by omega
      simp -dsimp -implicitDefEqProofs (maxSteps:=2000000) (disch:=first|assumption|omega|(simp only [nx];omega)|((repeat refine Fresh.push ?_ _);assumption)|(simp only [smA];done)|(simp [oneCell,AW.next_push];done)|fail) only [go_sem,Nat.reduceEqDiff,reduceIte,Nat.reduceAdd,Tryz.results11,e1,e2,e5,e8,e9,e10,hqI]
      exact joinC_use go ⟨fun hn=>by omega,by (simp -dsimp -implicitDefEqProofs (maxSteps:=2000000) (disch:=first|assumption|omega|(simp only [nx];omega)|((repeat refine Fresh.push ?_ _);assumption)|(simp only [smA];done)|(simp [oneCell,AW.next_push];done)|fail) only [go_sem,Nat.reduceEqDiff,reduceIte,Nat.reduceAdd,e1];try rfl),by (simp -dsimp -implicitDefEqProofs (maxSteps:=2000000) (disch:=first|assumption|omega|(simp only [nx];omega)|((repeat refine Fresh.push ?_ _);assumption)|(simp only [smA];done)|(simp [oneCell,AW.next_push];done)|fail) only [go_sem,Nat.reduceEqDiff,reduceIte,Nat.reduceAdd,e2];try rfl),by (simp -dsimp -implicitDefEqProofs (maxSteps:=2000000) (disch:=first|assumption|omega|(simp only [nx];omega)|((repeat refine Fresh.push ?_ _);assumption)|(simp only [smA];done)|(simp [oneCell,AW.next_push];done)|fail) only [go_sem,Nat.reduceEqDiff,reduceIte,Nat.reduceAdd,e5];try rfl),by (simp -dsimp -implicitDefEqProofs (maxSteps:=2000000) (disch:=first|assumption|omega|(simp only [nx];omega)|((repeat refine Fresh.push ?_ _);assumption)|(simp only [smA];done)|(simp [oneCell,AW.next_push];done)|fail) only [go_sem,Nat.reduceEqDiff,reduceIte,Nat.reduceAdd,e8];try rfl),by (simp -dsimp -implicitDefEqProofs (maxSteps:=2000000) (disch:=first|assumption|omega|(simp only [nx];omega)|((repeat refine Fresh.push ?_ _);assumption)|(simp only [smA];done)|(simp [oneCell,AW.next_push];done)|fail) only [go_sem,Nat.reduceEqDiff,reduceIte,Nat.reduceAdd,e9];try rfl),by (simp -dsimp -implicitDefEqProofs (maxSteps:=2000000) (disch:=first|assumption|omega|(simp only [nx];omega)|((repeat refine Fresh.push ?_ _);assumption)|(simp only [smA];done)|(simp [oneCell,AW.next_push];done)|fail) only [go_sem,Nat.reduceEqDiff,reduceIte,Nat.reduceAdd,e10];try rfl)⟩
    · have hqI:¬ ((i+1:Nat):Int)=(L.length:Int):=by omega
      have hqL:((i+1:Nat):Int) < (L.length:Int):=by omega
      have hd:=hcells (by omega) w10 g10.1
      by_cases hdl:L[i].day < (L[i+1]'(by omega)).day
      · simp -dsimp -implicitDefEqProofs (maxSteps:=2000000) (disch:=first|assumption|omega|(simp only [nx];omega)|((repeat refine Fresh.push ?_ _);assumption)|(simp only [smA];done)|(simp [oneCell,AW.next_push];done)|fail) only [go_sem,Nat.reduceEqDiff,reduceIte,Nat.reduceAdd,Tryz.results11,e1,e2,e5,e8,e9,e10,hi1,hqI,hqL,indexV_eq,hd,k0,hdl,Nat.zero_add]
        exact joinC_use go ⟨fun hn=>hdl,by (simp -dsimp -implicitDefEqProofs (maxSteps:=2000000) (disch:=first|assumption|omega|(simp only [nx];omega)|((repeat refine Fresh.push ?_ _);assumption)|(simp only [smA];done)|(simp [oneCell,AW.next_push];done)|fail) only [go_sem,Nat.reduceEqDiff,reduceIte,Nat.reduceAdd,e1];try rfl),by (simp -dsimp -implicitDefEqProofs (maxSteps:=2000000) (disch:=first|assumption|omega|(simp only [nx];omega)|((repeat refine Fresh.push ?_ _);assumption)|(simp only [smA];done)|(simp [oneCell,AW.next_push];done)|fail) only [go_sem,Nat.reduceEqDiff,reduceIte,Nat.reduceAdd,e2];try rfl),by (simp -dsimp -implicitDefEqProofs (maxSteps:=2000000) (disch:=first|assumption|omega|(simp only [nx];omega)|((repeat refine Fresh.push ?_ _);assumption)|(simp only [smA];done)|(simp [oneCell,AW.next_push];done)|fail) only [go_sem,Nat.reduceEqDiff,reduceIte,Nat.reduceAdd,e5];try rfl),by (simp -dsimp -implicitDefEqProofs (maxSteps:=2000000) (disch:=first|assumption|omega|(simp only [nx];omega)|((repeat refine Fresh.push ?_ _);assumption)|(simp only [smA];done)|(simp [oneCell,AW.next_push];done)|fail) only [go_sem,Nat.reduceEqDiff,reduceIte,Nat.reduceAdd,e8];try rfl),by (simp -dsimp -implicitDefEqProofs (maxSteps:=2000000) (disch:=first|assumption|omega|(simp only [nx];omega)|((repeat refine Fresh.push ?_ _);assumption)|(simp only [smA];done)|(simp [oneCell,AW.next_push];done)|fail) only [go_sem,Nat.reduceEqDiff,reduceIte,Nat.reduceAdd,e9];try rfl),by (simp -dsimp -implicitDefEqProofs (maxSteps:=2000000) (disch:=first|assumption|omega|(simp only [nx];omega)|((repeat refine Fresh.push ?_ _);assumption)|(simp only [smA];done)|(simp [oneCell,AW.next_push];done)|fail) only [go_sem,Nat.reduceEqDiff,reduceIte,Nat.reduceAdd,e10];try rfl)⟩
      · simp -dsimp -implicitDefEqProofs (maxSteps:=2000000) (disch:=first|assumption|omega|(simp only [nx];omega)|((repeat refine Fresh.push ?_ _);assumption)|(simp only [smA];done)|(simp [oneCell,AW.next_push];done)|fail) only [go_sem,Nat.reduceEqDiff,reduceIte,Nat.reduceAdd,Tryz.results11,e1,e2,e5,e8,e9,e10,hi1,hqI,hqL,indexV_eq,hd,k0,hdl,Nat.zero_add]
        refine ⟨_,by omega,i+1,by omega,rfl,rfl,by (simp -dsimp -implicitDefEqProofs (maxSteps:=2000000) (disch:=first|assumption|omega|(simp only [nx];omega)|((repeat refine Fresh.push ?_ _);assumption)|(simp only [smA];done)|(simp [oneCell,AW.next_push];done)|fail) only [go_sem,Nat.reduceEqDiff,reduceIte,Nat.reduceAdd,e1];try rfl),by (simp -dsimp -implicitDefEqProofs (maxSteps:=2000000) (disch:=first|assumption|omega|(simp only [nx];omega)|((repeat refine Fresh.push ?_ _);assumption)|(simp only [smA];done)|(simp [oneCell,AW.next_push];done)|fail) only [go_sem,Nat.reduceEqDiff,reduceIte,Nat.reduceAdd,e2];try rfl),by (simp -dsimp -implicitDefEqProofs (maxSteps:=2000000) (disch:=first|assumption|omega|(simp only [nx];omega)|((repeat refine Fresh.push ?_ _);assumption)|(simp only [smA];done)|(simp [oneCell,AW.next_push];done)|fail) only [go_sem,Nat.reduceEqDiff,reduceIte,Nat.reduceAdd,e5];try rfl),by (simp -dsimp -implicitDefEqProofs (maxSteps:=2000000) (disch:=first|assumption|omega|(simp only [nx];omega)|((repeat refine Fresh.push ?_ _);assumption)|(simp only [smA];done)|(simp [oneCell,AW.next_push];done)|fail) only [go_sem,Nat.reduceEqDiff,reduceIte,Nat.reduceAdd,e8];try rfl),by (simp -dsimp -implicitDefEqProofs (maxSteps:=2000000) (disch:=first|assumption|omega|(simp only [nx];omega)|((repeat refine Fresh.push ?_ _);assumption)|(simp only [smA];done)|(simp [oneCell,AW.next_push];done)|fail) only [go_sem,Nat.reduceEqDiff,reduceIte,Nat.reduceAdd,e9];try rfl),O10,m510⟩
  case restC =>
  clear e1 e2 e5 e8 e9 e10 e11 e12 e13
  rintro t ⟨hlast,e1,e2,e5,e8,e9,e10⟩
  have hwa:=hwa hlast
  unfold Tryz.s11_c14
  simp -dsimp -implicitDefEqProofs (maxSteps:=2000000) (disch:=first|assumption|omega|(simp only [nx];omega)|((repeat refine Fresh.push ?_ _);assumption)|(simp only [smA];done)|(simp [oneCell,AW.next_push];done)|fail) only [go_sem,Nat.reduceEqDiff,reduceIte,Nat.reduceAdd,Tryz.results11,e1,e2,e5,e8,e9,e10]
  refine loopR (fun k t ds w11=>∃ j:Nat,j≤32∧k=32 - j∧ds=[]∧ev t (.tmp 1)=.slice (some ⟨b8,o8,none⟩) L.length cL∧ev t (.tmp 2)=.pointer (some ⟨w.next,0,none⟩)∧ev t (.tmp 5)=.pointer (some ⟨w2.next,0,none⟩)∧ev t (.tmp 8)=.slice (some ⟨w4.next,0,none⟩) 32 32∧ev t (.tmp 9)=.int .i64 (i:Int)∧ev t (.tmp 10)=.pointer (some ⟨w6.next,0,none⟩)∧ev t (.tmp 14)=.int .i64 (j:Int)∧Grown w10 w11) (32) ?_ ?_
  · refine ⟨0,by omega,by omega,rfl,?_,?_,?_,?_,?_,?_,?_,Grown.refl g10.2⟩ <;> simp -dsimp -implicitDefEqProofs (maxSteps:=2000000) (disch:=first|assumption|omega|(simp only [nx];omega)|((repeat refine Fresh.push ?_ _);assumption)|(simp only [smA];done)|(simp [oneCell,AW.next_push];done)|fail) only [go_sem,Nat.reduceEqDiff,reduceIte,Nat.reduceAdd,e1,e2,e5,e8,e9,e10] <;> rfl
  rintro k t ds w11 ⟨j,hij,rfl,rfl,e1,e2,e5,e8,e9,e10,e14,g11⟩
  have m511:=m510.trans (MutS.of g11) (Within.refl _ _)
  have O11:=O10.keep g11.1
  by_cases hj:(j:Int) < 32
  case neg =>
    simp -dsimp -implicitDefEqProofs (maxSteps:=2000000) (disch:=first|assumption|omega|(simp only [nx];omega)|((repeat refine Fresh.push ?_ _);assumption)|(simp only [smA];done)|(simp [oneCell,AW.next_push];done)|fail) only [go_sem,Nat.reduceEqDiff,reduceIte,Nat.reduceAdd,Tryz.results11,e1,e2,e5,e8,e9,e10,e14,hj]
    refine ⟨_,by omega,i+1,by omega,rfl,rfl,by (simp -dsimp -implicitDefEqProofs (maxSteps:=2000000) (disch:=first|assumption|omega|(simp only [nx];omega)|((repeat refine Fresh.push ?_ _);assumption)|(simp only [smA];done)|(simp [oneCell,AW.next_push];done)|fail) only [go_sem,Nat.reduceEqDiff,reduceIte,Nat.reduceAdd,e1];try rfl),by (simp -dsimp -implicitDefEqProofs (maxSteps:=2000000) (disch:=first|assumption|omega|(simp only [nx];omega)|((repeat refine Fresh.push ?_ _);assumption)|(simp only [smA];done)|(simp [oneCell,AW.next_push];done)|fail) only [go_sem,Nat.reduceEqDiff,reduceIte,Nat.reduceAdd,e2];try rfl),by (simp -dsimp -implicitDefEqProofs (maxSteps:=2000000) (disch:=first|assumption|omega|(simp only [nx];omega)|((repeat refine Fresh.push ?_ _);assumption)|(simp only [smA];done)|(simp [oneCell,AW.next_push];done)|fail) only [go_sem,Nat.reduceEqDiff,reduceIte,Nat.reduceAdd,e5];try rfl),by (simp -dsimp -implicitDefEqProofs (maxSteps:=2000000) (disch:=first|assumption|omega|(simp only [nx];omega)|((repeat refine Fresh.push ?_ _);assumption)|(simp only [smA];done)|(simp [oneCell,AW.next_push];done)|fail) only [go_sem,Nat.reduceEqDiff,reduceIte,Nat.reduceAdd,e8];try rfl),by (simp -dsimp -implicitDefEqProofs (maxSteps:=2000000) (disch:=first|assumption|omega|(simp only [nx];omega)|((repeat refine Fresh.push ?_ _);assumption)|(simp only [smA];done)|(simp [oneCell,AW.next_push];done)|fail) only [go_sem,Nat.reduceEqDiff,reduceIte,Nat.reduceAdd,e9];try rfl),O11,m511⟩
  have hj32:j < 32:=by omega
  have gg11:=g10.trans g11
  have O111:=(m511.own O15 (fun q=>by have:w.next=w4.next:=q;omega))
  have hl11:=hls w11 O111
  have O811:=O810.keep g11.1
  have k0:=O811.cell (o:=0) (v:=.int .i64 (L[i]).day) rfl rfl
  have hw11:=hwh j w11 gg11
  rw [hwa j hj32] at hw11
  simp only [Int.natCast_zero] at hw11
  simp -dsimp -implicitDefEqProofs (maxSteps:=2000000) (disch:=first|assumption|omega|(simp only [nx];omega)|((repeat refine Fresh.push ?_ _);assumption)|(simp only [smA];done)|(simp [oneCell,AW.next_push];done)|fail) only [go_sem,Nat.reduceEqDiff,reduceIte,Nat.reduceAdd,Tryz.results11,e1,e2,e5,e8,e9,e10,e14,hj,hl11,k0,hss,Nat.zero_add]
  apply callV_of (e:=rfl)
  · exact hw11
  rintro _ w12 ⟨rfl,g12⟩
  have O12b:=O11.keep g12.1
  have cJ:=O12b.icell (i:=j) (by rw [hrl1];exact hj32)
  rw [hra j hj32] at cJ
  have htw:same 12 (.tuple #[.int .i64 (((logOf (L.take (i+1))).bag j).room:Int),.int .i64 0]) (.tuple #[.int .i64 (((logOf (L.take (i+1))).bag j).room:Int),.int .i64 0])=true:=by simp [same,same.all,intEq_eq]
  simp -dsimp -implicitDefEqProofs (maxSteps:=2000000) (disch:=first|assumption|omega|(simp only [nx];omega)|((repeat refine Fresh.push ?_ _);assumption)|(simp only [smA];done)|(simp [oneCell,AW.next_push];done)|fail) only [go_sem,Nat.reduceEqDiff,reduceIte,Nat.reduceAdd,Tryz.results11,e1,e2,e5,e8,e9,e10,e14,hj,htw,cJ,indexV_eq,Nat.zero_add,Nat.mul_one]
  refine ⟨_,by omega,j+1,by omega,rfl,rfl,by (simp -dsimp -implicitDefEqProofs (maxSteps:=2000000) (disch:=first|assumption|omega|(simp only [nx];omega)|((repeat refine Fresh.push ?_ _);assumption)|(simp only [smA];done)|(simp [oneCell,AW.next_push];done)|fail) only [go_sem,Nat.reduceEqDiff,reduceIte,Nat.reduceAdd,e1];try rfl),by (simp -dsimp -implicitDefEqProofs (maxSteps:=2000000) (disch:=first|assumption|omega|(simp only [nx];omega)|((repeat refine Fresh.push ?_ _);assumption)|(simp only [smA];done)|(simp [oneCell,AW.next_push];done)|fail) only [go_sem,Nat.reduceEqDiff,reduceIte,Nat.reduceAdd,e2];try rfl),by (simp -dsimp -implicitDefEqProofs (maxSteps:=2000000) (disch:=first|assumption|omega|(simp only [nx];omega)|((repeat refine Fresh.push ?_ _);assumption)|(simp only [smA];done)|(simp [oneCell,AW.next_push];done)|fail) only [go_sem,Nat.reduceEqDiff,reduceIte,Nat.reduceAdd,e5];try rfl),by (simp -dsimp -implicitDefEqProofs (maxSteps:=2000000) (disch:=first|assumption|omega|(simp only [nx];omega)|((repeat refine Fresh.push ?_ _);assumption)|(simp only [smA];done)|(simp [oneCell,AW.next_push];done)|fail) only [go_sem,Nat.reduceEqDiff,reduceIte,Nat.reduceAdd,e8];try rfl),by (simp -dsimp -implicitDefEqProofs (maxSteps:=2000000) (disch:=first|assumption|omega|(simp only [nx];omega)|((repeat refine Fresh.push ?_ _);assumption)|(simp only [smA];done)|(simp [oneCell,AW.next_push];done)|fail) only [go_sem,Nat.reduceEqDiff,reduceIte,Nat.reduceAdd,e9];try rfl),by (simp -dsimp -implicitDefEqProofs (maxSteps:=2000000) (disch:=first|assumption|omega|(simp only [nx];omega)|((repeat refine Fresh.push ?_ _);assumption)|(simp only [smA];done)|(simp [oneCell,AW.next_push];done)|fail) only [go_sem,Nat.reduceEqDiff,reduceIte,Nat.reduceAdd,e10];try rfl),by (simp -dsimp -implicitDefEqProofs (maxSteps:=2000000) (disch:=first|assumption|omega|(simp only [nx];omega)|((repeat refine Fresh.push ?_ _);assumption)|(simp only [smA];done)|(simp [oneCell,AW.next_push];done)|fail) only [go_sem,Nat.reduceEqDiff,reduceIte,Nat.reduceAdd,e14];try rfl),(g11.trans g12)⟩
end Go.Proofs

namespace Go.Proofs
open Go Go.RowKit Go.Sim
set_option maxRecDepth 100000
def Tryz.s95:SC:=(.seq (.ops false [⟨⟨(some 4),.assign (.const (.int .i64 0)),3,"",⟨[]⟩,none⟩,none,false⟩]) (.seq (.ops false [⟨⟨(some 5),.move (.tmp 0),77,"",⟨[]⟩,none⟩,none,false⟩,⟨⟨(some 6),.call ⟨.value (.func 98),⟨[(.tmp 5)]⟩,⟨[77]⟩⟩,3,"",⟨[]⟩,none⟩,none,false⟩,⟨⟨(some 7),.move (.tmp 1),77,"",⟨[]⟩,none⟩,none,false⟩,⟨⟨(some 8),.call ⟨.value (.func 98),⟨[(.tmp 7)]⟩,⟨[77]⟩⟩,3,"",⟨[]⟩,none⟩,none,false⟩,⟨⟨(some 9),.call ⟨.value (.func 97),⟨[(.tmp 6),(.tmp 8)]⟩,⟨[3,3]⟩⟩,3,"",⟨[]⟩,none⟩,none,false⟩,⟨⟨(some 10),.move (.tmp 0),77,"",⟨[]⟩,none⟩,none,false⟩,⟨⟨(some 11),.move (.tmp 1),77,"",⟨[]⟩,none⟩,none,false⟩,⟨⟨(some 12),.call ⟨.value (.func 99),⟨[(.tmp 10),(.tmp 11)]⟩,⟨[77,77]⟩⟩,3,"",⟨[]⟩,none⟩,none,false⟩,⟨⟨(some 13),.buildSlice 24 2 ⟨[(0,(.tmp 9)),(1,(.tmp 12))]⟩,24,"",⟨[]⟩,none⟩,none,false⟩,⟨⟨(some 14),.call ⟨.value (.func 96),⟨[(.tmp 13)]⟩,⟨[24]⟩⟩,3,"",⟨[]⟩,none⟩,none,false⟩,⟨⟨(some 4),.assign (.tmp 14),3,"",⟨[]⟩,none⟩,none,false⟩]) .ret))
def Tryz.s96:SC:=(.seq (.ops false [⟨⟨(some 2),.assign (.const (.int .i64 0)),3,"",⟨[]⟩,none⟩,none,false⟩]) (.seq (.ops false [⟨⟨(some 3),.assign (.const (.int .i64 0)),3,"",⟨[]⟩,none⟩,none,false⟩]) (.seq (.seq (.ops false [⟨⟨(some 6),.move (.tmp 0),24,"",⟨[]⟩,none⟩,none,false⟩,⟨⟨(some 7),.call ⟨.builtin .len,⟨[(.tmp 6)]⟩,⟨[24]⟩⟩,3,"",⟨[]⟩,none⟩,none,false⟩,⟨⟨(some 8),.move (.const (.int .i64 0)),3,"",⟨[]⟩,none⟩,none,false⟩]) (.block 0 (.loop (.seq (.ops false [⟨⟨(some 9),.binOp .lss 3 (.tmp 8) (.tmp 7) 3,0,"",⟨[]⟩,none⟩,none,false⟩]) (.seq (.cond (.tmp 9) .skip (.exit 0)) (.seq (.block 1 (.seq (.ops false [⟨⟨(some 10),.indexAddr 24 (.tmp 6) (.tmp 8),0,"",⟨[]⟩,none⟩,none,false⟩,⟨⟨(some 11),.load 3 (.tmp 10),3,"",⟨[]⟩,none⟩,none,false⟩,⟨⟨(some 5),.assign (.tmp 11),3,"",⟨[]⟩,none⟩,none,false⟩]) (.seq (.ops false [⟨⟨(some 12),.move (.tmp 5),3,"",⟨[]⟩,none⟩,none,false⟩,⟨⟨(some 13),.move (.tmp 3),3,"",⟨[]⟩,none⟩,none,false⟩,⟨⟨(some 14),.binOp .neq 3 (.tmp 12) (.tmp 13) 3,4,"",⟨[]⟩,none⟩,none,false⟩]) (.cond (.tmp 14) (.seq (.ops false [⟨⟨(some 15),.move (.tmp 5),3,"",⟨[]⟩,none⟩,none,false⟩,⟨⟨(some 2),.assign (.tmp 15),3,"",⟨[]⟩,none⟩,none,false⟩]) .ret) .skip)))) (.ops false [⟨⟨(some 16),.binOp .add 3 (.tmp 8) (.const (.int .i64 1)) 3,3,"",⟨[]⟩,none⟩,none,false⟩,⟨⟨(some 8),.move (.tmp 16),3,"",⟨[]⟩,none⟩,none,false⟩]))))))) (.seq (.ops false [⟨⟨(some 17),.move (.tmp 3),3,"",⟨[]⟩,none⟩,none,false⟩,⟨⟨(some 2),.assign (.tmp 17),3,"",⟨[]⟩,none⟩,none,false⟩]) .ret))))
def Tryz.s97:SC:=(.seq (.ops false [⟨⟨(some 4),.assign (.const (.int .i64 0)),3,"",⟨[]⟩,none⟩,none,false⟩]) (.seq (.ops false [⟨⟨(some 7),.move (.tmp 0),3,"",⟨[]⟩,none⟩,none,false⟩,⟨⟨(some 8),.call ⟨.value (.func 117),⟨[(.tmp 7)]⟩,⟨[3]⟩⟩,4,"",⟨[]⟩,none⟩,none,false⟩,⟨⟨(some 5),.assign (.tmp 8),4,"",⟨[]⟩,none⟩,none,false⟩]) (.seq (.ops false [⟨⟨(some 9),.move (.tmp 1),3,"",⟨[]⟩,none⟩,none,false⟩,⟨⟨(some 10),.call ⟨.value (.func 117),⟨[(.tmp 9)]⟩,⟨[3]⟩⟩,4,"",⟨[]⟩,none⟩,none,false⟩,⟨⟨(some 6),.assign (.tmp 10),4,"",⟨[]⟩,none⟩,none,false⟩]) (.seq (.seq (.ops false [⟨⟨(some 11),.move (.tmp 5),4,"",⟨[]⟩,none⟩,none,false⟩]) (.cond (.tmp 11) (.seq (.seq (.ops false [⟨⟨(some 12),.move (.tmp 6),4,"",⟨[]⟩,none⟩,none,false⟩]) (.cond (.tmp 12) (.seq (.ops false [⟨⟨(some 4),.assign (.const (.int .i64 0)),3,"",⟨[]⟩,none⟩,none,false⟩]) .ret) .skip)) (.seq (.ops false [⟨⟨(some 4),.assign (.const (.int .i64 (-1))),3,"",⟨[]⟩,none⟩,none,false⟩]) .ret)) .skip)) (.seq (.seq (.ops false [⟨⟨(some 13),.move (.tmp 6),4,"",⟨[]⟩,none⟩,none,false⟩]) (.cond (.tmp 13) (.seq (.ops false [⟨⟨(some 4),.assign (.const (.int .i64 1)),3,"",⟨[]⟩,none⟩,none,false⟩]) .ret) .skip)) (.seq (.seq (.ops false [⟨⟨(some 14),.move (.tmp 0),3,"",⟨[]⟩,none⟩,none,false⟩,⟨⟨(some 15),.move (.tmp 1),3,"",⟨[]⟩,none⟩,none,false⟩,⟨⟨(some 16),.binOp .lss 3 (.tmp 14) (.tmp 15) 3,4,"",⟨[]⟩,none⟩,none,false⟩]) (.cond (.tmp 16) (.seq (.ops false [⟨⟨(some 4),.assign (.const (.int .i64 (-1))),3,"",⟨[]⟩,none⟩,none,false⟩]) .ret) .skip)) (.seq (.seq (.ops false [⟨⟨(some 17),.move (.tmp 0),3,"",⟨[]⟩,none⟩,none,false⟩,⟨⟨(some 18),.move (.tmp 1),3,"",⟨[]⟩,none⟩,none,false⟩,⟨⟨(some 19),.binOp .gtr 3 (.tmp 17) (.tmp 18) 3,4,"",⟨[]⟩,none⟩,none,false⟩]) (.cond (.tmp 19) (.seq (.ops false [⟨⟨(some 4),.assign (.const (.int .i64 1)),3,"",⟨[]⟩,none⟩,none,false⟩]) .ret) .skip)) (.seq (.ops false [⟨⟨(some 4),.assign (.const (.int .i64 0)),3,"",⟨[]⟩,none⟩,none,false⟩]) .ret))))))))
def Tryz.s99:SC:=(.seq (.ops false [⟨⟨(some 4),.assign (.const (.int .i64 0)),3,"",⟨[]⟩,none⟩,none,false⟩]) (.seq (.ops false [⟨⟨(some 7),.move (.tmp 0),77,"",⟨[]⟩,none⟩,none,false⟩,⟨⟨(some 8),.call ⟨.value (.func 119),⟨[(.tmp 7)]⟩,⟨[77]⟩⟩,4,"",⟨[]⟩,none⟩,none,false⟩,⟨⟨(some 5),.assign (.tmp 8),4,"",⟨[]⟩,none⟩,none,false⟩]) (.seq (.ops false [⟨⟨(some 9),.move (.tmp 1),77,"",⟨[]⟩,none⟩,none,false⟩,⟨⟨(some 10),.call ⟨.value (.func 119),⟨[(.tmp 9)]⟩,⟨[77]⟩⟩,4,"",⟨[]⟩,none⟩,none,false⟩,⟨⟨(some 6),.assign (.tmp 10),4,"",⟨[]⟩,none⟩,none,false⟩]) (.seq (.seq (.ops false [⟨⟨(some 11),.move (.tmp 5),4,"",⟨[]⟩,none⟩,none,false⟩]) (.cond (.tmp 11) (.seq (.seq (.ops false [⟨⟨(some 12),.move (.tmp 6),4,"",⟨[]⟩,none⟩,none,false⟩]) (.cond (.tmp 12) (.seq (.ops false [⟨⟨(some 4),.assign (.const (.int .i64 0)),3,"",⟨[]⟩,none⟩,none,false⟩]) .ret) .skip)) (.seq (.ops false [⟨⟨(some 4),.assign (.const (.int .i64 (-1))),3,"",⟨[]⟩,none⟩,none,false⟩]) .ret)) .skip)) (.seq (.seq (.ops false [⟨⟨(some 13),.move (.tmp 6),4,"",⟨[]⟩,none⟩,none,false⟩]) (.cond (.tmp 13) (.seq (.ops false [⟨⟨(some 4),.assign (.const (.int .i64 1)),3,"",⟨[]⟩,none⟩,none,false⟩]) .ret) .skip)) (.seq (.seq (.ops false [⟨⟨(some 14),.move (.tmp 0),77,"",⟨[]⟩,none⟩,none,false⟩,⟨⟨(some 15),.move (.tmp 1),77,"",⟨[]⟩,none⟩,none,false⟩,⟨⟨(some 16),.binOp .lss 77 (.tmp 14) (.tmp 15) 77,4,"",⟨[]⟩,none⟩,none,false⟩]) (.cond (.tmp 16) (.seq (.ops false [⟨⟨(some 4),.assign (.const (.int .i64 (-1))),3,"",⟨[]⟩,none⟩,none,false⟩]) .ret) .skip)) (.seq (.seq (.ops false [⟨⟨(some 17),.move (.tmp 0),77,"",⟨[]⟩,none⟩,none,false⟩,⟨⟨(some 18),.move (.tmp 1),77,"",⟨[]⟩,none⟩,none,false⟩,⟨⟨(some 19),.binOp .gtr 77 (.tmp 17) (.tmp 18) 77,4,"",⟨[]⟩,none⟩,none,false⟩]) (.cond (.tmp 19) (.seq (.ops false [⟨⟨(some 4),.assign (.const (.int .i64 1)),3,"",⟨[]⟩,none⟩,none,false⟩]) .ret) .skip)) (.seq (.ops false [⟨⟨(some 4),.assign (.const (.int .i64 0)),3,"",⟨[]⟩,none⟩,none,false⟩]) .ret))))))))
def Tryz.s117:SC:=(.seq (.ops false [⟨⟨(some 2),.assign (.const (.bool false)),4,"",⟨[]⟩,none⟩,none,false⟩]) (.seq (.ops false [⟨⟨(some 3),.move (.tmp 0),3,"",⟨[]⟩,none⟩,none,false⟩,⟨⟨(some 4),.move (.tmp 0),3,"",⟨[]⟩,none⟩,none,false⟩,⟨⟨(some 5),.binOp .neq 3 (.tmp 3) (.tmp 4) 3,4,"",⟨[]⟩,none⟩,none,false⟩,⟨⟨(some 2),.assign (.tmp 5),4,"",⟨[]⟩,none⟩,none,false⟩]) .ret))
def Tryz.s119:SC:=(.seq (.ops false [⟨⟨(some 2),.assign (.const (.bool false)),4,"",⟨[]⟩,none⟩,none,false⟩]) (.seq (.ops false [⟨⟨(some 3),.move (.tmp 0),77,"",⟨[]⟩,none⟩,none,false⟩,⟨⟨(some 4),.move (.tmp 0),77,"",⟨[]⟩,none⟩,none,false⟩,⟨⟨(some 5),.binOp .neq 77 (.tmp 3) (.tmp 4) 77,4,"",⟨[]⟩,none⟩,none,false⟩,⟨⟨(some 2),.assign (.tmp 5),4,"",⟨[]⟩,none⟩,none,false⟩]) .ret))
theorem Tryz.s95_eq:Tryz.f95.body.map sOf=some Tryz.s95:=by kernel_rfl
theorem Tryz.s96_eq:Tryz.f96.body.map sOf=some Tryz.s96:=by kernel_rfl
theorem Tryz.s97_eq:Tryz.f97.body.map sOf=some Tryz.s97:=by kernel_rfl
theorem Tryz.s99_eq:Tryz.f99.body.map sOf=some Tryz.s99:=by kernel_rfl
theorem Tryz.s117_eq:Tryz.f117.body.map sOf=some Tryz.s117:=by kernel_rfl
theorem Tryz.s119_eq:Tryz.f119.body.map sOf=some Tryz.s119:=by kernel_rfl
end Go.Proofs

namespace Go.Sim
open Go Go.RowKit
theorem calls_flat {P:Program} (hP:Fit P) (hfol:P.follows .mixedOrders=true) {told:ToldF} (ht:∀ N,ToldOk P N told) {f:FuncId} {l:List Value} {v:Value} (hno:told f (l.toArray++#[]) .empty=none) (hl:flat.flats 6 l=true) (hv:flat 6 v=true)
    (h:CallT P told (.fn (.func f) #[]) l.toArray .empty fun u _=>u=v) (W:World):Calls P f l.toArray W fun e W'=>e=.returned v∧BelowD W.heap.size W W':=by
  obtain ⟨N,u,w1,hh,rfl⟩:=h
  have h1:=hh N (N+1) (Nat.le_refl _) (by omega)
  have hno':told f l.toArray .empty=none:=by simpa using hno
  simp only [acall,Array.append_empty,hno'] at h1
  intro cs
  have ha:ARel (fun _=>none) l.toArray l.toArray:=ARel.iff.2 (by simpa using flats_self (flat_self 6) hl _)
  obtain ⟨σ',v',W',fr,s,hf,hlv,e,r⟩:=enter_leaves hP hfol (call_ok hP hfol (ht W.heap.size) N) (call_pan hP hfol (ht W.heap.size) N) h1 cs (WRel.empty W) (args':=l.toArray) ha
  have:=flat_eq 6 u hv σ' v' r
  subst this
  exact ⟨.returned v',W',fr,⟨rfl,e.below⟩,s,hf,hlv⟩
theorem grown_of {W W':World} (h:BelowD W.heap.size W W'):∃ q os,W'=Go.Sort.grow (W.drewN q) os:=by
  obtain ⟨⟨h1,h2,h3,h4,h5⟩,h6⟩:=h
  refine ⟨W'.drawn - W.drawn,W'.heap.extract W.heap.size W'.heap.size,?_⟩
  obtain ⟨hp,tp,dr,os,out⟩:=W
  obtain ⟨hp',tp',dr',os',out'⟩:=W'
  simp only at *
  subst h1 h2 h3
  have e1:hp'=hp++hp'.extract hp.size hp'.size:=by
    apply Array.ext_getElem?
    intro k
    rw [Array.getElem?_append]
    split
    · rename_i hk
      exact h5 k hk
    · rename_i hk
      rw [Array.getElem?_extract]
      split
      · congr 1;omega
      · rename_i hk2
        rw [Array.getElem?_eq_none (by omega)]
  have e2:dr+(dr' - dr)=dr':=by omega
  simp only [Go.Sort.grow,World.drewN,← e1,e2]
end Go.Sim

namespace Go.Proofs
open Go Go.RowKit Go.Sim
set_option maxRecDepth 100000
def Tryz.T0c:ToldF:=toldTab Tryz.lenTab (toldTab Tryz.popTab (toldTrue 21 fun _ _ _=>none))
def cmpI (a b:Int):Int:=if a < b then -1 else if b < a then 1 else 0
theorem isNaN_ok (x:Int) (w:AW):CallT Tryz.prog Tryz.T0c (.fn (.func 117) #[]) #[.int .i64 x] w (Ret (.bool false) fun w'=>w=w'):=by
  have d1:decide (x=x)=true:=decide_eq_true rfl
  refine callT_code rfl Tryz.func117 rfl Tryz.s117_eq rfl ?_
  unfold Tryz.s117
  simp -dsimp -implicitDefEqProofs (maxSteps:=2000000) (disch:=first|assumption|omega|(simp only [nx];omega)|((repeat refine Fresh.push ?_ _);assumption)|(simp only [smA];done)|(simp [oneCell,AW.next_push];done)|fail) only [go_sem,Nat.reduceEqDiff,reduceIte,Nat.reduceAdd,Tryz.results117,d1]
  exact ⟨rfl,rfl⟩
theorem isNaNP_ok (x:Int) (w:AW):CallT Tryz.prog Tryz.T0c (.fn (.func 119) #[]) #[.int .i64 x] w (Ret (.bool false) fun w'=>w=w'):=by
  have d1:decide (x=x)=true:=decide_eq_true rfl
  refine callT_code rfl Tryz.func119 rfl Tryz.s119_eq rfl ?_
  unfold Tryz.s119
  simp -dsimp -implicitDefEqProofs (maxSteps:=2000000) (disch:=first|assumption|omega|(simp only [nx];omega)|((repeat refine Fresh.push ?_ _);assumption)|(simp only [smA];done)|(simp [oneCell,AW.next_push];done)|fail) only [go_sem,Nat.reduceEqDiff,reduceIte,Nat.reduceAdd,Tryz.results119,d1]
  exact ⟨rfl,rfl⟩
theorem compare_ok (a b:Int) (w:AW):CallT Tryz.prog Tryz.T0c (.fn (.func 97) #[]) #[.int .i64 a,.int .i64 b] w (Ret (.int .i64 (cmpI a b)) fun w'=>w=w'):=by
  refine callT_code rfl Tryz.func97 rfl Tryz.s97_eq rfl ?_
  unfold Tryz.s97
  simp -dsimp -implicitDefEqProofs (maxSteps:=2000000) (disch:=first|assumption|omega|(simp only [nx];omega)|((repeat refine Fresh.push ?_ _);assumption)|(simp only [smA];done)|(simp [oneCell,AW.next_push];done)|fail) only [go_sem,Nat.reduceEqDiff,reduceIte,Nat.reduceAdd,Tryz.results97]
  apply callV_of (e:=rfl)
  · exact isNaN_ok _ w
  rintro _ _ ⟨rfl,rfl⟩
  simp -dsimp -implicitDefEqProofs (maxSteps:=2000000) (disch:=first|assumption|omega|(simp only [nx];omega)|((repeat refine Fresh.push ?_ _);assumption)|(simp only [smA];done)|(simp [oneCell,AW.next_push];done)|fail) only [go_sem,Nat.reduceEqDiff,reduceIte,Nat.reduceAdd,Tryz.results97]
  apply callV_of (e:=rfl)
  · exact isNaN_ok _ w
  rintro _ _ ⟨rfl,rfl⟩
  by_cases h1:a < b
  · simp -dsimp -implicitDefEqProofs (maxSteps:=2000000) (disch:=first|assumption|omega|(simp only [nx];omega)|((repeat refine Fresh.push ?_ _);assumption)|(simp only [smA];done)|(simp [oneCell,AW.next_push];done)|fail) only [go_sem,Nat.reduceEqDiff,reduceIte,Nat.reduceAdd,Tryz.results97,h1]
    exact ⟨by unfold cmpI;rw [if_pos h1],rfl⟩
  by_cases h2:b < a
  · have h2':a > b:=h2
    simp -dsimp -implicitDefEqProofs (maxSteps:=2000000) (disch:=first|assumption|omega|(simp only [nx];omega)|((repeat refine Fresh.push ?_ _);assumption)|(simp only [smA];done)|(simp [oneCell,AW.next_push];done)|fail) only [go_sem,Nat.reduceEqDiff,reduceIte,Nat.reduceAdd,Tryz.results97,h1,h2,h2']
    exact ⟨by unfold cmpI;rw [if_neg h1,if_pos h2],rfl⟩
  · have h2':¬ a > b:=h2
    simp -dsimp -implicitDefEqProofs (maxSteps:=2000000) (disch:=first|assumption|omega|(simp only [nx];omega)|((repeat refine Fresh.push ?_ _);assumption)|(simp only [smA];done)|(simp [oneCell,AW.next_push];done)|fail) only [go_sem,Nat.reduceEqDiff,reduceIte,Nat.reduceAdd,Tryz.results97,h1,h2,h2']
    exact ⟨by unfold cmpI;rw [if_neg h1,if_neg h2],rfl⟩
theorem compareP_ok (a b:Int) (w:AW):CallT Tryz.prog Tryz.T0c (.fn (.func 99) #[]) #[.int .i64 a,.int .i64 b] w (Ret (.int .i64 (cmpI a b)) fun w'=>w=w'):=by
  refine callT_code rfl Tryz.func99 rfl Tryz.s99_eq rfl ?_
  unfold Tryz.s99
  simp -dsimp -implicitDefEqProofs (maxSteps:=2000000) (disch:=first|assumption|omega|(simp only [nx];omega)|((repeat refine Fresh.push ?_ _);assumption)|(simp only [smA];done)|(simp [oneCell,AW.next_push];done)|fail) only [go_sem,Nat.reduceEqDiff,reduceIte,Nat.reduceAdd,Tryz.results99]
  apply callV_of (e:=rfl)
  · exact isNaNP_ok _ w
  rintro _ _ ⟨rfl,rfl⟩
  simp -dsimp -implicitDefEqProofs (maxSteps:=2000000) (disch:=first|assumption|omega|(simp only [nx];omega)|((repeat refine Fresh.push ?_ _);assumption)|(simp only [smA];done)|(simp [oneCell,AW.next_push];done)|fail) only [go_sem,Nat.reduceEqDiff,reduceIte,Nat.reduceAdd,Tryz.results99]
  apply callV_of (e:=rfl)
  · exact isNaNP_ok _ w
  rintro _ _ ⟨rfl,rfl⟩
  by_cases h1:a < b
  · simp -dsimp -implicitDefEqProofs (maxSteps:=2000000) (disch:=first|assumption|omega|(simp only [nx];omega)|((repeat refine Fresh.push ?_ _);assumption)|(simp only [smA];done)|(simp [oneCell,AW.next_push];done)|fail) only [go_sem,Nat.reduceEqDiff,reduceIte,Nat.reduceAdd,Tryz.results99,h1]
    exact ⟨by unfold cmpI;rw [if_pos h1],rfl⟩
  by_cases h2:b < a
  · have h2':a > b:=h2
    simp -dsimp -implicitDefEqProofs (maxSteps:=2000000) (disch:=first|assumption|omega|(simp only [nx];omega)|((repeat refine Fresh.push ?_ _);assumption)|(simp only [smA];done)|(simp [oneCell,AW.next_push];done)|fail) only [go_sem,Nat.reduceEqDiff,reduceIte,Nat.reduceAdd,Tryz.results99,h1,h2,h2']
    exact ⟨by unfold cmpI;rw [if_neg h1,if_pos h2],rfl⟩
  · have h2':¬ a > b:=h2
    simp -dsimp -implicitDefEqProofs (maxSteps:=2000000) (disch:=first|assumption|omega|(simp only [nx];omega)|((repeat refine Fresh.push ?_ _);assumption)|(simp only [smA];done)|(simp [oneCell,AW.next_push];done)|fail) only [go_sem,Nat.reduceEqDiff,reduceIte,Nat.reduceAdd,Tryz.results99,h1,h2,h2']
    exact ⟨by unfold cmpI;rw [if_neg h1,if_neg h2],rfl⟩
theorem sizeT_ok (x:Nat) (h:x < 64) (w:AW):CallT Tryz.prog Tryz.T0c (.fn (.func 98) #[]) #[.int .i64 (x:Int)] w (Ret (.int .i64 (popN x:Int)) fun w'=>w=w'):=by
  refine callT_told (v:=.int .i64 (popN x:Int)) (w':=w) ?_ ⟨rfl,rfl⟩
  show (match tabArg Tryz.popTab [.int Tryz.popTab.k (x:Int)] with|some x=>some (Tryz.popTab.g x,w)|none=>none)=_
  rw [tabArg_at (s:=Tryz.popTab) (.inl rfl) h]
  rfl
def orI (a b:Int):Int:=if a=0 then b else a
theorem or_ok (a b:Int) (bk:Nat) (w:AW) (h:Own w bk 3 [.int .i64 a,.int .i64 b]):CallT Tryz.prog Tryz.T0c (.fn (.func 96) #[]) #[.slice (some ⟨bk,0,none⟩) 2 2] w (Ret (.int .i64 (orI a b)) fun w'=>w=w'):=by
  have c0:=h.cell (o:=0) rfl rfl
  have c1:=h.cell (o:=1) rfl rfl
  refine callT_code rfl Tryz.func96 rfl Tryz.s96_eq rfl ?_
  unfold Tryz.s96
  simp -dsimp -implicitDefEqProofs (maxSteps:=2000000) (disch:=first|assumption|omega|(simp only [nx];omega)|((repeat refine Fresh.push ?_ _);assumption)|(simp only [smA];done)|(simp [oneCell,AW.next_push];done)|fail) only [go_sem,Nat.reduceEqDiff,reduceIte,Nat.reduceAdd,Tryz.results96]
  refine loopR (fun k t ds w1=>∃ i:Nat,i≤2∧k=2 - i∧ds=[]∧ev t (.tmp 3)=.int .i64 0∧ev t (.tmp 6)=.slice (some ⟨bk,0,none⟩) 2 2∧ev t (.tmp 7)=.int .i64 2∧ev t (.tmp 8)=.int .i64 (i:Int)∧(1≤i→a=0)∧(2≤i→b=0)∧w=w1) (2) ?_ ?_
  · refine ⟨0,by omega,by omega,rfl,?_,?_,?_,?_,fun h=>by omega,fun h=>by omega,rfl⟩ <;> simp -dsimp -implicitDefEqProofs (maxSteps:=2000000) (disch:=first|assumption|omega|(simp only [nx];omega)|((repeat refine Fresh.push ?_ _);assumption)|(simp only [smA];done)|(simp [oneCell,AW.next_push];done)|fail) only [go_sem,Nat.reduceEqDiff,reduceIte,Nat.reduceAdd] <;> rfl
  rintro k t ds w1 ⟨i,hii,rfl,rfl,e3,e6,e7,e8,hz,hw⟩
  obtain ⟨hz2,rfl⟩:=hw
  rcases Nat.lt_or_ge i 2 with hlt|hge
  case inr =>
    obtain rfl:i=2:=by omega
    have hlI:¬ ((2:Nat):Int) < 2:=by omega
    have ha:=hz (by omega)
    have hb:=hz2 (by omega)
    simp -dsimp -implicitDefEqProofs (maxSteps:=2000000) (disch:=first|assumption|omega|(simp only [nx];omega)|((repeat refine Fresh.push ?_ _);assumption)|(simp only [smA];done)|(simp [oneCell,AW.next_push];done)|fail) only [go_sem,Nat.reduceEqDiff,reduceIte,Nat.reduceAdd,Tryz.results96,e3,e6,e7,e8,hlI]
    exact ⟨by rw [ha,hb];rfl,rfl⟩
  have hlI:(i:Int) < 2:=by omega
  have hl0:(i:Int) < ((2:Nat):Int):=by omega
  obtain ⟨v,hv⟩:∃ v,v=if i=0 then a else b:=⟨_,rfl⟩
  have ci:w.cell? ⟨bk,i,none⟩=some (.int .i64 v):=by
    rw [hv]
    rcases Nat.eq_zero_or_pos i with h0|h0
    · rw [if_pos h0,h0];exact c0
    · obtain h1:i=1:=by omega
      rw [if_neg (by omega),h1];exact c1
  by_cases h0:v=0
  · have hd:decide (v=0)=true:=decide_eq_true h0
    simp -dsimp -implicitDefEqProofs (maxSteps:=2000000) (disch:=first|assumption|omega|(simp only [nx];omega)|((repeat refine Fresh.push ?_ _);assumption)|(simp only [smA];done)|(simp [oneCell,AW.next_push];done)|fail) only [go_sem,Nat.reduceEqDiff,reduceIte,Nat.reduceAdd,Tryz.results96,e3,e6,e7,e8,hlI,hl0,indexV_eq,Nat.zero_add,Nat.mul_one,ci,hd]
    have n1:1≤i+1→a=0:=fun _=>by
      rcases Nat.eq_zero_or_pos i with q|q
      · rw [if_pos q] at hv;omega
      · exact hz q
    have n2:2≤i+1→b=0:=fun _=>by
      rw [if_neg (by omega)] at hv;omega
    refine ⟨_,by omega,i+1,by omega,rfl,rfl,by (simp -dsimp -implicitDefEqProofs (maxSteps:=2000000) (disch:=first|assumption|omega|(simp only [nx];omega)|((repeat refine Fresh.push ?_ _);assumption)|(simp only [smA];done)|(simp [oneCell,AW.next_push];done)|fail) only [go_sem,Nat.reduceEqDiff,reduceIte,Nat.reduceAdd,e3];try rfl),by (simp -dsimp -implicitDefEqProofs (maxSteps:=2000000) (disch:=first|assumption|omega|(simp only [nx];omega)|((repeat refine Fresh.push ?_ _);assumption)|(simp only [smA];done)|(simp [oneCell,AW.next_push];done)|fail) only [go_sem,Nat.reduceEqDiff,reduceIte,Nat.reduceAdd,e6];try rfl),by (simp -dsimp -implicitDefEqProofs (maxSteps:=2000000) (disch:=first|assumption|omega|(simp only [nx];omega)|((repeat refine Fresh.push ?_ _);assumption)|(simp only [smA];done)|(simp [oneCell,AW.next_push];done)|fail) only [go_sem,Nat.reduceEqDiff,reduceIte,Nat.reduceAdd,e7];try rfl),by (simp -dsimp -implicitDefEqProofs (maxSteps:=2000000) (disch:=first|assumption|omega|(simp only [nx];omega)|((repeat refine Fresh.push ?_ _);assumption)|(simp only [smA];done)|(simp [oneCell,AW.next_push];done)|fail) only [go_sem,Nat.reduceEqDiff,reduceIte,Nat.reduceAdd,e8];try rfl),n1,n2,rfl⟩
  · have hd:decide (v=0)=false:=decide_eq_false h0
    simp -dsimp -implicitDefEqProofs (maxSteps:=2000000) (disch:=first|assumption|omega|(simp only [nx];omega)|((repeat refine Fresh.push ?_ _);assumption)|(simp only [smA];done)|(simp [oneCell,AW.next_push];done)|fail) only [go_sem,Nat.reduceEqDiff,reduceIte,Nat.reduceAdd,Tryz.results96,e3,e6,e7,e8,hlI,hl0,indexV_eq,Nat.zero_add,Nat.mul_one,ci,hd]
    refine ⟨?_,rfl⟩
    unfold orI
    rcases Nat.eq_zero_or_pos i with q|q
    · rw [if_pos q] at hv;rw [if_neg (by omega),hv]
    · rw [if_neg (by omega)] at hv;rw [if_pos (hz q),hv]
theorem Tryz.bs24x2 (t:Tmps) (l:List (Nat × Operand)):makes (prg Tryz.prog) t (.buildSlice 24 2 ⟨l⟩)=bsQ 3 2 1 [.int .i64 0,.int .i64 0] (l.map fun p=>(p.1,ev t p.2)):=makes_bs Tryz.ty24 Tryz.ty3 rfl (by kernel_rfl)
theorem cmpN_is (x y:Nat):orI (cmpI (popN x:Int) (popN y:Int)) (cmpI (x:Int) (y:Int))=cmpN x y:=by
  unfold orI cmpI cmpN
  repeat' split
  all_goals omega
theorem cmpSets_ok (x y:Nat) (hx:x < 64) (hy:y < 64) (w:AW) (f:Fresh w):CallT Tryz.prog Tryz.T0c (.fn (.func 95) #[]) #[.int .i64 (x:Int),.int .i64 (y:Int)] w fun v _=>v=.int .i64 (cmpN x y):=by
  refine callT_code rfl Tryz.func95 rfl Tryz.s95_eq rfl ?_
  unfold Tryz.s95
  simp -dsimp -implicitDefEqProofs (maxSteps:=2000000) (disch:=first|assumption|omega|(simp only [nx];omega)|((repeat refine Fresh.push ?_ _);assumption)|(simp only [smA];done)|(simp [oneCell,AW.next_push];done)|fail) only [go_sem,Nat.reduceEqDiff,reduceIte,Nat.reduceAdd,Tryz.results95]
  apply callV_of (e:=rfl)
  · exact sizeT_ok x hx w
  rintro _ _ ⟨rfl,rfl⟩
  simp -dsimp -implicitDefEqProofs (maxSteps:=2000000) (disch:=first|assumption|omega|(simp only [nx];omega)|((repeat refine Fresh.push ?_ _);assumption)|(simp only [smA];done)|(simp [oneCell,AW.next_push];done)|fail) only [go_sem,Nat.reduceEqDiff,reduceIte,Nat.reduceAdd,Tryz.results95]
  apply callV_of (e:=rfl)
  · exact sizeT_ok y hy w
  rintro _ _ ⟨rfl,rfl⟩
  simp -dsimp -implicitDefEqProofs (maxSteps:=2000000) (disch:=first|assumption|omega|(simp only [nx];omega)|((repeat refine Fresh.push ?_ _);assumption)|(simp only [smA];done)|(simp [oneCell,AW.next_push];done)|fail) only [go_sem,Nat.reduceEqDiff,reduceIte,Nat.reduceAdd,Tryz.results95]
  apply callV_of (e:=rfl)
  · exact compare_ok _ _ w
  rintro _ _ ⟨rfl,rfl⟩
  simp -dsimp -implicitDefEqProofs (maxSteps:=2000000) (disch:=first|assumption|omega|(simp only [nx];omega)|((repeat refine Fresh.push ?_ _);assumption)|(simp only [smA];done)|(simp [oneCell,AW.next_push];done)|fail) only [go_sem,Nat.reduceEqDiff,reduceIte,Nat.reduceAdd,Tryz.results95]
  apply callV_of (e:=rfl)
  · exact compareP_ok _ _ w
  rintro _ _ ⟨rfl,rfl⟩
  simp -dsimp -implicitDefEqProofs (maxSteps:=2000000) (disch:=first|assumption|omega|(simp only [nx];omega)|((repeat refine Fresh.push ?_ _);assumption)|(simp only [smA];done)|(simp [oneCell,AW.next_push];done)|fail) only [go_sem,Nat.reduceEqDiff,reduceIte,Nat.reduceAdd,Tryz.results95,Tryz.bs24x2,bsQ_21]
  apply callV_of (e:=rfl)
  · exact or_ok _ _ w.next _ (Own.new f 3 [.int .i64 (cmpI (popN x:Int) (popN y:Int)),.int .i64 (cmpI (x:Int) (y:Int))])
  rintro _ _ ⟨rfl,rfl⟩
  simp -dsimp -implicitDefEqProofs (maxSteps:=2000000) (disch:=first|assumption|omega|(simp only [nx];omega)|((repeat refine Fresh.push ?_ _);assumption)|(simp only [smA];done)|(simp [oneCell,AW.next_push];done)|fail) only [go_sem,Nat.reduceEqDiff,reduceIte,Nat.reduceAdd,Tryz.results95]
  rw [cmpN_is]
end Go.Proofs

namespace Go.Sim
open Go Go.RowKit
variable {P:Program} {N F:Nat}
inductive GDat where
  | flat (v:Value)
  | sl (n c:Nat) (cells:List GDat)
  | agg (ds:List GDat)
def matchCells (m:GDat→Value→Bool) (w:AW) (b:Nat):List GDat→Nat→Bool
  | [],_=>true
  | d :: l,o=>match w.cell? ⟨b,o,none⟩ with
    | some u=>m d u && matchCells m w b l (o+1)
    | none=>false
def matchAll (m:GDat→Value→Bool):List GDat→List Value→Bool
  | [],[]=>true
  | d :: l,v :: r=>m d v && matchAll m l r
  | _,_=>false
def zeroZ (w:AW) (b:Nat):Bool :=
  match w.blk b with
  | some (.cells _ _ _ _ 0)|some (.given _)=>true
  | _=>false
def matchV (w:AW):Nat→GDat→Value→Bool
  | 0,_,_=>false
  | k+1,d,v=>match d,v with
    | .flat u,v=>flat 6 u && same 12 u v
    | .sl n c cells,.slice (some ⟨b,o,none⟩) n' c'=>Nat.beq n n' && Nat.beq c c' && Nat.blt 0 c && zeroZ w b && matchCells (matchV w k) w b cells o
    | .agg ds,.agg cs=>matchAll (matchV w k) ds cs.toList
    | _,_=>false
def giveAll (g:GDat→AW→Value × AW):List GDat→AW→List Value × AW
  | [],w=>([],w)
  | d :: l,w=>match g d w with
    | (u,w1)=>match giveAll g l w1 with
      | (us,w2)=>(u :: us,w2)
def giveV:Nat→GDat→AW→Value × AW
  | 0,_,w=>(undef,w)
  | k + 1,d,w=>match d with
    | .flat u=>(u,w)
    | .sl n c cells=>match giveAll (giveV k) cells w with
      | (us,w1)=>(.slice (some ⟨w1.next,0,none⟩) n c,w1.push (.given us))
    | .agg ds=>match giveAll (giveV k) ds w with
      | (us,w1)=>(.agg us.toArray,w1)
def GiveOk (W:World) (m:GDat→Value→Bool) (g:GDat→AW→Value × AW) (σ:Emb):Prop :=
  ∀ d v v',m d v=true→VRel σ v v'→∀ (σ0:Emb) (w0:AW),WRel W.heap.size σ0 w0 W→∃ σ1:Emb,σ0.le σ1∧WRel W.heap.size σ1 (g d w0).2 W∧VRel σ1 (g d w0).1 v'
theorem giveAll_ok {W:World} {m:GDat→Value→Bool} {g:GDat→AW→Value × AW} {σ:Emb} (h:GiveOk W m g σ):∀ (ds:List GDat) (vs vs':List Value),matchAll m ds vs=true→LRel σ vs vs'→∀ (σ0:Emb) (w0:AW),WRel W.heap.size σ0 w0 W →
    ∃ σ1:Emb,σ0.le σ1∧WRel W.heap.size σ1 (giveAll g ds w0).2 W∧LRel σ1 (giveAll g ds w0).1 vs'
  | [],[],vs',_,hr,σ0,w0,hw=>by
    cases hr
    exact ⟨σ0,.refl _,hw,.nil⟩
  | d :: l,v :: r,vs',hm,hr,σ0,w0,hw=>by
    cases hr with
    | cons h1 h2 =>
      simp only [matchAll,Bool.and_eq_true] at hm
      obtain ⟨σ1,a1,a2,a3⟩:=h d v _ hm.1 h1 σ0 w0 hw
      obtain ⟨σ2,b1,b2,b3⟩:=giveAll_ok h l r _ hm.2 h2 σ1 _ a2
      exact ⟨σ2,a1.trans b1,b2,.cons (a3.mono b1) b3⟩
  | [],_ :: _,_,h,_,_,_,_=>by simp [matchAll] at h
  | _ :: _,[],_,h,_,_,_,_=>by simp [matchAll] at h
theorem cells_list {W:World} {w:AW} {σ:Emb} {N:Nat} (hw:WRel N σ w W) {m:GDat→Value→Bool} {b:Nat} {x:Loc} (hb:σ b=some x):∀ (ds:List GDat) (o:Nat),matchCells m w b ds o=true →
    ∃ vs vs':List Value,matchAll m ds vs=true∧LRel σ vs vs'∧vs'.length=ds.length∧∀ (i:Nat) u,vs'[i]? = some u→W.cell? ⟨x.c,x.s+(o+i),none⟩=some u
  | [],o,_=>⟨[],[],rfl,.nil,rfl,fun i u h=>by simp at h⟩
  | d :: l,o,h=>by
    simp only [matchCells] at h
    split at h
    case h_2=>cases h
    rename_i u hu
    simp only [Bool.and_eq_true] at h
    obtain ⟨u',h1,h2,_⟩:=hw.cell hb hu
    obtain ⟨vs,vs',a1,a2,a3,a4⟩:=cells_list hw hb l (o+1) h.2
    refine ⟨u :: vs,u' :: vs',by simp only [matchAll,Bool.and_eq_true];exact ⟨h.1,a1⟩,.cons h2 a2,by simp [a3],fun i q hq=>?_⟩
    cases i with
    | zero=>simp at hq;subst hq;exact h1
    | succ i=>simp at hq;have:=a4 i q hq;rw [show o+(i+1)=o+1+i by omega];exact this
theorem give_ok {W:World} {w:AW} {σ:Emb} (hw:WRel N σ w W):∀ k,GiveOk W (matchV w k) (giveV k) σ
  | 0=>fun d v v' h=>by simp [matchV] at h
  | k + 1 => by
    have ih:=give_ok hw k
    intro d v v' hm hr σ0 w0 h0
    unfold matchV at hm
    split at hm
    · rename_i u
      simp only [Bool.and_eq_true] at hm
      have:=same_eq 12 _ _ hm.2
      subst this
      have e:=flat_eq 6 _ hm.1 σ v' hr
      subst e
      exact ⟨σ0,.refl _,h0,flat_self 6 _ hm.1 σ0⟩
    · rename_i n c cells b o n' c'
      simp only [Bool.and_eq_true] at hm
      obtain ⟨⟨⟨⟨h1,h2⟩,h5⟩,h3⟩,h4⟩:=hm
      obtain rfl:=Nat.eq_of_beq_eq_true h1
      obtain rfl:=Nat.eq_of_beq_eq_true h2
      have hzx:∀ x,σ b=some x→x.z=0:=by
        intro x hx
        obtain ⟨_,q,hq,hl,hb⟩:=hw.dom b x hx
        unfold zeroZ at h3
        rw [hq] at h3
        cases q with
        | cells c0 e0 r0 b0 z0 =>
          split at h3
          · rename_i e;injection e with e;injection e with _ _ _ _ e;subst e;exact hb.1
          · rename_i e;injection e with e;cases e
          · cases h3
        | given c0=>exact hl.1
        | _=>simp at h3
      cases hr with
      | slice hx hk hcap =>
        rename_i k' x
        have hz:=hzx x hx
        have hkk:k'=c:=by rcases hcap with q|q;exact q;omega
        subst hkk
        obtain ⟨vs,vs',b1,b2,b3,b4⟩:=cells_list hw hx cells o h4
        obtain ⟨σ1,a1,a2,a3⟩:=giveAll_ok ih cells vs vs' b1 b2 σ0 w0 h0
        simp only [giveV]
        have hlen:=a3.length
        refine ⟨σ1.with (giveAll (giveV k) cells w0).2.next ⟨x.c,x.s+o,0,0⟩,a1.trans (Emb.le_with a2.fresh _),WRel.give a2 _ _ rfl ?_ ?_,?_⟩
        · cases hv:(giveAll (giveV k) cells w0).1 with
          | nil=>exact .inl rfl
          | cons y ys =>
            right
            rw [hv] at hlen
            have h1:=b4 0 (vs'[0]'(by rw [← hlen];simp)) (by simp)
            obtain ⟨cc,ce,fr,q,_⟩:=cell_at h1
            rcases Nat.lt_or_ge x.c W.heap.size with q'|q'
            · exact q'
            · rw [Array.getElem?_eq_none q'] at q;cases q
        · intro i u hi hone
          obtain ⟨u',hu',r⟩:=a3.getSome hi
          obtain ⟨cc,ce,fr,q,q2⟩:=cell_at (b4 i u' hu')
          exact ⟨cc,ce,fr,u',q,by rw [show x.s+o+i=x.s+(o+i) by omega];exact q2,r⟩
        · exact VRel.slice (x:=⟨x.c,x.s+o,0,0⟩) (o:=0) (Emb.with_self _ _ _) (Nat.le_refl _) (.inl rfl)
      | tail hx a=>exact absurd (Nat.blt_eq.mp h5) (by omega)
    · rename_i ds cs
      cases hr with
      | agg ha hav =>
        rename_i cs'
        have hl:LRel σ cs.toList cs'.toList:=ARel.iff.1 (by exact ⟨ha,hav⟩)
        obtain ⟨σ1,a1,a2,a3⟩:=giveAll_ok ih ds cs.toList cs'.toList hm hl σ0 w0 h0
        exact ⟨σ1,a1,a2,VRel.agg_of (ARel.iff.2 (by simpa [giveV] using a3))⟩
    · cases hm
theorem calls_give (hP:Fit P) (hfol:P.follows .mixedOrders=true) {told:ToldF} (ht:∀ N,ToldOk P N told) {n k:Nat} {f:FuncId} {ds:List GDat} {v:Value} (hno:(told f ((giveAll (giveV k) ds .empty).1.toArray++#[]) (giveAll (giveV k) ds .empty).2).isNone=true) (hv:flat 6 v=true)
    (h:isVal (xcall (prg P) (xsOf (prg P)) told F (n+1) (.fn (.func f) #[]) (giveAll (giveV k) ds .empty).1 (giveAll (giveV k) ds .empty).2) v=true) {N:Nat} {σ:Emb} {w:AW} {W:World} (hw:WRel N σ w W) {args args':List Value} (hm:matchAll (matchV w k) ds args=true) (hr:LRel σ args args') :
    Calls P f args'.toArray W fun e W'=>e=.returned v∧BelowD W.heap.size W W':=by
  obtain ⟨σ0,_,g2,g3⟩:=giveAll_ok (give_ok hw k) ds args args' hm hr (fun _=>none) .empty (WRel.empty W)
  generalize (giveAll (giveV k) ds .empty).1=us at *
  generalize (giveAll (giveV k) ds .empty).2=w0 at *
  rw [xcall_eq hP.funcs] at h
  unfold isVal at h
  split at h
  case h_2=>cases h
  rename_i u w1 hr'
  have hu:=same_eq 12 _ _ h
  subst hu
  simp only [acall] at hr'
  rw [Option.isNone_iff_eq_none.mp hno] at hr'
  simp only [Array.append_empty] at hr'
  intro cs
  have ha:ARel σ0 us.toArray args'.toArray:=ARel.iff.2 (by simpa using g3)
  obtain ⟨σ',v',W',fr,s,hf,hlv,e,r⟩:=enter_leaves hP hfol (call_ok hP hfol (ht W.heap.size) n) (call_pan hP hfol (ht W.heap.size) n) hr' cs g2 (args':=args'.toArray) ha
  have:=flat_eq 6 v hv σ' v' r
  subst this
  exact ⟨.returned v',W',fr,⟨rfl,e.below⟩,s,hf,hlv⟩
structure GMemo where
  f:FuncId
  k:Nat
  ds:List GDat
  val:Value
def findG (f:FuncId) (args:List Value) (w:AW):List GMemo→Option Value
  | []=>none
  | m :: l=>match Nat.beq f m.f with
    | true=>match matchAll (matchV w m.k) m.ds args with
      | true=>some m.val
      | false=>findG f args w l
    | false=>findG f args w l
def toldGive (tab:List GMemo) (told:ToldF):ToldF:=fun f args w =>
  match findG f args.toList w tab with
  | some v=>some (v,w)
  | none=>told f args w
structure GMemoOk (P:Program) (m:GMemo):Prop where
  enters:∀ args w,(callFunc m.f args).run P w=.ok (.enter m.f args) w
  flatVal:flat 6 m.val=true
  calls:∀ (N:Nat) (σ:Emb) (w:AW) (W:World),WRel N σ w W→∀ args args',matchAll (matchV w m.k) m.ds args=true→LRel σ args args'→Calls P m.f args'.toArray W fun e W'=>e=.returned m.val∧BelowD W.heap.size W W'
inductive GMemosOk (P:Program):List GMemo→Prop where
  | nil:GMemosOk P []
  | cons {m:GMemo} {l:List GMemo} (h:GMemoOk P m) (t:GMemosOk P l):GMemosOk P (m :: l)
theorem findG_ok {f:FuncId} {args:List Value} {w:AW} {v:Value}:∀ {tab:List GMemo},GMemosOk P tab→findG f args w tab=some v→∃ m,GMemoOk P m∧m.f=f∧matchAll (matchV w m.k) m.ds args=true∧m.val=v
  | _,.nil,h=>by cases h
  | _, .cons hm ht,h=>by
    simp only [findG] at h
    split at h
    · rename_i hf
      split at h
      · rename_i hs
        injection h with h
        exact ⟨_,hm,(Nat.eq_of_beq_eq_true hf).symm,hs,h⟩
      · exact findG_ok ht h
    · exact findG_ok ht h
theorem toldGive_ok {tab:List GMemo} (hm:GMemosOk P tab) {told:ToldF} (ht:∀ N,ToldOk P N told) (N:Nat):ToldOk P N (toldGive tab told):=by
  intro f args w w1 v h σ W args0 cap c cs hw ha
  unfold toldGive at h
  split at h
  · rename_i u hu
    injection h with h;injection h with h1 h2
    subst h1 h2
    obtain ⟨m,hok,rfl,hargs,rfl⟩:=findG_ok hm hu
    have hc:=hok.calls N σ w W hw args.toList (args0++cap).toList hargs (ARel.iff.1 ha)
    rw [show (args0++cap).toList.toArray=args0++cap from rfl] at hc
    obtain ⟨W',d1,d2⟩:=delivers_calls hok.enters hc c cs
    exact ⟨σ,_,W',d1,hw.aside d2,flat_self 6 _ hok.flatVal σ⟩
  · exact ht N f args w w1 v h σ W args0 cap c cs hw ha
end Go.Sim

namespace Go.Proofs
open Go Go.Shelf Go.RowKit Go.Sim
set_option maxRecDepth 1000000
theorem Tryz.fits:Fit Tryz.prog:=fit_of (by decide +kernel)
theorem Tryz.mixed:Tryz.prog.follows .mixedOrders=true:=by decide +kernel
theorem Tryz.told0 (N:Nat):ToldOk Tryz.prog N (fun _ _ _=>none):=fun f args w w1 v h=>by cases h
end Go.Proofs
