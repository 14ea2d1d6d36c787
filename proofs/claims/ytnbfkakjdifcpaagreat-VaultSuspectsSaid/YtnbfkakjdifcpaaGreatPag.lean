/- This program: its code, contracts, numbers, part 7. -/
import Derived.Test.YtnbfkakjdifcpaaGreatPaa
import Derived.Test.YtnbfkakjdifcpaaGreatNa
import Derived.Test.YtnbfkakjdifcpaaGreatPaf
import Derived.Test.YtnbfkakjdifcpaaGreatPab
import Derived.Test.YtnbfkakjdifcpaaGreatCz
import Derived.Test.YtnbfkakjdifcpaaGreatNd
import Derived.Test.YtnbfkakjdifcpaaGreatNc
set_option linter.unusedVariables false
set_option linter.unusedSimpArgs false
namespace Go.Proofs
open Go Go.RowKit Go.Sim
set_option maxRecDepth 100000
def Tryz.s146:SC:=(.seq (.ops false [zo 4 (.move (zv 0)) 4,zo 5 (.unOp .not 4 (zv 4)) 4]) (.cond (.tmp 5) (.ops false [zo 6 (.move (zv 1)) 27,zo 7 (.makeInterface 27 (zv 6)) 20,zon (.panic (zv 7)) 0]) .skip))
def Tryz.s147:SC:=(.seq (.ops false [zo 4 (.box 62 (zv 1)) 0]) (.ops true [zt 6 (.move (zv 0)) 104,zt 7 (.nilCheck (zv 6)) 0,zt 8 (.fieldAddr 111 (zv 7) 0) 0,zt 9 (.load 26 (zv 8)) 26,zt 10 (.fieldAddr 62 (zv 4) 4) 0,zt 11 (.load 3 (zv 10)) 3,zt 12 (.binOp .shl 77 (zk 1) (zv 11) 3) 77,zt 13 (.fieldAddr 62 (zv 4) 5) 0,zt 14 (.load 3 (zv 13)) 3,zt 15 (.binOp .shl 77 (zk 1) (zv 14) 3) 77,zt 16 (.binOp .or 77 (zv 12) (zv 15) 77) 77,zt 17 (.move (zv 2)) 3,zt 18 (.binOp .shl 78 (zk 1) (zv 17) 3) 78,zo 19 (.call ⟨.value (.func 67),⟨[(zv 9),(zv 16),(zv 18)]⟩,⟨[26,77,78]⟩⟩) 4,zo 20 (.call ⟨.value (.func 146),⟨[(zv 19),(zk 45)]⟩,⟨[4,27]⟩⟩) 0]))
def Tryz.s148:SC:=(.seq (.ops false [zo 4 (.box 62 (zv 1)) 0,zo 5 (.box 47 (zv 2)) 0]) (.seq (.ops false [zo 8 (.fieldAddr 62 (zv 4) 3) 0,zo 9 (.load 3 (zv 8)) 3,zo 10 (.fieldAddr 47 (zv 5) 0) 0,zon (.store 3 (zv 10) (zv 9)) 0]) (.seq (.ops true [zt 11 (.move (zv 0)) 104,zt 12 (.nilCheck (zv 11)) 0,zt 13 (.fieldAddr 111 (zv 12) 0) 0,zt 14 (.fieldAddr 26 (zv 13) 0) 0,zt 15 (.load 22 (zv 14)) 22,zt 16 (.fieldAddr 62 (zv 4) 3) 0,zt 17 (.load 3 (zv 16)) 3,zt 18 (.indexAddr 22 (zv 15) (zv 17)) 0,zt 19 (.load 73 (zv 18)) 73,zt 6 (.alloc 73) 0,zon (.store 73 (zv 6) (zv 19)) 0]) (.seq (.ops false [zo 20 (.move (zv 0)) 104,zo 21 (.nilCheck (zv 20)) 0,zo 22 (.fieldAddr 111 (zv 21) 1) 0,zo 23 (.load 107 (zv 22)) 107,zo 7 (.alloc 107) 0,zon (.store 107 (zv 7) (zv 23)) 0]) (.seq (.ops false [zo 24 (.fieldAddr 62 (zv 4) 2) 0,zo 25 (.load 3 (zv 24)) 3,zo 26 (.load 47 (zv 5)) 47,zo 27 (.indexAddr 107 (zv 7) (zv 25)) 0,zon (.store 47 (zv 27) (zv 26)) 0]) (.seq (.ops true [zt 28 (.load 107 (zv 7)) 107,zt 29 (.move (zv 0)) 104,zt 30 (.nilCheck (zv 29)) 0,zt 31 (.fieldAddr 111 (zv 30) 1) 0,zt 32 (.load 107 (zv 31)) 107,zt 33 (.binOp .neq 107 (zv 28) (zv 32) 107) 4,zt 34 (.move (zv 33)) 4,zh 35 (.load 107 (zv 7)) 107 34 true,zh 36 (.fieldAddr 62 (zv 4) 3) 0 34 true,zh 37 (.load 3 (zv 36)) 3 34 true,zh 39 (.fieldAddr 73 (zv 6) 0) 0 34 true,zh 40 (.load 3 (zv 39)) 3 34 true,zh 38 (.call ⟨.value (.func 159),⟨[(zv 35),(zv 37)]⟩,⟨[107,3]⟩⟩) 3 34 true,zh 41 (.binOp .leq 3 (zv 38) (zv 40) 3) 4 34 true,zt 42 (.pick (zv 34) (zv 41) (.const (.bool false))) 4,zo 43 (.call ⟨.value (.func 146),⟨[(zv 42),(zk 46)]⟩,⟨[4,27]⟩⟩) 0]) (.seq (.ops false [zo 44 (.fieldAddr 47 (zv 5) 2) 0,zo 45 (.load 3 (zv 44)) 3,zo 46 (.fieldAddr 73 (zv 6) 1) 0,zo 47 (.load 3 (zv 46)) 3,zo 48 (.call ⟨.value (.func 160),⟨[(zv 45),(zv 47)]⟩,⟨[189,3]⟩⟩) 4,zo 49 (.call ⟨.value (.func 146),⟨[(zv 48),(zk 47)]⟩,⟨[4,27]⟩⟩) 0]) (.ops false [zo 50 (.move (zv 0)) 104,zo 51 (.load 107 (zv 7)) 107,zo 52 (.nilCheck (zv 50)) 0,zo 53 (.fieldAddr 111 (zv 52) 1) 0,zon (.store 107 (zv 53) (zv 51)) 0]))))))))
def Tryz.s149:SC:=(.seq (.ops false [zo 3 (.box 62 (zv 1)) 0]) (.seq (.ops true [zt 4 (.move (zv 0)) 104,zt 5 (.nilCheck (zv 4)) 0,zt 6 (.fieldAddr 111 (zv 5) 3) 0,zt 7 (.load 109 (zv 6)) 109,zt 8 (.fieldAddr 62 (zv 3) 6) 0,zt 9 (.load 3 (zv 8)) 3,zt 10 (.lookup 109 (zv 7) (zv 9) false) 4,zt 11 (.unOp .not 4 (zv 10)) 4,zo 12 (.call ⟨.value (.func 146),⟨[(zv 11),(zk 48)]⟩,⟨[4,27]⟩⟩) 0]) (.seq (.ops true [zt 13 (.move (zv 0)) 104,zt 14 (.nilCheck (zv 13)) 0,zt 15 (.fieldAddr 111 (zv 14) 3) 0,zt 16 (.load 109 (zv 15)) 109,zt 17 (.fieldAddr 62 (zv 3) 6) 0,zt 18 (.load 3 (zv 17)) 3,zon (.mapUpdate 109 (zv 16) (zv 18) (.const (.bool true))) 0]) (.seq (.ops true [zt 19 (.move (zv 0)) 104,zt 20 (.fieldAddr 62 (zv 3) 2) 0,zt 21 (.load 3 (zv 20)) 3,zt 22 (.fieldAddr 62 (zv 3) 6) 0,zt 23 (.load 3 (zv 22)) 3,zt 24 (.nilCheck (zv 19)) 0,zt 25 (.fieldAddr 111 (zv 24) 1) 0,zt 26 (.indexAddr 107 (zv 25) (zv 21)) 0,zt 27 (.fieldAddr 47 (zv 26) 1) 0,zon (.store 3 (zv 27) (zv 23)) 0]) (.ops false [zo 28 (.move (zv 0)) 104,zo 29 (.load 62 (zv 3)) 62,zo 30 (.call ⟨.value (.func 151),⟨[(zv 28),(zv 29)]⟩,⟨[104,62]⟩⟩) 0])))))
def Tryz.s150:SC:=(.seq (.ops false [zo 3 (.box 62 (zv 1)) 0]) (.seq (.ops true [zt 5 (.move (zv 0)) 104,zt 6 (.fieldAddr 62 (zv 3) 2) 0,zt 7 (.load 3 (zv 6)) 3,zt 8 (.nilCheck (zv 5)) 0,zt 9 (.fieldAddr 111 (zv 8) 1) 0,zt 10 (.indexAddr 107 (zv 9) (zv 7)) 0,zt 11 (.fieldAddr 47 (zv 10) 0) 0,zt 12 (.load 3 (zv 11)) 3,zt 4 (.assign (zv 12)) 3]) (.seq (.ops false [zo 13 (.move (zv 4)) 3,zo 14 (.binOp .neq 3 (zv 13) (zk 0) 3) 4,zo 15 (.call ⟨.value (.func 146),⟨[(zv 14),(zk 44)]⟩,⟨[4,27]⟩⟩) 0]) (.ops false [zo 16 (.move (zv 0)) 104,zo 17 (.load 62 (zv 3)) 62,zo 18 (.move (zv 4)) 3,zo 19 (.call ⟨.value (.func 147),⟨[(zv 16),(zv 17),(zv 18)]⟩,⟨[104,62,3]⟩⟩) 0]))))
def Tryz.s151:SC:=(.seq (.ops false [zo 3 (.box 62 (zv 1)) 0]) (.ops true [zt 4 (.move (zv 0)) 104,zt 5 (.fieldAddr 62 (zv 3) 2) 0,zt 6 (.load 3 (zv 5)) 3,zt 7 (.move (zv 0)) 104,zt 8 (.fieldAddr 62 (zv 3) 2) 0,zt 9 (.load 3 (zv 8)) 3,zt 10 (.nilCheck (zv 7)) 0,zt 11 (.fieldAddr 111 (zv 10) 1) 0,zt 12 (.indexAddr 107 (zv 11) (zv 9)) 0,zt 13 (.fieldAddr 47 (zv 12) 0) 0,zt 14 (.load 3 (zv 13)) 3,zt 15 (.binOp .shl 78 (zk 1) (zv 14) 3) 78,zt 16 (.nilCheck (zv 4)) 0,zt 17 (.fieldAddr 111 (zv 16) 2) 0,zt 18 (.indexAddr 108 (zv 17) (zv 6)) 0,zon (.store 78 (zv 18) (zv 15)) 0]))
def Tryz.s159:SC:=(.seq (.ops false [zo 2 (.box 107 (zv 0)) 0,zo 4 (.assign (zk 0)) 3]) (.seq (.ops false [zo 5 (.assign (zk 0)) 3]) (.seq (.seq (.ops false [zo 8 (.load 107 (zv 2)) 107,zo 9 (.move (zk 0)) 3]) (.block 0 (.loop (.seq (.ops false [zo 10 (.binOp .lss 3 (zv 9) (zk 32) 3) 0]) (.seq (.cond (.tmp 10) .skip (.exit 0)) (.seq (.block 1 (.seq (.ops false [zo 11 (.index 107 (zv 8) (zv 9)) 47,zo 7 (.alloc 47) 0,zon (.store 47 (zv 7) (zv 11)) 0]) (.seq (.ops false [zo 12 (.fieldAddr 47 (zv 7) 0) 0,zo 13 (.load 3 (zv 12)) 3,zo 14 (.move (zv 1)) 3,zo 15 (.binOp .eql 3 (zv 13) (zv 14) 3) 4]) (.cond (.tmp 15) (.ops false [zo 16 (.move (zv 5)) 3,zo 17 (.binOp .add 3 (zv 16) (zk 1) 3) 3,zo 5 (.assign (zv 17)) 3]) .skip)))) (.ops false [zo 18 (.binOp .add 3 (zv 9) (zk 1) 3) 3,zo 9 (.move (zv 18)) 3]))))))) (.seq (.ops false [zo 19 (.move (zv 5)) 3,zo 4 (.assign (zv 19)) 3]) .ret))))
def Tryz.s160:SC:=(.seq (.ops false [zo 4 (.assign (.const (.bool false))) 4]) (.seq (.ops false [zo 5 (.move (zv 0)) 189,zo 6 (.move (zv 1)) 3,zo 7 (.binOp .shr 189 (zv 5) (zv 6) 3) 189,zo 8 (.binOp .and 189 (zv 7) (zk 1) 189) 189,zo 9 (.binOp .eql 189 (zv 8) (zk 1) 189) 4,zo 4 (.assign (zv 9)) 4]) .ret))
def Tryz.s123:SC:=(.seq (.ops false [zo 3 (.box 62 (zv 1)) 0]) (.seq (.ops true [zt 4 (.move (zv 0)) 104,zt 5 (.fieldAddr 62 (zv 3) 2) 0,zt 6 (.load 3 (zv 5)) 3,zt 7 (.nilCheck (zv 4)) 0,zt 8 (.fieldAddr 111 (zv 7) 1) 0,zt 9 (.indexAddr 107 (zv 8) (zv 6)) 0,zt 10 (.load 47 (zv 9)) 47,zt 11 (.build 47 ⟨[]⟩) 47,zt 12 (.binOp .eql 47 (zv 10) (zv 11) 47) 4,zo 13 (.call ⟨.value (.func 146),⟨[(zv 12),(zk 44)]⟩,⟨[4,27]⟩⟩) 0]) (.seq (.ops false [zo 14 (.move (zv 0)) 104,zo 15 (.load 62 (zv 3)) 62,zo 16 (.fieldAddr 62 (zv 3) 3) 0,zo 17 (.load 3 (zv 16)) 3,zo 18 (.call ⟨.value (.func 147),⟨[(zv 14),(zv 15),(zv 17)]⟩,⟨[104,62,3]⟩⟩) 0]) (.seq (.ops false [zo 19 (.move (zv 0)) 104,zo 20 (.load 62 (zv 3)) 62,zo 21 (.fieldAddr 62 (zv 3) 7) 0,zo 22 (.load 3 (zv 21)) 3,zo 23 (.build 47 ⟨[(2,(zv 22))]⟩) 47,zo 24 (.call ⟨.value (.func 148),⟨[(zv 19),(zv 20),(zv 23)]⟩,⟨[104,62,47]⟩⟩) 0]) (.ops false [zo 25 (.move (zv 0)) 104,zo 26 (.load 62 (zv 3)) 62,zo 27 (.call ⟨.value (.func 149),⟨[(zv 25),(zv 26)]⟩,⟨[104,62]⟩⟩) 0])))))
def Tryz.s124:SC:=(.seq (.ops false [zo 3 (.box 62 (zv 1)) 0]) (.seq (.ops false [zo 4 (.move (zv 0)) 104,zo 5 (.load 62 (zv 3)) 62,zo 6 (.call ⟨.value (.func 150),⟨[(zv 4),(zv 5)]⟩,⟨[104,62]⟩⟩) 0]) (.seq (.ops false [zo 7 (.move (zv 0)) 104,zo 8 (.load 62 (zv 3)) 62,zo 9 (.fieldAddr 62 (zv 3) 3) 0,zo 10 (.load 3 (zv 9)) 3,zo 11 (.call ⟨.value (.func 147),⟨[(zv 7),(zv 8),(zv 10)]⟩,⟨[104,62,3]⟩⟩) 0]) (.seq (.ops true [zt 12 (.move (zv 0)) 104,zt 13 (.load 62 (zv 3)) 62,zt 14 (.move (zv 0)) 104,zt 15 (.fieldAddr 62 (zv 3) 2) 0,zt 16 (.load 3 (zv 15)) 3,zt 17 (.nilCheck (zv 14)) 0,zt 18 (.fieldAddr 111 (zv 17) 1) 0,zt 19 (.indexAddr 107 (zv 18) (zv 16)) 0,zt 20 (.load 47 (zv 19)) 47,zo 21 (.call ⟨.value (.func 148),⟨[(zv 12),(zv 13),(zv 20)]⟩,⟨[104,62,47]⟩⟩) 0]) (.ops true [zt 22 (.move (zv 0)) 104,zt 23 (.fieldAddr 62 (zv 3) 2) 0,zt 24 (.load 3 (zv 23)) 3,zt 25 (.nilCheck (zv 22)) 0,zt 26 (.fieldAddr 111 (zv 25) 2) 0,zt 27 (.indexAddr 108 (zv 26) (zv 24)) 0,zt 28 (.load 78 (zv 27)) 78,zt 29 (.fieldAddr 62 (zv 3) 3) 0,zt 30 (.load 3 (zv 29)) 3,zt 31 (.binOp .shl 78 (zk 1) (zv 30) 3) 78,zt 32 (.binOp .or 78 (zv 28) (zv 31) 78) 78,zt 33 (.nilCheck (zv 22)) 0,zt 34 (.fieldAddr 111 (zv 33) 2) 0,zt 35 (.indexAddr 108 (zv 34) (zv 24)) 0,zon (.store 78 (zv 35) (zv 32)) 0])))))
def Tryz.s125:SC:=(.seq (.ops false [zo 3 (.box 62 (zv 1)) 0]) (.seq (.ops false [zo 4 (.move (zv 0)) 104,zo 5 (.load 62 (zv 3)) 62,zo 6 (.call ⟨.value (.func 150),⟨[(zv 4),(zv 5)]⟩,⟨[104,62]⟩⟩) 0]) (.seq (.ops true [zt 7 (.move (zv 0)) 104,zt 8 (.fieldAddr 62 (zv 3) 2) 0,zt 9 (.load 3 (zv 8)) 3,zt 10 (.nilCheck (zv 7)) 0,zt 11 (.fieldAddr 111 (zv 10) 1) 0,zt 12 (.indexAddr 107 (zv 11) (zv 9)) 0,zt 13 (.fieldAddr 47 (zv 12) 1) 0,zt 14 (.load 3 (zv 13)) 3,zt 15 (.fieldAddr 62 (zv 3) 6) 0,zt 16 (.load 3 (zv 15)) 3,zt 17 (.binOp .eql 3 (zv 14) (zv 16) 3) 4,zo 18 (.call ⟨.value (.func 146),⟨[(zv 17),(zk 48)]⟩,⟨[4,27]⟩⟩) 0]) (.ops false [zo 19 (.move (zv 0)) 104,zo 20 (.load 62 (zv 3)) 62,zo 21 (.call ⟨.value (.func 151),⟨[(zv 19),(zv 20)]⟩,⟨[104,62]⟩⟩) 0]))))
def Tryz.s126:SC:=(.seq (.ops false [zo 3 (.box 62 (zv 1)) 0]) (.seq (.ops false [zo 4 (.move (zv 0)) 104,zo 5 (.load 62 (zv 3)) 62,zo 6 (.call ⟨.value (.func 150),⟨[(zv 4),(zv 5)]⟩,⟨[104,62]⟩⟩) 0]) (.ops false [zo 7 (.move (zv 0)) 104,zo 8 (.load 62 (zv 3)) 62,zo 9 (.call ⟨.value (.func 149),⟨[(zv 7),(zv 8)]⟩,⟨[104,62]⟩⟩) 0])))
def Tryz.s103:SC:=(.seq (.ops false [zo 2 (.box 26 (zv 0)) 0,zo 4 (.assign (.const (.bool false))) 4]) (.seq (.seq (.ops false [zo 8 (.move (zv 1)) 44,zo 9 (.call ⟨.builtin .len,⟨[(zv 8)]⟩,⟨[44]⟩⟩) 3,zo 10 (.binOp .gtr 3 (zv 9) (zk 64) 3) 4]) (.cond (.tmp 10) (.seq (.ops false [zo 4 (.assign (.const (.bool false))) 4]) .ret) .skip)) (.seq (.ops false [zo 5 (.assign (zk 0)) 3]) (.seq (.seq (.ops false [zo 11 (.move (zv 1)) 44,zo 12 (.call ⟨.builtin .len,⟨[(zv 11)]⟩,⟨[44]⟩⟩) 3,zo 13 (.move (zk 0)) 3]) (.block 0 (.loop (.seq (.ops false [zo 14 (.binOp .lss 3 (zv 13) (zv 12) 3) 0]) (.seq (.cond (.tmp 14) .skip (.exit 0)) (.seq (.block 1 (.seq (.ops false [zo 15 (.indexAddr 44 (zv 11) (zv 13)) 0,zo 16 (.load 62 (zv 15)) 62,zo 7 (.alloc 62) 0,zon (.store 62 (zv 7) (zv 16)) 0]) (.seq (.seq (.ops false [zo 17 (.fieldAddr 62 (zv 7) 0) 0,zo 18 (.load 3 (zv 17)) 3,zo 19 (.move (zv 5)) 3,zo 20 (.call ⟨.value (.func 74),⟨[(zv 18),(zv 19),(zk 36500)]⟩,⟨[3,3,3]⟩⟩) 4,zo 21 (.unOp .not 4 (zv 20)) 4,zo 22 (.move (zv 21)) 4,zg 23 (.load 26 (zv 2)) 26 22 false,zg 24 (.load 62 (zv 7)) 62 22 false,zg 25 (.call ⟨.value (.func 121),⟨[(zv 23),(zv 24)]⟩,⟨[26,62]⟩⟩) 4 22 false,zg 26 (.unOp .not 4 (zv 25)) 4 22 false,zo 27 (.pick (zv 22) (.const (.bool true)) (zv 26)) 4]) (.cond (.tmp 27) (.seq (.ops false [zo 4 (.assign (.const (.bool false))) 4]) .ret) .skip)) (.ops false [zo 28 (.fieldAddr 62 (zv 7) 0) 0,zo 29 (.load 3 (zv 28)) 3,zo 5 (.assign (zv 29)) 3])))) (.ops false [zo 30 (.binOp .add 3 (zv 13) (zk 1) 3) 3,zo 13 (.move (zv 30)) 3]))))))) (.seq (.ops false [zo 4 (.assign (.const (.bool true))) 4]) .ret)))))
def Tryz.s121:SC:=(.seq (.ops false [zo 2 (.box 26 (zv 0)) 0,zo 3 (.box 62 (zv 1)) 0,zo 4 (.assign (.const (.bool false))) 4]) (.seq (.ops false [zo 9 (.fieldAddr 62 (zv 3) 1) 0,zo 10 (.load 3 (zv 9)) 3,zo 11 (.call ⟨.value (.func 144),⟨[(zv 10)]⟩,⟨[3]⟩⟩) 172,zo 8 (.move (zv 11)) 172,zo 12 (.extract (zv 8) 0) 171,zo 13 (.extract (zv 8) 1) 4,zo 5 (.alloc 171) 0,zon (.store 171 (zv 5) (zv 12)) 0,zo 6 (.assign (zv 13)) 4]) (.seq (.ops false [zo 14 (.fieldAddr 26 (zv 2) 2) 0,zo 15 (.load 24 (zv 14)) 24,zo 16 (.call ⟨.builtin .len,⟨[(zv 15)]⟩,⟨[24]⟩⟩) 3,zo 7 (.assign (zv 16)) 3]) (.seq (.ops true [zt 17 (.move (zv 6)) 4,zt 18 (.move (zv 17)) 4,zh 19 (.fieldAddr 62 (zv 3) 2) 0 18 true,zh 20 (.load 3 (zv 19)) 3 18 true,zg 21 (.call ⟨.value (.func 73),⟨[(zv 20),(zk 32)]⟩,⟨[3,3]⟩⟩) 4 18 true,zt 22 (.pick (zv 18) (zv 21) (.const (.bool false))) 4,zt 23 (.move (zv 22)) 4,zh 24 (.fieldAddr 62 (zv 3) 4) 0 23 true,zh 25 (.load 3 (zv 24)) 3 23 true,zh 26 (.move (zv 7)) 3 23 true,zg 27 (.call ⟨.value (.func 73),⟨[(zv 25),(zv 26)]⟩,⟨[3,3]⟩⟩) 4 23 true,zt 28 (.pick (zv 23) (zv 27) (.const (.bool false))) 4,zt 29 (.move (zv 28)) 4,zh 30 (.fieldAddr 62 (zv 3) 5) 0 29 true,zh 31 (.load 3 (zv 30)) 3 29 true,zh 32 (.move (zv 7)) 3 29 true,zg 33 (.call ⟨.value (.func 73),⟨[(zv 31),(zv 32)]⟩,⟨[3,3]⟩⟩) 4 29 true,zt 34 (.pick (zv 29) (zv 33) (.const (.bool false))) 4,zt 35 (.move (zv 34)) 4,zh 36 (.fieldAddr 62 (zv 3) 4) 0 35 true,zh 37 (.load 3 (zv 36)) 3 35 true,zh 38 (.fieldAddr 62 (zv 3) 5) 0 35 true,zh 39 (.load 3 (zv 38)) 3 35 true,zh 40 (.binOp .neq 3 (zv 37) (zv 39) 3) 4 35 true,zt 41 (.pick (zv 35) (zv 40) (.const (.bool false))) 4,zt 42 (.move (zv 41)) 4,zh 43 (.fieldAddr 62 (zv 3) 3) 0 42 true,zh 44 (.load 3 (zv 43)) 3 42 true,zh 45 (.fieldAddr 171 (zv 5) 0) 0 42 true,zh 46 (.load 4 (zv 45)) 4 42 true,zh 47 (.fieldAddr 26 (zv 2) 0) 0 42 true,zh 48 (.load 22 (zv 47)) 22 42 true,zh 49 (.call ⟨.builtin .len,⟨[(zv 48)]⟩,⟨[22]⟩⟩) 3 42 true,zh 50 (.binOp .sub 3 (zv 49) (zk 1) 3) 3 42 true,zg 51 (.call ⟨.value (.func 145),⟨[(zv 44),(zv 46),(zv 50)]⟩,⟨[3,4,3]⟩⟩) 4 42 true,zt 52 (.pick (zv 42) (zv 51) (.const (.bool false))) 4,zt 53 (.move (zv 52)) 4,zh 54 (.fieldAddr 62 (zv 3) 6) 0 53 true,zh 55 (.load 3 (zv 54)) 3 53 true,zh 56 (.fieldAddr 171 (zv 5) 1) 0 53 true,zh 57 (.load 4 (zv 56)) 4 53 true,zg 58 (.call ⟨.value (.func 145),⟨[(zv 55),(zv 57),(zk 999999)]⟩,⟨[3,4,3]⟩⟩) 4 53 true,zt 59 (.pick (zv 53) (zv 58) (.const (.bool false))) 4,zt 60 (.move (zv 59)) 4,zh 61 (.fieldAddr 62 (zv 3) 7) 0 60 true,zh 62 (.load 3 (zv 61)) 3 60 true,zh 63 (.fieldAddr 171 (zv 5) 2) 0 60 true,zh 64 (.load 4 (zv 63)) 4 60 true,zh 65 (.call ⟨.value (.func 85),⟨[(zk 4)]⟩,⟨[3]⟩⟩) 3 60 true,zg 66 (.call ⟨.value (.func 145),⟨[(zv 62),(zv 64),(zv 65)]⟩,⟨[3,4,3]⟩⟩) 4 60 true,zt 67 (.pick (zv 60) (zv 66) (.const (.bool false))) 4,zt 4 (.assign (zv 67)) 4]) .ret))))
def Tryz.s144:SC:=(.seq (.ops false [zo 2 (.alloc 171) 0,zo 3 (.assign (.const (.bool false))) 4]) (.seq (.seq (.ops false [zo 4 (.move (zv 0)) 3]) (.block 0 (.seq (.ops false [zo 6 (.binOp .eql 3 (zv 4) (zk 1) 3) 4,zo 5 (.assign (zv 6)) 4]) (.cond (.tmp 5) (.seq (.ops false [zo 7 (.build 171 ⟨[(0,(.const (.bool true))),(1,(.const (.bool true))),(2,(.const (.bool true)))]⟩) 171,zon (.store 171 (zv 2) (zv 7)) 0,zo 3 (.assign (.const (.bool true))) 4]) .ret) (.seq (.ops false [zo 9 (.binOp .eql 3 (zv 4) (zk 2) 3) 4,zo 8 (.assign (zv 9)) 4]) (.cond (.tmp 8) (.seq (.ops false [zo 10 (.build 171 ⟨[(0,(.const (.bool true)))]⟩) 171,zon (.store 171 (zv 2) (zv 10)) 0,zo 3 (.assign (.const (.bool true))) 4]) .ret) (.seq (.seq (.ops false [zo 12 (.binOp .eql 3 (zv 4) (zk 3) 3) 4,zo 11 (.assign (zv 12)) 4]) (.cond (.tmp 11) .skip (.ops false [zo 13 (.binOp .eql 3 (zv 4) (zk 4) 3) 4,zo 11 (.assign (zv 13)) 4]))) (.cond (.tmp 11) (.seq (.ops false [zo 14 (.build 171 ⟨[(1,(.const (.bool true)))]⟩) 171,zon (.store 171 (zv 2) (zv 14)) 0,zo 3 (.assign (.const (.bool true))) 4]) .ret) (.seq (.ops false [zo 16 (.binOp .eql 3 (zv 4) (zk 5) 3) 4,zo 15 (.assign (zv 16)) 4]) (.cond (.tmp 15) (.seq (.ops false [zo 17 (.build 171 ⟨[]⟩) 171,zon (.store 171 (zv 2) (zv 17)) 0,zo 3 (.assign (.const (.bool true))) 4]) .ret) .skip)))))))))) (.seq (.ops false [zo 18 (.build 171 ⟨[]⟩) 171,zon (.store 171 (zv 2) (zv 18)) 0,zo 3 (.assign (.const (.bool false))) 4]) .ret)))
def Tryz.s145:SC:=(.seq (.ops false [zo 6 (.assign (.const (.bool false))) 4]) (.seq (.seq (.ops false [zo 7 (.move (zv 1)) 4,zo 8 (.unOp .not 4 (zv 7)) 4]) (.cond (.tmp 8) (.seq (.ops false [zo 9 (.move (zv 0)) 3,zo 10 (.binOp .eql 3 (zv 9) (zk 0) 3) 4,zo 6 (.assign (zv 10)) 4]) .ret) .skip)) (.seq (.ops false [zo 11 (.move (zv 0)) 3,zo 12 (.move (zv 2)) 3,zo 13 (.call ⟨.value (.func 74),⟨[(zv 11),(zk 1),(zv 12)]⟩,⟨[3,3,3]⟩⟩) 4,zo 6 (.assign (zv 13)) 4]) .ret)))
def Tryz.s71:SC:=(.seq (.ops false [zo 2 (.box 26 (zv 0)) 0,zo 4 (.assign (.const (.pointer none))) 104,zo 5 (.assign (zk 0)) 3,zo 6 (.assign (zk 0)) 27]) (.seq (.seq (.ops false [zo 11 (.load 26 (zv 2)) 26,zo 12 (.call ⟨.value (.func 17),⟨[(zv 11)]⟩,⟨[26]⟩⟩) 27,zo 7 (.assign (zv 12)) 27]) (.seq (.ops false [zo 13 (.move (zv 7)) 27,zo 14 (.binOp .neq 27 (zv 13) (zk 0) 27) 4]) (.cond (.tmp 14) (.seq (.ops false [zo 15 (.move (zv 7)) 27,zo 4 (.assign (.const (.pointer none))) 104,zo 5 (.assign (zk 0)) 3,zo 6 (.assign (zv 15)) 27]) .ret) .skip))) (.seq (.seq (.ops false [zo 16 (.load 26 (zv 2)) 26,zo 17 (.move (zv 1)) 44,zo 18 (.call ⟨.value (.func 103),⟨[(zv 16),(zv 17)]⟩,⟨[26,44]⟩⟩) 4,zo 19 (.unOp .not 4 (zv 18)) 4]) (.cond (.tmp 19) (.seq (.ops false [zo 4 (.assign (.const (.pointer none))) 104,zo 5 (.assign (zk 0)) 3,zo 6 (.assign (zk 43)) 27]) .ret) .skip)) (.seq (.ops false [zo 20 (.load 26 (zv 2)) 26,zo 21 (.makeMap 109 none) 109,zo 22 (.build 111 ⟨[(0,(zv 20)),(3,(zv 21))]⟩) 111,zo 23 (.box 111 (zv 22)) 104,zo 4 (.assign (zv 23)) 104]) (.seq (.seq (.ops false [zo 24 (.move (zv 1)) 44,zo 25 (.call ⟨.builtin .len,⟨[(zv 24)]⟩,⟨[44]⟩⟩) 3,zo 26 (.move (zk 0)) 3]) (.block 0 (.loop (.seq (.ops false [zo 27 (.binOp .lss 3 (zv 26) (zv 25) 3) 0]) (.seq (.cond (.tmp 27) .skip (.exit 0)) (.seq (.block 1 (.seq (.ops false [zo 28 (.move (zv 26)) 3,zo 29 (.indexAddr 44 (zv 24) (zv 26)) 0,zo 30 (.load 62 (zv 29)) 62,zo 9 (.alloc 62) 0,zo 8 (.assign (zv 28)) 3,zon (.store 62 (zv 9) (zv 30)) 0]) (.seq (.ops false [zo 31 (.move (zv 4)) 104,zo 32 (.load 62 (zv 9)) 62,zo 33 (.call ⟨.value (.func 104),⟨[(zv 31),(zv 32)]⟩,⟨[104,62]⟩⟩) 27,zo 10 (.assign (zv 33)) 27]) (.seq (.ops false [zo 34 (.move (zv 10)) 27,zo 35 (.binOp .neq 27 (zv 34) (zk 0) 27) 4]) (.cond (.tmp 35) (.seq (.ops false [zo 36 (.move (zv 8)) 3,zo 37 (.move (zv 10)) 27,zo 4 (.assign (.const (.pointer none))) 104,zo 5 (.assign (zv 36)) 3,zo 6 (.assign (zv 37)) 27]) .ret) .skip))))) (.ops false [zo 38 (.binOp .add 3 (zv 26) (zk 1) 3) 3,zo 26 (.move (zv 38)) 3]))))))) (.seq (.ops false [zo 39 (.move (zv 4)) 104,zo 40 (.move (zv 1)) 44,zo 41 (.call ⟨.builtin .len,⟨[(zv 40)]⟩,⟨[44]⟩⟩) 3,zo 4 (.assign (zv 39)) 104,zo 5 (.assign (zv 41)) 3,zo 6 (.assign (zk 0)) 27]) .ret))))))
def Tryz.s35:SC:=(.seq (.ops false [zo 3 (.box 26 (zv 0)) 0,zo 6 (.assign (.const (.slice none 0 0))) 24,zo 7 (.assign (zk 0)) 27]) (.seq (.ops false [zo 12 (.load 26 (zv 3)) 26,zo 13 (.move (zv 1)) 44,zo 14 (.call ⟨.value (.func 71),⟨[(zv 12),(zv 13)]⟩,⟨[26,44]⟩⟩) 105,zo 11 (.move (zv 14)) 105,zo 15 (.extract (zv 11) 0) 104,zo 16 (.extract (zv 11) 1) 3,zo 17 (.extract (zv 11) 2) 27,zo 8 (.assign (zv 15)) 104,zo 9 (.assign (zv 16)) 3,zo 10 (.assign (zv 17)) 27]) (.seq (.seq (.ops false [zo 18 (.move (zv 10)) 27,zo 19 (.binOp .neq 27 (zv 18) (zk 0) 27) 4]) (.cond (.tmp 19) (.seq (.ops false [zo 20 (.move (zv 10)) 27,zo 6 (.assign (.const (.slice none 0 0))) 24,zo 7 (.assign (zv 20)) 27]) .ret) .skip)) (.seq (.seq (.ops false [zo 21 (.move (zv 2)) 3,zo 22 (.call ⟨.value (.func 73),⟨[(zv 21),(zk 32)]⟩,⟨[3,3]⟩⟩) 4,zo 23 (.unOp .not 4 (zv 22)) 4]) (.cond (.tmp 23) (.seq (.ops false [zo 6 (.assign (.const (.slice none 0 0))) 24,zo 7 (.assign (zk 7)) 27]) .ret) .skip)) (.seq (.seq (.ops false [zo 24 (.move (zv 8)) 104,zo 25 (.move (zv 2)) 3,zo 26 (.nilCheck (zv 24)) 0,zo 27 (.fieldAddr 111 (zv 26) 1) 0,zo 28 (.indexAddr 107 (zv 27) (zv 25)) 0,zo 29 (.fieldAddr 47 (zv 28) 0) 0,zo 30 (.load 3 (zv 29)) 3,zo 31 (.binOp .eql 3 (zv 30) (zk 0) 3) 4]) (.cond (.tmp 31) (.seq (.ops false [zo 6 (.assign (.const (.slice none 0 0))) 24,zo 7 (.assign (zk 44)) 27]) .ret) .skip)) (.seq (.ops true [zt 32 (.load 26 (zv 3)) 26,zt 33 (.move (zv 8)) 104,zt 34 (.move (zv 2)) 3,zt 35 (.nilCheck (zv 33)) 0,zt 36 (.fieldAddr 111 (zv 35) 2) 0,zt 37 (.indexAddr 108 (zv 36) (zv 34)) 0,zt 38 (.load 78 (zv 37)) 78,zo 39 (.call ⟨.value (.func 63),⟨[(zv 32),(zv 38)]⟩,⟨[26,78]⟩⟩) 24,zt 6 (.assign (zv 39)) 24,zt 7 (.assign (zk 0)) 27]) .ret))))))
theorem Tryz.s146_eq:Tryz.f146.body.map sOf=some Tryz.s146:=by kernel_rfl
theorem Tryz.s147_eq:Tryz.f147.body.map sOf=some Tryz.s147:=by kernel_rfl
theorem Tryz.s148_eq:Tryz.f148.body.map sOf=some Tryz.s148:=by kernel_rfl
theorem Tryz.s149_eq:Tryz.f149.body.map sOf=some Tryz.s149:=by kernel_rfl
theorem Tryz.s150_eq:Tryz.f150.body.map sOf=some Tryz.s150:=by kernel_rfl
theorem Tryz.s151_eq:Tryz.f151.body.map sOf=some Tryz.s151:=by kernel_rfl
theorem Tryz.s159_eq:Tryz.f159.body.map sOf=some Tryz.s159:=by kernel_rfl
theorem Tryz.s160_eq:Tryz.f160.body.map sOf=some Tryz.s160:=by kernel_rfl
theorem Tryz.s123_eq:Tryz.f123.body.map sOf=some Tryz.s123:=by kernel_rfl
theorem Tryz.s124_eq:Tryz.f124.body.map sOf=some Tryz.s124:=by kernel_rfl
theorem Tryz.s125_eq:Tryz.f125.body.map sOf=some Tryz.s125:=by kernel_rfl
theorem Tryz.s126_eq:Tryz.f126.body.map sOf=some Tryz.s126:=by kernel_rfl
theorem Tryz.s103_eq:Tryz.f103.body.map sOf=some Tryz.s103:=by kernel_rfl
theorem Tryz.s121_eq:Tryz.f121.body.map sOf=some Tryz.s121:=by kernel_rfl
theorem Tryz.s144_eq:Tryz.f144.body.map sOf=some Tryz.s144:=by kernel_rfl
theorem Tryz.s145_eq:Tryz.f145.body.map sOf=some Tryz.s145:=by kernel_rfl
theorem Tryz.s71_eq:Tryz.f71.body.map sOf=some Tryz.s71:=by kernel_rfl
theorem Tryz.s35_eq:Tryz.f35.body.map sOf=some Tryz.s35:=by kernel_rfl
theorem Tryz.ia107 (t:Tmps) (w:AW) (x y:Operand):fast (prg Tryz.prog) t w (.indexAddr 107 x y)=indexA 5 32 (ev t x) (ev t y):=fast_indexAddrA Tryz.ty107 Tryz.ty47
theorem Tryz.ia108 (t:Tmps) (w:AW) (x y:Operand):fast (prg Tryz.prog) t w (.indexAddr 108 x y)=indexA 1 32 (ev t x) (ev t y):=fast_indexAddrA Tryz.ty108 Tryz.ty78
def indexB (x i:Value):Option Value :=
 match x,i with
 | .agg cs,.int _ (.ofNat i)=>match Nat.blt i 32 with
  | true=>partV true 5 cs (i * 5)
  | false=>none
 | _,_=>none
theorem Tryz.vi107 (t:Tmps) (w:AW) (x y:Operand):fast (prg Tryz.prog) t w (.index 107 x y)=indexB (ev t x) (ev t y):=by
 unfold indexB
 simp only[fast,Tryz.ty107]
 cases ev t x with
 | agg cs =>
  cases ev t y with
  | int k n =>
   cases n with
   | ofNat i=>cases hb:Nat.blt i 32 <;> simp only[Tryz.ty47,hb]
   | negSucc i=>rfl
  | _=>rfl
 | _=>rfl
theorem bag_of {L:List BagN} (hL:L.length=32) {i:Nat} (hi:i < 32):indexB (.agg (L.flatMap bagC).toArray) (.int .i64 (i:Int))=some (.agg (bagC (L[i]'(by omega))).toArray):=by
 have hb:Nat.blt i 32=true:=Nat.blt_eq.mpr hi
 have hl:(L.flatMap bagC).length=160:=by rw[flat_len bagC_len,hL]
 show (match Nat.blt i 32 with|true=>partV true 5 (L.flatMap bagC).toArray (i * 5)|false=>none)=_
 rw[hb]
 show some (Value.agg ((L.flatMap bagC).toArray.extract (i * 5) (i * 5+5)))=_
 congr 2
 apply Array.ext_getElem?
 intro j
 rw[Array.getElem?_extract]
 simp only[List.size_toArray,hl,List.getElem?_toArray]
 by_cases hj:j < 5
 . rw[if_pos (by omega)]
   exact flatMap_get bagC_len L i j _ (List.getElem?_eq_getElem (by omega)) hj
 . rw[if_neg (by omega)]
   exact (List.getElem?_eq_none (by rw[bagC_len];omega)).symm
attribute [go_sem] Tryz.ia107 Tryz.ia108 Tryz.vi107
theorem Tryz.if27 (t:Tmps) (w:AW) (x:Operand):fast (prg Tryz.prog) t w (.makeInterface 27 x)=some (.iface 27 (ev t x)):=by simp only[fast,Tryz.ty27]
def fast0:=fast
def nilIQ (d:Option Value):Value->Option Value
 | .nilIface=>some (.bool true)
 | .iface _ _=>some (.bool false)
 | _=>d
theorem nilIQ_some (d:Option Value) (a:TypeId) (v:Value):nilIQ d (.iface a v)=some (.bool false):=rfl
theorem nilIQ_none (d:Option Value):nilIQ d .nilIface=some (.bool true):=rfl
def isI (x:Option TI):Bool:=match x with
 | some ⟨_,.interface _,_,_,_⟩=>true
 | _=>false
theorem Tryz.ty20:isI ((prg Tryz.prog).ty 20)=true:=by kernel_rfl
theorem isI_ex {x:Option TI} (h:isI x=true):∃ a ms n b z,x=some ⟨a,.interface ms,n,b,z⟩:=by
 unfold isI at h
 split at h
 . exact⟨_,_,_,_,_,rfl⟩
 . cases h
theorem Tryz.in20 (t:Tmps) (w:AW) (x:Operand) (r:TypeId):fast (prg Tryz.prog) t w (.binOp .eql 20 x (.const .nilIface) r)=nilIQ (fast0 (prg Tryz.prog) t w (.binOp .eql 20 x (.const .nilIface) r)) (ev t x):=by
 obtain⟨a,ms,n,b,z,e⟩:=isI_ex Tryz.ty20
 generalize hv:ev t x=v
 cases v <;> first|rfl|(simp only[nilIQ,fast,hv,e,ev_const];done)|(simp only[nilIQ,fast,hv,e,ev_const];rfl)
theorem eqQ_if {P:Program} {op:BinOp} {ty a:TypeId} {v y:Value}:eqQ P op ty (.iface a v) y=none:=by cases y <;> rfl
theorem eqQ_nif {P:Program} {op:BinOp} {ty:TypeId} {y:Value}:eqQ P op ty .nilIface y=none:=by cases y <;> rfl
theorem Tryz.as27 (v:Value):assertV (prg Tryz.prog) (.iface 27 v) 27 true=some (.tuple #[v,.bool true]):=by simp only[assertV,Tryz.ty27,nbeq]
attribute [go_sem] Tryz.in20 nilIQ_some nilIQ_none eqQ_if eqQ_nif Tryz.as27
attribute [go_sem] Tryz.if27
theorem require_ok (b:Bool) (e:Int) (w:AW):CallX Tryz.prog Tryz.T1 (.fn (.func 146) #[]) #[.bool b,.int .i64 e] w (fun _ w'=>b=true/\w=w') (fun v w'=>b=false/\v=.iface 27 (.int .i64 e)/\w=w'):=by
 refine callX_code rfl Tryz.func146 rfl Tryz.s146_eq rfl ?_
 delta Tryz.s146 zo zon zv
 cases b
 . simp -dsimp -implicitDefEqProofs (maxSteps:=2000000) (disch:=first|assumption|omega|simp only[nx];omega|(repeat apply zfp);assumption|simp only[smA];done|simp[oneCell,znp]) only[go_sem]
   exact⟨trivial,trivial,trivial⟩
 . simp -dsimp -implicitDefEqProofs (maxSteps:=2000000) (disch:=first|assumption|omega|simp only[nx];omega|(repeat apply zfp);assumption|simp only[smA];done|simp[oneCell,znp]) only[go_sem]
   exact⟨trivial,trivial⟩
theorem hasC_ok (x k:Nat) (hx:x < 256) (hk:k≤8) (w:AW):CallT Tryz.prog Tryz.T1 (.fn (.func 160) #[]) #[.int .i64 (x:Int),.int .i64 (k:Int)] w (Ret (.bool (x.testBit k)) fun w'=>w=w'):=by
 have h0:¬ (k:Int) < 0:=by omega
 have hm:min k 64=k:=by omega
 have hsh:(x:Int).fdiv (2 ^ (min k 64))=((x / 2 ^ k:Nat):Int):=by
  rw[hm,Int.fdiv_eq_ediv_of_nonneg _ (by exact Int.pow_nonneg (by omega))]
  push_cast;rfl
 have hle:x / 2 ^ k≤x:=Nat.div_le_self _ _
 have han:=and_nat (a:=x / 2 ^ k) (b:=1) (by omega) (by omega)
 have hbi:=bit_is x k
 refine callT_code rfl Tryz.func160 rfl Tryz.s160_eq rfl ?_
 delta Tryz.s160 zo zv zk
 simp -dsimp -implicitDefEqProofs (maxSteps:=2000000) (disch:=first|assumption|omega|simp only[nx];omega|(repeat apply zfp);assumption|simp only[smA];done|simp[oneCell,znp]) only[go_sem,h0,hsh]
 rw[show ((1:Nat):Int)=1 from rfl]at han
 rw[han,hbi]
 exact⟨rfl,rfl⟩
def cntTo (L:List BagN) (room i:Nat):Nat:=(L.take i).countP fun b=>decide (b.room=room)
theorem cntTo_succ {L:List BagN} {room i:Nat} (h:i < L.length):cntTo L room (i+1)=cntTo L room i+(if L[i].room=room then 1 else 0):=by
 unfold cntTo
 rw[List.take_add_one,List.getElem?_eq_getElem h,List.countP_append]
 by_cases q:L[i].room=room <;> simp[q]
theorem cntTo_le (L:List BagN) (room i:Nat):cntTo L room i≤i:=by
 have h1:=List.countP_le_length (p:=fun b:BagN=>decide (b.room=room)) (l:=L.take i)
 have h2:(L.take i).length≤i:=by rw[List.length_take];omega
 unfold cntTo;omega
set_option maxHeartbeats 16000000 in
theorem count_ok (L:List BagN) (hL:L.length=32) (room:Nat) (w:AW) (f:Fresh w):CallT Tryz.prog Tryz.T1 (.fn (.func 159) #[]) #[.agg (L.flatMap bagC).toArray,.int .i64 (room:Int)] w (Ret (.int .i64 (cntTo L room 32:Int)) (Grown w)):=by
 have hl160:(L.flatMap bagC).length=160:=by rw[flat_len bagC_len,hL]
 have h1:∀ v ∈ L.flatMap bagC,oneCell v=true:=fun v hv=>by
  obtain⟨b,_,hb⟩:=List.mem_flatMap.1 hv
  exact bagC_one b v hb
 have g1:=(Grown.refl f).push (.cells (L.flatMap bagC) 107 w.next 0 0)
 have O1:=Own.new f 107 (L.flatMap bagC)
 have hld:=loadAll O1 hl160 h1
 refine callT_code rfl Tryz.func159 rfl Tryz.s159_eq rfl ?_
 delta Tryz.s159 zo zon zv zk
 simp -dsimp -implicitDefEqProofs (maxSteps:=2000000) (disch:=first|assumption|omega|simp only[nx];omega|(repeat apply zfp);assumption|simp only[smA];done|simp[oneCell,znp]) only[go_sem,hld]
 generalize w.push (.cells (L.flatMap bagC) 107 w.next 0 0)=w1 at *
 refine loopR (fun k t ds w2=>∃ i:Nat,i≤32/\k=32 - i/\ds=[]/\ev t (.tmp 1)=.int .i64 (room:Int)/\ev t (.tmp 5)=.int .i64 (cntTo L room i:Int)/\ev t (.tmp 8)=.agg (L.flatMap bagC).toArray/\ev t (.tmp 9)=.int .i64 (i:Int)/\Keep w1.next w1 w2/\Fresh w2) (32) ?_ ?_
 . refine⟨0,by omega,by omega,rfl,?_,?_,?_,?_,.refl _ _,g1.2⟩ <;> simp -dsimp -implicitDefEqProofs (maxSteps:=2000000) (disch:=first|assumption|omega|simp only[nx];omega|(repeat apply zfp);assumption|simp only[smA];done|simp[oneCell,znp]) only[go_sem] <;> rfl
 rintro k t ds w2 ⟨i,hii,rfl,rfl,e1,e5,e8,e9,k2,f2⟩
 have gW:Grown w1 w2:=⟨k2,f2⟩
 by_cases hlt:(i:Int) < 32
 case neg =>
  obtain rfl:i=32:=by omega
  simp -dsimp -implicitDefEqProofs (maxSteps:=2000000) (disch:=first|assumption|omega|simp only[nx];omega|(repeat apply zfp);assumption|simp only[smA];done|simp[oneCell,znp]) only[go_sem,e1,e5,e8,e9,hlt]
  exact⟨rfl,g1.trans gW⟩
 have hi:i < 32:=by omega
 have hib:=bag_of hL hi
 have hsu:=cntTo_succ (L:=L) (room:=room) (i:=i) (by omega)
 have hcl:=cntTo_le L room i
 have hget:bagC (L[i]'(by omega))=[.int .i64 ((L[i]'(by omega)).room:Int),.int .i64 ((L[i]'(by omega)).sl:Int),.int .i64 ((L[i]'(by omega)).suits:Int),.int .i64 ((L[i]'(by omega)).ca:Int),.int .i64 ((L[i]'(by omega)).cb:Int)]:=rfl
 rw[hget]at hib
 generalize L[i]'(by omega)=b at *
 have g3:=(Grown.refl f2).push (.cells [.int .i64 0,.int .i64 0,.int .i64 0,.int .i64 0,.int .i64 0] 47 w2.next 0 0)
 have O3:=Own.new f2 47 [.int .i64 0,.int .i64 0,.int .i64 0,.int .i64 0,.int .i64 0]
 have st:=storeV_own (o:=0) (l:=[.int .i64 (b.room:Int),.int .i64 (b.sl:Int),.int .i64 (b.suits:Int),.int .i64 (b.ca:Int),.int .i64 (b.cb:Int)]) (size:=5) O3 rfl (by omega) (by simp) rfl
 have hcut:setsL [.int .i64 0,.int .i64 0,.int .i64 0,.int .i64 0,.int .i64 0] 0 [.int .i64 (b.room:Int),.int .i64 (b.sl:Int),.int .i64 (b.suits:Int),.int .i64 (b.ca:Int),.int .i64 (b.cb:Int)]=[.int .i64 (b.room:Int),.int .i64 (b.sl:Int),.int .i64 (b.suits:Int),.int .i64 (b.ca:Int),.int .i64 (b.cb:Int)]:=rfl
 rw[hcut]at st
 have m4:=MutS.put (S:=fun j=>j=w2.next) g3.2 rfl O3.lt (.cells [.int .i64 (b.room:Int),.int .i64 (b.sl:Int),.int .i64 (b.suits:Int),.int .i64 (b.ca:Int),.int .i64 (b.cb:Int)] 47 w2.next 0 0)
 have O4:=O3.put [.int .i64 (b.room:Int),.int .i64 (b.sl:Int),.int .i64 (b.suits:Int),.int .i64 (b.ca:Int),.int .i64 (b.cb:Int)]
 have g4:Grown w2 _:=⟨g3.1.trans (m4.keep (B:=w2.next) (fun j q=>by omega) g3.1.next),m4.fresh⟩
 have c0:=O4.cell (o:=0) rfl rfl
 by_cases hr:(b.room:Int)=(room:Int)
 . have hd:decide ((b.room:Int)=(room:Int))=true:=decide_eq_true hr
   have hr':b.room=room:=by omega
   rw[if_pos hr']at hsu
   simp -dsimp -implicitDefEqProofs (maxSteps:=2000000) (disch:=first|assumption|omega|simp only[nx];omega|(repeat apply zfp);assumption|simp only[smA];done|simp[oneCell,znp]) only[go_sem,e1,e5,e8,e9,hlt,hib,st,c0,hd]
   refine⟨_,by omega,i+1,by omega,rfl,rfl,by(simp -dsimp -implicitDefEqProofs (maxSteps:=2000000) (disch:=first|assumption|omega|simp only[nx];omega|(repeat apply zfp);assumption|simp only[smA];done|simp[oneCell,znp]) only[go_sem,e1,hsu,Int.natCast_add,Int.natCast_one];try rfl),by(simp -dsimp -implicitDefEqProofs (maxSteps:=2000000) (disch:=first|assumption|omega|simp only[nx];omega|(repeat apply zfp);assumption|simp only[smA];done|simp[oneCell,znp]) only[go_sem,e5,hsu,Int.natCast_add,Int.natCast_one];try rfl),by(simp -dsimp -implicitDefEqProofs (maxSteps:=2000000) (disch:=first|assumption|omega|simp only[nx];omega|(repeat apply zfp);assumption|simp only[smA];done|simp[oneCell,znp]) only[go_sem,e8,hsu,Int.natCast_add,Int.natCast_one];try rfl),by(simp -dsimp -implicitDefEqProofs (maxSteps:=2000000) (disch:=first|assumption|omega|simp only[nx];omega|(repeat apply zfp);assumption|simp only[smA];done|simp[oneCell,znp]) only[go_sem,e9,hsu,Int.natCast_add,Int.natCast_one];try rfl),k2.trans (g4.1.mono k2.next),g4.2⟩
 . have hd:decide ((b.room:Int)=(room:Int))=false:=decide_eq_false hr
   have hr':¬ b.room=room:=by omega
   rw[if_neg hr',Nat.add_zero]at hsu
   simp -dsimp -implicitDefEqProofs (maxSteps:=2000000) (disch:=first|assumption|omega|simp only[nx];omega|(repeat apply zfp);assumption|simp only[smA];done|simp[oneCell,znp]) only[go_sem,e1,e5,e8,e9,hlt,hib,st,c0,hd]
   refine⟨_,by omega,i+1,by omega,rfl,rfl,by(simp only[go_sem,e1,hsu];try rfl),by(simp only[go_sem,e5,hsu];try rfl),by(simp only[go_sem,e8,hsu];try rfl),by(simp only[go_sem,e9,hsu];try rfl),k2.trans (g4.1.mono k2.next),g4.2⟩
structure CarOk (s:StrN) (c:CarN):Prop where
 bag:c.bag < 32
 ca:c.ca < s.staff.length
 cb:c.cb < s.staff.length
 to:c.to < s.rooms.length
 suits:c.suits < 16
structure LogIn (s:StrN) (x:LogN):Prop where
 room:∀ b ∈ x.bags,b.room < s.rooms.length
 suits:∀ b ∈ x.bags,b.suits < 16
 trail:∀ t ∈ x.trails,t < 64
def pairN (c:CarN):Nat:=2 ^ c.ca ||| 2 ^ c.cb
theorem pair_in {s:StrN} (hs:strB s=true) {c:CarN} (hc:CarOk s c):pairN c < 64/\∀ k,(pairN c).testBit k=true->k < s.staff.length:=by
 have hsl:=(str_staff hs).2.1
 have h1:=hc.ca
 have h2:=hc.cb
 refine⟨Nat.or_lt_two_pow (n:=6) (pow_lt6 (by omega)) (pow_lt6 (by omega)),fun k hk=>?_⟩
 unfold pairN at hk
 rw[Nat.testBit_or,Bool.or_eq_true,bit_pow,bit_pow]at hk
 rcases hk with rfl|rfl
 . exact h1
 . exact h2
def carV (c:CarN):Value:=.agg #[.int .i64 (c.day:Int),.int .i64 (c.kind:Int),.int .i64 (c.bag:Int),.int .i64 (c.to:Int),.int .i64 (c.ca:Int),.int .i64 (c.cb:Int),.int .i64 (c.sl:Int),.int .i64 (c.suits:Int)]
set_option maxHeartbeats 16000000 in
theorem needReach_ok {s:StrN} (hs:strB s=true) {pR pG pS:Option Addr} {cR cG cS:Nat} {b r:Nat} {x:LogN} (c:CarN) (hc:CarOk s c) (room:Nat) (hr:room < s.rooms.length) (w:AW) (f:Fresh w) (hA:StrAt w pR pG pS cR cG cS s) (hL:LogAt w pR pG pS cR cG cS s b r x) :
    CallX Tryz.prog Tryz.T1 (.fn (.func 147) #[]) #[.pointer (some ⟨b,0,none⟩),carV c,.int .i64 (room:Int)] w (fun _ w'=>reachB s (2 ^ room) (pairN c)=true/\Grown w w') (fun v w'=>reachB s (2 ^ room) (pairN c)=false/\v=.iface 27 (.int .i64 45)/\Grown w w'):=by
 have g1:=(Grown.refl f).push (.cells (carC c) 62 w.next 0 0)
 have O1:=Own.new f 62 (carC c)
 have L1:=hL.grown g1
 have hsl:=(str_staff hs).2.1
 have hrl:=(str_rooms hs).2
 have h1:=hc.ca
 have h2:=hc.cb
 obtain⟨hp1,hp2⟩:=pair_in hs hc
 have d4:=O1.cell (o:=4) (v:=.int .i64 (c.ca:Int)) rfl rfl
 have d5:=O1.cell (o:=5) (v:=.int .i64 (c.cb:Int)) rfl rfl
 have hls:loadV (w.push (.cells (carC c) 62 w.next 0 0)) true 3 (.pointer (some ⟨b,0,none⟩))=some (.agg #[.slice pR s.rooms.length cR,.slice pG s.gates.length cG,.slice pS s.staff.length cS]):=loadPart (A:=[]) (B:=strC pR pG pS cR cG cS s) L1.own rfl (by simp[strC,oneCell])
 have hsA:=full_shl (n:=c.ca) (by omega)
 have hsB:=full_shl (n:=c.cb) (by omega)
 have hsR:=full_shl (n:=room) (by omega)
 have hpA:=pow_lt6 (a:=c.ca) (by omega)
 have hpB:=pow_lt6 (a:=c.cb) (by omega)
 have hpR:=pow_lt6 (a:=room) (by omega)
 have h0A:¬ (c.ca:Int) < 0:=by omega
 have h0B:¬ (c.cb:Int) < 0:=by omega
 have h0R:¬ (room:Int) < 0:=by omega
 have hor:=or_nat (a:=2 ^ c.ca) (b:=2 ^ c.cb) (by omega) (by omega)
 have hpe:pairN c=2 ^ c.ca ||| 2 ^ c.cb:=rfl
 rw[<- hpe]at hor
 have hre:=fun w' (g':Grown w w')=>reaches_ok hs (g:=pairN c) hp1 hp2 (2 ^ room) (by omega) w' g'.2 (hA.grown g')
 have hreB:reachB s (2 ^ room) (pairN c) = !decide (endR s (pairN c) 1 &&& 2 ^ room=0):=rfl
 have hss:=same_str pR pG pS s.rooms.length s.gates.length s.staff.length cR cG cS
 rw[hreB]
 generalize pairN c=PN at *
 generalize 2 ^ c.ca=PA at *
 generalize 2 ^ c.cb=PB at *
 generalize 2 ^ room=PR at *
 unfold carC strC carV at *
 refine callX_code rfl Tryz.func147 rfl Tryz.s147_eq rfl ?_
 delta Tryz.s147 zo zt zv zk
 simp -dsimp -implicitDefEqProofs (maxSteps:=2000000) (disch:=first|assumption|omega|simp only[nx];omega|(repeat apply zfp);assumption|simp only[smA];done|simp[oneCell,znp]) only[go_sem,d4,d5,hls,hss,h0A,h0B,h0R,hsA,hsB,hsR,hor,Nat.zero_add]
 generalize w.push (.cells [.int .i64 (c.day:Int),.int .i64 (c.kind:Int),.int .i64 (c.bag:Int),.int .i64 (c.to:Int),.int .i64 (c.ca:Int),.int .i64 (c.cb:Int),.int .i64 (c.sl:Int),.int .i64 (c.suits:Int)] 62 w.next 0 0)=w1 at *
 apply callXV_ofT (e:=rfl)
 . exact hre w1 g1
 rintro _ w2 ⟨rfl,g2⟩
 have hle2:WLe w1 w2:=g2.1.wle g1.2
 simp -dsimp -implicitDefEqProofs (maxSteps:=2000000) (disch:=first|assumption|omega|simp only[nx];omega|(repeat apply zfp);assumption|simp only[smA];done|simp[oneCell,znp]) only[go_sem,hle2]
 apply callXV_of (e:=rfl)
 . exact require_ok _ _ _
 rotate_left
 . rintro _ _ ⟨hb,rfl,rfl⟩
   simp -dsimp -implicitDefEqProofs (maxSteps:=2000000) (disch:=first|assumption|omega|simp only[nx];omega|(repeat apply zfp);assumption|simp only[smA];done|simp[oneCell,znp]) only[go_sem,hb]
   intro t'
   exact⟨trivial,trivial,g1.trans g2⟩
 rintro _ _ ⟨hb,rfl⟩
 have hle3:WLe w2 w2:=(Grown.refl g2.2).1.wle g2.2
 simp -dsimp -implicitDefEqProofs (maxSteps:=2000000) (disch:=first|assumption|omega|simp only[nx];omega|(repeat apply zfp);assumption|simp only[smA];done|simp[oneCell,znp]) only[go_sem,hle3,hb]
 exact⟨trivial,g1.trans g2⟩
theorem Tryz.lk109 (t:Tmps) (w:AW) (x y:Operand) (ok:Bool):fast (prg Tryz.prog) t w (.lookup 109 x y ok)=lookupV w (.int .i64) (.bool false) (ev t x) (ev t y) ok:=by simp only[fast,Tryz.ty109,Tryz.ty3,Tryz.ty4,simpleKey]
attribute [go_sem] Tryz.lk109
theorem same_map (a:Option Nat):same 12 (.map a) (.map a)=true:=by cases a <;> simp[same,nbeq]
def LogN.bag (x:LogN) (i:Nat):BagN:=x.bags.getD i ⟨0,0,0,0,0⟩
theorem LogN.bag_get {x:LogN} (h:LogOk x) {i:Nat} (hi:i < 32):x.bag i=x.bags[i]'(by rw[h.bags];exact hi):=by
 have:=h.bags
 simp[LogN.bag,List.getD,show i < x.bags.length by omega]
def LogN.settle (x:LogN) (i:Nat):LogN:=x.mark i (2 ^ (x.bag i).room)
theorem LogIn.bag {s:StrN} {x:LogN} (h:LogIn s x) (hk:LogOk x) (i:Nat) (hi:i < 32):(x.bag i).room < s.rooms.length/\(x.bag i).suits < 16:=by
 rw[LogN.bag_get hk hi]
 exact⟨h.room _ (List.getElem_mem _),h.suits _ (List.getElem_mem _)⟩
section
variable {w:AW} {pR pG pS:Option Addr} {cR cG cS:Nat} {s:StrN} {b r:Nat} {x:LogN}
theorem LogAt.cell (h:LogAt w pR pG pS cR cG cS s b r x) {i:Nat} (hi:i < 32) (f:Nat) (hf:f < 5) {v:Value} (hv:(bagC (x.bag i))[f]? = some v) (h1:oneCell v=true):w.cell? ⟨b,3+i * 5+f,none⟩=some v:=by
 have hb:=h.ok.bags
 refine h.own.cell (o:=3+i * 5+f) ?_ h1
 rw[log_bag f hf (by omega),<- LogN.bag_get h.ok hi];exact hv
theorem LogAt.trail (h:LogAt w pR pG pS cR cG cS s b r x) {i:Nat} (hi:i < 32):w.cell? ⟨b,163+i,none⟩=some (.int .i64 ((x.trails[i]'(by rw[h.ok.trails];exact hi):Nat):Int)) :=
 h.own.cell (o:=163+i) (log_trail h.ok _) rfl
theorem LogAt.seals (h:LogAt w pR pG pS cR cG cS s b r x):w.cell? ⟨b,195,none⟩=some (.map (some r)) :=
 h.own.cell (o:=195) (log_map h.ok) rfl
theorem LogAt.put (h:LogAt w pR pG pS cR cG cS s b r x) (f:Fresh w) {i:Nat} (hi:i < 32) (k:Nat) (hk:k < 5) (v:Nat) :
    ∃ w',storeV w false 1 (.pointer (some ⟨b,3+i * 5+k,none⟩)) (.int .i64 (v:Int))=some w'/\LogAt w' pR pG pS cR cG cS s b r (x.put i k v)/\MutS (fun j=>j=b) w w':=by
 have hb:=h.ok.bags
 have hl:=logC_len (pR:=pR) (pG:=pG) (pS:=pS) (cR:=cR) (cG:=cG) (cS:=cS) (s:=s) (r:=r) h.ok
 have st:=storeV_own1 (o:=3+i * 5+k) (v:=.int .i64 (v:Int)) h.own (by rw[hl];omega) rfl
 rw[log_put (by omega) hk]at st
 have m:=MutS.put (S:=fun j=>j=b) f rfl h.own.lt (.cells (logC pR pG pS cR cG cS s r (x.put i k v)) 111 b 0 0)
 exact⟨_,st,⟨h.own.put _,h.map.other m (fun q=>h.ne q.symm),h.ne,h.ok.put i k v⟩,m⟩
theorem LogAt.mark (h:LogAt w pR pG pS cR cG cS s b r x) (f:Fresh w) {i:Nat} (hi:i < 32) (v:Nat) :
    ∃ w',storeV w false 1 (.pointer (some ⟨b,163+i,none⟩)) (.int .i64 (v:Int))=some w'/\LogAt w' pR pG pS cR cG cS s b r (x.mark i v)/\MutS (fun j=>j=b) w w':=by
 have hb:=h.ok.trails
 have hl:=logC_len (pR:=pR) (pG:=pG) (pS:=pS) (cR:=cR) (cG:=cG) (cS:=cS) (s:=s) (r:=r) h.ok
 have st:=storeV_own1 (o:=163+i) (v:=.int .i64 (v:Int)) h.own (by rw[hl];omega) rfl
 rw[log_mark h.ok (by omega)]at st
 have m:=MutS.put (S:=fun j=>j=b) f rfl h.own.lt (.cells (logC pR pG pS cR cG cS s r (x.mark i v)) 111 b 0 0)
 exact⟨_,st,⟨h.own.put _,h.map.other m (fun q=>h.ne q.symm),h.ne,h.ok.mark i v⟩,m⟩
end
set_option maxHeartbeats 16000000 in
theorem settle_ok {s:StrN} (hs:strB s=true) {pR pG pS:Option Addr} {cR cG cS:Nat} {b r:Nat} {x:LogN} (c:CarN) (hc:c.bag < 32) (w:AW) (f:Fresh w) (hI:LogIn s x) (hL:LogAt w pR pG pS cR cG cS s b r x) :
    CallT Tryz.prog Tryz.T1 (.fn (.func 151) #[]) #[.pointer (some ⟨b,0,none⟩),carV c] w (fun _ w'=>MutS (fun j=>j=b) w w'/\LogAt w' pR pG pS cR cG cS s b r (x.settle c.bag)):=by
 have g1:=(Grown.refl f).push (.cells (carC c) 62 w.next 0 0)
 have O1:=Own.new f 62 (carC c)
 have L1:=hL.grown g1
 have hrl:=(str_rooms hs).2
 obtain⟨hr,-⟩:=hI.bag hL.ok c.bag hc
 have d2:=O1.cell (o:=2) (v:=.int .i64 (c.bag:Int)) rfl rfl
 have hbl:=fun (o z:Nat)=>indexA_eq (z:=z) (len:=32) (b:=b) (o:=o) (k:=.i64) hc
 have hcR:=L1.cell hc 0 (by omega) rfl rfl
 rw[Nat.add_zero]at hcR
 have hsR:=full_shl (n:=(x.bag c.bag).room) (by omega)
 have h0R:¬ ((x.bag c.bag).room:Int) < 0:=by omega
 obtain⟨w2,st,L2,m2⟩:=L1.mark g1.2 hc (2 ^ (x.bag c.bag).room)
 have hset:x.settle c.bag=x.mark c.bag (2 ^ (x.bag c.bag).room):=rfl
 rw[hset]
 have m:=(MutS.of g1).trans m2 (Within.refl _ _)
 generalize x.mark c.bag (2 ^ (x.bag c.bag).room)=x2 at *
 generalize 2 ^ (x.bag c.bag).room=PR at *
 generalize (x.bag c.bag).room=R at *
 unfold carC carV at *
 refine callT_code rfl Tryz.func151 rfl Tryz.s151_eq rfl ?_
 delta Tryz.s151 zo zt zon zv zk
 simp -dsimp -implicitDefEqProofs (maxSteps:=2000000) (disch:=first|assumption|omega|simp only[nx];omega|(repeat apply zfp);assumption|simp only[smA];done|simp[oneCell,znp]) only[go_sem,d2,hbl,hcR,h0R,hsR,st,Nat.zero_add,Nat.mul_one]
 exact⟨m,L2⟩
def needE (s:StrN) (x:LogN) (c:CarN):Nat :=
 if (x.bag c.bag).room=0 then 44 else if reachB s (2 ^ (x.bag c.bag).room) (pairN c) then 0 else 45
set_option maxHeartbeats 16000000 in
theorem needBag_ok {s:StrN} (hs:strB s=true) {pR pG pS:Option Addr} {cR cG cS:Nat} {b r:Nat} {x:LogN} (c:CarN) (hc:CarOk s c) (w:AW) (f:Fresh w) (hA:StrAt w pR pG pS cR cG cS s) (hI:LogIn s x) (hL:LogAt w pR pG pS cR cG cS s b r x) :
    CallX Tryz.prog Tryz.T1 (.fn (.func 150) #[]) #[.pointer (some ⟨b,0,none⟩),carV c] w (fun _ w'=>needE s x c=0/\Grown w w') (fun v w'=>needE s x c ≠ 0/\v=.iface 27 (.int .i64 (needE s x c:Int))/\Grown w w'):=by
 have g1:=(Grown.refl f).push (.cells (carC c) 62 w.next 0 0)
 have O1:=Own.new f 62 (carC c)
 have L1:=hL.grown g1
 obtain⟨hr,-⟩:=hI.bag hL.ok c.bag hc.bag
 have d2:=O1.cell (o:=2) (v:=.int .i64 (c.bag:Int)) rfl rfl
 have hbl:=fun (o z:Nat)=>indexA_eq (z:=z) (len:=32) (b:=b) (o:=o) (k:=.i64) hc.bag
 have hcR:=L1.cell hc.bag 0 (by omega) rfl rfl
 rw[Nat.add_zero]at hcR
 have hld:=loadAll O1 (n:=8) rfl (by simp[carC,oneCell])
 have hnr:=fun w' (g':Grown w w')=>needReach_ok hs c hc _ hr w' g'.2 (hA.grown g') (hL.grown g')
 have hne:needE s x c=if (x.bag c.bag).room=0 then 44 else if reachB s (2 ^ (x.bag c.bag).room) (pairN c) then 0 else 45:=rfl
 generalize reachB s (2 ^ (x.bag c.bag).room) (pairN c)=RB at *
 generalize (x.bag c.bag).room=R at *
 generalize needE s x c=E at *
 unfold carC carV at *
 refine callX_code rfl Tryz.func150 rfl Tryz.s150_eq rfl ?_
 delta Tryz.s150 zo zt zv zk
 by_cases h0:R=0
 · subst h0
   rw[if_pos rfl]at hne
   have hd:decide ((0:Int)=0)=true:=rfl
   simp -dsimp -implicitDefEqProofs (maxSteps:=2000000) (disch:=first|assumption|omega|simp only[nx];omega|(repeat apply zfp);assumption|simp only[smA];done|simp[oneCell,znp]) only[go_sem,d2,hbl,hcR,Nat.zero_add]
   apply callXV_of (e:=rfl)
   . exact require_ok _ _ _
   rotate_left
   . rintro _ _ ⟨hb,rfl,rfl⟩
     simp -dsimp -implicitDefEqProofs (maxSteps:=2000000) (disch:=first|assumption|omega|simp only[nx];omega|(repeat apply zfp);assumption|simp only[smA];done|simp[oneCell,znp]) only[go_sem]
     exact⟨by omega,by rw[hne];rfl,g1⟩
   rintro _ _ ⟨hb,rfl⟩
   cases hb
 have hR:¬ (R:Int)=0:=by omega
 rw[if_neg h0]at hne
 simp -dsimp -implicitDefEqProofs (maxSteps:=2000000) (disch:=first|assumption|omega|simp only[nx];omega|(repeat apply zfp);assumption|simp only[smA];done|simp[oneCell,znp]) only[go_sem,d2,hbl,hcR,hR,Nat.zero_add]
 apply callXV_of (e:=rfl)
 . exact require_ok _ _ _
 rotate_left
 . rintro _ _ ⟨hb,rfl,rfl⟩
   cases hb
 rintro _ _ ⟨hb,rfl⟩
 simp -dsimp -implicitDefEqProofs (maxSteps:=2000000) (disch:=first|assumption|omega|simp only[nx];omega|(repeat apply zfp);assumption|simp only[smA];done|simp[oneCell,znp]) only[go_sem,hld]
 apply callXV_of (e:=rfl)
 . exact hnr _ g1
 rotate_left
 . rintro _ w2 ⟨hb,rfl,g2⟩
   rw[hb,if_neg (by intro z;cases z)]at hne
   simp -dsimp -implicitDefEqProofs (maxSteps:=2000000) (disch:=first|assumption|omega|simp only[nx];omega|(repeat apply zfp);assumption|simp only[smA];done|simp[oneCell,znp]) only[go_sem]
   exact⟨by omega,by rw[hne];rfl,g1.trans g2⟩
 rintro _ w2 ⟨hb,g2⟩
 rw[hb,if_pos rfl]at hne
 simp -dsimp -implicitDefEqProofs (maxSteps:=2000000) (disch:=first|assumption|omega|simp only[nx];omega|(repeat apply zfp);assumption|simp only[smA];done|simp[oneCell,znp]) only[go_sem]
 exact⟨hne,g1.trans g2⟩
def LogN.sealed (x:LogN) (c:CarN):LogN:=({ x with seals:=x.seals++[c.sl] }.put c.bag 1 c.sl).settle c.bag
def sealE (x:LogN) (c:CarN):Nat:=if x.seals.contains c.sl then 48 else 0
theorem LogIn.put1 {s:StrN} {x:LogN} (h:LogIn s x) (hk:LogOk x) (i v:Nat) (hi:i < 32):LogIn s (x.put i 1 v):=by
 obtain⟨h1,h2⟩:=h.bag hk i hi
 refine⟨fun b hb=>?_,fun b hb=>?_,h.trail⟩
 . rcases List.mem_or_eq_of_mem_set hb with q|rfl
   . exact h.room b q
   . exact h1
 . rcases List.mem_or_eq_of_mem_set hb with q|rfl
   . exact h.suits b q
   . exact h2
theorem LogIn.settle {s:StrN} {x:LogN} (hs:strB s=true) (h:LogIn s x) (hk:LogOk x) (i:Nat) (hi:i < 32):LogIn s (x.settle i):=by
 have hrl:=(str_rooms hs).2
 refine⟨h.room,h.suits,fun t ht=>?_⟩
 rcases List.mem_or_eq_of_mem_set ht with q|rfl
 . exact h.trail t q
 . have:=(h.bag hk i hi).1
   exact pow_lt6 (by omega)
set_option maxHeartbeats 16000000 in
theorem seal_ok {s:StrN} (hs:strB s=true) {pR pG pS:Option Addr} {cR cG cS:Nat} {b r:Nat} {x:LogN} (c:CarN) (hc:c.bag < 32) (w:AW) (f:Fresh w) (hI:LogIn s x) (hL:LogAt w pR pG pS cR cG cS s b r x) :
    CallX Tryz.prog Tryz.T1 (.fn (.func 149) #[]) #[.pointer (some ⟨b,0,none⟩),carV c] w (fun _ w'=>sealE x c=0/\MutS (fun j=>j=b \/ j=r) w w'/\LogAt w' pR pG pS cR cG cS s b r (x.sealed c)) (fun v w'=>sealE x c ≠ 0/\v=.iface 27 (.int .i64 (sealE x c:Int))/\MutS (fun j=>j=b \/ j=r) w w'):=by
 have g1:=(Grown.refl f).push (.cells (carC c) 62 w.next 0 0)
 have O1:=Own.new f 62 (carC c)
 have L1:=hL.grown g1
 have d2:=O1.cell (o:=2) (v:=.int .i64 (c.bag:Int)) rfl rfl
 have d6:=O1.cell (o:=6) (v:=.int .i64 (c.sl:Int)) rfl rfl
 have hbl:=fun (o z:Nat)=>indexA_eq (z:=z) (len:=32) (b:=b) (o:=o) (k:=.i64) hc
 have hm:=L1.seals
 have hsm:=same_map (some r)
 have hlk:=L1.map.lookup (c.sl:Int)
 rw[nats_has]at hlk
 have hE:sealE x c=if x.seals.contains c.sl then 48 else 0:=rfl
 generalize sealE x c=E at *
 have hbn:b < w.next:=hL.own.lt
 have hrn:r < w.next:=hL.map.lt
 cases hh:x.seals.contains c.sl with
 | true =>
  rw[hh]at hlk
  rw[hh,if_pos rfl]at hE
  unfold carC carV at *
  refine callX_code rfl Tryz.func149 rfl Tryz.s149_eq rfl ?_
  delta Tryz.s149 zo zt zon zv zk
  simp -dsimp -implicitDefEqProofs (maxSteps:=2000000) (disch:=first|assumption|omega|simp only[nx];omega|(repeat apply zfp);assumption|simp only[smA];done|simp[oneCell,znp]) only[go_sem,d6,hm,hlk,hsm,Nat.zero_add]
  apply callXV_of (e:=rfl)
  . exact require_ok _ _ _
  rotate_left
  . rintro _ _ ⟨hb,rfl,rfl⟩
    simp -dsimp -implicitDefEqProofs (maxSteps:=2000000) (disch:=first|assumption|omega|simp only[nx];omega|(repeat apply zfp);assumption|simp only[smA];done|simp[oneCell,znp]) only[go_sem]
    intro t'
    exact⟨by omega,by rw[hE];rfl,MutS.of g1⟩
  rintro _ _ ⟨hb,rfl⟩
  cases hb
 | false =>
 rw[hh]at hlk
 rw[hh,if_neg (by intro z;cases z)]at hE
 have hnc:(natsL x.seals).contains (c.sl:Int)=false:=by rw[nats_has];exact hh
 obtain⟨bk,st2,M2⟩:=L1.map.add Tryz.ty109 Tryz.ty3 (c.sl:Int) hnc
 have m2:=MutS.put (S:=fun j=>j=r) g1.2 rfl L1.map.lt bk
 have O2:=m2.own O1 (fun q=>by omega)
 have L2:LogAt _ pR pG pS cR cG cS s b r { x with seals:=x.seals++[c.sl] }:=⟨m2.own L1.own (fun q=>hL.ne q),by rw[show natsL (x.seals++[c.sl])=natsL x.seals++[(c.sl:Int)]from by simp[natsL]];exact M2,hL.ne,⟨hL.ok.bags,hL.ok.trails⟩⟩
 generalize hw2:AW.put _ r bk=w2 at *
 have e2:=O2.cell (o:=2) (v:=.int .i64 (c.bag:Int)) rfl rfl
 have e6:=O2.cell (o:=6) (v:=.int .i64 (c.sl:Int)) rfl rfl
 obtain⟨w3,st3,L3,m3⟩:=L2.put m2.fresh hc 1 (by omega) c.sl
 have O3:=m3.own O2 (fun q=>by omega)
 have hld:=loadAll O3 (n:=8) rfl (by simp[carC,oneCell])
 have hx2:LogOk { x with seals:=x.seals++[c.sl] }:=⟨hL.ok.bags,hL.ok.trails⟩
 have hI2:LogIn s { x with seals:=x.seals++[c.sl] }:=⟨hI.room,hI.suits,hI.trail⟩
 have hI3:=hI2.put1 hx2 c.bag c.sl hc
 have hse:=settle_ok hs c hc w3 m3.fresh hI3 L3
 have hfin:x.sealed c=({ x with seals:=x.seals++[c.sl] }.put c.bag 1 c.sl).settle c.bag:=rfl
 rw[<- hfin]at hse
 have mm:MutS (fun j=>j=b \/ j=r) w w3:=((MutS.of g1).trans (m2.mono fun j q=>.inr q) (Within.refl _ _)).trans (m3.mono fun j q=>.inl q) (Within.refl _ _)
 unfold carC carV at *
 refine callX_code rfl Tryz.func149 rfl Tryz.s149_eq rfl ?_
 delta Tryz.s149 zo zt zon zv zk
 simp -dsimp -implicitDefEqProofs (maxSteps:=2000000) (disch:=first|assumption|omega|simp only[nx];omega|(repeat apply zfp);assumption|simp only[smA];done|simp[oneCell,znp]) only[go_sem,d6,hm,hlk,hsm,Nat.zero_add]
 apply callXV_of (e:=rfl)
 . exact require_ok _ _ _
 rotate_left
 . rintro _ _ ⟨hb,_⟩
   cases hb
 rintro _ _ ⟨hb,rfl⟩
 simp -dsimp -implicitDefEqProofs (maxSteps:=2000000) (disch:=first|assumption|omega|simp only[nx];omega|(repeat apply zfp);assumption|simp only[smA];done|simp[oneCell,znp]) only[go_sem,d6,hm,hsm,st2,hw2,e2,e6,hbl,st3,hld,Nat.zero_add]
 apply callXV_ofT (e:=rfl)
 . exact hse
 rintro _ w4 ⟨m4,L4⟩
 simp -dsimp -implicitDefEqProofs (maxSteps:=2000000) (disch:=first|assumption|omega|simp only[nx];omega|(repeat apply zfp);assumption|simp only[smA];done|simp[oneCell,znp]) only[go_sem]
 exact⟨hE,mm.trans (m4.mono fun j q=>.inl q) (Within.refl _ _),L4⟩
end Go.Proofs

namespace Go.Proofs
open Go Go.RowKit Go.Sim
set_option maxRecDepth 100000
deriving instance DecidableEq for BagN
theorem Tryz.und47:Tryz.prog.underlying 47=some (.struct #[⟨ "Room",3,0,false, "", "",0⟩, ⟨ "Seal",3,1,false, "", "",8⟩, ⟨ "Suits",3,2,false, "", "",16⟩, ⟨ "By",3,3,false, "", "",24⟩, ⟨ "With",3,4,false, "", "",32⟩]):=by kernel_rfl
theorem Tryz.agg3V:prun Tryz.prog (isAgg 3)=some false:=by kernel_rfl
theorem bag_in (n:Nat) (a b:BagN):prun Tryz.prog (Op.equalIn (n+2) 47 (.agg (bagC a).toArray) (.agg (bagC b).toArray))=some (decide (a=b)):=by
 have h:=eqStruct (xs:=(bagC a).toArray) (ys:=(bagC b).toArray) (n:=n+1) Tryz.und47 (by kernel_rfl) (.cons (eqF_int (k:=.i64) (by decide) Tryz.undV3 Tryz.agg3V rfl rfl) (.cons (eqF_int (k:=.i64) (by decide) Tryz.undV3 Tryz.agg3V rfl rfl) (.cons (eqF_int (k:=.i64) (by decide) Tryz.undV3 Tryz.agg3V rfl rfl) (.cons (eqF_int (k:=.i64) (by decide) Tryz.undV3 Tryz.agg3V rfl rfl) (.cons (eqF_int (k:=.i64) (by decide) Tryz.undV3 Tryz.agg3V rfl rfl) .nil)))))
 rw[h]
 congr 1
 obtain⟨a0,a1,a2,a3,a4⟩:=a
 obtain⟨b0,b1,b2,b3,b4⟩:=b
 rw[Bool.eq_iff_iff]
 simp only[List.all_cons,List.all_nil,Bool.and_true,Bool.and_eq_true,id,beq_iff_eq,decide_eq_true_eq,BagN.mk.injEq,Int.natCast_inj]
theorem bag_eql (a b:BagN):eqQ Tryz.prog .eql 47 (.agg (bagC a).toArray) (.agg (bagC b).toArray)=some (.bool (decide (a=b))):=by
 exact eqQ_eql (by kernel_rfl) rfl (bag_in 9998 a b)
theorem part_st {P:Program} {ty:TypeId} {n:Nat} (e:prun P (isAgg ty)=some true) (hs:prun P (sizeOf ty)=some n) {cs:Array Value} {o:Nat} (h:o+n≤cs.size):prun P (part ty cs o)=some (.agg (cs.extract o (o+n))):=by
 unfold part
 rw[prun_bindS _ _ e]
 simp only[if_true]
 rw[prun_bindS _ _ hs]
 rfl
theorem bag_part {L:List BagN} (hL:L.length=32) {i:Nat} (hi:i < 32):prun Tryz.prog (part 47 (L.flatMap bagC).toArray (i * 5))=some (.agg (bagC (L[i]'(by omega))).toArray):=by
 have hl:(L.flatMap bagC).length=160:=by rw[flat_len bagC_len,hL]
 rw[part_st (n:=5) (by kernel_rfl) (by kernel_rfl) (by simp[hl];omega)]
 have h:=bag_of hL hi
 have hb:Nat.blt i 32=true:=Nat.blt_eq.mpr hi
 unfold indexB at h
 simp only[hb]at h
 exact h
theorem shelf_in (n:Nat) (xs ys:List BagN) (hx:xs.length=32) (hy:ys.length=32):prun Tryz.prog (Op.equalIn (n+3) 107 (.agg (xs.flatMap bagC).toArray) (.agg (ys.flatMap bagC).toArray))=some (decide (xs=ys)):=by
 rw[Op.equalIn]
 rw[prun_bindS _ _ (prun_underlying (show Tryz.prog.underlying 107=some (.array 32 47)from by kernel_rfl))]
 simp only[]
 rw[prun_bindS _ _ (show prun Tryz.prog (sizeOf 47)=some 5 from by kernel_rfl)]
 rw[Std.Legacy.Range.forIn_eq_forIn_range']
 have key : ∀ m i,i+m=32->prun Tryz.prog (do
     let s <- forIn (List.range' i m) ((none:Option Bool),()) fun i _=>do
           let a <- part 47 (xs.flatMap bagC).toArray (i * 5)
           let b <- part 47 (ys.flatMap bagC).toArray (i * 5)
           let c <- Op.equalIn (n+2) 47 a b
           if (!c)=true then pure (ForInStep.done (some false,())) else pure (ForInStep.yield (none,()))
     match s.fst with
      | some r=>pure r
      | none=>pure true)=some (decide (xs.drop i=ys.drop i)):=by
  intro m
  induction m with
  | zero =>
   intro i hi
   rw[List.drop_eq_nil_of_le (by omega),List.drop_eq_nil_of_le (by omega)]
   simp only[List.range'_zero,List.forIn_nil,pure_bind]
   rfl
  | succ m ih =>
   intro i hi
   have h1:i < xs.length:=by omega
   have h2:i < ys.length:=by omega
   rw[List.range'_succ]
   simp only[List.forIn_cons,bind_assoc]
   rw[prun_bindS _ _ (bag_part hx (by omega)),prun_bindS _ _ (bag_part hy (by omega)),prun_bindS _ _ (bag_in n _ _)]
   have e:(xs.drop i=ys.drop i)=(xs[i]=ys[i]/\xs.drop (i+1)=ys.drop (i+1)):=by
    rw[List.drop_eq_getElem_cons h1,List.drop_eq_getElem_cons h2,List.cons.injEq]
   by_cases hq:xs[i]=ys[i]
   . have hb:decide (xs[i]=ys[i])=true:=decide_eq_true hq
     simp only[hb,Bool.not_true,Bool.false_eq_true,if_false,pure_bind]
     have:=ih (i+1) (by omega)
     rw[this]
     simp only[e,hq,true_and]
   . have hb:decide (xs[i]=ys[i])=false:=decide_eq_false hq
     simp only[hb,Bool.not_false,if_true,pure_bind]
     simp only[e,hq,false_and,decide_false]
     rfl
 have:=key 32 0 (by omega)
 simp only[List.drop_zero]at this
 have hsz:Std.Legacy.Range.size [:32]=32:=by simp[Std.Legacy.Range.size]
 rw[<- this,hsz]
 congr 1
 congr 1
 funext s
 obtain⟨a,_⟩:=s
 cases a <;> rfl
theorem flats_ints:∀ l:List Value,(∀ v ∈ l,∃ n,v=.int .i64 n)->flat.flats 5 l=true
 | [],_=>rfl
 | v :: l,h=>by
  obtain⟨n,rfl⟩:=h v List.mem_cons_self
  rw[flat.flats,flats_ints l fun v hv=>h v (List.mem_cons_of_mem _ hv)]
  rfl
theorem flat_one (l:List Value) (h:∀ v ∈ l,∃ n,v=.int .i64 n):flat 6 (.agg l.toArray)=true:=flats_ints l h
theorem guard107 (A B:Array Value):prun Tryz.prog (eqGuard .neq 107 (.const undef) (.const undef) (.agg A) (.agg B))=some ():=by kernel_rfl
theorem bags_ints (L:List BagN):∀ v ∈ L.flatMap bagC,∃ n,v=.int .i64 n:=by
 intro v hv
 obtain⟨b,_,hb⟩:=List.mem_flatMap.1 hv
 simp[bagC]at hb
 rcases hb with rfl|rfl|rfl|rfl|rfl <;> exact⟨_,rfl⟩
theorem shelf_neq (xs ys:List BagN) (hx:xs.length=32) (hy:ys.length=32):eqQ Tryz.prog .neq 107 (.agg (xs.flatMap bagC).toArray) (.agg (ys.flatMap bagC).toArray)=some (.bool (!decide (xs=ys))):=by
 exact eqQ_neq (guard107 _ _) (by rw[flat_one _ (bags_ints xs),flat_one _ (bags_ints ys)];rfl) (shelf_in 9997 xs ys hx hy)
def shelf0:List BagN:=List.replicate 32 ⟨0,0,0,0,0⟩
theorem Tryz.ty107z:(prg Tryz.prog).ty 107=some ⟨true,.array 32 47,160,1280,.agg (shelf0.flatMap bagC).toArray⟩:=Tryz.ty107
attribute [go_sem] Tryz.ty107
attribute [-go_sem] Tryz.ty107
attribute [go_sem] Tryz.ty107z
theorem same_ints:∀ l:List Value,(∀ v ∈ l,∃ n,v=.int .i64 n)->same.all 11 l l=true
 | [],_=>rfl
 | v :: l,h=>by
  obtain⟨n,rfl⟩:=h v List.mem_cons_self
  rw[same.all,same_ints l fun v hv=>h v (List.mem_cons_of_mem _ hv)]
  simp[same,intEq_eq]
theorem same_bags (L:List BagN):same 12 (.agg (L.flatMap bagC).toArray) (.agg (L.flatMap bagC).toArray)=true:=same_ints _ (bags_ints L)
theorem store_new {w:AW} {b n:Nat} {e:TypeId} {c l:List Value} (f:Fresh w) (O:Own w b e c) (hc:c.length=n) (hl:l.length=n) (hn:0 < n) (h1:l.all oneCell=true) :
    ∃ w',storeV w true n (.pointer (some ⟨b,0,none⟩)) (.agg l.toArray)=some w'/\Own w' b e l/\MutS (fun j=>j=b) w w'/\w'.next=w.next:=by
 have st:=storeV_own (o:=0) O hl hn (by omega) h1
 have:setsL c 0 l=l:=by
  have:=setsL_zero l c [] (by omega)
  rwa [List.append_nil,List.append_nil]at this
 rw[this]at st
 exact⟨_,st,O.put l,MutS.put (S:=fun j=>j=b) f rfl O.lt _,AW.next_put _ _ _⟩
theorem store_one {w:AW} {b o:Nat} {e:TypeId} {c:List Value} {v:Value} (f:Fresh w) (O:Own w b e c) (ho:o < c.length) (h1:oneCell v=true) :
    ∃ w',storeV w false 1 (.pointer (some ⟨b,o,none⟩)) v=some w'/\Own w' b e (setL c o v)/\MutS (fun j=>j=b) w w'/\w'.next=w.next :=
 ⟨_,storeV_own1 O ho h1,O.put _,MutS.put (S:=fun j=>j=b) f rfl O.lt _,AW.next_put _ _ _⟩
theorem store_row {w:AW} {b n i:Nat} {e:TypeId} {L:List BagN} (f:Fresh w) (O:Own w b e (L.flatMap bagC)) (hL:L.length=n) (hi:i < n) (y:BagN) :
    ∃ w',storeV w true 5 (.pointer (some ⟨b,i * 5,none⟩)) (.agg (bagC y).toArray)=some w'/\Own w' b e ((L.set i y).flatMap bagC)/\MutS (fun j=>j=b) w w'/\w'.next=w.next:=by
 have hl:(L.flatMap bagC).length=n * 5:=by rw[flat_len bagC_len,hL]
 have st:=storeV_own (o:=i * 5) O (bagC_len y) (by omega) (by rw[hl];omega) rfl
 rw[setsL_set bagC_len y L i (by omega)]at st
 exact⟨_,st,O.put _,MutS.put (S:=fun j=>j=b) f rfl O.lt _,AW.next_put _ _ _⟩
def BagN.at (b:BagN) (to:Nat):BagN:={ b with room:=to }
def LogN.placed (x:LogN) (c:CarN) (b:BagN):LogN:={ x with bags:=x.bags.set c.bag (b.at c.to) }
def toRoom (s:StrN) (c:CarN):RoomN:=s.rooms.getD c.to ⟨0,0,0⟩
def putE (s:StrN) (x:LogN) (c:CarN) (b:BagN):Nat :=
 if (x.placed c b).bags=x.bags then 46
 else if (cntTo (x.placed c b).bags c.to 32:Int)≤(toRoom s c).hold then (if b.suits.testBit (toRoom s c).climate.toNat then 0 else 47) else 46
theorem room_ok {s:StrN} (hs:strB s=true) {k:Nat} (hk:k < s.rooms.length):roomB s.rooms[k]=true:=by
 unfold strB roomsB at hs
 rw[Bool.and_eq_true,Bool.and_eq_true]at hs
 exact List.all_eq_true.1 hs.1.2 _ (List.getElem_mem hk)
set_option maxHeartbeats 32000000 in
theorem put_ok {s:StrN} (hs:strB s=true) {pR pG pS:Option Addr} {cR cG cS:Nat} {b r:Nat} {x:LogN} (c:CarN) (hc:CarOk s c) (y:BagN) (hy:y.suits < 16) (w:AW) (f:Fresh w) (hA:StrAt w pR pG pS cR cG cS s) (hL:LogAt w pR pG pS cR cG cS s b r x) :
    CallX Tryz.prog Tryz.T1 (.fn (.func 148) #[]) #[.pointer (some ⟨b,0,none⟩),carV c,.agg (bagC y).toArray] w (fun _ w'=>putE s x c y=0/\MutS (fun j=>j=b) w w'/\LogAt w' pR pG pS cR cG cS s b r (x.placed c y)) (fun v w'=>putE s x c y ≠ 0/\v=.iface 27 (.int .i64 (putE s x c y:Int))/\MutS (fun j=>j=b) w w'):=by
 have g1:=(Grown.refl f).push (.cells (carC c) 62 w.next 0 0)
 have O1:=Own.new f 62 (carC c)
 have hn1:(w.push (.cells (carC c) 62 w.next 0 0)).next=w.next+1:=AW.next_push _ _
 obtain⟨w1,hw1⟩:∃ w1,w.push (.cells (carC c) 62 w.next 0 0)=w1:=⟨_,rfl⟩
 rw[hw1]at g1 O1 hn1
 have g2:=g1.push (.cells (bagC y) 47 w1.next 0 0)
 have O2:=Own.new g1.2 47 (bagC y)
 have O12:=O1.push (.cells (bagC y) 47 w1.next 0 0)
 have hn2:(w1.push (.cells (bagC y) 47 w1.next 0 0)).next=w1.next+1:=AW.next_push _ _
 obtain⟨w2,hw2⟩:∃ w2,w1.push (.cells (bagC y) 47 w1.next 0 0)=w2:=⟨_,rfl⟩
 rw[hw2]at g2 O2 O12 hn2
 obtain⟨w3,st3,O23,m3,hn3⟩:=store_one (v:=.int .i64 (c.to:Int)) (o:=0) g2.2 O2 (by rw[bagC_len];omega) rfl
 have O13:=m3.own O12 (fun q=>by omega)
 have gg3:Grown w w3:=⟨g2.1.trans (m3.keep (fun j q=>by omega) g2.1.next),m3.fresh⟩
 have L3:=hL.grown gg3
 have hset0:setL (bagC y) 0 (.int .i64 (c.to:Int))=bagC (y.at c.to):=rfl
 rw[hset0]at O23
 have c3:=O12.cell (o:=3) (v:=.int .i64 (c.to:Int)) rfl rfl
 have c33:=O13.cell (o:=3) (v:=.int .i64 (c.to:Int)) rfl rfl
 have r0:=L3.own.cell (o:=0) (v:=.slice pR s.rooms.length cR) rfl rfl
 obtain⟨_,_,ex,_,_,hat⟩:=(hA.rooms.grown gg3).open
 injection ex with ex1 ex2 ex3
 subst ex1 ex3
 obtain⟨b4,o4,epR,_,hcell⟩:=hat c.to hc.to
 have hrm:=room_ok hs hc.to
 have htr:toRoom s c=s.rooms[c.to]'hc.to:=by simp[toRoom,hc.to]
 rw[<- htr]at hrm hcell
 have q0:=hcell w3 (.refl _ _) 0 _ rfl
 have q1:=hcell w3 (.refl _ _) 1 _ rfl
 have q2:=hcell w3 (.refl _ _) 2 _ rfl
 have hpE:putE s x c y=if (x.placed c y).bags=x.bags then 46 else if (cntTo (x.placed c y).bags c.to 32:Int)≤(toRoom s c).hold then (if y.suits.testBit (toRoom s c).climate.toNat then 0 else 47) else 46:=rfl
 obtain⟨ho,cl,ke,hro⟩:∃ a b c',toRoom s c=⟨a,b,c'⟩:=⟨_,_,_,rfl⟩
 rw[hro]at hpE hrm q0 q1 q2
 unfold roomB at hrm
 simp only[Bool.and_eq_true]at hrm
 obtain⟨hr1,hr2,-⟩:=hrm
 simp only[inR_iff]at hr1 hr2
 obtain⟨k,rfl⟩:∃ k:Nat,cl=k:=⟨cl.toNat,by omega⟩
 simp only[Int.toNat_natCast]at hpE
 rw[Nat.add_zero]at q0
 have hs3:same 12 (.agg #[.int .i64 ho,.int .i64 (k:Int),.int .i64 ke]) (.agg #[.int .i64 ho,.int .i64 (k:Int),.int .i64 ke])=true:=same_ints [.int .i64 ho,.int .i64 (k:Int),.int .i64 ke] (by simp)
 have O4:=Own.new gg3.2 73 [.int .i64 0,.int .i64 0,.int .i64 0]
 have g4:=gg3.push (.cells [.int .i64 0,.int .i64 0,.int .i64 0] 73 w3.next 0 0)
 have O14:=O13.push (.cells [.int .i64 0,.int .i64 0,.int .i64 0] 73 w3.next 0 0)
 have O24:=O23.push (.cells [.int .i64 0,.int .i64 0,.int .i64 0] 73 w3.next 0 0)
 have hn4:(w3.push (.cells [.int .i64 0,.int .i64 0,.int .i64 0] 73 w3.next 0 0)).next=w3.next+1:=AW.next_push _ _
 obtain⟨w4,hw4⟩:∃ w4,w3.push (.cells [.int .i64 0,.int .i64 0,.int .i64 0] 73 w3.next 0 0)=w4:=⟨_,rfl⟩
 rw[hw4]at g4 O4 hn4 O14 O24
 obtain⟨w5,st5,O5,m5,hn5⟩:=store_new (n:=3) (l:=[.int .i64 ho,.int .i64 (k:Int),.int .i64 ke]) g4.2 O4 rfl rfl (by omega) rfl
 have O15:=m5.own O14 (fun q=>by omega)
 have O25:=m5.own O24 (fun q=>by omega)
 have gg5:Grown w w5:=⟨g4.1.trans (m5.keep (fun j q=>by have:=gg3.1.next;have:j=w3.next:=q;omega) g4.1.next),m5.fresh⟩
 have L5:=hL.grown gg5
 have hld5:loadV w5 true 160 (.pointer (some ⟨b,3,none⟩))=some (.agg (x.bags.flatMap bagC).toArray):=loadPart (A:=strC pR pG pS cR cG cS s) (B:=x.bags.flatMap bagC) L5.own (bags_len hL.ok) (fun v hv=>by obtain⟨b,_,hb⟩:=List.mem_flatMap.1 hv;exact bagC_one b v hb)
 have h0len:(shelf0.flatMap bagC).length=160:=by rw[flat_len bagC_len];rfl
 have O6:=Own.new gg5.2 107 (shelf0.flatMap bagC)
 have g6:=gg5.push (.cells (shelf0.flatMap bagC) 107 w5.next 0 0)
 have O16:=O15.push (.cells (shelf0.flatMap bagC) 107 w5.next 0 0)
 have O26:=O25.push (.cells (shelf0.flatMap bagC) 107 w5.next 0 0)
 have O56:=O5.push (.cells (shelf0.flatMap bagC) 107 w5.next 0 0)
 have hn6:(w5.push (.cells (shelf0.flatMap bagC) 107 w5.next 0 0)).next=w5.next+1:=AW.next_push _ _
 obtain⟨w6,hw6⟩:∃ w6,w5.push (.cells (shelf0.flatMap bagC) 107 w5.next 0 0)=w6:=⟨_,rfl⟩
 rw[hw6]at g6 O6 hn6 O16 O26 O56
 have hone:∀ L:List BagN,(L.flatMap bagC).all oneCell=true:=fun L=>List.all_eq_true.2 fun v hv=>by obtain⟨b,_,hb⟩:=List.mem_flatMap.1 hv;exact bagC_one b v hb
 have honeM:∀ L:List BagN,∀ v ∈ L.flatMap bagC,oneCell v=true:=fun L=>List.all_eq_true.1 (hone L)
 obtain⟨w7,st7,O7,m7,hn7⟩:=store_new (n:=160) g6.2 O6 h0len (bags_len hL.ok) (by omega) (hone _)
 have O17:=m7.own O16 (fun q=>by omega)
 have O27:=m7.own O26 (fun q=>by omega)
 have O57:=m7.own O56 (fun q=>by omega)
 have hle1:=gg3.1.next
 have hle2:=gg5.1.next
 have gg7:Grown w w7:=⟨g6.1.trans (m7.keep (fun j q=>by have:j=w5.next:=q;omega) g6.1.next),m7.fresh⟩
 have c27:=O17.cell (o:=2) (v:=.int .i64 (c.bag:Int)) rfl rfl
 have hld2:=loadAll O27 (n:=5) (bagC_len _) (bagC_one _)
 obtain⟨w8,st8,O8,m8,hn8⟩:=store_row gg7.2 O7 hL.ok.bags hc.bag (y.at c.to)
 have O18:=m8.own O17 (fun q=>by omega)
 have O28:=m8.own O27 (fun q=>by omega)
 have O58:=m8.own O57 (fun q=>by omega)
 have gg8:Grown w w8:=⟨gg7.1.trans (m8.keep (fun j q=>by have:j=w5.next:=q;omega) gg7.1.next),m8.fresh⟩
 have L8:=hL.grown gg8
 have hpl:(x.placed c y).bags=x.bags.set c.bag (y.at c.to):=rfl
 have hplen:(x.placed c y).bags.length=32:=by rw[hpl,List.length_set];exact hL.ok.bags
 rw[<- hpl]at O8
 have hld7:=loadAll O8 (by rw[flat_len bagC_len,hplen]) (honeM _)
 have hld8:loadV w8 true 160 (.pointer (some ⟨b,3,none⟩))=some (.agg (x.bags.flatMap bagC).toArray):=loadPart (A:=strC pR pG pS cR cG cS s) (B:=x.bags.flatMap bagC) L8.own (bags_len hL.ok) (honeM _)
 have heq:=shelf_neq (x.placed c y).bags x.bags hplen hL.ok.bags
 have hsA:=same_bags x.bags
 have hsB:=same_bags (x.placed c y).bags
 have c38:=O18.cell (o:=3) (v:=.int .i64 (c.to:Int)) rfl rfl
 have h08:=O58.cell (o:=0) (v:=.int .i64 ho) rfl rfl
 have hct:=fun w' (g':Grown w w')=>count_ok (x.placed c y).bags hplen c.to w' g'.2
 have hbl:=fun (b o z:Nat)=>indexA_eq (z:=z) (len:=32) (b:=b) (o:=o) (k:=.i64) hc.bag
 have htI:(c.to:Int) < (s.rooms.length:Int):=by have:=hc.to;omega
 have hhas:=hasC_ok y.suits k (by omega) (by omega)
 have hfin:x.placed c y = { x with bags:=(x.placed c y).bags }:=rfl
 generalize hA1:(x.bags.flatMap bagC).toArray=A1 at *
 generalize hB1:((x.placed c y).bags.flatMap bagC).toArray=B1 at *
 generalize cntTo (x.placed c y).bags c.to 32=CN at *
 unfold carC carV at *
 generalize hE:putE s x c y=E at *
 have f1:=g1.2
 have f2:=g2.2
 have f3:=gg3.2
 have f4:=g4.2
 have f5:=gg5.2
 have f6:=g6.2
 have f7:=gg7.2
 have f8:=gg8.2
 have mB:∀ w',Grown w w'->MutS (fun j=>j=b) w w':=fun w' g'=>MutS.of g'
 cases hq:decide ((x.placed c y).bags=x.bags) with
 | true =>
  rw[hq]at heq
  rw[if_pos (of_decide_eq_true hq)]at hpE
  refine callX_code rfl Tryz.func148 rfl Tryz.s148_eq rfl ?_
  delta Tryz.s148 zo zt zh zon zv zk
  simp -dsimp -implicitDefEqProofs (maxSteps:=2000000) (disch:=first|assumption|omega|simp only[nx];omega|(repeat apply zfp);assumption|simp only[smA];done|simp[oneCell,znp]) only[go_sem,hw1,hw2,st3,c3,c33,r0,epR,indexV_eq,htI,q0,q1,q2,hs3,hw4,st5,hld5,hw6,st7,c27,hld2,hbl,st8,hld7,hld8,hsA,hsB,heq,Nat.zero_add]
  apply callXV_of (e:=rfl)
  . exact require_ok _ _ _
  rotate_left
  . rintro _ _ ⟨hb,rfl,rfl⟩
    simp -dsimp -implicitDefEqProofs (maxSteps:=2000000) (disch:=first|assumption|omega|simp only[nx];omega|(repeat apply zfp);assumption|simp only[smA];done|simp[oneCell,znp]) only[go_sem]
    intro t'
    exact⟨by omega,by rw[hpE];rfl,mB _ gg8⟩
  rintro _ _ ⟨hb,rfl⟩
  cases hb
 | false =>
 rw[hq]at heq
 rw[if_neg (of_decide_eq_false hq)]at hpE
 refine callX_code rfl Tryz.func148 rfl Tryz.s148_eq rfl ?_
 delta Tryz.s148 zo zt zh zon zv zk
 simp -dsimp -implicitDefEqProofs (maxSteps:=2000000) (disch:=first|assumption|omega|simp only[nx];omega|(repeat apply zfp);assumption|simp only[smA];done|simp[oneCell,znp]) only[go_sem,hw1,hw2,st3,c3,c33,r0,epR,indexV_eq,htI,q0,q1,q2,hs3,hw4,st5,hld5,hw6,st7,c27,hld2,hbl,st8,hld7,hld8,hsA,hsB,heq,c38,h08,Nat.zero_add]
 apply callXV_ofT (e:=rfl)
 . exact hct w8 gg8
 rintro _ w9 ⟨rfl,g9⟩
 have hle9:WLe w8 w9:=g9.1.wle gg8.2
 have O19:=O18.keep g9.1
 have O29:=O28.keep g9.1
 have O59:=O58.keep g9.1
 have O89:=O8.keep g9.1
 have L9:=L8.grown g9
 have gg9:=gg8.trans g9
 have h09:=O59.cell (o:=0) (v:=.int .i64 ho) rfl rfl
 have h19:=O59.cell (o:=1) (v:=.int .i64 (k:Int)) rfl rfl
 have s29:=O29.cell (o:=2) (v:=.int .i64 (y.suits:Int)) rfl rfl
 have hld9:=loadAll O89 (by rw[flat_len bagC_len,hplen]) (honeM _)
 rw[hB1]at hld9
 have hll:=logC_len (pR:=pR) (pG:=pG) (pS:=pS) (cR:=cR) (cG:=cG) (cS:=cS) (s:=s) (r:=r) hL.ok
 have st9:=storeV_own (o:=3) L9.own (by rw[flat_len bagC_len,hplen]) (by omega) (by rw[hll];omega) (hone (x.placed c y).bags)
 rw[log_bags hL.ok hplen,hB1,<- hfin]at st9
 have m9:=MutS.put (S:=fun j=>j=b) gg9.2 rfl L9.own.lt (.cells (logC pR pG pS cR cG cS s r (x.placed c y)) 111 b 0 0)
 have L10:LogAt _ pR pG pS cR cG cS s b r (x.placed c y):=⟨L9.own.put _,L9.map.other m9 (fun q=>L9.ne q.symm),L9.ne,⟨hplen,hL.ok.trails⟩⟩
 have M10:=(mB _ gg9).trans m9 (Within.refl _ _)
 obtain⟨w10,hw10⟩:∃ w10,w9.put b (.cells (logC pR pG pS cR cG cS s r (x.placed c y)) 111 b 0 0)=w10:=⟨_,rfl⟩
 rw[hw10]at st9 L10 M10
 simp -dsimp -implicitDefEqProofs (maxSteps:=2000000) (disch:=first|assumption|omega|simp only[nx];omega|(repeat apply zfp);assumption|simp only[smA];done|simp[oneCell,znp]) only[go_sem,h09,h08,hle9]
 apply callXV_of (e:=rfl)
 . exact require_ok _ _ _
 rotate_left
 . rintro _ _ ⟨hb,rfl,rfl⟩
   have hb':=of_decide_eq_false hb
   rw[if_neg hb']at hpE
   simp -dsimp -implicitDefEqProofs (maxSteps:=2000000) (disch:=first|assumption|omega|simp only[nx];omega|(repeat apply zfp);assumption|simp only[smA];done|simp[oneCell,znp]) only[go_sem]
   intro t'
   exact⟨by omega,by rw[hpE];rfl,mB _ gg9⟩
 rintro _ _ ⟨hb,rfl⟩
 rw[if_pos (of_decide_eq_true hb)]at hpE
 simp -dsimp -implicitDefEqProofs (maxSteps:=2000000) (disch:=first|assumption|omega|simp only[nx];omega|(repeat apply zfp);assumption|simp only[smA];done|simp[oneCell,znp]) only[go_sem,s29,h19,Nat.zero_add]
 apply callXV_ofT (e:=rfl)
 . exact hhas _
 rintro _ _ ⟨rfl,rfl⟩
 simp -dsimp -implicitDefEqProofs (maxSteps:=2000000) (disch:=first|assumption|omega|simp only[nx];omega|(repeat apply zfp);assumption|simp only[smA];done|simp[oneCell,znp]) only[go_sem]
 apply callXV_of (e:=rfl)
 . exact require_ok _ _ _
 rotate_left
 . rintro _ _ ⟨hb,rfl,rfl⟩
   rw[if_neg (by rw[hb];intro z;cases z)]at hpE
   simp -dsimp -implicitDefEqProofs (maxSteps:=2000000) (disch:=first|assumption|omega|simp only[nx];omega|(repeat apply zfp);assumption|simp only[smA];done|simp[oneCell,znp]) only[go_sem]
   try intro t'
   exact⟨by omega,by rw[hpE];rfl,mB _ gg9⟩
 rintro _ _ ⟨hb,rfl⟩
 rw[if_pos hb]at hpE
 simp -dsimp -implicitDefEqProofs (maxSteps:=2000000) (disch:=first|assumption|omega|simp only[nx];omega|(repeat apply zfp);assumption|simp only[smA];done|simp[oneCell,znp]) only[go_sem,hld9,st9,Nat.zero_add]
 exact⟨hpE,M10,L10⟩
end Go.Proofs

namespace Go.Proofs
open Go Go.RowKit Go.Sim
set_option maxRecDepth 100000
structure NewLog (w0:AW) (b r:Nat):Prop where
 b:w0.next≤b
 r:w0.next≤r
abbrev MutL (b r:Nat):AW->AW->Prop:=MutS (fun j=>j=b \/ j=r)
theorem NewLog.grown {w0 w w':AW} {b r:Nat} (h:NewLog w0 b r) (g:Grown w0 w) (m:MutL b r w w'):Grown w0 w' :=
 ⟨g.1.trans (m.keep (fun j q=>by have:=h.b;have:=h.r;omega) g.1.next),m.fresh⟩
theorem loadRow {w:AW} {b o n:Nat} {e:TypeId} {c l:List Value} (h:Own w b e c) (hn:l.length=n) (hl:∀ i v,l[i]? = some v->c[o+i]? = some v) (h1:∀ v ∈ l,oneCell v=true):loadV w true n (.pointer (some ⟨b,o,none⟩))=some (.agg l.toArray):=by
 subst hn
 rw[loadV_row,aCells_of l o fun i v hv=>h.cell (hl i v hv) (h1 v (List.mem_of_getElem? hv))]
theorem LogAt.load {w:AW} {pR pG pS:Option Addr} {cR cG cS:Nat} {s:StrN} {b r:Nat} {x:LogN} (h:LogAt w pR pG pS cR cG cS s b r x) {i:Nat} (hi:i < 32):loadV w true 5 (.pointer (some ⟨b,3+i * 5,none⟩))=some (.agg (bagC (x.bag i)).toArray):=by
 have hb:=h.ok.bags
 refine loadRow h.own (bagC_len _) (fun j v hv=>?_) (bagC_one _)
 have hj:j < 5:=by
  rcases Nat.lt_or_ge j 5 with q|q
  . exact q
  . rw[List.getElem?_eq_none (by rw[bagC_len];exact q)]at hv;cases hv
 rw[log_bag j hj (by omega),<- LogN.bag_get h.ok hi];exact hv
theorem LogIn.placed {s:StrN} {x:LogN} (h:LogIn s x) (c:CarN) (hc:CarOk s c) {y:BagN} (hy:y.suits < 16):LogIn s (x.placed c y):=by
 refine⟨fun b hb=>?_,fun b hb=>?_,h.trail⟩
 . rcases List.mem_or_eq_of_mem_set hb with q|rfl
   . exact h.room b q
   . exact hc.to
 . rcases List.mem_or_eq_of_mem_set hb with q|rfl
   . exact h.suits b q
   . exact hy
theorem same_bag (y:BagN):same 12 (.agg (bagC y).toArray) (.agg (bagC y).toArray)=true:=same_ints (bagC y) (by simp[bagC])
def orE (a b:Nat):Nat:=if a=0 then b else a
theorem orE_0 (b:Nat):orE 0 b=b:=rfl
theorem orE_ne {a b:Nat} (h:a ≠ 0):orE a b=a:=if_neg h
def reachE (s:StrN) (c:CarN) (room:Nat):Nat:=if reachB s (2 ^ room) (pairN c) then 0 else 45
def inB (c:CarN):BagN:=⟨0,0,c.suits,0,0⟩
def bringE (s:StrN) (x:LogN) (c:CarN):Nat:=orE (if x.bag c.bag=⟨0,0,0,0,0⟩ then 0 else 44) (orE (reachE s c c.to) (orE (putE s x c (inB c)) (sealE (x.placed c (inB c)) c)))
def bringN (x:LogN) (c:CarN):LogN:=(x.placed c (inB c)).sealed c
def moveE (s:StrN) (x:LogN) (c:CarN):Nat:=orE (needE s x c) (orE (reachE s c c.to) (putE s x c (x.bag c.bag)))
def moveN (x:LogN) (c:CarN):LogN:=(x.placed c (x.bag c.bag)).mark c.bag (x.trails.getD c.bag 0 ||| 2 ^ c.to)
def checkE (s:StrN) (x:LogN) (c:CarN):Nat:=orE (needE s x c) (if (x.bag c.bag).sl=c.sl then 0 else 48)
def openE (s:StrN) (x:LogN) (c:CarN):Nat:=orE (needE s x c) (sealE x c)
def KindIs (pR pG pS:Option Addr) (cR cG cS:Nat) (s:StrN) (b r:Nat) (x:LogN) (c:CarN) (f:Nat) (E:Nat) (N:LogN):Prop :=
 ∀ w,LogAt w pR pG pS cR cG cS s b r x->∀ w0,Grown w0 w->StrAt w0 pR pG pS cR cG cS s->NewLog w0 b r ->
  CallX Tryz.prog Tryz.T1 (.fn (.func f) #[]) #[.pointer (some ⟨b,0,none⟩),carV c] w (fun _ w'=>E=0/\MutL b r w w'/\LogAt w' pR pG pS cR cG cS s b r N) (fun v w'=>E ≠ 0/\v=.iface 27 (.int .i64 (E:Int))/\MutL b r w w')
theorem mLb {b r:Nat} {w w':AW} (m:MutS (fun j=>j=b) w w'):MutL b r w w':=m.mono fun j q=>.inl q
theorem mLt {b r:Nat} {u v w:AW} (m:MutL b r u v) (k:MutL b r v w):MutL b r u w:=MutS.trans m k (Within.refl _ _)
theorem mLg {b r:Nat} {w w':AW} (g:Grown w w'):MutL b r w w':=MutS.of g
section
variable {pR pG pS:Option Addr} {cR cG cS:Nat} {s:StrN} {b r:Nat} {x:LogN}
set_option maxHeartbeats 16000000 in
theorem open_ok126 (hs:strB s=true) (c:CarN) (hc:CarOk s c) (hI:LogIn s x):KindIs pR pG pS cR cG cS s b r x c 126 (openE s x c) (x.sealed c):=by
 intro w hL w0 g0 hA hN
 have f:=g0.2
 have g1:=(Grown.refl f).push (.cells (carC c) 62 w.next 0 0)
 have O1:=Own.new f 62 (carC c)
 obtain⟨w1,hw1⟩:∃ w1,w.push (.cells (carC c) 62 w.next 0 0)=w1:=⟨_,rfl⟩
 rw[hw1]at g1 O1
 have hld:=loadAll O1 (n:=8) rfl (by simp[carC,oneCell])
 have gg1:=g0.trans g1
 have hnb:=needBag_ok hs c hc w1 g1.2 (hA.grown gg1) hI (hL.grown g1)
 have hE:openE s x c=orE (needE s x c) (sealE x c):=rfl
 generalize openE s x c=E at *
 unfold carC carV at *
 refine callX_code rfl Tryz.func126 rfl Tryz.s126_eq rfl ?_
 delta Tryz.s126 zo zv
 simp -dsimp -implicitDefEqProofs (maxSteps:=2000000) (disch:=first|assumption|omega|simp only[nx];omega|(repeat apply zfp);assumption|simp only[smA];done|simp[oneCell,znp]) only[go_sem,hw1,hld]
 rw[hw1]
 apply callXV_of (e:=rfl)
 . exact hnb
 rotate_left
 . rintro _ w2 ⟨hb,rfl,g2⟩
   rw[orE_ne hb]at hE
   simp -dsimp -implicitDefEqProofs (maxSteps:=2000000) (disch:=first|assumption|omega|simp only[nx];omega|(repeat apply zfp);assumption|simp only[smA];done|simp[oneCell,znp]) only[go_sem]
   try intro t'
   exact⟨by omega,by rw[hE],MutS.of (g1.trans g2)⟩
 rintro _ w2 ⟨hb,g2⟩
 rw[hb,orE_0]at hE
 have O2:=O1.keep g2.1
 have hld2:=loadAll O2 (n:=8) rfl (by simp[oneCell])
 have gg2:=g1.trans g2
 simp -dsimp -implicitDefEqProofs (maxSteps:=2000000) (disch:=first|assumption|omega|simp only[nx];omega|(repeat apply zfp);assumption|simp only[smA];done|simp[oneCell,znp]) only[go_sem,hld2]
 apply callXV_of (e:=rfl)
 . exact seal_ok hs c hc.bag w2 g2.2 hI (hL.grown gg2)
 rotate_left
 . rintro _ w3 ⟨hb,rfl,m3⟩
   simp -dsimp -implicitDefEqProofs (maxSteps:=2000000) (disch:=first|assumption|omega|simp only[nx];omega|(repeat apply zfp);assumption|simp only[smA];done|simp[oneCell,znp]) only[go_sem]
   try intro t'
   exact⟨by omega,by rw[hE],mLt (mLg gg2) m3⟩
 rintro _ w3 ⟨hb,m3,L3⟩
 simp -dsimp -implicitDefEqProofs (maxSteps:=2000000) (disch:=first|assumption|omega|simp only[nx];omega|(repeat apply zfp);assumption|simp only[smA];done|simp[oneCell,znp]) only[go_sem]
 exact⟨by omega,mLt (mLg gg2) m3,L3⟩
set_option maxHeartbeats 16000000 in
theorem check_ok125 (hs:strB s=true) (c:CarN) (hc:CarOk s c) (hI:LogIn s x):KindIs pR pG pS cR cG cS s b r x c 125 (checkE s x c) (x.settle c.bag):=by
 intro w hL w0 g0 hA hN
 have f:=g0.2
 have g1:=(Grown.refl f).push (.cells (carC c) 62 w.next 0 0)
 have O1:=Own.new f 62 (carC c)
 obtain⟨w1,hw1⟩:∃ w1,w.push (.cells (carC c) 62 w.next 0 0)=w1:=⟨_,rfl⟩
 rw[hw1]at g1 O1
 have hld:=loadAll O1 (n:=8) rfl (by simp[carC,oneCell])
 have gg1:=g0.trans g1
 have hnb:=needBag_ok hs c hc w1 g1.2 (hA.grown gg1) hI (hL.grown g1)
 have hE:checkE s x c=orE (needE s x c) (if (x.bag c.bag).sl=c.sl then 0 else 48):=rfl
 generalize checkE s x c=E at *
 unfold carC carV at *
 refine callX_code rfl Tryz.func125 rfl Tryz.s125_eq rfl ?_
 delta Tryz.s125 zo zt zv zk
 simp -dsimp -implicitDefEqProofs (maxSteps:=2000000) (disch:=first|assumption|omega|simp only[nx];omega|(repeat apply zfp);assumption|simp only[smA];done|simp[oneCell,znp]) only[go_sem,hw1,hld]
 rw[hw1]
 apply callXV_of (e:=rfl)
 . exact hnb
 rotate_left
 . rintro _ w2 ⟨hb,rfl,g2⟩
   rw[orE_ne hb]at hE
   simp -dsimp -implicitDefEqProofs (maxSteps:=2000000) (disch:=first|assumption|omega|simp only[nx];omega|(repeat apply zfp);assumption|simp only[smA];done|simp[oneCell,znp]) only[go_sem]
   try intro t'
   exact⟨by omega,by rw[hE],MutS.of (g1.trans g2)⟩
 rintro _ w2 ⟨hb,g2⟩
 rw[hb,orE_0]at hE
 have O2:=O1.keep g2.1
 have gg2:=g1.trans g2
 have L2:=hL.grown gg2
 have hld2:=loadAll O2 (n:=8) rfl (by simp[oneCell])
 have d2:=O2.cell (o:=2) (v:=.int .i64 (c.bag:Int)) rfl rfl
 have d6:=O2.cell (o:=6) (v:=.int .i64 (c.sl:Int)) rfl rfl
 have hcS:=L2.cell hc.bag 1 (by omega) rfl rfl
 have hbl:=fun (o z:Nat)=>indexA_eq (z:=z) (len:=32) (b:=b) (o:=o) (k:=.i64) hc.bag
 simp -dsimp -implicitDefEqProofs (maxSteps:=2000000) (disch:=first|assumption|omega|simp only[nx];omega|(repeat apply zfp);assumption|simp only[smA];done|simp[oneCell,znp]) only[go_sem,d2,d6,hbl,hcS,Nat.zero_add]
 apply callXV_of (e:=rfl)
 . exact require_ok _ _ _
 rotate_left
 . rintro _ _ ⟨hb,rfl,rfl⟩
   have hb':=of_decide_eq_false hb
   rw[if_neg (by omega)]at hE
   simp -dsimp -implicitDefEqProofs (maxSteps:=2000000) (disch:=first|assumption|omega|simp only[nx];omega|(repeat apply zfp);assumption|simp only[smA];done|simp[oneCell,znp]) only[go_sem]
   try intro t'
   exact⟨by omega,by rw[hE];rfl,MutS.of gg2⟩
 rintro _ _ ⟨hb,rfl⟩
 have hb':=of_decide_eq_true hb
 rw[if_pos (by omega)]at hE
 simp -dsimp -implicitDefEqProofs (maxSteps:=2000000) (disch:=first|assumption|omega|simp only[nx];omega|(repeat apply zfp);assumption|simp only[smA];done|simp[oneCell,znp]) only[go_sem,hld2]
 apply callXV_ofT (e:=rfl)
 . exact settle_ok hs c hc.bag w2 g2.2 hI L2
 rintro _ w3 ⟨m3,L3⟩
 simp -dsimp -implicitDefEqProofs (maxSteps:=2000000) (disch:=first|assumption|omega|simp only[nx];omega|(repeat apply zfp);assumption|simp only[smA];done|simp[oneCell,znp]) only[go_sem]
 exact⟨hE,mLt (mLg gg2) (mLb m3),L3⟩
end
end Go.Proofs

namespace Go.Proofs
open Go Go.RowKit Go.Sim
set_option maxRecDepth 100000
theorem bld47_2 (v:Int):bldQ [(0,1),(1,1),(2,1),(3,1),(4,1)] [.int .i64 0,.int .i64 0,.int .i64 0,.int .i64 0,.int .i64 0] [(2,.int .i64 v)]=some (.agg #[.int .i64 0,.int .i64 0,.int .i64 v,.int .i64 0,.int .i64 0]):=by kernel_rfl
attribute [go_sem] bld47_2
section
variable {pR pG pS:Option Addr} {cR cG cS:Nat} {s:StrN} {b r:Nat} {x:LogN}
set_option maxHeartbeats 16000000 in
theorem bring_ok (hs:strB s=true) (c:CarN) (hc:CarOk s c) (hI:LogIn s x):KindIs pR pG pS cR cG cS s b r x c 123 (bringE s x c) (bringN x c):=by
 intro w hL w0 g0 hA hN
 have f:=g0.2
 have g1:=(Grown.refl f).push (.cells (carC c) 62 w.next 0 0)
 have O1:=Own.new f 62 (carC c)
 obtain⟨w1,hw1⟩:∃ w1,w.push (.cells (carC c) 62 w.next 0 0)=w1:=⟨_,rfl⟩
 rw[hw1]at g1 O1
 have hld:=loadAll O1 (n:=8) rfl (by simp[carC,oneCell])
 have gg1:=g0.trans g1
 have L1:=hL.grown g1
 have d2:=O1.cell (o:=2) (v:=.int .i64 (c.bag:Int)) rfl rfl
 have d3:=O1.cell (o:=3) (v:=.int .i64 (c.to:Int)) rfl rfl
 have hbl:=fun (o z:Nat)=>indexA_eq (z:=z) (len:=32) (b:=b) (o:=o) (k:=.i64) hc.bag
 have hlb:=L1.load hc.bag
 have hsb:=same_bag (x.bag c.bag)
 have hsz:=same_bag ⟨0,0,0,0,0⟩
 have heq:=bag_eql (x.bag c.bag) ⟨0,0,0,0,0⟩
 have hnr:=needReach_ok hs c hc c.to hc.to w1 g1.2 (hA.grown gg1) L1
 have hpu:=fun w' (g':Grown w w')=>put_ok hs c hc (inB c) hc.suits w' g'.2 (hA.grown (g0.trans g')) (hL.grown g')
 have hIp:=hI.placed c hc (y:=inB c) hc.suits
 have hse:=fun w' f' (L':LogAt w' pR pG pS cR cG cS s b r (x.placed c (inB c)))=>seal_ok hs c hc.bag w' f' hIp L'
 have hE:bringE s x c=orE (if x.bag c.bag=⟨0,0,0,0,0⟩ then 0 else 44) (orE (reachE s c c.to) (orE (putE s x c (inB c)) (sealE (x.placed c (inB c)) c))):=rfl
 have hrE:reachE s c c.to=if reachB s (2 ^ c.to) (pairN c) then 0 else 45:=rfl
 generalize reachB s (2 ^ c.to) (pairN c)=RB at *
 generalize reachE s c c.to=RE at *
 generalize putE s x c (inB c)=PE at *
 generalize sealE (x.placed c (inB c)) c=SE at *
 generalize bringE s x c=E at *
 have hbn:b < w.next:=hL.own.lt
 have hzz:(bagC ⟨0,0,0,0,0⟩).toArray = #[.int .i64 0,.int .i64 0,.int .i64 0,.int .i64 0,.int .i64 0]:=rfl
 rw[hzz]at heq hsz
 generalize (bagC (x.bag c.bag)).toArray=BV at *
 have hin:Value.agg (bagC (inB c)).toArray=.agg #[.int .i64 0,.int .i64 0,.int .i64 (c.suits:Int),.int .i64 0,.int .i64 0]:=rfl
 have hrn:r < w.next:=hL.map.lt
 have d7:=O1.cell (o:=7) (v:=.int .i64 (c.suits:Int)) rfl rfl
 unfold carC carV at *
 refine callX_code rfl Tryz.func123 rfl Tryz.s123_eq rfl ?_
 delta Tryz.s123 zo zt zv zk
 simp -dsimp -implicitDefEqProofs (maxSteps:=2000000) (disch:=first|assumption|omega|simp only[nx];omega|(repeat apply zfp);assumption|simp only[smA];done|simp[oneCell,znp]) only[go_sem,hw1,d2,hbl,hlb,hsb,hsz,heq,Nat.zero_add]
 try rw[hw1]
 apply callXV_of (e:=rfl)
 . exact require_ok _ _ _
 rotate_left
 . rintro _ _ ⟨hb,rfl,rfl⟩
   have hb':=of_decide_eq_false hb
   rw[if_neg hb',orE_ne (by omega)]at hE
   simp -dsimp -implicitDefEqProofs (maxSteps:=2000000) (disch:=first|assumption|omega|simp only[nx];omega|(repeat apply zfp);assumption|simp only[smA];done|simp[oneCell,znp]) only[go_sem]
   try intro t'
   exact⟨by omega,by rw[hE];rfl,mLg g1⟩
 rintro _ _ ⟨hb,rfl⟩
 rw[if_pos (of_decide_eq_true hb),orE_0]at hE
 simp -dsimp -implicitDefEqProofs (maxSteps:=2000000) (disch:=first|assumption|omega|simp only[nx];omega|(repeat apply zfp);assumption|simp only[smA];done|simp[oneCell,znp]) only[go_sem,hld,d3,Nat.zero_add]
 apply callXV_of (e:=rfl)
 . exact hnr
 rotate_left
 . rintro _ w2 ⟨hb,rfl,g2⟩
   rw[hb,if_neg (by intro z;cases z)]at hrE
   rw[hrE,orE_ne (by omega)]at hE
   simp -dsimp -implicitDefEqProofs (maxSteps:=2000000) (disch:=first|assumption|omega|simp only[nx];omega|(repeat apply zfp);assumption|simp only[smA];done|simp[oneCell,znp]) only[go_sem]
   try intro t'
   exact⟨by omega,by rw[hE];rfl,mLg (g1.trans g2)⟩
 rintro _ w2 ⟨hb,g2⟩
 rw[hb,if_pos rfl]at hrE
 rw[hrE,orE_0]at hE
 have O2:=O1.keep g2.1
 have gg2:=g1.trans g2
 have hld2:=loadAll O2 (n:=8) rfl (by simp[oneCell])
 have d72:=O2.cell (o:=7) (v:=.int .i64 (c.suits:Int)) rfl rfl
 simp -dsimp -implicitDefEqProofs (maxSteps:=2000000) (disch:=first|assumption|omega|simp only[nx];omega|(repeat apply zfp);assumption|simp only[smA];done|simp[oneCell,znp]) only[go_sem,hld2,d72,Nat.zero_add]
 apply callXV_of (e:=rfl)
 . exact hpu w2 gg2
 rotate_left
 . rintro _ w3 ⟨hb,rfl,m3⟩
   rw[orE_ne hb]at hE
   simp -dsimp -implicitDefEqProofs (maxSteps:=2000000) (disch:=first|assumption|omega|simp only[nx];omega|(repeat apply zfp);assumption|simp only[smA];done|simp[oneCell,znp]) only[go_sem]
   try intro t'
   exact⟨by omega,by rw[hE],mLt (mLg gg2) (mLb m3)⟩
 rintro _ w3 ⟨hb,m3,L3⟩
 rw[hb,orE_0]at hE
 have O3:=m3.own O2 (fun q=>by have:w.next=b:=q;omega)
 have hld3:=loadAll O3 (n:=8) rfl (by simp[oneCell])
 simp -dsimp -implicitDefEqProofs (maxSteps:=2000000) (disch:=first|assumption|omega|simp only[nx];omega|(repeat apply zfp);assumption|simp only[smA];done|simp[oneCell,znp]) only[go_sem,hld3,Nat.zero_add]
 apply callXV_of (e:=rfl)
 . exact hse w3 m3.fresh L3
 rotate_left
 . rintro _ w4 ⟨hb,rfl,m4⟩
   simp -dsimp -implicitDefEqProofs (maxSteps:=2000000) (disch:=first|assumption|omega|simp only[nx];omega|(repeat apply zfp);assumption|simp only[smA];done|simp[oneCell,znp]) only[go_sem]
   try intro t'
   exact⟨by omega,by rw[hE],mLt (mLt (mLg gg2) (mLb m3)) m4⟩
 rintro _ w4 ⟨hb,m4,L4⟩
 simp -dsimp -implicitDefEqProofs (maxSteps:=2000000) (disch:=first|assumption|omega|simp only[nx];omega|(repeat apply zfp);assumption|simp only[smA];done|simp[oneCell,znp]) only[go_sem]
 exact⟨by omega,mLt (mLt (mLg gg2) (mLb m3)) m4,L4⟩
set_option maxHeartbeats 16000000 in
theorem move_ok (hs:strB s=true) (c:CarN) (hc:CarOk s c) (hI:LogIn s x):KindIs pR pG pS cR cG cS s b r x c 124 (moveE s x c) (moveN x c):=by
 intro w hL w0 g0 hA hN
 have f:=g0.2
 have hrl:=(str_rooms hs).2
 have hct:=hc.to
 have g1:=(Grown.refl f).push (.cells (carC c) 62 w.next 0 0)
 have O1:=Own.new f 62 (carC c)
 obtain⟨w1,hw1⟩:∃ w1,w.push (.cells (carC c) 62 w.next 0 0)=w1:=⟨_,rfl⟩
 rw[hw1]at g1 O1
 have hld:=loadAll O1 (n:=8) rfl (by simp[carC,oneCell])
 have gg1:=g0.trans g1
 have L1:=hL.grown g1
 have hbl:=fun (o z:Nat)=>indexA_eq (z:=z) (len:=32) (b:=b) (o:=o) (k:=.i64) hc.bag
 have hsb:=same_bag (x.bag c.bag)
 have hnb:=needBag_ok hs c hc w1 g1.2 (hA.grown gg1) hI L1
 have hnr:=fun w' (g':Grown w w')=>needReach_ok hs c hc c.to hc.to w' g'.2 (hA.grown (g0.trans g')) (hL.grown g')
 obtain⟨hbr,hbs⟩:=hI.bag hL.ok c.bag hc.bag
 have hpu:=fun w' (g':Grown w w')=>put_ok hs c hc (x.bag c.bag) hbs w' g'.2 (hA.grown (g0.trans g')) (hL.grown g')
 have hlo:=fun w' (g':Grown w w')=>(hL.grown g').load hc.bag
 have hE:moveE s x c=orE (needE s x c) (orE (reachE s c c.to) (putE s x c (x.bag c.bag))):=rfl
 have hrE:reachE s c c.to=if reachB s (2 ^ c.to) (pairN c) then 0 else 45:=rfl
 have htl:x.trails.getD c.bag 0=x.trails[c.bag]'(by rw[hL.ok.trails];exact hc.bag):=by
  have:=hL.ok.trails
  have:=hc.bag
  simp[List.getD,show c.bag < x.trails.length by omega]
 have hNN:moveN x c=(x.placed c (x.bag c.bag)).mark c.bag (x.trails.getD c.bag 0 ||| 2 ^ c.to):=rfl
 have ht64:=hI.trail _ (List.getElem_mem (show c.bag < x.trails.length by rw[hL.ok.trails];exact hc.bag))
 have hp64:=pow_lt6 (a:=c.to) (by omega)
 have hor:=or_nat (a:=x.trails[c.bag]'(by rw[hL.ok.trails];exact hc.bag)) (b:=2 ^ c.to) (by omega) (by omega)
 have hsR:=full_shl (n:=c.to) (by omega)
 have h0R:¬ (c.to:Int) < 0:=by omega
 generalize reachB s (2 ^ c.to) (pairN c)=RB at *
 generalize reachE s c c.to=RE at *
 generalize needE s x c=NE at *
 generalize putE s x c (x.bag c.bag)=PE at *
 generalize moveE s x c=E at *
 generalize moveN x c=NN at *
 have hbn:b < w.next:=hL.own.lt
 generalize (bagC (x.bag c.bag)).toArray=BV at *
 have htra:∀ w',LogAt w' pR pG pS cR cG cS s b r (x.placed c (x.bag c.bag))->w'.cell? ⟨b,163+c.bag,none⟩=some (.int .i64 ((x.trails[c.bag]'(by rw[hL.ok.trails];exact hc.bag):Nat):Int)):=fun w' L=>L.trail hc.bag
 have hmk:=fun w' f' (L:LogAt w' pR pG pS cR cG cS s b r (x.placed c (x.bag c.bag)))=>L.mark f' hc.bag (x.trails.getD c.bag 0 ||| 2 ^ c.to)
 rw[<- hNN]at hmk
 simp only[htl]at hmk
 generalize x.trails[c.bag]'(by rw[hL.ok.trails];exact hc.bag)=T at *
 generalize hP:2 ^ c.to=PR at *
 unfold carC carV at *
 refine callX_code rfl Tryz.func124 rfl Tryz.s124_eq rfl ?_
 delta Tryz.s124 zo zt zon zv zk
 simp -dsimp -implicitDefEqProofs (maxSteps:=2000000) (disch:=first|assumption|omega|simp only[nx];omega|(repeat apply zfp);assumption|simp only[smA];done|simp[oneCell,znp]) only[go_sem,hw1,hld,Nat.zero_add]
 try rw[hw1]
 apply callXV_of (e:=rfl)
 . exact hnb
 rotate_left
 . rintro _ w2 ⟨hb,rfl,g2⟩
   rw[orE_ne hb]at hE
   simp -dsimp -implicitDefEqProofs (maxSteps:=2000000) (disch:=first|assumption|omega|simp only[nx];omega|(repeat apply zfp);assumption|simp only[smA];done|simp[oneCell,znp]) only[go_sem]
   try intro t'
   exact⟨by omega,by rw[hE],mLg (g1.trans g2)⟩
 rintro _ w2 ⟨hb,g2⟩
 rw[hb,orE_0]at hE
 have O2:=O1.keep g2.1
 have gg2:=g1.trans g2
 have hld2:=loadAll O2 (n:=8) rfl (by simp[oneCell])
 have d32:=O2.cell (o:=3) (v:=.int .i64 (c.to:Int)) rfl rfl
 simp -dsimp -implicitDefEqProofs (maxSteps:=2000000) (disch:=first|assumption|omega|simp only[nx];omega|(repeat apply zfp);assumption|simp only[smA];done|simp[oneCell,znp]) only[go_sem,hld2,d32,Nat.zero_add]
 apply callXV_of (e:=rfl)
 . exact hnr w2 gg2
 rotate_left
 . rintro _ w3 ⟨hb,rfl,g3⟩
   rw[hb,if_neg (by intro z;cases z)]at hrE
   rw[hrE,orE_ne (by omega)]at hE
   simp -dsimp -implicitDefEqProofs (maxSteps:=2000000) (disch:=first|assumption|omega|simp only[nx];omega|(repeat apply zfp);assumption|simp only[smA];done|simp[oneCell,znp]) only[go_sem]
   try intro t'
   exact⟨by omega,by rw[hE];rfl,mLg (gg2.trans g3)⟩
 rintro _ w3 ⟨hb,g3⟩
 rw[hb,if_pos rfl]at hrE
 rw[hrE,orE_0]at hE
 have O3:=O2.keep g3.1
 have gg3:=gg2.trans g3
 have hld3:=loadAll O3 (n:=8) rfl (by simp[oneCell])
 have hlo3:=hlo w3 gg3
 have d23:=O3.cell (o:=2) (v:=.int .i64 (c.bag:Int)) rfl rfl
 have hsc:same 12 (.agg #[.int .i64 (c.day:Int),.int .i64 (c.kind:Int),.int .i64 (c.bag:Int),.int .i64 (c.to:Int),.int .i64 (c.ca:Int),.int .i64 (c.cb:Int),.int .i64 (c.sl:Int),.int .i64 (c.suits:Int)]) (.agg #[.int .i64 (c.day:Int),.int .i64 (c.kind:Int),.int .i64 (c.bag:Int),.int .i64 (c.to:Int),.int .i64 (c.ca:Int),.int .i64 (c.cb:Int),.int .i64 (c.sl:Int),.int .i64 (c.suits:Int)])=true:=same_ints [.int .i64 (c.day:Int),.int .i64 (c.kind:Int),.int .i64 (c.bag:Int),.int .i64 (c.to:Int),.int .i64 (c.ca:Int),.int .i64 (c.cb:Int),.int .i64 (c.sl:Int),.int .i64 (c.suits:Int)] (by simp)
 simp -dsimp -implicitDefEqProofs (maxSteps:=2000000) (disch:=first|assumption|omega|simp only[nx];omega|(repeat apply zfp);assumption|simp only[smA];done|simp[oneCell,znp]) only[go_sem,hld3,d23,hbl,hlo3,hsb,hsc,Nat.zero_add]
 apply callXV_of (e:=rfl)
 . exact hpu w3 gg3
 rotate_left
 . rintro _ w4 ⟨hb,rfl,m4⟩
   simp -dsimp -implicitDefEqProofs (maxSteps:=2000000) (disch:=first|assumption|omega|simp only[nx];omega|(repeat apply zfp);assumption|simp only[smA];done|simp[oneCell,znp]) only[go_sem]
   try intro t'
   exact⟨by omega,by rw[hE],mLt (mLg gg3) (mLb m4)⟩
 rintro _ w4 ⟨hb,m4,L4⟩
 have O4:=m4.own O3 (fun q=>by have:w.next=b:=q;omega)
 have d24:=O4.cell (o:=2) (v:=.int .i64 (c.bag:Int)) rfl rfl
 have d34:=O4.cell (o:=3) (v:=.int .i64 (c.to:Int)) rfl rfl
 have ht4:=htra w4 L4
 obtain⟨w5,st5,L5,m5⟩:=hmk w4 m4.fresh L4
 simp -dsimp -implicitDefEqProofs (maxSteps:=2000000) (disch:=first|assumption|omega|simp only[nx];omega|(repeat apply zfp);assumption|simp only[smA];done|simp[oneCell,znp]) only[go_sem,d24,d34,hbl,ht4,hsR,h0R,hor,st5,Nat.zero_add,Nat.mul_one]
 exact⟨by omega,mLt (mLt (mLg gg3) (mLb m4)) (mLb m5),L5⟩
end
end Go.Proofs

namespace Go.Proofs
open Go Go.RowKit Go.Sim
set_option maxRecDepth 100000
noncomputable def Tryz.s127r2:Array Oper:=match Tryz.f127.body with
 | some c=>regionAt 2 c
 | none=>#[]
noncomputable def Tryz.s127:SC :=
 (.seq
  (.ops false [
    ⟨⟨(some 3),.box 62 (.tmp 1), 0, "",⟨[]⟩,none⟩,none,false⟩])
  (.seq
   (.ops false [
     ⟨⟨(some 4),.move (.tmp 0),104, "",⟨[]⟩,none⟩,none,false⟩,
     ⟨⟨(some 5),.load 62 (.tmp 3),62, "",⟨[]⟩,none⟩,none,false⟩,
     ⟨⟨(some 6),.call ⟨.value (.func 150),⟨[(.tmp 4),(.tmp 5)]⟩,⟨[104,62]⟩⟩, 0, "",⟨[]⟩,none⟩,none,false⟩])
   (.raw (.region 2 Tryz.s127r2 true))))
def Tryz.x127r2:List XOp:=[
 ⟨⟨⟨(some 7),.move (.tmp 0),104, "",⟨[]⟩,none⟩,none,false⟩,0,0,false,none⟩,
 ⟨⟨⟨(some 8),.fieldAddr 62 (.tmp 3) 2, 0, "",⟨[]⟩,none⟩,none,false⟩,1,0,false,none⟩,
 ⟨⟨⟨(some 9),.load 3 (.tmp 8), 3, "",⟨[]⟩,none⟩,none,false⟩,2,0,false,some (3,(.tmp 8))⟩,
 ⟨⟨⟨(some 10),.move (.tmp 0),104, "",⟨[]⟩,none⟩,none,false⟩,3,0,false,none⟩,
 ⟨⟨⟨(some 11),.fieldAddr 62 (.tmp 3) 2, 0, "",⟨[]⟩,none⟩,none,false⟩,4,0,false,none⟩,
 ⟨⟨⟨(some 12),.load 3 (.tmp 11), 3, "",⟨[]⟩,none⟩,none,false⟩,5,0,false,some (3,(.tmp 11))⟩,
 ⟨⟨⟨(some 13),.nilCheck (.tmp 7), 0, "",⟨[]⟩,none⟩,none,false⟩,6,0,false,none⟩,
 ⟨⟨⟨(some 14),.fieldAddr 111 (.tmp 13) 1, 0, "",⟨[]⟩,none⟩,none,false⟩,7,0,false,none⟩,
 ⟨⟨⟨(some 15),.indexAddr 107 (.tmp 14) (.tmp 9), 0, "",⟨[]⟩,none⟩,none,false⟩,8,0,false,none⟩,
 ⟨⟨⟨(some 16),.fieldAddr 47 (.tmp 15) 0, 0, "",⟨[]⟩,none⟩,none,false⟩,9,0,false,none⟩,
 ⟨⟨⟨(some 17),.nilCheck (.tmp 10), 0, "",⟨[]⟩,none⟩,none,false⟩,11,0,false,none⟩,
 ⟨⟨⟨(some 18),.fieldAddr 111 (.tmp 17) 1, 0, "",⟨[]⟩,none⟩,none,false⟩,12,0,false,none⟩,
 ⟨⟨⟨none,.store 3 (.tmp 16) (.const (.int .i64 0)), 0, "",⟨[]⟩,none⟩,none,false⟩,10,967,true,none⟩,
 ⟨⟨⟨(some 19),.indexAddr 107 (.tmp 18) (.tmp 12), 0, "",⟨[]⟩,none⟩,none,false⟩,13,0,false,none⟩,
 ⟨⟨⟨(some 20),.fieldAddr 47 (.tmp 19) 1, 0, "",⟨[]⟩,none⟩,none,false⟩,14,0,false,none⟩,
 ⟨⟨⟨none,.store 3 (.tmp 20) (.const (.int .i64 0)), 0, "",⟨[]⟩,none⟩,none,false⟩,15,32767,true,none⟩]
theorem Tryz.s127_eq:Tryz.f127.body.map (sOfX [2])=some Tryz.s127:=by kernel_rfl
theorem Tryz.x127r2_eq:xRegion Tryz.s127r2=some Tryz.x127r2:=by kernel_rfl
theorem Tryz.x127r2_kinds:xkinds Tryz.x127r2=true:=by kernel_rfl
def takeN (x:LogN) (c:CarN):LogN:=(x.put c.bag 0 0).put c.bag 1 0
section
variable {pR pG pS:Option Addr} {cR cG cS:Nat} {s:StrN} {b r:Nat} {x:LogN}
set_option maxHeartbeats 16000000 in
theorem take_ok (hs:strB s=true) (c:CarN) (hc:CarOk s c) (hI:LogIn s x):KindIs pR pG pS cR cG cS s b r x c 127 (needE s x c) (takeN x c):=by
 intro w hL w0 g0 hA hN
 have f:=g0.2
 have g1:=(Grown.refl f).push (.cells (carC c) 62 w.next 0 0)
 have O1:=Own.new f 62 (carC c)
 obtain⟨w1,hw1⟩:∃ w1,w.push (.cells (carC c) 62 w.next 0 0)=w1:=⟨_,rfl⟩
 rw[hw1]at g1 O1
 have hld:=loadAll O1 (n:=8) rfl (by simp[carC,oneCell])
 have gg1:=g0.trans g1
 have L1:=hL.grown g1
 have hbl:=fun (o z:Nat)=>indexA_eq (z:=z) (len:=32) (b:=b) (o:=o) (k:=.i64) hc.bag
 have hnb:=needBag_ok hs c hc w1 g1.2 (hA.grown gg1) hI L1
 have hbn:b < w.next:=hL.own.lt
 generalize needE s x c=E at *
 unfold carC carV at *
 refine callX_codeZ [2] rfl Tryz.func127 rfl Tryz.s127_eq rfl ?_
 delta Tryz.s127 zo zt zg zh zon ztn zgn zhn zv zk
 simp -dsimp -implicitDefEqProofs (maxSteps:=2000000) (disch:=first|assumption|omega|simp only[nx];omega|(repeat apply zfp);assumption|simp only[smA];done|simp[oneCell,znp]) only[go_sem,hw1,hld,Nat.zero_add]
 try rw[hw1]
 apply callXV_of (e:=rfl)
 . exact hnb
 rotate_left
 . rintro _ w2 ⟨hb,rfl,g2⟩
   simp -dsimp -implicitDefEqProofs (maxSteps:=2000000) (disch:=first|assumption|omega|simp only[nx];omega|(repeat apply zfp);assumption|simp only[smA];done|simp[oneCell,znp]) only[go_sem]
   try intro t'
   exact⟨by omega,trivial,mLg (g1.trans g2)⟩
 rintro _ w2 ⟨hb,g2⟩
 have O2:=O1.keep g2.1
 have gg2:=g1.trans g2
 have L2:=hL.grown gg2
 have d2:=O2.cell (o:=2) (v:=.int .i64 (c.bag:Int)) rfl rfl
 obtain⟨w3,st3,L3,m3⟩:=L2.put gg2.2 hc.bag 0 (by omega) 0
 have O3:=m3.own O2 (fun q=>by have:w.next=b:=q;omega)
 have d23:=O3.cell (o:=2) (v:=.int .i64 (c.bag:Int)) rfl rfl
 obtain⟨w4,st4,L4,m4⟩:=L3.put m3.fresh hc.bag 1 (by omega) 0
 have st3':storeV w2 false 1 (.pointer (some ⟨b,3+c.bag * 5,none⟩)) (.int .i64 0)=some w3:=st3
 have st4':storeV w3 false 1 (.pointer (some ⟨b,3+c.bag * 5+1,none⟩)) (.int .i64 0)=some w4:=st4
 have O4:=m4.own O3 (fun q=>by have:w.next=b:=q;omega)
 have d24:=O4.cell (o:=2) (v:=.int .i64 (c.bag:Int)) rfl rfl
 simp -dsimp -implicitDefEqProofs (maxSteps:=2000000) (disch:=first|assumption|omega|simp only[nx];omega|(repeat apply zfp);assumption|simp only[smA];done|simp[oneCell,znp]) only[go_sem]
 show CodeT _ _ _ _ _ _ _ _
 refine codeT_regX Tryz.x127r2_eq Tryz.x127r2_kinds ?_
 unfold Tryz.x127r2
 simp -dsimp -implicitDefEqProofs (maxSteps:=2000000) (disch:=first|assumption|omega|simp only[nx];omega|(repeat apply zfp);assumption|simp only[smA];done|simp[oneCell,znp]) only[go_sem,d2,d23,hbl,st3',st4',Nat.zero_add]
 refine⟨⟨.inr ?_,.inl (show Nat.testBit 967 2=true by decide),trivial⟩,?_⟩
 . intro inf hi
   have hi':some inf=(prg Tryz.prog).ty 3:=hi.symm
   rw[Tryz.ty3]at hi'
   cases hi'
   show w3.cell? ⟨w.next,2,none⟩=w2.cell? ⟨w.next,2,none⟩
   rw[d23,d2]
 simp -dsimp -implicitDefEqProofs (maxSteps:=2000000) (disch:=first|assumption|omega|simp only[nx];omega|(repeat apply zfp);assumption|simp only[smA];done|simp[oneCell,znp]) only[go_sem,d2,d23,hbl,st3',st4',Nat.zero_add]
 refine⟨⟨.inl (show Nat.testBit 32767 5=true by decide),.inl (show Nat.testBit 32767 2=true by decide),trivial⟩,?_⟩
 simp -dsimp -implicitDefEqProofs (maxSteps:=2000000) (disch:=first|assumption|omega|simp only[nx];omega|(repeat apply zfp);assumption|simp only[smA];done|simp[oneCell,znp]) only[go_sem]
 exact⟨hb,mLt (mLt (mLg gg2) (mLb m3)) (mLb m4),L4⟩
end
end Go.Proofs

namespace Go.Proofs
open Go Go.RowKit Go.Sim
set_option maxRecDepth 100000
def fstRegion (f:Func):Nat × Array Oper:=match f.body with
 | some (.seq (.region id ops _) _)=>(id,ops)
 | _=>(0,#[])
def restOf (f:Func):Code:=match f.body with
 | some (.seq _ b)=>b
 | _=>.skip
def isRec:List Oper->Option (Option Tmp × List Oper)
 | ⟨dst,.call ⟨.builtin .recover,_,_⟩,_,_,_,none⟩ :: l=>some (dst,l)
 | _=>none
theorem isRec_eq {ops:List Oper} {dst:Option Tmp} {l:List Oper} (h:isRec ops=some (dst,l)):∃ a tys ty pos af,ops=⟨dst,.call ⟨.builtin .recover,a,tys⟩,ty,pos,af,none⟩ :: l:=by
 unfold isRec at h
 split at h
 . simp only[Option.some.injEq,Prod.mk.injEq]at h
   obtain⟨rfl,rfl⟩:=h
   exact⟨_,_,_,_,_,rfl⟩
 . cases h
theorem codeT_ofR {P:Program} {told:ToldF} {env:Env} {c:Code} {s:SC} {t:Tmps} {ds:List DI} {w:AW} {Q:Post} (hs:sOf c=s) (h:CodeR P told env s t ds w Q .mk):CodeT P told env c t ds w Q:=by
 subst hs;exact codeR_codeT c h
theorem leftX_recovered {P:Program} {told:ToldF} {rs:List ResultVar} {v:Value} {t:Tmps} {f:FuncId} {args cap:Array Value} {w:AW} {Q R:Value->AW->Prop} (h:DefT P told f (args++cap) (some v) w fun b w'=>b=true/\∃ vs,aresults (prg P) false t w' rs=some vs/\Q (tupled vs) w'):LeftX P told rs (.pan v) t [.call f args cap] w Q R:=by
 refine⟨(by intro id q;cases q),DefersT.call ?_⟩
 obtain⟨N,b,w',h1,rfl,vs,h2,h3⟩:=h
 exact⟨N,true,w',h1,by show DefersT P told none [] w' _;rw[DefersT.nil];exact⟨vs,h2,h3⟩⟩
theorem leftX_done {P:Program} {told:ToldF} {rs:List ResultVar} {t:Tmps} {f:FuncId} {args cap:Array Value} {w:AW} {Q R:Value->AW->Prop} (h:DefT P told f (args++cap) none w fun b w'=>b=false/\∃ vs,aresults (prg P) true t w' rs=some vs/\Q (tupled vs) w'):LeftX P told rs .ret t [.call f args cap] w Q R:=by
 refine⟨(by intro id q;cases q),DefersT.call ?_⟩
 obtain⟨N,b,w',h1,rfl,vs,h2,h3⟩:=h
 exact⟨N,false,w',h1,by show DefersT P told none [] w' _;rw[DefersT.nil];exact⟨vs,h2,h3⟩⟩
theorem DefT.mono {P:Program} {told:ToldF} {f:FuncId} {args:Array Value} {pan:Option Value} {w:AW} {K L:Bool->AW->Prop} (h:DefT P told f args pan w K) (k:∀ b w',K b w'->L b w'):DefT P told f args pan w L :=
 let ⟨N,b,w',a,c⟩:=h;⟨N,b,w',a,k _ _ c⟩
end Go.Proofs
namespace Go.Sim
open Go Go.RowKit
theorem stepX_insert {P:Program} {told:ToldF} {draw tie:Bool} {d:Option Tmp} {ty0:TypeId} {pos:String} {af:Array Edge} {gd:Option (Nat × Bool)} {t:Tmps} {w:AW} {K:Tmps->AW->Prop} {KP:Value->Tmps->AW->Prop} {ty:TypeId} {m x y:Operand} {tk:Tok ((⟨d,.insert ty m x y,ty0,pos,af,gd⟩:Oper),t,w,K,KP)}:StepXR P told draw tie ⟨d,.insert ty m x y,ty0,pos,af,gd⟩ t w K KP tk=StepR P told draw tie ⟨d,.insert ty m x y,ty0,pos,af,gd⟩ t w K .mk:=rfl
attribute [go_sem] stepX_insert
end Go.Sim

namespace Go.Proofs
open Go Go.RowKit Go.Sim
set_option maxRecDepth 100000
noncomputable def Tryz.s104r4:Array Oper:=match Tryz.f104.body with
 | some c=>regionAt 4 c
 | none=>#[]
noncomputable def Tryz.s104:SC :=
 (.seq
  (.ops false [
    ⟨⟨(some 3),.box 62 (.tmp 1), 0, "",⟨[]⟩,none⟩,none,false⟩,
    ⟨⟨(some 4),.alloc 27, 0, "",⟨[]⟩,none⟩,none,false⟩])
  (.seq
   (.raw (.region 1 (dfOps Tryz.f104) false))
   (.seq
    (.ops false [
      ⟨⟨(some 7),.makeMap 154 none,154, "",⟨[]⟩,none⟩,none,false⟩,
      ⟨⟨none,.insert 154 (.tmp 7) (.const (.int .i64 1)) (.func 123), 0, "",⟨[]⟩,none⟩,none,false⟩,
      ⟨⟨none,.insert 154 (.tmp 7) (.const (.int .i64 2)) (.func 124), 0, "",⟨[]⟩,none⟩,none,false⟩,
      ⟨⟨none,.insert 154 (.tmp 7) (.const (.int .i64 3)) (.func 125), 0, "",⟨[]⟩,none⟩,none,false⟩,
      ⟨⟨none,.insert 154 (.tmp 7) (.const (.int .i64 4)) (.func 126), 0, "",⟨[]⟩,none⟩,none,false⟩,
      ⟨⟨none,.insert 154 (.tmp 7) (.const (.int .i64 5)) (.func 127), 0, "",⟨[]⟩,none⟩,none,false⟩,
      ⟨⟨(some 8),.move (.tmp 7),154, "",⟨[]⟩,none⟩,none,false⟩,
      ⟨⟨(some 5),.assign (.tmp 8),154, "",⟨[]⟩,none⟩,none,false⟩])
    (.seq
     (.ops false [
       ⟨⟨(some 9),.move (.tmp 5),154, "",⟨[]⟩,none⟩,none,false⟩,
       ⟨⟨(some 10),.fieldAddr 62 (.tmp 3) 1, 0, "",⟨[]⟩,none⟩,none,false⟩,
       ⟨⟨(some 11),.load 3 (.tmp 10), 3, "",⟨[]⟩,none⟩,none,false⟩,
       ⟨⟨(some 12),.lookup 154 (.tmp 9) (.tmp 11) false,153, "",⟨[]⟩,none⟩,none,false⟩,
       ⟨⟨(some 13),.move (.tmp 0),104, "",⟨[]⟩,none⟩,none,false⟩,
       ⟨⟨(some 14),.load 62 (.tmp 3),62, "",⟨[]⟩,none⟩,none,false⟩,
       ⟨⟨(some 15),.call ⟨.value (.tmp 12),⟨[(.tmp 13),(.tmp 14)]⟩,⟨[104,62]⟩⟩, 0, "",⟨[]⟩,none⟩,none,false⟩])
     (.seq
      (.raw (.region 4 Tryz.s104r4 true))
      (.seq
       (.ops false [
         ⟨⟨none,.store 27 (.tmp 4) (.const (.int .i64 0)), 0, "",⟨[]⟩,none⟩,none,false⟩])
       .ret))))))
def Tryz.x104r4:List XOp:=[
 ⟨⟨⟨(some 16),.move (.tmp 0),104, "",⟨[]⟩,none⟩,none,false⟩,0,0,false,none⟩,
 ⟨⟨⟨(some 17),.fieldAddr 62 (.tmp 3) 2, 0, "",⟨[]⟩,none⟩,none,false⟩,1,0,false,none⟩,
 ⟨⟨⟨(some 18),.load 3 (.tmp 17), 3, "",⟨[]⟩,none⟩,none,false⟩,2,0,false,some (3,(.tmp 17))⟩,
 ⟨⟨⟨(some 19),.move (.tmp 0),104, "",⟨[]⟩,none⟩,none,false⟩,3,0,false,none⟩,
 ⟨⟨⟨(some 20),.fieldAddr 62 (.tmp 3) 2, 0, "",⟨[]⟩,none⟩,none,false⟩,4,0,false,none⟩,
 ⟨⟨⟨(some 21),.load 3 (.tmp 20), 3, "",⟨[]⟩,none⟩,none,false⟩,5,0,false,some (3,(.tmp 20))⟩,
 ⟨⟨⟨(some 22),.fieldAddr 62 (.tmp 3) 4, 0, "",⟨[]⟩,none⟩,none,false⟩,6,0,false,none⟩,
 ⟨⟨⟨(some 23),.load 3 (.tmp 22), 3, "",⟨[]⟩,none⟩,none,false⟩,7,0,false,some (3,(.tmp 22))⟩,
 ⟨⟨⟨(some 24),.fieldAddr 62 (.tmp 3) 5, 0, "",⟨[]⟩,none⟩,none,false⟩,8,0,false,none⟩,
 ⟨⟨⟨(some 25),.load 3 (.tmp 24), 3, "",⟨[]⟩,none⟩,none,false⟩,9,0,false,some (3,(.tmp 24))⟩,
 ⟨⟨⟨(some 26),.nilCheck (.tmp 16), 0, "",⟨[]⟩,none⟩,none,false⟩,10,0,false,none⟩,
 ⟨⟨⟨(some 27),.fieldAddr 111 (.tmp 26) 1, 0, "",⟨[]⟩,none⟩,none,false⟩,11,0,false,none⟩,
 ⟨⟨⟨(some 28),.indexAddr 107 (.tmp 27) (.tmp 18), 0, "",⟨[]⟩,none⟩,none,false⟩,12,0,false,none⟩,
 ⟨⟨⟨(some 29),.fieldAddr 47 (.tmp 28) 3, 0, "",⟨[]⟩,none⟩,none,false⟩,13,0,false,none⟩,
 ⟨⟨⟨(some 30),.nilCheck (.tmp 19), 0, "",⟨[]⟩,none⟩,none,false⟩,15,0,false,none⟩,
 ⟨⟨⟨(some 31),.fieldAddr 111 (.tmp 30) 1, 0, "",⟨[]⟩,none⟩,none,false⟩,16,0,false,none⟩,
 ⟨⟨⟨none,.store 3 (.tmp 29) (.tmp 23), 0, "",⟨[]⟩,none⟩,none,false⟩,14,15559,true,none⟩,
 ⟨⟨⟨(some 32),.indexAddr 107 (.tmp 31) (.tmp 21), 0, "",⟨[]⟩,none⟩,none,false⟩,17,0,false,none⟩,
 ⟨⟨⟨(some 33),.fieldAddr 47 (.tmp 32) 4, 0, "",⟨[]⟩,none⟩,none,false⟩,18,0,false,none⟩,
 ⟨⟨⟨none,.store 3 (.tmp 33) (.tmp 25), 0, "",⟨[]⟩,none⟩,none,false⟩,19,524287,true,none⟩]
theorem Tryz.s104_eq:Tryz.f104.body.map (sOfX [4])=some Tryz.s104:=by kernel_rfl
theorem Tryz.x104r4_eq:xRegion Tryz.s104r4=some Tryz.x104r4:=by kernel_rfl
theorem Tryz.x104r4_kinds:xkinds Tryz.x104r4=true:=by kernel_rfl
def Tryz.s122r:SC:=(.block 0 (.seq (.ops false [zo 5 (.binOp .eql 20 (zv 4) (.const .nilIface) 20) 4]) (.cond (.tmp 5) (.ops false [zo 1 (.assign (zv 4)) 20]) (.seq (.ops false [zo 6 (.typeAssert (zv 4) 20 27 true) 0,zo 7 (.extract (zv 6) 1) 4,zo 8 (.extract (zv 6) 0) 27]) (.cond (.tmp 7) (.seq (.ops false [zo 2 (.assign (zv 8)) 27]) (.ops false [zo 9 (.move (zv 2)) 27,zon (.store 27 (zv 0) (zv 9)) 0])) (.seq (.ops false [zo 3 (.assign (zv 4)) 20]) (.ops false [zon (.store 27 (zv 0) (zk 43)) 0])))))))
theorem Tryz.s122r_eq:sOf (restOf Tryz.f122)=Tryz.s122r:=by kernel_rfl
theorem Tryz.b122:Tryz.f122.body=some (.seq (.region (fstRegion Tryz.f122).1 (fstRegion Tryz.f122).2 false) (restOf Tryz.f122)):=by kernel_rfl
theorem Tryz.hd104:hasDefer (dfOps Tryz.f104).toList=true:=by kernel_rfl
theorem Tryz.ld104:((dfOps Tryz.f104).toList.map fun o=>(⟨Go.Sim.bare o,Go.Sim.guardOf (dfOps Tryz.f104) o,false⟩:SOp))=[⟨⟨some 6,.makeFunc (.func 122) ⟨[]⟩ ⟨[.tmp 4]⟩, 1, "",⟨[]⟩,none⟩,none,false⟩,⟨⟨none,.defer ⟨.value (.tmp 6),⟨[]⟩,⟨[]⟩⟩, 0, "",⟨[]⟩,none⟩,none,false⟩]:=by kernel_rfl
theorem Tryz.rec122:(isRec (fstRegion Tryz.f122).2.toList).map (fun p=>(p.1,p.2.length))=some (some 4,0):=by kernel_rfl
structure MapF (w:AW) (r:Nat) (L:List (Int × Value)):Prop where
 blk:∃ es clock,w.blk r=some (.map es clock)/\es.toList.map (fun e=>(e.key,e.val))=L.map fun p=>(Value.int .i64 p.1,p.2)
 lt:r < w.next
theorem findNow_f (k:Int):∀ (es:List MapEntry) (L:List (Int × Value)) (i:Nat),es.map (fun e=>(e.key,e.val))=L.map (fun p=>(Value.int .i64 p.1,p.2)) ->
    (∀ v,L.lookup k=some v->∃ j,Instr.findNow (.int .i64) (.int .i64 k) es i=some (some (j,v)))/\(L.lookup k=none->Instr.findNow (.int .i64) (.int .i64 k) es i=some none)
 | [],[],i,_=>⟨fun v h=>by simp at h,fun _=>rfl⟩
 | [],_ :: _,_,h=>by simp at h
 | _ :: _,[],_,h=>by simp at h
 | e :: es,(x,v) :: L,i,h=>by
  simp only[List.map_cons,List.cons.injEq,Prod.mk.injEq]at h
  obtain⟨⟨h1,h2⟩,h3⟩:=h
  obtain⟨ih1,ih2⟩:=findNow_f k es L (i+1) h3
  have he:Instr.sameNow (.int .i64) (.int .i64 k) e.key=some (k == x):=by rw[h1];rfl
  by_cases q:k=x
  · have hb:(k == x)=true:=by simp[q]
    rw[hb]at he
    refine⟨fun u hu=>⟨i,?_⟩,fun hn=>?_⟩
    . rw[List.lookup_cons,hb]at hu
      simp only[Option.some.injEq]at hu
      simp only[Instr.findNow,he,h2,hu]
    . rw[List.lookup_cons,hb]at hn;cases hn
  · have hb:(k == x)=false:=by simp[q]
    rw[hb]at he
    refine⟨fun u hu=>?_,fun hn=>?_⟩
    . rw[List.lookup_cons,hb]at hu
      obtain⟨j,hj⟩:=ih1 u hu
      exact⟨j,by simp only[Instr.findNow,he,hj]⟩
    . rw[List.lookup_cons,hb]at hn
      simp only[Instr.findNow,he]
      exact ih2 hn
theorem MapF.lookup {w:AW} {r:Nat} {L:List (Int × Value)} (h:MapF w r L) {k:Int} {v z:Value} (hv:L.lookup k=some v):lookupV w (.int .i64) z (.map (some r)) (.int .i64 k) false=some v:=by
 obtain⟨⟨es,c,h1,h2⟩,h4⟩:=h
 obtain⟨j,hj⟩:=(findNow_f k es.toList L 0 h2).1 v hv
 unfold lookupV
 simp only[simpleKey,h1,hj]
theorem MapF.ins {g:Prg} {ty kt e:TypeId} {a1 a2:Bool} {n1 b1 n2 b2:Nat} {z1 z2:Value} (ht:g.ty ty=some ⟨a1,.map kt e,n1,b1,z1⟩) (hk:g.ty kt=some ⟨a2,.int .i64,n2,b2,z2⟩) {w:AW} {r:Nat} {L:List (Int × Value)} (f:Fresh w) (h:MapF w r L) (k:Int) (v:Value) (hn:L.lookup k=none) :
    ∃ w',updateV g w ty (.map (some r)) (.int .i64 k) v=some w'/\MapF w' r (L++[(k,v)])/\MutS (fun j=>j=r) w w'/\w'.next=w.next:=by
 obtain⟨⟨es,c,h1,h2⟩,h4⟩:=h
 have f2:=(findNow_f k es.toList L 0 h2).2 hn
 refine⟨w.put r (.map (es.push { key:=.int .i64 k,val:=v,born:=c }) (c+1)),?_,⟨⟨_,_,by rw[AW.blk_put _ _ _ _ (Trie.in_ _) (Trie.in_ _),if_pos rfl],?_⟩,by rw[AW.next_put];exact h4⟩,MutS.put (S:=fun j=>j=r) f rfl h4 _,AW.next_put _ _ _⟩
 . unfold updateV
   simp only[ht,hk,h1,simpleKey,f2]
 . simp[h2]
theorem MapF.new {w:AW} (f:Fresh w):MapF (w.push (.map #[] 0)) w.next []:=⟨⟨#[],0,blk_push_top _ _,rfl⟩,by rw[AW.next_push];omega⟩
theorem Tryz.lk154 (t:Tmps) (w:AW) (x y:Operand) (ok:Bool):fast (prg Tryz.prog) t w (.lookup 154 x y ok)=lookupV w (.int .i64) .nilFunc (ev t x) (ev t y) ok:=by simp only[fast,Tryz.ty154,Tryz.ty3,Tryz.ty153,simpleKey]
attribute [go_sem] Tryz.lk154
def fn0 (f:Nat):Value:=.func (.func f) #[] #[]
def kinds5:List (Int × Value):=[(1,fn0 123),(2,fn0 124),(3,fn0 125),(4,fn0 126),(5,fn0 127)]
theorem kinds_made (w:AW) (f:Fresh w):∃ w1 w2 w3 w4 w5,updateV (prg Tryz.prog) (w.push (.map #[] 0)) 154 (.map (some w.next)) (.int .i64 1) (fn0 123)=some w1/\updateV (prg Tryz.prog) w1 154 (.map (some w.next)) (.int .i64 2) (fn0 124)=some w2/\updateV (prg Tryz.prog) w2 154 (.map (some w.next)) (.int .i64 3) (fn0 125)=some w3/\updateV (prg Tryz.prog) w3 154 (.map (some w.next)) (.int .i64 4) (fn0 126)=some w4/\updateV (prg Tryz.prog) w4 154 (.map (some w.next)) (.int .i64 5) (fn0 127)=some w5/\MapF w5 w.next kinds5/\Grown w w5:=by
 have g0:=(Grown.refl f).push (.map #[] 0)
 have h0:=MapF.new f
 obtain⟨w1,e1,h1,m1,n1⟩:=h0.ins Tryz.ty154 Tryz.ty3 g0.2 1 (fn0 123) rfl
 obtain⟨w2,e2,h2,m2,n2⟩:=h1.ins Tryz.ty154 Tryz.ty3 m1.fresh 2 (fn0 124) rfl
 obtain⟨w3,e3,h3,m3,n3⟩:=h2.ins Tryz.ty154 Tryz.ty3 m2.fresh 3 (fn0 125) rfl
 obtain⟨w4,e4,h4,m4,n4⟩:=h3.ins Tryz.ty154 Tryz.ty3 m3.fresh 4 (fn0 126) rfl
 obtain⟨w5,e5,h5,m5,n5⟩:=h4.ins Tryz.ty154 Tryz.ty3 m4.fresh 5 (fn0 127) rfl
 have mm:=(((m1.trans m2 (Within.refl _ _)).trans m3 (Within.refl _ _)).trans m4 (Within.refl _ _)).trans m5 (Within.refl _ _)
 refine⟨w1,w2,w3,w4,w5,e1,e2,e3,e4,e5,h5,⟨g0.1.trans (mm.keep (fun j q=>by omega) g0.1.next),mm.fresh⟩⟩
theorem rec122:∃ a tys ty pos af,(fstRegion Tryz.f122).2.toList=[⟨some 4,.call ⟨.builtin .recover,a,tys⟩,ty,pos,af,none⟩]:=by
 have h:=Tryz.rec122
 cases q:isRec (fstRegion Tryz.f122).2.toList with
 | none=>rw[q]at h;cases h
 | some p =>
  obtain⟨d,l⟩:=p
  rw[q]at h
  simp only[Option.map_some,Option.some.injEq,Prod.mk.injEq]at h
  obtain⟨rfl,hl⟩:=h
  obtain rfl:=List.length_eq_zero_iff.mp hl
  exact isRec_eq q
theorem defer_okV (be:Nat) (e:Int) (pan:Option Value) (w:AW) (hO:Own w be 27 [.int .i64 0]) (hp:pan=none \/ pan=some (.iface 27 (.int .i64 e))):DefT Tryz.prog Tryz.T1 122 #[.pointer (some ⟨be,0,none⟩)] pan w (fun b w'=>(pan=none/\b=false/\w=w') \/ (pan=some (.iface 27 (.int .i64 e))/\b=true/\w'=w.put be (.cells [.int .i64 e] 27 be 0 0))):=by
 have hst:=storeV_own1 (o:=0) (v:=.int .i64 e) hO (by simp) rfl
 simp only[setL]at hst
 obtain⟨a,tys,ty,pos,af,ho⟩:=rec122
 refine defT_code Tryz.func122 rfl Tryz.b122 ho rfl ?_
 refine opsT_nil ?_
 refine codeT_ofR Tryz.s122r_eq ?_
 delta Tryz.s122r zo zon zv zk
 rcases hp with rfl|rfl
 . simp -dsimp -implicitDefEqProofs (maxSteps:=2000000) (disch:=first|assumption|omega|simp only[nx];omega|(repeat apply zfp);assumption|simp only[smA];done|simp[oneCell,znp]) only[go_sem,Option.getD]
   exact⟨.inl trivial,trivial,[],rfl,.inl ⟨trivial,rfl,trivial⟩⟩
 . simp -dsimp -implicitDefEqProofs (maxSteps:=2000000) (disch:=first|assumption|omega|simp only[nx];omega|(repeat apply zfp);assumption|simp only[smA];done|simp[oneCell,znp]) only[go_sem,Option.getD,hst]
   exact⟨.inl trivial,trivial,[],rfl,.inr ⟨trivial,rfl,trivial⟩⟩
end Go.Proofs
