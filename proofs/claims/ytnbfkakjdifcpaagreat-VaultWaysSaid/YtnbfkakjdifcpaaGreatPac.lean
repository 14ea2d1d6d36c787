/- This program: its code, contracts, numbers, part 3. -/
import Derived.Test.YtnbfkakjdifcpaaGreatPab
import Derived.Test.YtnbfkakjdifcpaaGreatPaa
import Derived.Test.YtnbfkakjdifcpaaGreatNa
set_option linter.unusedVariables false
set_option linter.unusedSimpArgs false
namespace Go.Proofs
open Go Go.RowKit Go.Sim
theorem str_rooms {s:StrN} (hs:strB s=true):1≤s.rooms.length/\s.rooms.length≤6:=by
 unfold strB roomsB at hs
 rw[Bool.and_eq_true,Bool.and_eq_true]at hs
 have:=(inR_iff _ _ _).1 hs.1.1;omega
theorem str_gates {s:StrN} (hs:strB s=true):s.gates.length≤10/\∀ x ∈ s.gates,gateB s.rooms.length x=true:=by
 unfold strB gatesB at hs
 simp only[Bool.and_eq_true,decide_eq_true_eq]at hs
 exact⟨by omega,List.all_eq_true.1 hs.2.1.2⟩
theorem str_staff {s:StrN} (hs:strB s=true):2≤s.staff.length/\s.staff.length≤6/\∀ x ∈ s.staff,0≤x/\x≤255:=by
 unfold strB staffB at hs
 simp only[Bool.and_eq_true]at hs
 have:=(inR_iff _ _ _).1 hs.2.2.1
 exact⟨by omega,by omega,fun x hx=>(setB_iff _).1 (List.all_eq_true.1 hs.2.2.2 x hx)⟩
end Go.Proofs

namespace Go.Proofs
open Go Go.RowKit Go.Sim
set_option maxRecDepth 100000
def Tryz.s47:SC:=(.seq (.ops false [zo 2 (.box 26 (zv 0)) 0,zo 4 (.alloc 80) 0,zo 5 (.assign (zk 0)) 27]) (.seq (.seq (.ops false [zo 7 (.load 26 (zv 2)) 26,zo 8 (.call ⟨.value (.func 17),⟨[(zv 7)]⟩,⟨[26]⟩⟩) 27,zo 6 (.assign (zv 8)) 27]) (.seq (.ops false [zo 9 (.move (zv 6)) 27,zo 10 (.binOp .neq 27 (zv 9) (zk 0) 27) 4]) (.cond (.tmp 10) (.seq (.ops false [zo 11 (.build 80 ⟨[]⟩) 80,zo 12 (.move (zv 6)) 27,zon (.store 80 (zv 4) (zv 11)) 0,zo 5 (.assign (zv 12)) 27]) .ret) .skip))) (.seq (.seq (.ops false [zo 13 (.move (zv 1)) 3,zo 14 (.fieldAddr 26 (zv 2) 2) 0,zo 15 (.load 24 (zv 14)) 24,zo 16 (.call ⟨.builtin .len,⟨[(zv 15)]⟩,⟨[24]⟩⟩) 3,zo 17 (.call ⟨.value (.func 54),⟨[(zv 13),(zv 16)]⟩,⟨[3,3]⟩⟩) 4,zo 18 (.unOp .not 4 (zv 17)) 4]) (.cond (.tmp 18) (.seq (.ops false [zo 19 (.build 80 ⟨[]⟩) 80,zon (.store 80 (zv 4) (zv 19)) 0,zo 5 (.assign (zk 41)) 27]) .ret) .skip)) (.seq (.ops false [zo 20 (.load 26 (zv 2)) 26,zo 21 (.move (zv 1)) 3,zo 22 (.call ⟨.value (.func 76),⟨[(zv 20),(zv 21)]⟩,⟨[26,77]⟩⟩) 80,zon (.store 80 (zv 4) (zv 22)) 0,zo 5 (.assign (zk 0)) 27]) .ret))))
def Tryz.s39:SC:=(.seq (.ops false [zo 6 (.assign (.const (.bool false))) 4]) (.seq (.ops false [zo 7 (.move (zv 0)) 3,zo 8 (.move (zv 1)) 3,zo 9 (.binOp .leq 3 (zv 7) (zv 8) 3) 4,zo 10 (.move (zv 9)) 4,zg 11 (.move (zv 1)) 3 10 true,zg 12 (.move (zv 2)) 3 10 true,zg 13 (.binOp .leq 3 (zv 11) (zv 12) 3) 4 10 true,zo 14 (.pick (zv 10) (zv 13) (.const (.bool false))) 4,zo 6 (.assign (zv 14)) 4]) .ret))
def Tryz.s40:SC:=(.seq (.ops false [zo 4 (.assign (.const (.bool false))) 4]) (.seq (.ops false [zo 5 (.move (zv 0)) 3,zo 6 (.move (zv 1)) 3,zo 7 (.binOp .shr 3 (zv 5) (zv 6) 3) 3,zo 8 (.binOp .rem 3 (zv 7) (zk 2) 3) 3,zo 9 (.binOp .eql 3 (zv 8) (zk 1) 3) 4,zo 4 (.assign (zv 9)) 4]) .ret))
def Tryz.s18_c8:SC:=(.seq (.ops false [zo 8 (.assign (zk 0)) 3]) (.block 4 (.loop (.seq (.seq (.ops false [zo 103 (.move (zv 8)) 3,zo 104 (.fieldAddr 71 (zv 7) 3) 0,zo 105 (.load 24 (zv 104)) 24,zo 106 (.call ⟨.builtin .len,⟨[(zv 105)]⟩,⟨[24]⟩⟩) 3,zo 107 (.binOp .lss 3 (zv 103) (zv 106) 3) 4]) (.cond (.tmp 107) .skip (.exit 4))) (.seq (.block 5 (.ops false [zo 110 (.move (zv 3)) 4,zo 111 (.move (zv 110)) 4,zg 112 (.fieldAddr 71 (zv 7) 3) 0 111 true,zg 113 (.load 24 (zv 112)) 24 111 true,zg 114 (.move (zv 8)) 3 111 true,zg 115 (.indexAddr 24 (zv 113) (zv 114)) 0 111 true,zg 116 (.load 3 (zv 115)) 3 111 true,zg 117 (.call ⟨.value (.func 39),⟨[(zk 0),(zv 116),(zk 255)]⟩,⟨[3,3,3]⟩⟩) 4 111 true,zo 118 (.pick (zv 111) (zv 117) (.const (.bool false))) 4,zo 3 (.assign (zv 118)) 4])) (.ops false [zo 108 (.move (zv 8)) 3,zo 109 (.binOp .add 3 (zv 108) (zk 1) 3) 3,zo 8 (.assign (zv 109)) 3]))))))
def Tryz.s18_c4:SC:=(.seq (.ops false [zo 4 (.assign (zk 0)) 3]) (.block 0 (.loop (.seq (.seq (.ops false [zo 26 (.move (zv 4)) 3,zo 27 (.fieldAddr 26 (zv 1) 0) 0,zo 28 (.load 22 (zv 27)) 22,zo 29 (.call ⟨.builtin .len,⟨[(zv 28)]⟩,⟨[22]⟩⟩) 3,zo 30 (.binOp .lss 3 (zv 26) (zv 29) 3) 4]) (.cond (.tmp 30) .skip (.exit 0))) (.seq (.block 1 (.seq (.ops false [zo 33 (.fieldAddr 26 (zv 1) 0) 0,zo 34 (.load 22 (zv 33)) 22,zo 35 (.move (zv 4)) 3,zo 36 (.indexAddr 22 (zv 34) (zv 35)) 0,zo 37 (.load 73 (zv 36)) 73,zo 5 (.alloc 73) 0,zon (.store 73 (zv 5) (zv 37)) 0]) (.ops false [zo 38 (.move (zv 3)) 4,zo 39 (.move (zv 38)) 4,zg 40 (.fieldAddr 73 (zv 5) 0) 0 39 true,zg 41 (.load 3 (zv 40)) 3 39 true,zg 42 (.call ⟨.value (.func 39),⟨[(zk 0),(zv 41),(zk 16)]⟩,⟨[3,3,3]⟩⟩) 4 39 true,zo 43 (.pick (zv 39) (zv 42) (.const (.bool false))) 4,zo 44 (.move (zv 43)) 4,zg 45 (.fieldAddr 73 (zv 5) 1) 0 44 true,zg 46 (.load 3 (zv 45)) 3 44 true,zg 47 (.call ⟨.value (.func 39),⟨[(zk 0),(zv 46),(zk 3)]⟩,⟨[3,3,3]⟩⟩) 4 44 true,zo 48 (.pick (zv 44) (zv 47) (.const (.bool false))) 4,zo 49 (.move (zv 48)) 4,zg 50 (.fieldAddr 73 (zv 5) 2) 0 49 true,zg 51 (.load 3 (zv 50)) 3 49 true,zg 52 (.call ⟨.value (.func 39),⟨[(zk 0),(zv 51),(zk 255)]⟩,⟨[3,3,3]⟩⟩) 4 49 true,zo 53 (.pick (zv 49) (zv 52) (.const (.bool false))) 4,zo 3 (.assign (zv 53)) 4]))) (.ops false [zo 31 (.move (zv 4)) 3,zo 32 (.binOp .add 3 (zv 31) (zk 1) 3) 3,zo 4 (.assign (zv 32)) 3]))))))
def Tryz.s18:SC:=(.seq (.ops false [zo 1 (.box 26 (zv 0)) 0,zo 2 (.assign (zk 0)) 27]) (.seq (.ops false [zo 10 (.fieldAddr 26 (zv 1) 0) 0,zo 11 (.load 22 (zv 10)) 22,zo 12 (.call ⟨.builtin .len,⟨[(zv 11)]⟩,⟨[22]⟩⟩) 3,zo 13 (.call ⟨.value (.func 39),⟨[(zk 1),(zv 12),(zk 6)]⟩,⟨[3,3,3]⟩⟩) 4,zo 14 (.move (zv 13)) 4,zg 15 (.fieldAddr 26 (zv 1) 1) 0 14 true,zg 16 (.load 23 (zv 15)) 23 14 true,zg 17 (.call ⟨.builtin .len,⟨[(zv 16)]⟩,⟨[23]⟩⟩) 3 14 true,zg 18 (.binOp .leq 3 (zv 17) (zk 10) 3) 4 14 true,zo 19 (.pick (zv 14) (zv 18) (.const (.bool false))) 4,zo 20 (.move (zv 19)) 4,zg 21 (.fieldAddr 26 (zv 1) 2) 0 20 true,zg 22 (.load 24 (zv 21)) 24 20 true,zg 23 (.call ⟨.builtin .len,⟨[(zv 22)]⟩,⟨[24]⟩⟩) 3 20 true,zg 24 (.call ⟨.value (.func 39),⟨[(zk 2),(zv 23),(zk 6)]⟩,⟨[3,3,3]⟩⟩) 4 20 true,zo 25 (.pick (zv 20) (zv 24) (.const (.bool false))) 4,zo 3 (.assign (zv 25)) 4]) (.seq Tryz.s18_c4 (.seq (.seq (.ops false [zo 6 (.assign (zk 0)) 3]) (.block 2 (.loop (.seq (.seq (.ops false [zo 54 (.move (zv 6)) 3,zo 55 (.fieldAddr 26 (zv 1) 1) 0,zo 56 (.load 23 (zv 55)) 23,zo 57 (.call ⟨.builtin .len,⟨[(zv 56)]⟩,⟨[23]⟩⟩) 3,zo 58 (.binOp .lss 3 (zv 54) (zv 57) 3) 4]) (.cond (.tmp 58) .skip (.exit 2))) (.seq (.block 3 (.seq (.ops false [zo 61 (.fieldAddr 26 (zv 1) 1) 0,zo 62 (.load 23 (zv 61)) 23,zo 63 (.move (zv 6)) 3,zo 64 (.indexAddr 23 (zv 62) (zv 63)) 0,zo 65 (.load 71 (zv 64)) 71,zo 7 (.alloc 71) 0,zon (.store 71 (zv 7) (zv 65)) 0]) (.seq (.ops false [zo 66 (.move (zv 3)) 4,zo 67 (.move (zv 66)) 4,zg 68 (.fieldAddr 71 (zv 7) 0) 0 67 true,zg 69 (.load 3 (zv 68)) 3 67 true,zg 70 (.fieldAddr 26 (zv 1) 0) 0 67 true,zg 71 (.load 22 (zv 70)) 22 67 true,zg 72 (.call ⟨.builtin .len,⟨[(zv 71)]⟩,⟨[22]⟩⟩) 3 67 true,zg 73 (.binOp .sub 3 (zv 72) (zk 1) 3) 3 67 true,zg 74 (.call ⟨.value (.func 39),⟨[(zk 0),(zv 69),(zv 73)]⟩,⟨[3,3,3]⟩⟩) 4 67 true,zo 75 (.pick (zv 67) (zv 74) (.const (.bool false))) 4,zo 76 (.move (zv 75)) 4,zg 77 (.fieldAddr 71 (zv 7) 1) 0 76 true,zg 78 (.load 3 (zv 77)) 3 76 true,zg 79 (.fieldAddr 26 (zv 1) 0) 0 76 true,zg 80 (.load 22 (zv 79)) 22 76 true,zg 81 (.call ⟨.builtin .len,⟨[(zv 80)]⟩,⟨[22]⟩⟩) 3 76 true,zg 82 (.binOp .sub 3 (zv 81) (zk 1) 3) 3 76 true,zg 83 (.call ⟨.value (.func 39),⟨[(zk 0),(zv 78),(zv 82)]⟩,⟨[3,3,3]⟩⟩) 4 76 true,zo 84 (.pick (zv 76) (zv 83) (.const (.bool false))) 4,zo 85 (.move (zv 84)) 4,zg 86 (.fieldAddr 71 (zv 7) 0) 0 85 true,zg 87 (.load 3 (zv 86)) 3 85 true,zg 88 (.fieldAddr 71 (zv 7) 1) 0 85 true,zg 89 (.load 3 (zv 88)) 3 85 true,zg 90 (.binOp .neq 3 (zv 87) (zv 89) 3) 4 85 true,zo 91 (.pick (zv 85) (zv 90) (.const (.bool false))) 4,zo 92 (.move (zv 91)) 4,zg 93 (.fieldAddr 71 (zv 7) 2) 0 92 true,zg 94 (.load 3 (zv 93)) 3 92 true,zg 95 (.call ⟨.value (.func 39),⟨[(zk 1),(zv 94),(zk 3)]⟩,⟨[3,3,3]⟩⟩) 4 92 true,zo 96 (.pick (zv 92) (zv 95) (.const (.bool false))) 4,zo 97 (.move (zv 96)) 4,zg 98 (.fieldAddr 71 (zv 7) 3) 0 97 true,zg 99 (.load 24 (zv 98)) 24 97 true,zg 100 (.call ⟨.builtin .len,⟨[(zv 99)]⟩,⟨[24]⟩⟩) 3 97 true,zg 101 (.call ⟨.value (.func 39),⟨[(zk 1),(zv 100),(zk 3)]⟩,⟨[3,3,3]⟩⟩) 4 97 true,zo 102 (.pick (zv 97) (zv 101) (.const (.bool false))) 4,zo 3 (.assign (zv 102)) 4]) Tryz.s18_c8))) (.ops false [zo 59 (.move (zv 6)) 3,zo 60 (.binOp .add 3 (zv 59) (zk 1) 3) 3,zo 6 (.assign (zv 60)) 3])))))) (.seq (.seq (.ops false [zo 9 (.assign (zk 0)) 3]) (.block 6 (.loop (.seq (.seq (.ops false [zo 119 (.move (zv 9)) 3,zo 120 (.fieldAddr 26 (zv 1) 2) 0,zo 121 (.load 24 (zv 120)) 24,zo 122 (.call ⟨.builtin .len,⟨[(zv 121)]⟩,⟨[24]⟩⟩) 3,zo 123 (.binOp .lss 3 (zv 119) (zv 122) 3) 4]) (.cond (.tmp 123) .skip (.exit 6))) (.seq (.block 7 (.ops false [zo 126 (.move (zv 3)) 4,zo 127 (.move (zv 126)) 4,zg 128 (.fieldAddr 26 (zv 1) 2) 0 127 true,zg 129 (.load 24 (zv 128)) 24 127 true,zg 130 (.move (zv 9)) 3 127 true,zg 131 (.indexAddr 24 (zv 129) (zv 130)) 0 127 true,zg 132 (.load 3 (zv 131)) 3 127 true,zg 133 (.call ⟨.value (.func 39),⟨[(zk 0),(zv 132),(zk 255)]⟩,⟨[3,3,3]⟩⟩) 4 127 true,zo 134 (.pick (zv 127) (zv 133) (.const (.bool false))) 4,zo 3 (.assign (zv 134)) 4])) (.ops false [zo 124 (.move (zv 9)) 3,zo 125 (.binOp .add 3 (zv 124) (zk 1) 3) 3,zo 9 (.assign (zv 125)) 3])))))) (.seq (.seq (.ops false [zo 135 (.move (zv 3)) 4,zo 136 (.unOp .not 4 (zv 135)) 4]) (.cond (.tmp 136) (.seq (.ops false [zo 2 (.assign (zk 40)) 27]) .ret) .skip)) (.seq (.ops false [zo 2 (.assign (zk 0)) 27]) .ret)))))))
def Tryz.s91:SC:=(.seq (.ops false [zo 2 (.assign (zk 0)) 3]) (.seq (.ops false [zo 3 (.assign (zk 0)) 3]) (.seq (.seq (.ops false [zo 4 (.assign (zk 0)) 3]) (.block 0 (.loop (.seq (.seq (.ops false [zo 5 (.move (zv 4)) 3,zo 6 (.binOp .lss 3 (zv 5) (zk 6) 3) 4]) (.cond (.tmp 6) .skip (.exit 0))) (.seq (.block 1 (.seq (.ops false [zo 9 (.move (zv 0)) 3,zo 10 (.move (zv 4)) 3,zo 11 (.call ⟨.value (.func 40),⟨[(zv 9),(zv 10)]⟩,⟨[3,3]⟩⟩) 4]) (.cond (.tmp 11) (.ops false [zo 12 (.move (zv 3)) 3,zo 13 (.binOp .add 3 (zv 12) (zk 1) 3) 3,zo 3 (.assign (zv 13)) 3]) .skip))) (.ops false [zo 7 (.move (zv 4)) 3,zo 8 (.binOp .add 3 (zv 7) (zk 1) 3) 3,zo 4 (.assign (zv 8)) 3])))))) (.seq (.ops false [zo 14 (.move (zv 3)) 3,zo 2 (.assign (zv 14)) 3]) .ret))))
def Tryz.s93:SC:=(.seq (.ops false [zo 4 (.assign (.const (.bool false))) 4]) (.seq (.seq (.ops false [zo 5 (.assign (zk 0)) 3]) (.block 0 (.loop (.seq (.seq (.ops false [zo 6 (.move (zv 5)) 3,zo 7 (.binOp .lss 3 (zv 6) (zk 8) 3) 4]) (.cond (.tmp 7) .skip (.exit 0))) (.seq (.block 1 (.seq (.ops false [zo 10 (.move (zv 1)) 3,zo 11 (.move (zv 5)) 3,zo 12 (.call ⟨.value (.func 40),⟨[(zv 10),(zv 11)]⟩,⟨[3,3]⟩⟩) 4,zo 13 (.move (zv 12)) 4,zg 14 (.move (zv 0)) 3 13 true,zg 15 (.move (zv 5)) 3 13 true,zg 16 (.call ⟨.value (.func 40),⟨[(zv 14),(zv 15)]⟩,⟨[3,3]⟩⟩) 4 13 true,zg 17 (.unOp .not 4 (zv 16)) 4 13 true,zo 18 (.pick (zv 13) (zv 17) (.const (.bool false))) 4]) (.cond (.tmp 18) (.seq (.ops false [zo 4 (.assign (.const (.bool false))) 4]) .ret) .skip))) (.ops false [zo 8 (.move (zv 5)) 3,zo 9 (.binOp .add 3 (zv 8) (zk 1) 3) 3,zo 5 (.assign (zv 9)) 3])))))) (.seq (.ops false [zo 4 (.assign (.const (.bool true))) 4]) .ret)))
def Tryz.s89:SC:=(.seq (.ops false [zo 4 (.assign (zk 0)) 3]) (.seq (.ops false [zo 5 (.assign (zk 0)) 3]) (.seq (.seq (.ops false [zo 6 (.assign (zk 0)) 3]) (.block 0 (.loop (.seq (.seq (.ops false [zo 7 (.move (zv 6)) 3,zo 8 (.binOp .lss 3 (zv 7) (zk 8) 3) 4]) (.cond (.tmp 8) .skip (.exit 0))) (.seq (.block 1 (.seq (.ops false [zo 11 (.move (zv 0)) 3,zo 12 (.move (zv 6)) 3,zo 13 (.call ⟨.value (.func 40),⟨[(zv 11),(zv 12)]⟩,⟨[3,3]⟩⟩) 4,zo 14 (.move (zv 13)) 4,zg 15 (.move (zv 1)) 3 14 false,zg 16 (.move (zv 6)) 3 14 false,zg 17 (.call ⟨.value (.func 40),⟨[(zv 15),(zv 16)]⟩,⟨[3,3]⟩⟩) 4 14 false,zo 18 (.pick (zv 14) (.const (.bool true)) (zv 17)) 4]) (.cond (.tmp 18) (.ops false [zo 19 (.move (zv 5)) 3,zo 20 (.move (zv 6)) 3,zo 21 (.binOp .shl 3 (zk 1) (zv 20) 3) 3,zo 22 (.binOp .add 3 (zv 19) (zv 21) 3) 3,zo 5 (.assign (zv 22)) 3]) .skip))) (.ops false [zo 9 (.move (zv 6)) 3,zo 10 (.binOp .add 3 (zv 9) (zk 1) 3) 3,zo 6 (.assign (zv 10)) 3])))))) (.seq (.ops false [zo 23 (.move (zv 5)) 3,zo 4 (.assign (zv 23)) 3]) .ret))))
def Tryz.s114:SC:=(.seq (.ops false [zo 3 (.box 26 (zv 0)) 0,zo 6 (.assign (zk 0)) 3]) (.seq (.ops false [zo 7 (.assign (zk 0)) 3]) (.seq (.seq (.ops false [zo 8 (.assign (zk 0)) 3]) (.block 0 (.loop (.seq (.seq (.ops false [zo 10 (.move (zv 8)) 3,zo 11 (.fieldAddr 26 (zv 3) 2) 0,zo 12 (.load 24 (zv 11)) 24,zo 13 (.call ⟨.builtin .len,⟨[(zv 12)]⟩,⟨[24]⟩⟩) 3,zo 14 (.binOp .lss 3 (zv 10) (zv 13) 3) 4]) (.cond (.tmp 14) .skip (.exit 0))) (.seq (.block 1 (.seq (.ops false [zo 17 (.move (zv 1)) 3,zo 18 (.move (zv 8)) 3,zo 19 (.call ⟨.value (.func 40),⟨[(zv 17),(zv 18)]⟩,⟨[3,3]⟩⟩) 4]) (.cond (.tmp 19) (.ops false [zo 20 (.move (zv 7)) 3,zo 21 (.fieldAddr 26 (zv 3) 2) 0,zo 22 (.load 24 (zv 21)) 24,zo 23 (.move (zv 8)) 3,zo 24 (.indexAddr 24 (zv 22) (zv 23)) 0,zo 25 (.load 3 (zv 24)) 3,zo 26 (.call ⟨.value (.func 89),⟨[(zv 20),(zv 25)]⟩,⟨[3,3]⟩⟩) 3,zo 7 (.assign (zv 26)) 3]) .skip))) (.ops false [zo 15 (.move (zv 8)) 3,zo 16 (.binOp .add 3 (zv 15) (zk 1) 3) 3,zo 8 (.assign (zv 16)) 3])))))) (.seq (.seq (.ops false [zo 9 (.assign (zk 0)) 3]) (.block 2 (.loop (.seq (.seq (.ops false [zo 27 (.move (zv 9)) 3,zo 28 (.fieldAddr 26 (zv 3) 0) 0,zo 29 (.load 22 (zv 28)) 22,zo 30 (.call ⟨.builtin .len,⟨[(zv 29)]⟩,⟨[22]⟩⟩) 3,zo 31 (.binOp .lss 3 (zv 27) (zv 30) 3) 4]) (.cond (.tmp 31) .skip (.exit 2))) (.seq (.block 3 (.seq (.ops false [zo 34 (.move (zv 2)) 3,zo 35 (.move (zv 9)) 3,zo 36 (.call ⟨.value (.func 40),⟨[(zv 34),(zv 35)]⟩,⟨[3,3]⟩⟩) 4]) (.cond (.tmp 36) (.ops false [zo 37 (.move (zv 7)) 3,zo 38 (.fieldAddr 26 (zv 3) 0) 0,zo 39 (.load 22 (zv 38)) 22,zo 40 (.move (zv 9)) 3,zo 41 (.indexAddr 22 (zv 39) (zv 40)) 0,zo 42 (.fieldAddr 73 (zv 41) 2) 0,zo 43 (.load 3 (zv 42)) 3,zo 44 (.call ⟨.value (.func 89),⟨[(zv 37),(zv 43)]⟩,⟨[3,3]⟩⟩) 3,zo 7 (.assign (zv 44)) 3]) .skip))) (.ops false [zo 32 (.move (zv 9)) 3,zo 33 (.binOp .add 3 (zv 32) (zk 1) 3) 3,zo 9 (.assign (zv 33)) 3])))))) (.seq (.ops false [zo 45 (.move (zv 7)) 3,zo 6 (.assign (zv 45)) 3]) .ret)))))
def Tryz.s86:SC:=(.seq (.ops false [zo 4 (.box 26 (zv 0)) 0,zo 8 (.assign (.const (.bool false))) 4]) (.seq (.ops false [zo 12 (.fieldAddr 26 (zv 4) 1) 0,zo 13 (.load 23 (zv 12)) 23,zo 14 (.move (zv 3)) 3,zo 15 (.indexAddr 23 (zv 13) (zv 14)) 0,zo 16 (.load 71 (zv 15)) 71,zo 9 (.alloc 71) 0,zon (.store 71 (zv 9) (zv 16)) 0]) (.seq (.seq (.ops true [zt 17 (.move (zv 1)) 3,zt 19 (.fieldAddr 71 (zv 9) 2) 0,zt 20 (.load 3 (zv 19)) 3,zt 18 (.call ⟨.value (.func 91),⟨[(zv 17)]⟩,⟨[3]⟩⟩) 3,zt 21 (.binOp .lss 3 (zv 18) (zv 20) 3) 4]) (.cond (.tmp 21) (.seq (.ops false [zo 8 (.assign (.const (.bool false))) 4]) .ret) .skip)) (.seq (.ops false [zo 22 (.load 26 (zv 4)) 26,zo 23 (.move (zv 1)) 3,zo 24 (.move (zv 2)) 3,zo 25 (.call ⟨.value (.func 114),⟨[(zv 22),(zv 23),(zv 24)]⟩,⟨[26,3,3]⟩⟩) 3,zo 10 (.assign (zv 25)) 3]) (.seq (.seq (.ops false [zo 11 (.assign (zk 0)) 3]) (.block 0 (.loop (.seq (.seq (.ops false [zo 26 (.move (zv 11)) 3,zo 27 (.fieldAddr 71 (zv 9) 3) 0,zo 28 (.load 24 (zv 27)) 24,zo 29 (.call ⟨.builtin .len,⟨[(zv 28)]⟩,⟨[24]⟩⟩) 3,zo 30 (.binOp .lss 3 (zv 26) (zv 29) 3) 4]) (.cond (.tmp 30) .skip (.exit 0))) (.seq (.block 1 (.seq (.ops false [zo 33 (.move (zv 10)) 3,zo 34 (.fieldAddr 71 (zv 9) 3) 0,zo 35 (.load 24 (zv 34)) 24,zo 36 (.move (zv 11)) 3,zo 37 (.indexAddr 24 (zv 35) (zv 36)) 0,zo 38 (.load 3 (zv 37)) 3,zo 39 (.call ⟨.value (.func 93),⟨[(zv 33),(zv 38)]⟩,⟨[3,3]⟩⟩) 4]) (.cond (.tmp 39) (.seq (.ops false [zo 8 (.assign (.const (.bool true))) 4]) .ret) .skip))) (.ops false [zo 31 (.move (zv 11)) 3,zo 32 (.binOp .add 3 (zv 31) (zk 1) 3) 3,zo 11 (.assign (zv 32)) 3])))))) (.seq (.ops false [zo 8 (.assign (.const (.bool false))) 4]) .ret))))))
def Tryz.s57:SC:=(.seq (.ops false [zo 4 (.box 26 (zv 0)) 0,zo 8 (.assign (.const (.bool false))) 4]) (.seq (.ops false [zo 10 (.fieldAddr 26 (zv 4) 1) 0,zo 11 (.load 23 (zv 10)) 23,zo 12 (.move (zv 3)) 3,zo 13 (.indexAddr 23 (zv 11) (zv 12)) 0,zo 14 (.load 71 (zv 13)) 71,zo 9 (.alloc 71) 0,zon (.store 71 (zv 9) (zv 14)) 0]) (.seq (.ops true [zt 15 (.move (zv 2)) 3,zt 16 (.fieldAddr 71 (zv 9) 0) 0,zt 17 (.load 3 (zv 16)) 3,zt 19 (.move (zv 2)) 3,zt 20 (.fieldAddr 71 (zv 9) 1) 0,zt 21 (.load 3 (zv 20)) 3,zt 18 (.call ⟨.value (.func 40),⟨[(zv 15),(zv 17)]⟩,⟨[3,3]⟩⟩) 4,zo 22 (.call ⟨.value (.func 40),⟨[(zv 19),(zv 21)]⟩,⟨[3,3]⟩⟩) 4,zt 23 (.binOp .neq 4 (zv 18) (zv 22) 4) 4,zt 24 (.move (zv 23)) 4,zh 25 (.load 26 (zv 4)) 26 24 true,zh 26 (.move (zv 1)) 3 24 true,zh 27 (.move (zv 2)) 3 24 true,zh 28 (.move (zv 3)) 3 24 true,zg 29 (.call ⟨.value (.func 86),⟨[(zv 25),(zv 26),(zv 27),(zv 28)]⟩,⟨[26,3,3,3]⟩⟩) 4 24 true,zt 30 (.pick (zv 24) (zv 29) (.const (.bool false))) 4,zt 8 (.assign (zv 30)) 4]) .ret)))
def Tryz.s62:SC:=(.seq (.ops false [zo 3 (.box 26 (zv 0)) 0,zo 6 (.assign (zk 0)) 3]) (.seq (.ops true [zt 7 (.move (zv 1)) 3,zt 8 (.fieldAddr 26 (zv 3) 1) 0,zt 9 (.load 23 (zv 8)) 23,zt 10 (.move (zv 2)) 3,zt 11 (.indexAddr 23 (zv 9) (zv 10)) 0,zt 12 (.fieldAddr 71 (zv 11) 0) 0,zt 13 (.load 3 (zv 12)) 3,zt 14 (.binOp .shl 3 (zk 1) (zv 13) 3) 3,zt 15 (.fieldAddr 26 (zv 3) 1) 0,zt 16 (.load 23 (zv 15)) 23,zt 17 (.move (zv 2)) 3,zt 18 (.indexAddr 23 (zv 16) (zv 17)) 0,zt 19 (.fieldAddr 71 (zv 18) 1) 0,zt 20 (.load 3 (zv 19)) 3,zt 21 (.binOp .shl 3 (zk 1) (zv 20) 3) 3,zt 22 (.call ⟨.value (.func 89),⟨[(zv 14),(zv 21)]⟩,⟨[3,3]⟩⟩) 3,zo 23 (.call ⟨.value (.func 89),⟨[(zv 7),(zv 22)]⟩,⟨[3,3]⟩⟩) 3,zt 6 (.assign (zv 23)) 3]) .ret))
def Tryz.s49:SC:=(.seq (.ops false [zo 2 (.box 26 (zv 0)) 0,zo 4 (.assign (zk 0)) 27]) (.seq (.seq (.ops false [zo 6 (.load 26 (zv 2)) 26,zo 7 (.call ⟨.value (.func 18),⟨[(zv 6)]⟩,⟨[26]⟩⟩) 27,zo 5 (.assign (zv 7)) 27]) (.seq (.ops false [zo 8 (.move (zv 5)) 27,zo 9 (.binOp .neq 27 (zv 8) (zk 0) 27) 4]) (.cond (.tmp 9) (.seq (.ops false [zo 10 (.move (zv 5)) 27,zo 4 (.assign (zv 10)) 27]) .ret) .skip))) (.seq (.seq (.ops false [zo 11 (.move (zv 1)) 3,zo 12 (.fieldAddr 26 (zv 2) 2) 0,zo 13 (.load 24 (zv 12)) 24,zo 14 (.call ⟨.builtin .len,⟨[(zv 13)]⟩,⟨[24]⟩⟩) 3,zo 15 (.binOp .shl 3 (zk 1) (zv 14) 3) 3,zo 16 (.binOp .sub 3 (zv 15) (zk 1) 3) 3,zo 17 (.call ⟨.value (.func 39),⟨[(zk 0),(zv 11),(zv 16)]⟩,⟨[3,3,3]⟩⟩) 4,zo 18 (.unOp .not 4 (zv 17)) 4]) (.cond (.tmp 18) (.seq (.ops false [zo 4 (.assign (zk 41)) 27]) .ret) .skip)) (.seq (.ops false [zo 4 (.assign (zk 0)) 27]) .ret))))
theorem Tryz.s47_eq:Tryz.f47.body.map sOf=some Tryz.s47:=by kernel_rfl
theorem Tryz.s39_eq:Tryz.f39.body.map sOf=some Tryz.s39:=by kernel_rfl
theorem Tryz.s40_eq:Tryz.f40.body.map sOf=some Tryz.s40:=by kernel_rfl
theorem Tryz.s18_eq:Tryz.f18.body.map sOf=some Tryz.s18:=by kernel_rfl
theorem Tryz.s91_eq:Tryz.f91.body.map sOf=some Tryz.s91:=by kernel_rfl
theorem Tryz.s93_eq:Tryz.f93.body.map sOf=some Tryz.s93:=by kernel_rfl
theorem Tryz.s89_eq:Tryz.f89.body.map sOf=some Tryz.s89:=by kernel_rfl
theorem Tryz.s114_eq:Tryz.f114.body.map sOf=some Tryz.s114:=by kernel_rfl
theorem Tryz.s86_eq:Tryz.f86.body.map sOf=some Tryz.s86:=by kernel_rfl
theorem Tryz.s57_eq:Tryz.f57.body.map sOf=some Tryz.s57:=by kernel_rfl
theorem Tryz.s62_eq:Tryz.f62.body.map sOf=some Tryz.s62:=by kernel_rfl
theorem Tryz.s49_eq:Tryz.f49.body.map sOf=some Tryz.s49:=by kernel_rfl
theorem From_ok (a n b:Int) (w:AW):CallT Tryz.prog Tryz.T1 (.fn (.func 39) #[]) #[.int .i64 a,.int .i64 n,.int .i64 b] w (Ret (.bool (inR a n b)) fun w'=>w=w'):=by
 refine callT_code rfl Tryz.func39 rfl Tryz.s39_eq rfl ?_
 delta Tryz.s39 zo zg zv
 by_cases h:a≤n
 . simp -dsimp -implicitDefEqProofs (maxSteps:=2000000) (disch:=first|assumption|omega|simp only[nx];omega|(repeat apply zfp);assumption|simp only[smA];done|simp[oneCell,znp]) only[go_sem,h]
   exact⟨by unfold inR;simp[h],rfl⟩
 . simp -dsimp -implicitDefEqProofs (maxSteps:=2000000) (disch:=first|assumption|omega|simp only[nx];omega|(repeat apply zfp);assumption|simp only[smA];done|simp[oneCell,znp]) only[go_sem,h]
   exact⟨by unfold inR;simp[h],rfl⟩
theorem Bit_ok (x k:Nat) (hx:x < 256) (hk:k≤8) (w:AW):CallT Tryz.prog Tryz.T1 (.fn (.func 40) #[]) #[.int .i64 (x:Int),.int .i64 (k:Int)] w (Ret (.bool (x.testBit k)) fun w'=>w=w'):=by
 have h0:¬ (k:Int) < 0:=by omega
 have hm:min k 64=k:=by omega
 have hsh:(x:Int).fdiv (2 ^ (min k 64))=((x / 2 ^ k:Nat):Int):=by
  rw[hm,Int.fdiv_eq_ediv_of_nonneg _ (by exact Int.pow_nonneg (by omega))]
  push_cast;rfl
 have htm:((x / 2 ^ k:Nat):Int).tmod 2=((x / 2 ^ k % 2:Nat):Int):=rfl
 have hle:x / 2 ^ k≤x:=Nat.div_le_self _ _
 have hb:decide (((x / 2 ^ k % 2:Nat):Int)=1)=x.testBit k:=by
  rw[<- bit_is x k,Nat.and_one_is_mod]
 refine callT_code rfl Tryz.func40 rfl Tryz.s40_eq rfl ?_
 delta Tryz.s40 zo zv zk
 have hn2:¬ (2:Int)=0:=by omega
 simp -dsimp -implicitDefEqProofs (maxSteps:=2000000) (disch:=first|assumption|omega|simp only[nx];omega|(repeat apply zfp);assumption|simp only[smA];done|simp[oneCell,znp]) only[go_sem,h0,hsh,htm,hb,hn2]
 exact⟨rfl,rfl⟩
def popTo (x n:Nat):Nat:=(List.range n).countP fun k=>x.testBit k
theorem people_is (x:Nat) (n:Nat):popTo x (n+1)=popTo x n+(if x.testBit n=true then 1 else 0):=by
 unfold popTo
 rw[List.range_succ,List.countP_append]
 cases q:x.testBit n <;> simp[q]
theorem people_okR (x:Nat) (hx:x < 64) (w:AW):CallT Tryz.prog Tryz.T1 (.fn (.func 91) #[]) #[.int .i64 (x:Int)] w (Ret (.int .i64 (popN x:Int)) fun w'=>w=w'):=by
 refine callT_code rfl Tryz.func91 rfl Tryz.s91_eq rfl ?_
 delta Tryz.s91 zo zv zk
 simp -dsimp -implicitDefEqProofs (maxSteps:=2000000) (disch:=first|assumption|omega|simp only[nx];omega|(repeat apply zfp);assumption|simp only[smA];done|simp[oneCell,znp]) only[go_sem]
 refine loopR (fun k t ds w1=>∃ i:Nat,i≤6/\k=6 - i/\ds=[]/\ev t (.tmp 0)=.int .i64 (x:Int)/\ev t (.tmp 3)=.int .i64 (popTo x i:Int)/\ev t (.tmp 4)=.int .i64 (i:Int)/\w=w1) (6) ?_ ?_
 . refine⟨0,by omega,by omega,rfl,?_,?_,?_,rfl⟩ <;> simp -dsimp -implicitDefEqProofs (maxSteps:=2000000) (disch:=first|assumption|omega|simp only[nx];omega|(repeat apply zfp);assumption|simp only[smA];done|simp[oneCell,znp]) only[go_sem] <;> rfl
 rintro k t ds w1 ⟨i,hii,rfl,rfl,e0,e3,e4,hw⟩
 subst hw
 have hle:popTo x i≤i:=by
  have:=List.countP_le_length (p:=fun k=>x.testBit k) (l:=List.range i)
  rw[List.length_range]at this;exact this
 have hs:=people_is x i
 by_cases hlt:(i:Int) < 6
 case neg =>
  obtain rfl:i=6:=by omega
  simp -dsimp -implicitDefEqProofs (maxSteps:=2000000) (disch:=first|assumption|omega|simp only[nx];omega|(repeat apply zfp);assumption|simp only[smA];done|simp[oneCell,znp]) only[go_sem,e0,e3,e4,hlt]
  exact⟨rfl,rfl⟩
 simp -dsimp -implicitDefEqProofs (maxSteps:=2000000) (disch:=first|assumption|omega|simp only[nx];omega|(repeat apply zfp);assumption|simp only[smA];done|simp[oneCell,znp]) only[go_sem,e0,e3,e4,hlt]
 apply callV_of (e:=rfl)
 . exact Bit_ok x i (by omega) (by omega) w
 rintro _ _ ⟨rfl,rfl⟩
 cases hk:x.testBit i with
 | false =>
  rw[hk,if_neg (by intro z;cases z),Nat.add_zero]at hs
  simp -dsimp -implicitDefEqProofs (maxSteps:=2000000) (disch:=first|assumption|omega|simp only[nx];omega|(repeat apply zfp);assumption|simp only[smA];done|simp[oneCell,znp]) only[go_sem,e0,e3,e4,hk]
  refine⟨_,by omega,i+1,by omega,rfl,rfl,by(simp only[go_sem,e0,hs];try rfl),by(simp only[go_sem,e3,hs];try rfl),by(simp only[go_sem,e4,hs];try rfl),rfl⟩
 | true =>
  rw[hk,if_pos rfl]at hs
  simp -dsimp -implicitDefEqProofs (maxSteps:=2000000) (disch:=first|assumption|omega|simp only[nx];omega|(repeat apply zfp);assumption|simp only[smA];done|simp[oneCell,znp]) only[go_sem,e0,e3,e4,hk]
  refine⟨_,by omega,i+1,by omega,rfl,rfl,by(simp -dsimp -implicitDefEqProofs (maxSteps:=2000000) (disch:=first|assumption|omega|simp only[nx];omega|(repeat apply zfp);assumption|simp only[smA];done|simp[oneCell,znp]) only[go_sem,e0,hs,Int.natCast_add,Int.natCast_one];try rfl),by(simp -dsimp -implicitDefEqProofs (maxSteps:=2000000) (disch:=first|assumption|omega|simp only[nx];omega|(repeat apply zfp);assumption|simp only[smA];done|simp[oneCell,znp]) only[go_sem,e3,hs,Int.natCast_add,Int.natCast_one];try rfl),by(simp -dsimp -implicitDefEqProofs (maxSteps:=2000000) (disch:=first|assumption|omega|simp only[nx];omega|(repeat apply zfp);assumption|simp only[smA];done|simp[oneCell,znp]) only[go_sem,e4,hs,Int.natCast_add,Int.natCast_one];try rfl),rfl⟩
theorem Has_ok (a b:Nat) (ha:a < 256) (hb:b < 256) (w:AW):CallT Tryz.prog Tryz.T1 (.fn (.func 93) #[]) #[.int .i64 (a:Int),.int .i64 (b:Int)] w (Ret (.bool (subB a b)) fun w'=>w=w'):=by
 have hs:=subB_bits (a:=a) hb
 refine callT_code rfl Tryz.func93 rfl Tryz.s93_eq rfl ?_
 delta Tryz.s93 zo zg zv zk
 simp -dsimp -implicitDefEqProofs (maxSteps:=2000000) (disch:=first|assumption|omega|simp only[nx];omega|(repeat apply zfp);assumption|simp only[smA];done|simp[oneCell,znp]) only[go_sem]
 refine loopR (fun k t ds w1=>∃ i:Nat,i≤8/\k=8 - i/\ds=[]/\ev t (.tmp 0)=.int .i64 (a:Int)/\ev t (.tmp 1)=.int .i64 (b:Int)/\ev t (.tmp 5)=.int .i64 (i:Int)/\(∀ k,k < i->(!b.testBit k || a.testBit k)=true)/\w=w1) (8) ?_ ?_
 . refine⟨0,by omega,by omega,rfl,?_,?_,?_,fun k h=>by omega,rfl⟩ <;> simp -dsimp -implicitDefEqProofs (maxSteps:=2000000) (disch:=first|assumption|omega|simp only[nx];omega|(repeat apply zfp);assumption|simp only[smA];done|simp[oneCell,znp]) only[go_sem] <;> rfl
 rintro k t ds w1 ⟨i,hii,rfl,rfl,e0,e1,e5,hall,hw⟩
 subst hw
 by_cases hlt:(i:Int) < 8
 case neg =>
  obtain rfl:i=8:=by omega
  have:subB a b=true:=by rw[hs,List.all_eq_true];exact fun k hk=>hall k (List.mem_range.1 hk)
  simp -dsimp -implicitDefEqProofs (maxSteps:=2000000) (disch:=first|assumption|omega|simp only[nx];omega|(repeat apply zfp);assumption|simp only[smA];done|simp[oneCell,znp]) only[go_sem,e0,e1,e5,hlt]
  exact⟨by rw[this],rfl⟩
 simp -dsimp -implicitDefEqProofs (maxSteps:=2000000) (disch:=first|assumption|omega|simp only[nx];omega|(repeat apply zfp);assumption|simp only[smA];done|simp[oneCell,znp]) only[go_sem,e0,e1,e5,hlt]
 apply callV_of (e:=rfl)
 . exact Bit_ok b i hb (by omega) w
 rintro _ _ ⟨rfl,rfl⟩
 have hnext:(!b.testBit i || a.testBit i)=true->∀ k,k < i+1->(!b.testBit k || a.testBit k)=true:=fun h k hk=>by
  rcases Nat.lt_or_ge k i with q|q
  . exact hall k q
  . obtain rfl:k=i:=by omega
    exact h
 cases hk:b.testBit i with
 | false =>
  simp -dsimp -implicitDefEqProofs (maxSteps:=2000000) (disch:=first|assumption|omega|simp only[nx];omega|(repeat apply zfp);assumption|simp only[smA];done|simp[oneCell,znp]) only[go_sem,e0,e1,e5,hk]
  refine⟨_,by omega,i+1,by omega,rfl,rfl,by(simp only[go_sem,e0];try rfl),by(simp only[go_sem,e1];try rfl),by(simp only[go_sem,e5];try rfl),hnext (by rw[hk];rfl),rfl⟩
 | true =>
  simp -dsimp -implicitDefEqProofs (maxSteps:=2000000) (disch:=first|assumption|omega|simp only[nx];omega|(repeat apply zfp);assumption|simp only[smA];done|simp[oneCell,znp]) only[go_sem,e0,e1,e5,hk]
  apply callV_of (e:=rfl)
  . exact Bit_ok a i ha (by omega) w
  rintro _ _ ⟨rfl,rfl⟩
  cases hj:a.testBit i with
  | true =>
   simp -dsimp -implicitDefEqProofs (maxSteps:=2000000) (disch:=first|assumption|omega|simp only[nx];omega|(repeat apply zfp);assumption|simp only[smA];done|simp[oneCell,znp]) only[go_sem,e0,e1,e5,hk,hj]
   refine⟨_,by omega,i+1,by omega,rfl,rfl,by(simp only[go_sem,e0];try rfl),by(simp only[go_sem,e1];try rfl),by(simp only[go_sem,e5];try rfl),hnext (by rw[hj,Bool.or_true]),rfl⟩
  | false =>
   have:subB a b=false:=by
    rw[hs,Bool.eq_false_iff];intro z
    have:=List.all_eq_true.1 z i (List.mem_range.2 (by omega))
    rw[hk,hj]at this;cases this
   simp -dsimp -implicitDefEqProofs (maxSteps:=2000000) (disch:=first|assumption|omega|simp only[nx];omega|(repeat apply zfp);assumption|simp only[smA];done|simp[oneCell,znp]) only[go_sem,e0,e1,e5,hk,hj]
   exact⟨by rw[this],rfl⟩
theorem with_ok (a b:Nat) (ha:a < 256) (hb:b < 256) (w:AW):CallT Tryz.prog Tryz.T1 (.fn (.func 89) #[]) #[.int .i64 (a:Int),.int .i64 (b:Int)] w (Ret (.int .i64 ((a ||| b:Nat):Int)) fun w'=>w=w'):=by
 refine callT_code rfl Tryz.func89 rfl Tryz.s89_eq rfl ?_
 delta Tryz.s89 zo zg zv zk
 simp -dsimp -implicitDefEqProofs (maxSteps:=2000000) (disch:=first|assumption|omega|simp only[nx];omega|(repeat apply zfp);assumption|simp only[smA];done|simp[oneCell,znp]) only[go_sem]
 refine loopR (fun k t ds w1=>∃ i:Nat,i≤8/\k=8 - i/\ds=[]/\ev t (.tmp 0)=.int .i64 (a:Int)/\ev t (.tmp 1)=.int .i64 (b:Int)/\ev t (.tmp 5)=.int .i64 ((sumB (fun k=>a.testBit k || b.testBit k) i:Nat):Int)/\ev t (.tmp 6)=.int .i64 (i:Int)/\w=w1) (8) ?_ ?_
 . refine⟨0,by omega,by omega,rfl,?_,?_,?_,?_,rfl⟩ <;> simp -dsimp -implicitDefEqProofs (maxSteps:=2000000) (disch:=first|assumption|omega|simp only[nx];omega|(repeat apply zfp);assumption|simp only[smA];done|simp[oneCell,znp]) only[go_sem] <;> rfl
 rintro k t ds w1 ⟨i,hii,rfl,rfl,e0,e1,e5,e6,hw⟩
 subst hw
 have hle:=sumB_le (fun k=>a.testBit k || b.testBit k) i
 have hs:sumB (fun k=>a.testBit k || b.testBit k) (i+1)=sumB (fun k=>a.testBit k || b.testBit k) i+(if (a.testBit i || b.testBit i)=true then 2 ^ i else 0):=rfl
 have hor:=sumB_or ha hb
 by_cases hlt:(i:Int) < 8
 case neg =>
  obtain rfl:i=8:=by omega
  simp -dsimp -implicitDefEqProofs (maxSteps:=2000000) (disch:=first|assumption|omega|simp only[nx];omega|(repeat apply zfp);assumption|simp only[smA];done|simp[oneCell,znp]) only[go_sem,e0,e1,e5,e6,hlt]
  exact⟨by rw[hor],rfl⟩
 have hfl:=full_shl (n:=i) (by omega)
 have hfi:=full_in (n:=i) (by omega)
 have h0:¬ (i:Int) < 0:=by omega
 generalize sumB (fun k=>a.testBit k || b.testBit k) i=S at *
 generalize hP:2 ^ i=p at *
 have hadd:IntKind.i64.wrap ((S:Int)+(p:Int))=((S+p:Nat):Int):=by rw[wrap64 (by omega) (by omega)];omega
 simp -dsimp -implicitDefEqProofs (maxSteps:=2000000) (disch:=first|assumption|omega|simp only[nx];omega|(repeat apply zfp);assumption|simp only[smA];done|simp[oneCell,znp]) only[go_sem,e0,e1,e5,e6,hlt]
 apply callV_of (e:=rfl)
 . exact Bit_ok a i ha (by omega) w
 rintro _ _ ⟨rfl,rfl⟩
 cases hk:a.testBit i with
 | true =>
  rw[hk,Bool.true_or,if_pos rfl]at hs
  simp -dsimp -implicitDefEqProofs (maxSteps:=2000000) (disch:=first|assumption|omega|simp only[nx];omega|(repeat apply zfp);assumption|simp only[smA];done|simp[oneCell,znp]) only[go_sem,e0,e1,e5,e6,hk,h0,hfl]
  refine⟨_,by omega,i+1,by omega,rfl,rfl,by(simp only[go_sem,e0,hs];try rfl),by(simp only[go_sem,e1,hs];try rfl),by(simp only[go_sem,e5,hs];try rfl),by(simp only[go_sem,e6,hs];try rfl),rfl⟩
 | false =>
  simp -dsimp -implicitDefEqProofs (maxSteps:=2000000) (disch:=first|assumption|omega|simp only[nx];omega|(repeat apply zfp);assumption|simp only[smA];done|simp[oneCell,znp]) only[go_sem,e0,e1,e5,e6,hk]
  apply callV_of (e:=rfl)
  . exact Bit_ok b i hb (by omega) w
  rintro _ _ ⟨rfl,rfl⟩
  cases hj:b.testBit i with
  | true =>
   rw[hk,hj,Bool.or_true,if_pos rfl]at hs
   simp -dsimp -implicitDefEqProofs (maxSteps:=2000000) (disch:=first|assumption|omega|simp only[nx];omega|(repeat apply zfp);assumption|simp only[smA];done|simp[oneCell,znp]) only[go_sem,e0,e1,e5,e6,hj,h0,hfl]
   refine⟨_,by omega,i+1,by omega,rfl,rfl,by(simp only[go_sem,e0,hs];try rfl),by(simp only[go_sem,e1,hs];try rfl),by(simp only[go_sem,e5,hs];try rfl),by(simp only[go_sem,e6,hs];try rfl),rfl⟩
  | false =>
   rw[hk,hj,Bool.or_false,if_neg (by intro z;cases z),Nat.add_zero]at hs
   simp -dsimp -implicitDefEqProofs (maxSteps:=2000000) (disch:=first|assumption|omega|simp only[nx];omega|(repeat apply zfp);assumption|simp only[smA];done|simp[oneCell,znp]) only[go_sem,e0,e1,e5,e6,hj]
   refine⟨_,by omega,i+1,by omega,rfl,rfl,by(simp only[go_sem,e0,hs];try rfl),by(simp only[go_sem,e1,hs];try rfl),by(simp only[go_sem,e5,hs];try rfl),by(simp only[go_sem,e6,hs];try rfl),rfl⟩
theorem foldB_lt {x:Nat} {f:Nat->Nat} (hf:∀ k,f k < 256) {h0:Nat} (h:h0 < 256):∀ n,foldB x f h0 n < 256
 | 0=>h
 | n+1=>by
  rw[foldB]
  split
  . exact Nat.or_lt_two_pow (n:=8) (foldB_lt hf h n) (hf n)
  . exact foldB_lt hf h n
theorem foldB_yes {x:Nat} {f:Nat->Nat} {h0 n:Nat} (h:x.testBit n=true):foldB x f h0 (n+1)=foldB x f h0 n ||| f n:=by rw[foldB,if_pos h]
theorem foldB_no {x:Nat} {f:Nat->Nat} {h0 n:Nat} (h:x.testBit n=false):foldB x f h0 (n+1)=foldB x f h0 n:=by rw[foldB,if_neg (by rw[h];intro z;cases z)]
set_option maxHeartbeats 8000000 in
theorem keys_ok {s:StrN} (hs:strB s=true) {pR pG pS:Option Addr} {cR cG cS:Nat} {g r:Nat} (hg:g < 64) (hr:r < 64) (hgb:∀ k,g.testBit k=true->k < s.staff.length) (hrb:∀ k,r.testBit k=true->k < s.rooms.length) (w:AW) (f:Fresh w) (hA:StrAt w pR pG pS cR cG cS s) :
    CallT Tryz.prog Tryz.T1 (.fn (.func 114) #[]) #[.agg (strC pR pG pS cR cG cS s).toArray,.int .i64 (g:Int),.int .i64 (r:Int)] w (Ret (.int .i64 (heldN s g r:Int)) (Grown w)):=by
 have g1:=(Grown.refl f).push (.cells (strC pR pG pS cR cG cS s) 26 w.next 0 0)
 have O1:=Own.new f 26 (strC pR pG pS cR cG cS s)
 have c0:=O1.cell (o:=0) rfl rfl
 have c2:=O1.cell (o:=2) rfl rfl
 have hA1:=hA.grown g1
 have hsl:=(str_staff hs).2.1
 have hrl:=(str_rooms hs).2
 rw[held_keys hgb hrb]
 unfold strC at *
 refine callT_code rfl Tryz.func114 rfl Tryz.s114_eq rfl ?_
 delta Tryz.s114 zo zv zk
 simp -dsimp -implicitDefEqProofs (maxSteps:=2000000) (disch:=first|assumption|omega|simp only[nx];omega|(repeat apply zfp);assumption|simp only[smA];done|simp[oneCell,znp]) only[go_sem]
 generalize w.push (.cells [.slice pR s.rooms.length cR,.slice pG s.gates.length cG,.slice pS s.staff.length cS] 26 w.next 0 0)=w1 at *
 refine loopR (fun k t ds w2=>∃ i:Nat,i≤s.staff.length/\k=s.staff.length - i/\ds=[]/\ev t (.tmp 1)=.int .i64 (g:Int)/\ev t (.tmp 2)=.int .i64 (r:Int)/\ev t (.tmp 3)=.pointer (some ⟨w.next,0,none⟩)/\ev t (.tmp 7)=.int .i64 (foldB g (staffF s) 0 i:Int)/\ev t (.tmp 8)=.int .i64 (i:Int)/\w1=w2) (s.staff.length) ?_ ?_
 . refine⟨0,by omega,by omega,rfl,?_,?_,?_,?_,?_,rfl⟩ <;> simp -dsimp -implicitDefEqProofs (maxSteps:=2000000) (disch:=first|assumption|omega|simp only[nx];omega|(repeat apply zfp);assumption|simp only[smA];done|simp[oneCell,znp]) only[go_sem] <;> rfl
 rintro k t ds w2 ⟨i,hii,rfl,rfl,e1,e2,e3,e7,e8,hw⟩
 subst hw
 by_cases hlt:(i:Int) < (s.staff.length:Int)
 case pos =>
  have hlt':i < s.staff.length:=by omega
  simp -dsimp -implicitDefEqProofs (maxSteps:=2000000) (disch:=first|assumption|omega|simp only[nx];omega|(repeat apply zfp);assumption|simp only[smA];done|simp[oneCell,znp]) only[go_sem,e1,e2,e3,e7,e8,hlt,c2,Nat.zero_add]
  apply callV_of (e:=rfl)
  . exact Bit_ok g i (by omega) (by omega) w1
  rintro _ _ ⟨rfl,rfl⟩
  cases hk:g.testBit i with
  | false =>
   have hF:=foldB_no (f:=staffF s) (h0:=0) hk
   simp -dsimp -implicitDefEqProofs (maxSteps:=2000000) (disch:=first|assumption|omega|simp only[nx];omega|(repeat apply zfp);assumption|simp only[smA];done|simp[oneCell,znp]) only[go_sem,e1,e2,e3,e7,e8,hk]
   refine⟨_,by omega,i+1,by omega,rfl,rfl,by(simp only[go_sem,e1,hF];try rfl),by(simp only[go_sem,e2,hF];try rfl),by(simp only[go_sem,e3,hF];try rfl),by(simp only[go_sem,e7,hF];try rfl),by(simp only[go_sem,e8,hF];try rfl),rfl⟩
  | true =>
   have hF:=foldB_yes (f:=staffF s) (h0:=0) hk
   obtain⟨_,_,ex,_,_,hat⟩:=hA1.staff.open
   injection ex with ex1 ex2 ex3
   subst ex1 ex3
   obtain⟨b4,o4,rfl,_,hcell⟩:=hat i hlt'
   have a0:=hcell w1 (.refl _ _) 0 _ rfl
   rw[Nat.add_zero,<- W_at hlt',staff_val hs hlt']at a0
   simp -dsimp -implicitDefEqProofs (maxSteps:=2000000) (disch:=first|assumption|omega|simp only[nx];omega|(repeat apply zfp);assumption|simp only[smA];done|simp[oneCell,znp]) only[go_sem,e1,e2,e3,e7,e8,hk,c2,indexV_eq,hlt,a0,Nat.zero_add]
   apply callV_of (e:=rfl)
   . exact with_ok _ _ (foldB_lt (staffF_lt s) (by omega) i) (staffF_lt s i) w1
   rintro _ _ ⟨rfl,rfl⟩
   simp -dsimp -implicitDefEqProofs (maxSteps:=2000000) (disch:=first|assumption|omega|simp only[nx];omega|(repeat apply zfp);assumption|simp only[smA];done|simp[oneCell,znp]) only[go_sem,e1,e2,e3,e7,e8]
   refine⟨_,by omega,i+1,by omega,rfl,rfl,by(simp only[go_sem,e1,hF];try rfl),by(simp only[go_sem,e2,hF];try rfl),by(simp only[go_sem,e3,hF];try rfl),by(simp only[go_sem,e7,hF];try rfl),by(simp only[go_sem,e8,hF];try rfl),rfl⟩
 obtain rfl:i=s.staff.length:=by omega
 have hH:=foldB_lt (x:=g) (staffF_lt s) (h0:=0) (by omega) s.staff.length
 simp -dsimp -implicitDefEqProofs (maxSteps:=2000000) (disch:=first|assumption|omega|simp only[nx];omega|(repeat apply zfp);assumption|simp only[smA];done|simp[oneCell,znp]) only[go_sem,e1,e2,e3,e7,e8,hlt,c2,Nat.zero_add]
 generalize foldB g (staffF s) 0 s.staff.length=H at *
 refine loopR (fun k t ds w2=>∃ j:Nat,j≤s.rooms.length/\k=s.rooms.length - j/\ds=[]/\ev t (.tmp 1)=.int .i64 (g:Int)/\ev t (.tmp 2)=.int .i64 (r:Int)/\ev t (.tmp 3)=.pointer (some ⟨w.next,0,none⟩)/\ev t (.tmp 7)=.int .i64 (foldB r (roomF s) H j:Int)/\ev t (.tmp 9)=.int .i64 (j:Int)/\w1=w2) (s.rooms.length) ?_ ?_
 . refine⟨0,by omega,by omega,rfl,?_,?_,?_,?_,?_,rfl⟩ <;> simp -dsimp -implicitDefEqProofs (maxSteps:=2000000) (disch:=first|assumption|omega|simp only[nx];omega|(repeat apply zfp);assumption|simp only[smA];done|simp[oneCell,znp]) only[go_sem,e1,e2,e3,e7,e8,hlt,c2,Nat.zero_add] <;> rfl
 rintro k t ds w2 ⟨j,hij,rfl,rfl,e1,e2,e3,e7,e9,hw⟩
 subst hw
 by_cases hlj:(j:Int) < (s.rooms.length:Int)
 case neg =>
  obtain rfl:j=s.rooms.length:=by omega
  simp -dsimp -implicitDefEqProofs (maxSteps:=2000000) (disch:=first|assumption|omega|simp only[nx];omega|(repeat apply zfp);assumption|simp only[smA];done|simp[oneCell,znp]) only[go_sem,e1,e2,e3,e7,e9,hlj,c0,Nat.zero_add]
  exact⟨rfl,g1⟩
 have hlj':j < s.rooms.length:=by omega
 simp -dsimp -implicitDefEqProofs (maxSteps:=2000000) (disch:=first|assumption|omega|simp only[nx];omega|(repeat apply zfp);assumption|simp only[smA];done|simp[oneCell,znp]) only[go_sem,e1,e2,e3,e7,e9,hlj,c0,Nat.zero_add]
 apply callV_of (e:=rfl)
 . exact Bit_ok r j (by omega) (by omega) w1
 rintro _ _ ⟨rfl,rfl⟩
 cases hk:r.testBit j with
 | false =>
  have hF:=foldB_no (f:=roomF s) (h0:=H) hk
  simp -dsimp -implicitDefEqProofs (maxSteps:=2000000) (disch:=first|assumption|omega|simp only[nx];omega|(repeat apply zfp);assumption|simp only[smA];done|simp[oneCell,znp]) only[go_sem,e1,e2,e3,e7,e9,hk]
  refine⟨_,by omega,j+1,by omega,rfl,rfl,by(simp only[go_sem,e1,hF];try rfl),by(simp only[go_sem,e2,hF];try rfl),by(simp only[go_sem,e3,hF];try rfl),by(simp only[go_sem,e7,hF];try rfl),by(simp only[go_sem,e9,hF];try rfl),rfl⟩
 | true =>
  have hF:=foldB_yes (f:=roomF s) (h0:=H) hk
  obtain⟨_,_,ex,_,_,hat⟩:=hA1.rooms.open
  injection ex with ex1 ex2 ex3
  subst ex1 ex3
  obtain⟨b4,o4,rfl,_,hcell⟩:=hat j hlj'
  have a0:=hcell w1 (.refl _ _) 2 _ rfl
  rw[room_val hs hlj']at a0
  simp -dsimp -implicitDefEqProofs (maxSteps:=2000000) (disch:=first|assumption|omega|simp only[nx];omega|(repeat apply zfp);assumption|simp only[smA];done|simp[oneCell,znp]) only[go_sem,e1,e2,e3,e7,e9,hk,c0,indexV_eq,hlj,a0,Nat.zero_add]
  apply callV_of (e:=rfl)
  . exact with_ok _ _ (foldB_lt (roomF_lt s) hH j) (roomF_lt s j) w1
  rintro _ _ ⟨rfl,rfl⟩
  simp -dsimp -implicitDefEqProofs (maxSteps:=2000000) (disch:=first|assumption|omega|simp only[nx];omega|(repeat apply zfp);assumption|simp only[smA];done|simp[oneCell,znp]) only[go_sem,e1,e2,e3,e7,e9]
  refine⟨_,by omega,j+1,by omega,rfl,rfl,by(simp only[go_sem,e1,hF];try rfl),by(simp only[go_sem,e2,hF];try rfl),by(simp only[go_sem,e3,hF];try rfl),by(simp only[go_sem,e7,hF];try rfl),by(simp only[go_sem,e9,hF];try rfl),rfl⟩
theorem gate_cells {w:AW} {v:Value} {gs:List GateN} (h:GatesAt w v gs) {p:Option Addr} {n c:Nat} (hv:v=.slice p n c) {i:Nat} (hi:i < gs.length) :
    ∃ b o x,p=some ⟨b,o,none⟩/\(gs.length:Int)≤140737488355328/\ArrOf w 1 icells x gs[i].ways/\∀ w',Keep w.next w w'->loadV w' true 4 (.pointer (some ⟨b,o+i * 4,none⟩))=some (.agg #[.int .i64 gs[i].A,.int .i64 gs[i].B,.int .i64 gs[i].need,x]) /\
     w'.cell? ⟨b,o+i * 4,none⟩=some (.int .i64 gs[i].A)/\w'.cell? ⟨b,o+i * 4+1,none⟩=some (.int .i64 gs[i].B):=by
 obtain⟨ws,hws,hWA,hWW⟩:=h
 have hwl:ws.length=gs.length:=by rw[<- hws];simp
 obtain⟨p',c',ex,hc1,hc2,hat⟩:=hWA.open
 rw[hv]at ex
 injection ex with ex1 ex2 ex3
 obtain⟨b4,o4,hp,_,hcell⟩:=hat i (by omega)
 have hwi:ws[i]'(by omega)=(gs[i],(ws[i]'(by omega)).2):=by
  have:(ws.map Prod.fst)[i]'(by rw[List.length_map];omega)=gs[i]:=by simp only[hws]
  rw[List.getElem_map]at this
  rw[<- this]
 have hx:=hWW _ (List.getElem_mem (l:=ws) (n:=i) (by omega))
 rw[hwi]at hx
 refine⟨b4,o4,(ws[i]'(by omega)).2,by rw[ex1,hp],by omega,hx,fun w' k=>?_⟩
 have a0:=hcell w' k 0 _ rfl
 have a1:=hcell w' k 1 _ rfl
 have a2:=hcell w' k 2 _ rfl
 have a3:=hcell w' k 3 _ rfl
 rw[hwi]at a0 a1 a2 a3
 simp only[gcells,Nat.add_zero]at a0 a1 a2 a3
 exact⟨by simp only[loadV,aCells,a0,a1,a2,a3],a0,a1⟩
set_option maxHeartbeats 16000000 in
theorem opens_ok {s:StrN} (hs:strB s=true) {pR pG pS:Option Addr} {cR cG cS:Nat} {g r:Nat} (hg:g < 64) (hr:r < 64) (hgb:∀ k,g.testBit k=true->k < s.staff.length) (hrb:∀ k,r.testBit k=true->k < s.rooms.length) (i:Nat) (hi:i < s.gates.length) (w:AW) (f:Fresh w) (hA:StrAt w pR pG pS cR cG cS s) :
    CallT Tryz.prog Tryz.T1 (.fn (.func 86) #[]) #[.agg (strC pR pG pS cR cG cS s).toArray,.int .i64 (g:Int),.int .i64 (r:Int),.int .i64 (i:Int)] w (Ret (.bool (openB s g r s.gates[i])) (Grown w)):=by
 have hgi:=(str_gates hs).2 _ (List.getElem_mem hi)
 obtain⟨hwv,hwl⟩:=ways_val hgi
 obtain⟨b4,o4,x,rfl,hgN,hx,hld⟩:=gate_cells hA.gates rfl hi
 have hw3:s.gates[i].ways.length≤3:=by
  unfold gateB waysB at hgi
  simp only[Bool.and_eq_true]at hgi
  have:=(inR_iff _ _ _).1 hgi.2.2.2.2.1;omega
 have hoB:openB s g r s.gates[i]=(decide ((popN g:Int) ≥ s.gates[i].need) && (waysN s.gates[i]).any (subB (heldN s g r))):=rfl
 generalize s.gates[i]=G at *
 obtain⟨px,cx,rfl,_⟩:=id hx.open
 have g1:=(Grown.refl f).push (.cells (strC pR (some ⟨b4,o4,none⟩) pS cR cG cS s) 26 w.next 0 0)
 have O1:=Own.new f 26 (strC pR (some ⟨b4,o4,none⟩) pS cR cG cS s)
 have g2:=g1.push (.cells [.int .i64 0,.int .i64 0,.int .i64 0,.slice none 0 0] 71 (w.next+1) 0 0)
 have O2:=Own.new g1.2 71 [.int .i64 0,.int .i64 0,.int .i64 0,.slice none 0 0]
 rw[AW.next_push]at O2
 have hlo:=(hld _ g1.1).1
 have c1:=O1.cell (o:=1) (v:=.slice (some ⟨b4,o4,none⟩) s.gates.length cG) rfl rfl
 have st:=storeV_own (o:=0) (l:=[.int .i64 G.A,.int .i64 G.B,.int .i64 G.need,.slice px G.ways.length cx]) (size:=4) O2 rfl (by omega) (by simp) rfl
 have hcut:setsL [.int .i64 0,.int .i64 0,.int .i64 0,.slice none 0 0] 0 [.int .i64 G.A,.int .i64 G.B,.int .i64 G.need,.slice px G.ways.length cx]=[.int .i64 G.A,.int .i64 G.B,.int .i64 G.need,.slice px G.ways.length cx]:=rfl
 rw[hcut]at st
 have m3:=MutS.put (S:=fun j=>j=w.next+1) g2.2 rfl O2.lt (.cells [.int .i64 G.A,.int .i64 G.B,.int .i64 G.need,.slice px G.ways.length cx] 71 (w.next+1) 0 0)
 have O3:=O2.put [.int .i64 G.A,.int .i64 G.B,.int .i64 G.need,.slice px G.ways.length cx]
 have O13:=m3.own (O1.push (.cells [.int .i64 0,.int .i64 0,.int .i64 0,.slice none 0 0] 71 (w.next+1) 0 0)) (by omega)
 have g3:Grown w _:=⟨g2.1.trans (m3.keep (B:=w.next) (fun j q=>by omega) g2.1.next),m3.fresh⟩
 have d2:=O3.cell (o:=2) (v:=.int .i64 G.need) rfl rfl
 have hl1:=loadAll O13 (n:=3) rfl (by simp[strC,oneCell])
 have hke:=fun w' (g':Grown w w')=>keys_ok hs (g:=g) (r:=r) hg hr hgb hrb w' g'.2 (hA.grown g')
 have hil:(i:Int) < (s.gates.length:Int):=by omega
 unfold strC at *
 refine callT_code rfl Tryz.func86 rfl Tryz.s86_eq rfl ?_
 delta Tryz.s86 zo zt zon zv zk
 simp -dsimp -implicitDefEqProofs (maxSteps:=2000000) (disch:=first|assumption|omega|simp only[nx];omega|(repeat apply zfp);assumption|simp only[smA];done|simp[oneCell,znp]) only[go_sem,c1,indexV_eq,hil,hlo,st,Nat.zero_add]
 generalize ((w.push (.cells [.slice pR s.rooms.length cR,.slice (some ⟨b4,o4,none⟩) s.gates.length cG,.slice pS s.staff.length cS] 26 w.next 0 0)).push (.cells [.int .i64 0,.int .i64 0,.int .i64 0,.slice none 0 0] 71 (w.next+1) 0 0)).put (w.next+1) (.cells [.int .i64 G.A,.int .i64 G.B,.int .i64 G.need,.slice px G.ways.length cx] 71 (w.next+1) 0 0)=w3 at *
 have hle3:WLe w3 w3:=(Grown.refl g3.2).1.wle g3.2
 try simp -dsimp -implicitDefEqProofs (maxSteps:=2000000) (disch:=first|assumption|omega|simp only[nx];omega|(repeat apply zfp);assumption|simp only[smA];done|simp[oneCell,znp]) only[go_sem,d2,hle3,Nat.zero_add]
 apply callV_of (e:=rfl)
 . exact people_okR g hg w3
 rintro _ _ ⟨rfl,rfl⟩
 by_cases hp:(popN g:Int) < G.need
 case pos =>
  have hd:decide ((popN g:Int) ≥ G.need)=false:=decide_eq_false (by omega)
  rw[hoB,hd]
  simp -dsimp -implicitDefEqProofs (maxSteps:=2000000) (disch:=first|assumption|omega|simp only[nx];omega|(repeat apply zfp);assumption|simp only[smA];done|simp[oneCell,znp]) only[go_sem,hle3,d2,hp,Nat.zero_add]
  exact⟨rfl,g3⟩
 have hd:decide ((popN g:Int) ≥ G.need)=true:=decide_eq_true (by omega)
 rw[hoB,hd]
 simp -dsimp -implicitDefEqProofs (maxSteps:=2000000) (disch:=first|assumption|omega|simp only[nx];omega|(repeat apply zfp);assumption|simp only[smA];done|simp[oneCell,znp]) only[go_sem,hle3,d2,hp,hl1,Nat.zero_add]
 apply callV_of (e:=rfl)
 . exact hke w3 g3
 rintro _ w4 ⟨rfl,g4⟩
 have gg4:=g3.trans g4
 have O4:=O3.keep g4.1
 have d3:=O4.cell (o:=3) (v:=.slice px G.ways.length cx) rfl rfl
 have hH:=heldN_lt s g r
 generalize heldN s g r=H at *
 have hwl2:(waysN G).length=G.ways.length:=by unfold waysN;simp
 simp -dsimp -implicitDefEqProofs (maxSteps:=2000000) (disch:=first|assumption|omega|simp only[nx];omega|(repeat apply zfp);assumption|simp only[smA];done|simp[oneCell,znp]) only[go_sem]
 refine loopR (fun k t ds w5=>∃ j:Nat,j≤G.ways.length/\k=G.ways.length - j/\ds=[]/\ev t (.tmp 9)=.pointer (some ⟨w.next+1,0,none⟩)/\ev t (.tmp 10)=.int .i64 (H:Int)/\ev t (.tmp 11)=.int .i64 (j:Int)/\((waysN G).take j).any (subB H)=false/\w4=w5) (G.ways.length) ?_ ?_
 . refine⟨0,by omega,by omega,rfl,?_,?_,?_,rfl,rfl⟩ <;> simp -dsimp -implicitDefEqProofs (maxSteps:=2000000) (disch:=first|assumption|omega|simp only[nx];omega|(repeat apply zfp);assumption|simp only[smA];done|simp[oneCell,znp]) only[go_sem] <;> rfl
 rintro k t ds w5 ⟨j,hij,rfl,rfl,e9,e10,e11,hno,hw⟩
 subst hw
 by_cases hlj:(j:Int) < (G.ways.length:Int)
 case neg =>
  obtain rfl:j=G.ways.length:=by omega
  rw[<- hwl2,List.take_length]at hno
  simp -dsimp -implicitDefEqProofs (maxSteps:=2000000) (disch:=first|assumption|omega|simp only[nx];omega|(repeat apply zfp);assumption|simp only[smA];done|simp[oneCell,znp]) only[go_sem,e9,e10,e11,d3,hlj,Nat.zero_add]
  exact⟨by rw[hno],gg4⟩
 have hlj':j < G.ways.length:=by omega
 obtain⟨_,_,ex,_,_,hat⟩:=(hx.grown gg4).open
 injection ex with ex1 ex2 ex3
 subst ex1 ex3
 obtain⟨b5,o5,rfl,_,hcell⟩:=hat j hlj'
 have a0:=hcell w4 (.refl _ _) 0 _ rfl
 have hwj:G.ways[j]=(((waysN G)[j]'(by omega):Nat):Int):=by
  have:(natsL (waysN G))[j]'(by rw[hwv];exact hlj')=G.ways[j]:=by simp only[hwv]
  rw[<- this];simp[natsL]
 rw[Nat.add_zero,hwj]at a0
 have hwlt:=hwl _ (List.getElem_mem (l:=waysN G) (n:=j) (by omega))
 have hsucc:((waysN G).take (j+1)).any (subB H)=subB H ((waysN G)[j]'(by omega)):=by
  rw[List.take_add_one,List.getElem?_eq_getElem (by omega),List.any_append,hno];simp
 have hmem:=List.getElem_mem (l:=waysN G) (n:=j) (by omega)
 generalize (waysN G)[j]'(by omega)=y at *
 simp -dsimp -implicitDefEqProofs (maxSteps:=2000000) (disch:=first|assumption|omega|simp only[nx];omega|(repeat apply zfp);assumption|simp only[smA];done|simp[oneCell,znp]) only[go_sem,e9,e10,e11,d3,hlj,indexV_eq,a0,Nat.zero_add]
 apply callV_of (e:=rfl)
 . exact Has_ok H y hH hwlt w4
 rintro _ _ ⟨rfl,rfl⟩
 cases hk:subB H y with
 | true =>
  have hT:(waysN G).any (subB H)=true:=List.any_eq_true.2 ⟨_,hmem,hk⟩
  simp -dsimp -implicitDefEqProofs (maxSteps:=2000000) (disch:=first|assumption|omega|simp only[nx];omega|(repeat apply zfp);assumption|simp only[smA];done|simp[oneCell,znp]) only[go_sem,e9,e10,e11,hk]
  exact⟨by rw[hT],gg4⟩
 | false =>
  simp -dsimp -implicitDefEqProofs (maxSteps:=2000000) (disch:=first|assumption|omega|simp only[nx];omega|(repeat apply zfp);assumption|simp only[smA];done|simp[oneCell,znp]) only[go_sem,e9,e10,e11,hk]
  refine⟨_,by omega,j+1,by omega,rfl,rfl,by(simp only[go_sem,e9];try rfl),by(simp only[go_sem,e10];try rfl),by(simp only[go_sem,e11];try rfl),(by rw[hsucc,hk]),rfl⟩
theorem same_sV (n:Nat) (p:Option Addr) (k c:Nat):same (n+1) (.slice p k c) (.slice p k c)=true:=by
 cases p with
 | none=>simp[same]
 | some a=>obtain⟨b,o,q⟩:=a;cases q <;> simp[same]
theorem same_str (p q r:Option Addr) (a b c d e f:Nat):same 12 (.agg #[.slice p a d,.slice q b e,.slice r c f]) (.agg #[.slice p a d,.slice q b e,.slice r c f])=true:=by
 show same.all 11 [.slice p a d,.slice q b e,.slice r c f] [.slice p a d,.slice q b e,.slice r c f]=true
 simp only[same.all,same_sV 10,Bool.and_self]
set_option maxHeartbeats 16000000 in
theorem leads_ok {s:StrN} (hs:strB s=true) {pR pG pS:Option Addr} {cR cG cS:Nat} {g r:Nat} (hg:g < 64) (hr:r < 64) (hgb:∀ k,g.testBit k=true->k < s.staff.length) (hrb:∀ k,r.testBit k=true->k < s.rooms.length) (i:Nat) (hi:i < s.gates.length) (w:AW) (f:Fresh w) (hA:StrAt w pR pG pS cR cG cS s) :
    CallT Tryz.prog Tryz.T1 (.fn (.func 57) #[]) #[.agg (strC pR pG pS cR cG cS s).toArray,.int .i64 (g:Int),.int .i64 (r:Int),.int .i64 (i:Int)] w (Ret (.bool (stepB s g r s.gates[i])) (Grown w)):=by
 have hgi:=(str_gates hs).2 _ (List.getElem_mem hi)
 have hop:=fun w' (g':Grown w w')=>opens_ok hs (g:=g) (r:=r) hg hr hgb hrb i hi w' g'.2 (hA.grown g')
 obtain⟨b4,o4,x,rfl,hgN,hx,hld⟩:=gate_cells hA.gates rfl hi
 obtain⟨⟨hAe,hAl⟩,hBe,hBl⟩:=gate_fit hgi (str_rooms hs).2
 have hrl:=(str_rooms hs).2
 have hsB:stepB s g r s.gates[i]=((r.testBit s.gates[i].A.toNat != r.testBit s.gates[i].B.toNat) && openB s g r s.gates[i]):=rfl
 generalize s.gates[i]=G at *
 obtain⟨px,cx,rfl,_⟩:=id hx.open
 obtain⟨A,hA'⟩:∃ A:Nat,G.A=(A:Int):=⟨_,hAe⟩
 obtain⟨B,hB'⟩:∃ B:Nat,G.B=(B:Int):=⟨_,hBe⟩
 have hAn:G.A.toNat=A:=by omega
 have hBn:G.B.toNat=B:=by omega
 rw[hAn,hBn]at hsB
 rw[hAn]at hAl
 rw[hBn]at hBl
 rw[hA',hB']at hld
 clear hAe hBe
 have g1:=(Grown.refl f).push (.cells (strC pR (some ⟨b4,o4,none⟩) pS cR cG cS s) 26 w.next 0 0)
 have O1:=Own.new f 26 (strC pR (some ⟨b4,o4,none⟩) pS cR cG cS s)
 have g2:=g1.push (.cells [.int .i64 0,.int .i64 0,.int .i64 0,.slice none 0 0] 71 (w.next+1) 0 0)
 have O2:=Own.new g1.2 71 [.int .i64 0,.int .i64 0,.int .i64 0,.slice none 0 0]
 rw[AW.next_push]at O2
 have hlo:=(hld _ g1.1).1
 have c1:=O1.cell (o:=1) (v:=.slice (some ⟨b4,o4,none⟩) s.gates.length cG) rfl rfl
 have st:=storeV_own (o:=0) (l:=[.int .i64 (A:Int),.int .i64 (B:Int),.int .i64 G.need,.slice px G.ways.length cx]) (size:=4) O2 rfl (by omega) (by simp) rfl
 have hcut:setsL [.int .i64 0,.int .i64 0,.int .i64 0,.slice none 0 0] 0 [.int .i64 (A:Int),.int .i64 (B:Int),.int .i64 G.need,.slice px G.ways.length cx]=[.int .i64 (A:Int),.int .i64 (B:Int),.int .i64 G.need,.slice px G.ways.length cx]:=rfl
 rw[hcut]at st
 have m3:=MutS.put (S:=fun j=>j=w.next+1) g2.2 rfl O2.lt (.cells [.int .i64 (A:Int),.int .i64 (B:Int),.int .i64 G.need,.slice px G.ways.length cx] 71 (w.next+1) 0 0)
 have O3:=O2.put [.int .i64 (A:Int),.int .i64 (B:Int),.int .i64 G.need,.slice px G.ways.length cx]
 have O13:=m3.own (O1.push (.cells [.int .i64 0,.int .i64 0,.int .i64 0,.slice none 0 0] 71 (w.next+1) 0 0)) (by omega)
 have g3:Grown w _:=⟨g2.1.trans (m3.keep (B:=w.next) (fun j q=>by omega) g2.1.next),m3.fresh⟩
 have d0:=O3.cell (o:=0) (v:=.int .i64 (A:Int)) rfl rfl
 have d1:=O3.cell (o:=1) (v:=.int .i64 (B:Int)) rfl rfl
 have hl1:=loadAll O13 (n:=3) rfl (by simp[strC,oneCell])
 have hil:(i:Int) < (s.gates.length:Int):=by omega
 have nb:∀ a b:Bool,eqQ Tryz.prog .neq 4 (.bool a) (.bool b)=some (.bool (a != b)):=fun a b=>by cases a <;> cases b <;> kernel_rfl
 have hbb:∀ a b:Bool,binQ .neq (.bool a) (.bool b)=none:=fun a b=>rfl
 unfold strC at *
 refine callT_code rfl Tryz.func57 rfl Tryz.s57_eq rfl ?_
 delta Tryz.s57 zo zt zg zh zon zv
 simp -dsimp -implicitDefEqProofs (maxSteps:=2000000) (disch:=first|assumption|omega|simp only[nx];omega|(repeat apply zfp);assumption|simp only[smA];done|simp[oneCell,znp]) only[go_sem,c1,indexV_eq,hil,hlo,st,Nat.zero_add]
 generalize ((w.push (.cells [.slice pR s.rooms.length cR,.slice (some ⟨b4,o4,none⟩) s.gates.length cG,.slice pS s.staff.length cS] 26 w.next 0 0)).push (.cells [.int .i64 0,.int .i64 0,.int .i64 0,.slice none 0 0] 71 (w.next+1) 0 0)).put (w.next+1) (.cells [.int .i64 (A:Int),.int .i64 (B:Int),.int .i64 G.need,.slice px G.ways.length cx] 71 (w.next+1) 0 0)=w3 at *
 have hle3:WLe w3 w3:=(Grown.refl g3.2).1.wle g3.2
 have hss:=same_str pR (some ⟨b4,o4,none⟩) pS s.rooms.length s.gates.length s.staff.length cR cG cS
 try simp -dsimp -implicitDefEqProofs (maxSteps:=2000000) (disch:=first|assumption|omega|simp only[nx];omega|(repeat apply zfp);assumption|simp only[smA];done|simp[oneCell,znp]) only[go_sem,d0,d1,hle3,Nat.zero_add]
 apply callV_of (e:=rfl)
 . exact Bit_ok r A (by omega) (by omega) w3
 rintro _ _ ⟨rfl,rfl⟩
 simp -dsimp -implicitDefEqProofs (maxSteps:=2000000) (disch:=first|assumption|omega|simp only[nx];omega|(repeat apply zfp);assumption|simp only[smA];done|simp[oneCell,znp]) only[go_sem,hle3,d0,d1,Nat.zero_add]
 apply callV_of (e:=rfl)
 . exact Bit_ok r B (by omega) (by omega) w3
 rintro _ _ ⟨rfl,rfl⟩
 have hn:=nb (r.testBit A) (r.testBit B)
 have hbn:=hbb (r.testBit A) (r.testBit B)
 cases hld2:(r.testBit A != r.testBit B) with
 | false =>
  rw[hld2]at hn
  rw[hsB,hld2]
  simp -dsimp -implicitDefEqProofs (maxSteps:=2000000) (disch:=first|assumption|omega|simp only[nx];omega|(repeat apply zfp);assumption|simp only[smA];done|simp[oneCell,znp]) only[go_sem,hle3,hn,hbn,d0,d1,Nat.zero_add]
  exact⟨rfl,g3⟩
 | true =>
  rw[hld2]at hn
  rw[hsB,hld2]
  simp -dsimp -implicitDefEqProofs (maxSteps:=2000000) (disch:=first|assumption|omega|simp only[nx];omega|(repeat apply zfp);assumption|simp only[smA];done|simp[oneCell,znp]) only[go_sem,hle3,hn,hbn,d0,d1,hl1,hss,Nat.zero_add]
  apply callV_of (e:=rfl)
  . exact hop w3 g3
  rintro _ w4 ⟨rfl,g4⟩
  have hle4:WLe w3 w4:=g4.1.wle g3.2
  simp -dsimp -implicitDefEqProofs (maxSteps:=2000000) (disch:=first|assumption|omega|simp only[nx];omega|(repeat apply zfp);assumption|simp only[smA];done|simp[oneCell,znp]) only[go_sem,hle3,hle4]
  exact⟨rfl,g3.trans g4⟩
set_option maxHeartbeats 16000000 in
theorem both_ok {s:StrN} (hs:strB s=true) {pR pG pS:Option Addr} {cR cG cS:Nat} {r:Nat} (hr:r < 64) (i:Nat) (hi:i < s.gates.length) (w:AW) (f:Fresh w) (hA:StrAt w pR pG pS cR cG cS s) :
    CallT Tryz.prog Tryz.T1 (.fn (.func 62) #[]) #[.agg (strC pR pG pS cR cG cS s).toArray,.int .i64 (r:Int),.int .i64 (i:Int)] w (Ret (.int .i64 (nextR r s.gates[i]:Int)) (Grown w)):=by
 have hgi:=(str_gates hs).2 _ (List.getElem_mem hi)
 obtain⟨b4,o4,x,rfl,hgN,hx,hld⟩:=gate_cells hA.gates rfl hi
 obtain⟨⟨hAe,hAl⟩,hBe,hBl⟩:=gate_fit hgi (str_rooms hs).2
 have hrl:=(str_rooms hs).2
 have hnr:nextR r s.gates[i]=r ||| (2 ^ s.gates[i].A.toNat ||| 2 ^ s.gates[i].B.toNat):=rfl
 generalize s.gates[i]=G at *
 obtain⟨A,hA'⟩:∃ A:Nat,G.A=(A:Int):=⟨_,hAe⟩
 obtain⟨B,hB'⟩:∃ B:Nat,G.B=(B:Int):=⟨_,hBe⟩
 have hAn:G.A.toNat=A:=by omega
 have hBn:G.B.toNat=B:=by omega
 rw[hAn,hBn]at hnr
 rw[hAn]at hAl
 rw[hBn]at hBl
 rw[hA',hB']at hld
 clear hAe hBe
 have g1:=(Grown.refl f).push (.cells (strC pR (some ⟨b4,o4,none⟩) pS cR cG cS s) 26 w.next 0 0)
 have O1:=Own.new f 26 (strC pR (some ⟨b4,o4,none⟩) pS cR cG cS s)
 obtain⟨_,a0,a1⟩:=hld _ g1.1
 have c1:=O1.cell (o:=1) (v:=.slice (some ⟨b4,o4,none⟩) s.gates.length cG) rfl rfl
 have hil:(i:Int) < (s.gates.length:Int):=by omega
 have hsA:=full_shl (n:=A) (by omega)
 have hsB:=full_shl (n:=B) (by omega)
 have pA:=pow_lt6 (a:=A) (by omega)
 have pB:=pow_lt6 (a:=B) (by omega)
 have h0A:¬ (A:Int) < 0:=by omega
 have h0B:¬ (B:Int) < 0:=by omega
 have pAB:2 ^ A ||| 2 ^ B < 64:=Nat.or_lt_two_pow (n:=6) pA pB
 rw[hnr]
 unfold strC at *
 generalize 2 ^ A=PA at *
 generalize 2 ^ B=PB at *
 refine callT_code rfl Tryz.func62 rfl Tryz.s62_eq rfl ?_
 delta Tryz.s62 zo zt zv zk
 simp -dsimp -implicitDefEqProofs (maxSteps:=2000000) (disch:=first|assumption|omega|simp only[nx];omega|(repeat apply zfp);assumption|simp only[smA];done|simp[oneCell,znp]) only[go_sem,c1,indexV_eq,hil,a0,a1,hsA,hsB,h0A,h0B,Nat.zero_add]
 generalize w.push (.cells [.slice pR s.rooms.length cR,.slice (some ⟨b4,o4,none⟩) s.gates.length cG,.slice pS s.staff.length cS] 26 w.next 0 0)=w1 at *
 have hle1:WLe w1 w1:=(Grown.refl g1.2).1.wle g1.2
 apply callV_of (e:=rfl)
 . exact with_ok PA PB (by omega) (by omega) w1
 rintro _ _ ⟨rfl,rfl⟩
 simp -dsimp -implicitDefEqProofs (maxSteps:=2000000) (disch:=first|assumption|omega|simp only[nx];omega|(repeat apply zfp);assumption|simp only[smA];done|simp[oneCell,znp]) only[go_sem,hle1,c1,indexV_eq,hil,a0,a1,hsA,hsB,h0A,h0B,Nat.zero_add]
 apply callV_of (e:=rfl)
 . exact with_ok r (PA ||| PB) (by omega) (by omega) w1
 rintro _ _ ⟨rfl,rfl⟩
 simp -dsimp -implicitDefEqProofs (maxSteps:=2000000) (disch:=first|assumption|omega|simp only[nx];omega|(repeat apply zfp);assumption|simp only[smA];done|simp[oneCell,znp]) only[go_sem,hle1]
 exact⟨rfl,g1⟩
end Go.Proofs
