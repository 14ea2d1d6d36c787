/- This program: its code, contracts, numbers, part 9. -/
import Derived.Test.YtnbfkakjdifcpaaGreatPah
import Derived.Test.YtnbfkakjdifcpaaGreatPaf
import Derived.Test.YtnbfkakjdifcpaaGreatNa
import Derived.Test.YtnbfkakjdifcpaaGreatSf
import Derived.Test.YtnbfkakjdifcpaaGreatPag
import Derived.Test.YtnbfkakjdifcpaaGreatSh
import Derived.Test.YtnbfkakjdifcpaaGreatNc
import Derived.Test.YtnbfkakjdifcpaaGreatCz
set_option linter.unusedVariables false
set_option linter.unusedSimpArgs false
namespace Go.Proofs
open Go Go.RowKit Go.Sim
set_option maxRecDepth 100000
def bag0:BagN:=⟨0,0,0,0,0⟩
def inB1 (c:CarN):Bool:=decide (c.kind=1)
def mvB (c:CarN):Bool:=decide (c.kind=2)
def e1B (x:LogN) (c:CarN):Bool:=if c.kind=1 then !decide (x.bag c.bag=bag0) else decide ((x.bag c.bag).room=0)
def e2B (s:StrN) (x:LogN) (c:CarN):Bool :=
 (!inB1 c && !(endR s (pairN c) 1).testBit (x.bag c.bag).room) || ((inB1 c || mvB c) && !(endR s (pairN c) 1).testBit c.to)
def e3B (s:StrN) (x:LogN) (c:CarN):Bool :=
 (mvB c && decide (c.to=(x.bag c.bag).room)) || ((inB1 c || mvB c) && decide ((toRoom s c).hold≤(manyB x.bags c.to:Int)))
def suitsN (x:LogN) (c:CarN):Nat:=if c.kind=1 then c.suits else (x.bag c.bag).suits
def e4B (s:StrN) (x:LogN) (c:CarN):Bool:=(inB1 c || mvB c) && !(suitsN x c).testBit (toRoom s c).climate.toNat
def e5B (x:LogN) (c:CarN):Bool:=(decide (c.kind=3) && !decide (c.sl=(x.bag c.bag).sl)) || ((inB1 c || decide (c.kind=4)) && x.seals.contains c.sl)
def refE (s:StrN) (x:LogN) (c:CarN):Nat :=
 if e1B x c=true then 44 else if e2B s x c=true then 45 else if e3B s x c=true then 46 else if e4B s x c=true then 47 else if e5B x c=true then 48 else 0
structure CarT (c:CarN):Prop where
 lo:1≤c.kind
 hi:c.kind≤5
 to:c.kind=1 \/ c.kind=2->1≤c.to
 two:c.ca ≠ c.cb
theorem room_bag0 {b:BagN} (h:b.room ≠ 0):b ≠ bag0:=fun e=>h (by rw[e];rfl)
theorem many_in {x:LogN} (hk:LogOk x) {c:CarN} (hb:c.bag < 32) (y:BagN) (h:(x.bag c.bag).room ≠ c.to):manyB (x.placed c y).bags c.to=manyB x.bags c.to+1:=by
 have hl:=hk.bags
 have hg:=LogN.bag_get hk hb
 have e:=many_set (B:=x.bags) (i:=c.bag) (by omega) (y.at c.to) c.to
 rw[<- hg,if_neg h,if_pos (show (y.at c.to).room=c.to from rfl)]at e
 exact e
theorem placed_ne {x:LogN} (hk:LogOk x) {c:CarN} (hb:c.bag < 32) (y:BagN) (h:(x.bag c.bag).room ≠ c.to):(x.placed c y).bags ≠ x.bags:=fun e=>by
 have:=many_in hk hb y h
 rw[e]at this
 omega
theorem reachE_is (s:StrN) (c:CarN) (r:Nat):reachE s c r=if (endR s (pairN c) 1).testBit r=true then 0 else 45:=by
 unfold reachE
 by_cases h:reachB s (2 ^ r) (pairN c)=true
 . rw[if_pos h,if_pos (reachB_iff.1 h)]
 . rw[if_neg h,if_neg (fun z=>h (reachB_iff.2 z))]
theorem needE_is (s:StrN) (x:LogN) (c:CarN):needE s x c=if (x.bag c.bag).room=0 then 44 else if (endR s (pairN c) 1).testBit (x.bag c.bag).room=true then 0 else 45:=by
 unfold needE
 split
 . rfl
 . by_cases h:reachB s (2 ^ (x.bag c.bag).room) (pairN c)=true
   . rw[if_pos h,if_pos (reachB_iff.1 h)]
   . rw[if_neg h,if_neg (fun z=>h (reachB_iff.2 z))]
theorem putE_is {s:StrN} {x:LogN} (hk:LogOk x) {c:CarN} (hb:c.bag < 32) (y:BagN) (h:(x.bag c.bag).room ≠ c.to) :
    putE s x c y=if (toRoom s c).hold≤(manyB x.bags c.to:Int) then 46 else if y.suits.testBit (toRoom s c).climate.toNat=true then 0 else 47:=by
 unfold putE
 rw[if_neg (placed_ne hk hb y h)]
 have hm:=many_in hk hb y h
 have hl:(x.placed c y).bags.length=32:=(hk.placed c y).bags
 rw[cnt_many hl,hm]
 by_cases q:(toRoom s c).hold≤(manyB x.bags c.to:Int)
 . rw[if_pos q,if_neg (by omega)]
 . rw[if_neg q,if_pos (by omega)]
theorem refE_is {s:StrN} {x:LogN} (hk:LogOk x) {c:CarN} (hc:CarOk s c) (ht:CarT c):refE s x c=stepE s x c:=by
 have hb:=hc.bag
 obtain⟨h1,h5,hto,_⟩:=ht
 unfold refE stepE
 by_cases k1:c.kind=1
 · have i1 : inB1 c=true:=decide_eq_true k1
   have i2:mvB c=false:=decide_eq_false (by omega)
   rw[if_pos k1]
   unfold bringE
   rw[reachE_is]
   unfold e1B e2B e3B e4B e5B suitsN
   rw[i1,i2]
   simp only[k1,if_true,Bool.not_true,Bool.false_and,Bool.false_or,Bool.true_or,Bool.true_and,Bool.not_eq_true',decide_eq_true_eq,decide_eq_false_iff_not]
   by_cases b0:x.bag c.bag=bag0
   · rw [if_neg (fun z=>z b0),if_pos (show x.bag c.bag=⟨0,0,0,0,0⟩ from b0),orE_0]
     have hne:(x.bag c.bag).room ≠ c.to:=by rw[b0];have:=hto (.inl k1);show 0 ≠ c.to;omega
     rw[putE_is hk hb _ hne]
     cases (endR s (pairN c) 1).testBit c.to with
     | false=>simp[orE]
     | true =>
      simp only[if_true,orE_0,if_false,Bool.true_eq_false]
      split
      . rfl
      · show (if (c.suits).testBit _=false then 47 else _)=orE (if (c.suits).testBit _=true then 0 else 47) _
        cases c.suits.testBit (toRoom s c).climate.toNat with
        | false=>rfl
        | true =>
         simp only[if_true,orE_0,if_false,Bool.true_eq_false]
         rfl
   . rw[if_pos b0,if_neg (show ¬ x.bag c.bag=⟨0,0,0,0,0⟩ from b0)]
     rfl
 have i1:inB1 c=false:=decide_eq_false k1
 rw[if_neg k1]
 by_cases k2:c.kind=2
 · have i2:mvB c=true:=decide_eq_true k2
   rw[if_pos k2]
   unfold moveE
   rw[reachE_is,needE_is]
   unfold e1B e2B e3B e4B e5B suitsN
   rw[i1,i2]
   simp only[k2,if_true,Bool.not_true,Bool.not_false,Bool.false_and,Bool.false_or,Bool.true_or,Bool.true_and,Bool.not_eq_true',decide_eq_true_eq,decide_eq_false_iff_not,Bool.or_eq_true,Nat.reduceEqDiff,if_false,decide_false,Bool.or_self]
   by_cases r0:(x.bag c.bag).room=0
   . rw[if_pos r0,if_pos r0];rfl
   rw[if_neg r0,if_neg r0]
   cases (endR s (pairN c) 1).testBit (x.bag c.bag).room with
   | false=>simp[orE]
   | true =>
   cases (endR s (pairN c) 1).testBit c.to with
   | false=>simp[orE]
   | true =>
   simp only[if_true,orE_0,if_false,Bool.true_eq_false,or_self]
   by_cases hr:c.to=(x.bag c.bag).room
   · rw [if_pos (.inl hr)]
     unfold putE
     rw[if_pos]
     show x.bags.set c.bag ((x.bag c.bag).at c.to)=x.bags
     have hl:=hk.bags
     have:(x.bag c.bag).at c.to=x.bags[c.bag]'(by omega):=by
      rw[hr,LogN.bag_get hk hb];rfl
     rw[this,List.set_getElem_self]
   · rw [putE_is hk hb _ (fun z=>hr z.symm)]
     by_cases hm:(toRoom s c).hold≤(manyB x.bags c.to:Int)
     . rw[if_pos (.inr hm),if_pos hm]
     . rw[if_neg (by rintro (z|z);exact hr z;exact hm z),if_neg hm]
       cases (x.bag c.bag).suits.testBit (toRoom s c).climate.toNat <;> simp
 have i2:mvB c=false:=decide_eq_false k2
 rw[if_neg k2]
 have e3:e3B s x c=false:=by unfold e3B;rw[i1,i2];rfl
 have e4:e4B s x c=false:=by unfold e4B;rw[i1,i2];rfl
 have e1:e1B x c=decide ((x.bag c.bag).room=0):=by unfold e1B;rw[if_neg k1]
 have e2:e2B s x c = !(endR s (pairN c) 1).testBit (x.bag c.bag).room:=by unfold e2B;rw[i1,i2];simp
 rw[e1,e2,e3,e4]
 have hn:=needE_is s x c
 have key:∀ b,(if decide ((x.bag c.bag).room=0)=true then 44 else if (!(endR s (pairN c) 1).testBit (x.bag c.bag).room)=true then 45 else b)=orE (needE s x c) b:=fun b=>by
  rw[hn]
  by_cases r0:(x.bag c.bag).room=0
  . rw[if_pos (decide_eq_true r0),if_pos r0];rfl
  . rw[if_neg (by rw[decide_eq_true_eq];exact r0),if_neg r0]
    cases (endR s (pairN c) 1).testBit (x.bag c.bag).room <;> rfl
 simp only[if_false,Bool.false_eq_true]
 rw[key]
 by_cases k3:c.kind=3
 . rw[if_pos k3]
   unfold checkE
   congr 1
   unfold e5B
   rw[i1]
   simp only[k3,decide_true,Bool.true_and,Bool.false_or,Nat.reduceEqDiff,decide_false,Bool.false_and,Bool.or_false,Bool.not_eq_true',decide_eq_false_iff_not]
   by_cases q:c.sl=(x.bag c.bag).sl
   . rw[if_neg (fun z=>z q),if_pos q.symm]
   . rw[if_pos q,if_neg (fun z=>q z.symm)]
 rw[if_neg k3]
 by_cases k4:c.kind=4
 . rw[if_pos k4]
   unfold openE sealE
   congr 1
   unfold e5B
   rw[i1]
   simp only[k4,Nat.reduceEqDiff,decide_false,decide_true,Bool.false_and,Bool.false_or,Bool.true_and]
 rw[if_neg k4]
 have e5:e5B x c=false:=by
  unfold e5B
  rw[i1,decide_eq_false k3,decide_eq_false k4];rfl
 rw[e5]
 unfold orE
 simp only[if_false,Bool.false_eq_true]
 split
 . rename_i z;rw[z]
 . rfl
def EverOk (x:LogN) (ever:List Nat):Prop:=∀ i,i < 32->ever.contains i = !decide (x.bag i=bag0)
theorem ever0:EverOk x0 []:=fun i hi=>by
 have:x0.bag i=bag0:=by
  unfold LogN.bag
  show ((shelf0)[i]?.getD _)=bag0
  rw[show shelf0=List.replicate 32 _ from rfl,List.getElem?_replicate,if_pos hi];rfl
 rw[this];rfl
def everN (c:CarN) (ever:List Nat):List Nat:=if c.kind=1 then ever++[c.bag] else ever
theorem bagB_ne {x:LogN} {c:CarN} (h:c.ca ≠ c.cb):bagB x c ≠ bag0:=fun e=>by
 obtain⟨h1,h2⟩:=bagB_who x c
 rw[e]at h1 h2
 have a:0=c.ca:=h1
 have b:0=c.cb:=h2
 omega
theorem EverOk.step {s:StrN} {x:LogN} {ever:List Nat} (h:EverOk x ever) (hk:LogOk x) {c:CarN} (hc:CarOk s c) (ht:CarT c) (h0:stepE s x c=0):EverOk (stepN x c) (everN c ever):=fun i hi=>by
 rw[bag_at x hk c hc.bag i hi]
 unfold everN
 by_cases q:i=c.bag
 · rw [if_pos q,decide_eq_false (bagB_ne ht.two)]
   split
   . rw[q];simp
   . rename_i k1
     rw[h i hi,q,decide_eq_false (room_bag0 (need_of h0 k1))]
 · rw [if_neg q,<- h i hi]
   split
   . rw[List.contains_eq_mem,List.contains_eq_mem]
     simp[q]
   . rfl
theorem carT_of {s:StrN} {c:CarI} (h:carryB s c=true):CarT c.toN:=by
 have h2:=two_peopleN h
 unfold carryB at h
 simp only[Bool.and_eq_true,inR_iff]at h
 obtain⟨hk,_,_,_,_,hto,_,_⟩:=h
 refine⟨?_,?_,fun q=>?_,h2⟩
 . show 1≤c.kind.toNat;omega
 . show c.kind.toNat≤5;omega
 · show 1≤c.to.toNat
   have hq:c.kind.toNat=1 \/ c.kind.toNat=2:=q
   have ht:toB c.kind=true:=by
    unfold toB
    rw[Bool.or_eq_true,decide_eq_true_eq,decide_eq_true_eq]
    omega
   unfold fieldB at hto
   rw[ht]at hto
   have:=(inR_iff _ _ _).1 (show inR 1 c.to _=true from hto)
   omega
def Tryz.s72:SC:=(.seq (.ops false [zo 3 (.box 26 (zv 0)) 0,zo 6 (.assign (.const (.pointer none))) 112,zo 7 (.assign (zk 0)) 3,zo 8 (.assign (zk 0)) 27]) (.seq (.seq (.ops false [zo 13 (.load 26 (zv 3)) 26,zo 14 (.call ⟨.value (.func 18),⟨[(zv 13)]⟩,⟨[26]⟩⟩) 27,zo 9 (.assign (zv 14)) 27]) (.seq (.ops false [zo 15 (.move (zv 9)) 27,zo 16 (.binOp .neq 27 (zv 15) (zk 0) 27) 4]) (.cond (.tmp 16) (.seq (.ops false [zo 17 (.move (zv 9)) 27,zo 6 (.assign (.const (.pointer none))) 112,zo 7 (.assign (zk 0)) 3,zo 8 (.assign (zv 17)) 27]) .ret) .skip))) (.seq (.seq (.ops false [zo 18 (.load 26 (zv 3)) 26,zo 19 (.move (zv 1)) 44,zo 20 (.call ⟨.value (.func 105),⟨[(zv 18),(zv 19)]⟩,⟨[26,44]⟩⟩) 4,zo 21 (.unOp .not 4 (zv 20)) 4]) (.cond (.tmp 21) (.seq (.ops false [zo 6 (.assign (.const (.pointer none))) 112,zo 7 (.assign (zk 0)) 3,zo 8 (.assign (zk 43)) 27]) .ret) .skip)) (.seq (.ops false [zo 22 (.load 26 (zv 3)) 26,zo 23 (.call ⟨.value (.func 106),⟨[(zv 22)]⟩,⟨[26]⟩⟩) 112,zo 10 (.assign (zv 23)) 112]) (.seq (.seq (.ops false [zo 11 (.assign (zk 0)) 3]) (.block 0 (.loop (.seq (.seq (.ops false [zo 24 (.move (zv 11)) 3,zo 25 (.move (zv 1)) 44,zo 26 (.call ⟨.builtin .len,⟨[(zv 25)]⟩,⟨[44]⟩⟩) 3,zo 27 (.binOp .lss 3 (zv 24) (zv 26) 3) 4,zo 28 (.move (zv 27)) 4,zg 29 (.move (zv 1)) 44 28 true,zg 30 (.move (zv 11)) 3 28 true,zg 31 (.indexAddr 44 (zv 29) (zv 30)) 0 28 true,zg 32 (.fieldAddr 62 (zv 31) 0) 0 28 true,zg 33 (.load 3 (zv 32)) 3 28 true,zg 34 (.move (zv 2)) 3 28 true,zg 35 (.binOp .leq 3 (zv 33) (zv 34) 3) 4 28 true,zo 36 (.pick (zv 28) (zv 35) (.const (.bool false))) 4]) (.cond (.tmp 36) .skip (.exit 0))) (.seq (.block 1 (.seq (.seq (.ops false [zo 39 (.move (zv 10)) 112,zo 40 (.move (zv 1)) 44,zo 41 (.move (zv 11)) 3,zo 42 (.indexAddr 44 (zv 40) (zv 41)) 0,zo 43 (.load 62 (zv 42)) 62,zo 44 (.call ⟨.value (.func 107),⟨[(zv 39),(zv 43)]⟩,⟨[112,62]⟩⟩) 27,zo 12 (.assign (zv 44)) 27]) (.seq (.ops false [zo 45 (.move (zv 12)) 27,zo 46 (.binOp .neq 27 (zv 45) (zk 0) 27) 4]) (.cond (.tmp 46) (.seq (.ops false [zo 47 (.move (zv 11)) 3,zo 48 (.move (zv 12)) 27,zo 6 (.assign (.const (.pointer none))) 112,zo 7 (.assign (zv 47)) 3,zo 8 (.assign (zv 48)) 27]) .ret) .skip))) (.ops false [zo 49 (.move (zv 10)) 112,zo 50 (.move (zv 1)) 44,zo 51 (.move (zv 11)) 3,zo 52 (.indexAddr 44 (zv 50) (zv 51)) 0,zo 53 (.load 62 (zv 52)) 62,zo 54 (.call ⟨.value (.func 108),⟨[(zv 49),(zv 53)]⟩,⟨[112,62]⟩⟩) 0]))) (.ops false [zo 37 (.move (zv 11)) 3,zo 38 (.binOp .add 3 (zv 37) (zk 1) 3) 3,zo 11 (.assign (zv 38)) 3])))))) (.seq (.ops false [zo 55 (.move (zv 10)) 112,zo 56 (.move (zv 1)) 44,zo 57 (.call ⟨.builtin .len,⟨[(zv 56)]⟩,⟨[44]⟩⟩) 3,zo 6 (.assign (zv 55)) 112,zo 7 (.assign (zv 57)) 3,zo 8 (.assign (zk 0)) 27]) .ret))))))
def Tryz.s105_c139:SC:=(.seq (.seq (.ops false [zo 139 (.move (zv 11)) 4,zo 140 (.unOp .not 4 (zv 139)) 4]) (.cond (.tmp 140) (.seq (.ops false [zo 4 (.assign (.const (.bool false))) 4]) .ret) .skip)) (.ops false [zo 141 (.fieldAddr 62 (zv 7) 0) 0,zo 142 (.load 3 (zv 141)) 3,zo 5 (.assign (zv 142)) 3]))
def Tryz.s105_c121:SC:=(.seq (.ops false [zo 121 (.move (zv 11)) 4,zo 122 (.move (zv 121)) 4,zg 123 (.move (zv 8)) 4 122 true,zg 124 (.move (zv 123)) 4 122 true,zg 125 (.fieldAddr 62 (zv 7) 7) 0 124 true,zg 126 (.load 3 (zv 125)) 3 124 true,zg 127 (.call ⟨.value (.func 39),⟨[(zk 1),(zv 126),(zk 15)]⟩,⟨[3,3,3]⟩⟩) 4 124 true,zg 128 (.pick (zv 124) (zv 127) (.const (.bool false))) 4 122 true,zg 129 (.move (zv 128)) 4 122 true,zg 130 (.move (zv 8)) 4 129 false,zg 131 (.unOp .not 4 (zv 130)) 4 129 false,zg 132 (.move (zv 131)) 4 129 false,zg 133 (.fieldAddr 62 (zv 7) 7) 0 132 true,zg 134 (.load 3 (zv 133)) 3 132 true,zg 135 (.binOp .eql 3 (zv 134) (zk 0) 3) 4 132 true,zg 136 (.pick (zv 132) (zv 135) (.const (.bool false))) 4 129 false,zg 137 (.pick (zv 129) (.const (.bool true)) (zv 136)) 4 122 true,zo 138 (.pick (zv 122) (zv 137) (.const (.bool false))) 4,zo 11 (.assign (zv 138)) 4]) Tryz.s105_c139)
def Tryz.s105_c103:SC:=(.seq (.ops false [zo 103 (.move (zv 11)) 4,zo 104 (.move (zv 103)) 4,zg 105 (.move (zv 10)) 4 104 true,zg 106 (.move (zv 105)) 4 104 true,zg 107 (.fieldAddr 62 (zv 7) 6) 0 106 true,zg 108 (.load 3 (zv 107)) 3 106 true,zg 109 (.call ⟨.value (.func 39),⟨[(zk 1),(zv 108),(zk 999999)]⟩,⟨[3,3,3]⟩⟩) 4 106 true,zg 110 (.pick (zv 106) (zv 109) (.const (.bool false))) 4 104 true,zg 111 (.move (zv 110)) 4 104 true,zg 112 (.move (zv 10)) 4 111 false,zg 113 (.unOp .not 4 (zv 112)) 4 111 false,zg 114 (.move (zv 113)) 4 111 false,zg 115 (.fieldAddr 62 (zv 7) 6) 0 114 true,zg 116 (.load 3 (zv 115)) 3 114 true,zg 117 (.binOp .eql 3 (zv 116) (zk 0) 3) 4 114 true,zg 118 (.pick (zv 114) (zv 117) (.const (.bool false))) 4 111 false,zg 119 (.pick (zv 111) (.const (.bool true)) (zv 118)) 4 104 true,zo 120 (.pick (zv 104) (zv 119) (.const (.bool false))) 4,zo 11 (.assign (zv 120)) 4]) Tryz.s105_c121)
def Tryz.s105_c81:SC:=(.seq (.ops false [zo 81 (.move (zv 11)) 4,zo 82 (.move (zv 81)) 4,zg 83 (.move (zv 9)) 4 82 true,zg 84 (.move (zv 83)) 4 82 true,zg 85 (.fieldAddr 62 (zv 7) 3) 0 84 true,zg 86 (.load 3 (zv 85)) 3 84 true,zg 87 (.fieldAddr 26 (zv 2) 0) 0 84 true,zg 88 (.load 22 (zv 87)) 22 84 true,zg 89 (.call ⟨.builtin .len,⟨[(zv 88)]⟩,⟨[22]⟩⟩) 3 84 true,zg 90 (.binOp .sub 3 (zv 89) (zk 1) 3) 3 84 true,zg 91 (.call ⟨.value (.func 39),⟨[(zk 1),(zv 86),(zv 90)]⟩,⟨[3,3,3]⟩⟩) 4 84 true,zg 92 (.pick (zv 84) (zv 91) (.const (.bool false))) 4 82 true,zg 93 (.move (zv 92)) 4 82 true,zg 94 (.move (zv 9)) 4 93 false,zg 95 (.unOp .not 4 (zv 94)) 4 93 false,zg 96 (.move (zv 95)) 4 93 false,zg 97 (.fieldAddr 62 (zv 7) 3) 0 96 true,zg 98 (.load 3 (zv 97)) 3 96 true,zg 99 (.binOp .eql 3 (zv 98) (zk 0) 3) 4 96 true,zg 100 (.pick (zv 96) (zv 99) (.const (.bool false))) 4 93 false,zg 101 (.pick (zv 93) (.const (.bool true)) (zv 100)) 4 82 true,zo 102 (.pick (zv 82) (zv 101) (.const (.bool false))) 4,zo 11 (.assign (zv 102)) 4]) Tryz.s105_c103)
def Tryz.s105_c42:SC:=(.seq (.ops false [zo 42 (.move (zv 5)) 3,zo 43 (.fieldAddr 62 (zv 7) 0) 0,zo 44 (.load 3 (zv 43)) 3,zo 45 (.call ⟨.value (.func 39),⟨[(zv 42),(zv 44),(zk 36500)]⟩,⟨[3,3,3]⟩⟩) 4,zo 46 (.move (zv 45)) 4,zg 47 (.fieldAddr 62 (zv 7) 1) 0 46 true,zg 48 (.load 3 (zv 47)) 3 46 true,zg 49 (.call ⟨.value (.func 39),⟨[(zk 1),(zv 48),(zk 5)]⟩,⟨[3,3,3]⟩⟩) 4 46 true,zo 50 (.pick (zv 46) (zv 49) (.const (.bool false))) 4,zo 51 (.move (zv 50)) 4,zg 52 (.fieldAddr 62 (zv 7) 2) 0 51 true,zg 53 (.load 3 (zv 52)) 3 51 true,zg 54 (.call ⟨.value (.func 39),⟨[(zk 0),(zv 53),(zk 31)]⟩,⟨[3,3,3]⟩⟩) 4 51 true,zo 55 (.pick (zv 51) (zv 54) (.const (.bool false))) 4,zo 56 (.move (zv 55)) 4,zg 57 (.fieldAddr 62 (zv 7) 4) 0 56 true,zg 58 (.load 3 (zv 57)) 3 56 true,zg 59 (.fieldAddr 26 (zv 2) 2) 0 56 true,zg 60 (.load 24 (zv 59)) 24 56 true,zg 61 (.call ⟨.builtin .len,⟨[(zv 60)]⟩,⟨[24]⟩⟩) 3 56 true,zg 62 (.binOp .sub 3 (zv 61) (zk 1) 3) 3 56 true,zg 63 (.call ⟨.value (.func 39),⟨[(zk 0),(zv 58),(zv 62)]⟩,⟨[3,3,3]⟩⟩) 4 56 true,zo 64 (.pick (zv 56) (zv 63) (.const (.bool false))) 4,zo 65 (.move (zv 64)) 4,zg 66 (.fieldAddr 62 (zv 7) 5) 0 65 true,zg 67 (.load 3 (zv 66)) 3 65 true,zg 68 (.fieldAddr 26 (zv 2) 2) 0 65 true,zg 69 (.load 24 (zv 68)) 24 65 true,zg 70 (.call ⟨.builtin .len,⟨[(zv 69)]⟩,⟨[24]⟩⟩) 3 65 true,zg 71 (.binOp .sub 3 (zv 70) (zk 1) 3) 3 65 true,zg 72 (.call ⟨.value (.func 39),⟨[(zk 0),(zv 67),(zv 71)]⟩,⟨[3,3,3]⟩⟩) 4 65 true,zo 73 (.pick (zv 65) (zv 72) (.const (.bool false))) 4,zo 74 (.move (zv 73)) 4,zg 75 (.fieldAddr 62 (zv 7) 4) 0 74 true,zg 76 (.load 3 (zv 75)) 3 74 true,zg 77 (.fieldAddr 62 (zv 7) 5) 0 74 true,zg 78 (.load 3 (zv 77)) 3 74 true,zg 79 (.binOp .neq 3 (zv 76) (zv 78) 3) 4 74 true,zo 80 (.pick (zv 74) (zv 79) (.const (.bool false))) 4,zo 11 (.assign (zv 80)) 4]) Tryz.s105_c81)
def Tryz.s105:SC:=(.seq (.ops false [zo 2 (.box 26 (zv 0)) 0,zo 4 (.assign (.const (.bool false))) 4]) (.seq (.ops false [zo 5 (.assign (zk 0)) 3]) (.seq (.seq (.ops false [zo 6 (.assign (zk 0)) 3]) (.block 0 (.loop (.seq (.seq (.ops false [zo 12 (.move (zv 6)) 3,zo 13 (.move (zv 1)) 44,zo 14 (.call ⟨.builtin .len,⟨[(zv 13)]⟩,⟨[44]⟩⟩) 3,zo 15 (.binOp .lss 3 (zv 12) (zv 14) 3) 4]) (.cond (.tmp 15) .skip (.exit 0))) (.seq (.block 1 (.seq (.ops false [zo 18 (.move (zv 1)) 44,zo 19 (.move (zv 6)) 3,zo 20 (.indexAddr 44 (zv 18) (zv 19)) 0,zo 21 (.load 62 (zv 20)) 62,zo 7 (.alloc 62) 0,zon (.store 62 (zv 7) (zv 21)) 0]) (.seq (.ops false [zo 22 (.fieldAddr 62 (zv 7) 1) 0,zo 23 (.load 3 (zv 22)) 3,zo 24 (.binOp .eql 3 (zv 23) (zk 1) 3) 4,zo 8 (.assign (zv 24)) 4]) (.seq (.ops false [zo 25 (.move (zv 8)) 4,zo 26 (.move (zv 25)) 4,zg 27 (.fieldAddr 62 (zv 7) 1) 0 26 false,zg 28 (.load 3 (zv 27)) 3 26 false,zg 29 (.binOp .eql 3 (zv 28) (zk 2) 3) 4 26 false,zo 30 (.pick (zv 26) (.const (.bool true)) (zv 29)) 4,zo 9 (.assign (zv 30)) 4]) (.seq (.ops false [zo 31 (.move (zv 8)) 4,zo 32 (.move (zv 31)) 4,zg 33 (.fieldAddr 62 (zv 7) 1) 0 32 false,zg 34 (.load 3 (zv 33)) 3 32 false,zg 35 (.binOp .eql 3 (zv 34) (zk 3) 3) 4 32 false,zo 36 (.pick (zv 32) (.const (.bool true)) (zv 35)) 4,zo 37 (.move (zv 36)) 4,zg 38 (.fieldAddr 62 (zv 7) 1) 0 37 false,zg 39 (.load 3 (zv 38)) 3 37 false,zg 40 (.binOp .eql 3 (zv 39) (zk 4) 3) 4 37 false,zo 41 (.pick (zv 37) (.const (.bool true)) (zv 40)) 4,zo 10 (.assign (zv 41)) 4]) Tryz.s105_c42))))) (.ops false [zo 16 (.move (zv 6)) 3,zo 17 (.binOp .add 3 (zv 16) (zk 1) 3) 3,zo 6 (.assign (zv 17)) 3])))))) (.seq (.ops false [zo 143 (.move (zv 1)) 44,zo 144 (.call ⟨.builtin .len,⟨[(zv 143)]⟩,⟨[44]⟩⟩) 3,zo 145 (.binOp .leq 3 (zv 144) (zk 64) 3) 4,zo 4 (.assign (zv 145)) 4]) .ret))))
def Tryz.s106:SC:=(.seq (.ops false [zo 1 (.box 26 (zv 0)) 0,zo 2 (.assign (.const (.pointer none))) 112]) (.seq (.ops true [zt 3 (.load 26 (zv 1)) 26,zt 4 (.makeSlice 115 (zk 32) (zk 32)) 115,zt 5 (.makeSlice 24 (zk 32) (zk 32)) 24,zt 6 (.build 117 ⟨[(0,(zv 3)),(1,(zv 4)),(4,(zv 5))]⟩) 117,zt 7 (.box 117 (zv 6)) 112,zt 2 (.assign (zv 7)) 112]) .ret))
def Tryz.s107_c109:SC:=(.seq (.ops false [zo 109 (.fieldAddr 47 (zv 5) 2) 0,zo 110 (.load 3 (zv 109)) 3,zo 9 (.assign (zv 110)) 3]) (.seq (.seq (.ops false [zo 111 (.move (zv 6)) 4]) (.cond (.tmp 111) (.ops false [zo 112 (.fieldAddr 62 (zv 3) 7) 0,zo 113 (.load 3 (zv 112)) 3,zo 9 (.assign (zv 113)) 3]) .skip)) (.seq (.seq (.ops true [zt 114 (.move (zv 6)) 4,zt 115 (.move (zv 114)) 4,zh 116 (.move (zv 7)) 4 115 false,zt 117 (.pick (zv 115) (.const (.bool true)) (zv 116)) 4,zt 118 (.move (zv 117)) 4,zh 119 (.move (zv 9)) 3 118 true,zh 120 (.move (zv 0)) 112 118 true,zh 121 (.nilCheck (zv 120)) 0 118 true,zh 122 (.fieldAddr 117 (zv 121) 0) 0 118 true,zh 123 (.fieldAddr 26 (zv 122) 0) 0 118 true,zh 124 (.load 22 (zv 123)) 22 118 true,zh 125 (.fieldAddr 62 (zv 3) 3) 0 118 true,zh 126 (.load 3 (zv 125)) 3 118 true,zh 127 (.indexAddr 22 (zv 124) (zv 126)) 0 118 true,zh 128 (.fieldAddr 73 (zv 127) 1) 0 118 true,zh 129 (.load 3 (zv 128)) 3 118 true,zg 130 (.call ⟨.value (.func 40),⟨[(zv 119),(zv 129)]⟩,⟨[3,3]⟩⟩) 4 118 true,zh 131 (.unOp .not 4 (zv 130)) 4 118 true,zt 132 (.pick (zv 118) (zv 131) (.const (.bool false))) 4]) (.cond (.tmp 132) (.seq (.ops false [zo 4 (.assign (zk 47)) 27]) .ret) .skip)) (.seq (.seq (.ops true [zt 133 (.fieldAddr 62 (zv 3) 1) 0,zt 134 (.load 3 (zv 133)) 3,zt 135 (.binOp .eql 3 (zv 134) (zk 3) 3) 4,zt 136 (.move (zv 135)) 4,zh 137 (.fieldAddr 62 (zv 3) 6) 0 136 true,zh 138 (.load 3 (zv 137)) 3 136 true,zh 139 (.fieldAddr 47 (zv 5) 1) 0 136 true,zh 140 (.load 3 (zv 139)) 3 136 true,zh 141 (.binOp .neq 3 (zv 138) (zv 140) 3) 4 136 true,zt 142 (.pick (zv 136) (zv 141) (.const (.bool false))) 4,zt 143 (.move (zv 142)) 4,zh 144 (.move (zv 6)) 4 143 false,zh 145 (.move (zv 144)) 4 143 false,zh 146 (.fieldAddr 62 (zv 3) 1) 0 145 false,zh 147 (.load 3 (zv 146)) 3 145 false,zh 148 (.binOp .eql 3 (zv 147) (zk 4) 3) 4 145 false,zh 149 (.pick (zv 145) (.const (.bool true)) (zv 148)) 4 143 false,zh 150 (.move (zv 149)) 4 143 false,zh 151 (.move (zv 0)) 112 150 true,zh 152 (.nilCheck (zv 151)) 0 150 true,zh 153 (.fieldAddr 117 (zv 152) 3) 0 150 true,zh 154 (.load 24 (zv 153)) 24 150 true,zh 155 (.fieldAddr 62 (zv 3) 6) 0 150 true,zh 156 (.load 3 (zv 155)) 3 150 true,zg 157 (.call ⟨.value (.func 92),⟨[(zv 154),(zv 156)]⟩,⟨[24,3]⟩⟩) 3 150 true,zh 158 (.binOp .geq 3 (zv 157) (zk 0) 3) 4 150 true,zh 159 (.pick (zv 150) (zv 158) (.const (.bool false))) 4 143 false,zt 160 (.pick (zv 143) (.const (.bool true)) (zv 159)) 4]) (.cond (.tmp 160) (.seq (.ops false [zo 4 (.assign (zk 48)) 27]) .ret) .skip)) (.seq (.ops false [zo 4 (.assign (zk 0)) 27]) .ret)))))
def Tryz.s107_c78:SC:=(.seq (.seq (.ops true [zt 78 (.move (zv 7)) 4,zt 79 (.move (zv 78)) 4,zh 80 (.fieldAddr 62 (zv 3) 3) 0 79 true,zh 81 (.load 3 (zv 80)) 3 79 true,zh 82 (.fieldAddr 47 (zv 5) 0) 0 79 true,zh 83 (.load 3 (zv 82)) 3 79 true,zh 84 (.binOp .eql 3 (zv 81) (zv 83) 3) 4 79 true,zt 85 (.pick (zv 79) (zv 84) (.const (.bool false))) 4,zt 86 (.move (zv 85)) 4,zh 87 (.move (zv 6)) 4 86 false,zh 88 (.move (zv 87)) 4 86 false,zh 89 (.move (zv 7)) 4 88 false,zh 90 (.pick (zv 88) (.const (.bool true)) (zv 89)) 4 86 false,zh 91 (.move (zv 90)) 4 86 false,zh 92 (.move (zv 0)) 112 91 true,zh 93 (.fieldAddr 62 (zv 3) 3) 0 91 true,zh 94 (.load 3 (zv 93)) 3 91 true,zh 96 (.move (zv 0)) 112 91 true,zh 97 (.nilCheck (zv 96)) 0 91 true,zh 98 (.fieldAddr 117 (zv 97) 0) 0 91 true,zh 99 (.fieldAddr 26 (zv 98) 0) 0 91 true,zh 100 (.load 22 (zv 99)) 22 91 true,zh 101 (.fieldAddr 62 (zv 3) 3) 0 91 true,zh 102 (.load 3 (zv 101)) 3 91 true,zh 103 (.indexAddr 22 (zv 100) (zv 102)) 0 91 true,zh 104 (.fieldAddr 73 (zv 103) 0) 0 91 true,zh 105 (.load 3 (zv 104)) 3 91 true,zh 95 (.call ⟨.value (.func 128),⟨[(zv 92),(zv 94)]⟩,⟨[112,3]⟩⟩) 3 91 true,zh 106 (.binOp .geq 3 (zv 95) (zv 105) 3) 4 91 true,zh 107 (.pick (zv 91) (zv 106) (.const (.bool false))) 4 86 false,zt 108 (.pick (zv 86) (.const (.bool true)) (zv 107)) 4]) (.cond (.tmp 108) (.seq (.ops false [zo 4 (.assign (zk 46)) 27]) .ret) .skip)) Tryz.s107_c109)
def Tryz.s107_c56:SC:=(.seq (.seq (.ops false [zo 56 (.move (zv 6)) 4,zo 57 (.unOp .not 4 (zv 56)) 4,zo 58 (.move (zv 57)) 4,zg 59 (.move (zv 8)) 3 58 true,zg 60 (.fieldAddr 47 (zv 5) 0) 0 58 true,zg 61 (.load 3 (zv 60)) 3 58 true,zg 62 (.call ⟨.value (.func 40),⟨[(zv 59),(zv 61)]⟩,⟨[3,3]⟩⟩) 4 58 true,zg 63 (.unOp .not 4 (zv 62)) 4 58 true,zo 64 (.pick (zv 58) (zv 63) (.const (.bool false))) 4,zo 65 (.move (zv 64)) 4,zg 66 (.move (zv 6)) 4 65 false,zg 67 (.move (zv 66)) 4 65 false,zg 68 (.move (zv 7)) 4 67 false,zg 69 (.pick (zv 67) (.const (.bool true)) (zv 68)) 4 65 false,zg 70 (.move (zv 69)) 4 65 false,zg 71 (.move (zv 8)) 3 70 true,zg 72 (.fieldAddr 62 (zv 3) 3) 0 70 true,zg 73 (.load 3 (zv 72)) 3 70 true,zg 74 (.call ⟨.value (.func 40),⟨[(zv 71),(zv 73)]⟩,⟨[3,3]⟩⟩) 4 70 true,zg 75 (.unOp .not 4 (zv 74)) 4 70 true,zg 76 (.pick (zv 70) (zv 75) (.const (.bool false))) 4 65 false,zo 77 (.pick (zv 65) (.const (.bool true)) (zv 76)) 4]) (.cond (.tmp 77) (.seq (.ops false [zo 4 (.assign (zk 45)) 27]) .ret) .skip)) Tryz.s107_c78)
def Tryz.s107:SC:=(.seq (.ops false [zo 3 (.box 62 (zv 1)) 0,zo 4 (.assign (zk 0)) 27]) (.seq (.ops true [zt 10 (.move (zv 0)) 112,zt 11 (.nilCheck (zv 10)) 0,zt 12 (.fieldAddr 117 (zv 11) 1) 0,zt 13 (.load 115 (zv 12)) 115,zt 14 (.fieldAddr 62 (zv 3) 2) 0,zt 15 (.load 3 (zv 14)) 3,zt 16 (.indexAddr 115 (zv 13) (zv 15)) 0,zt 17 (.load 47 (zv 16)) 47,zt 5 (.alloc 47) 0,zon (.store 47 (zv 5) (zv 17)) 0]) (.seq (.ops true [zt 18 (.fieldAddr 62 (zv 3) 1) 0,zt 19 (.load 3 (zv 18)) 3,zt 20 (.binOp .eql 3 (zv 19) (zk 1) 3) 4,zt 21 (.fieldAddr 62 (zv 3) 1) 0,zt 22 (.load 3 (zv 21)) 3,zt 23 (.binOp .eql 3 (zv 22) (zk 2) 3) 4,zt 6 (.assign (zv 20)) 4,zt 7 (.assign (zv 23)) 4]) (.seq (.seq (.ops true [zt 24 (.move (zv 6)) 4,zt 25 (.move (zv 24)) 4,zh 26 (.move (zv 0)) 112 25 true,zh 27 (.nilCheck (zv 26)) 0 25 true,zh 28 (.fieldAddr 117 (zv 27) 2) 0 25 true,zh 29 (.load 24 (zv 28)) 24 25 true,zh 30 (.fieldAddr 62 (zv 3) 2) 0 25 true,zh 31 (.load 3 (zv 30)) 3 25 true,zg 32 (.call ⟨.value (.func 92),⟨[(zv 29),(zv 31)]⟩,⟨[24,3]⟩⟩) 3 25 true,zh 33 (.binOp .geq 3 (zv 32) (zk 0) 3) 4 25 true,zt 34 (.pick (zv 25) (zv 33) (.const (.bool false))) 4,zt 35 (.move (zv 34)) 4,zh 36 (.move (zv 6)) 4 35 false,zh 37 (.unOp .not 4 (zv 36)) 4 35 false,zh 38 (.move (zv 37)) 4 35 false,zh 39 (.fieldAddr 47 (zv 5) 0) 0 38 true,zh 40 (.load 3 (zv 39)) 3 38 true,zh 41 (.binOp .eql 3 (zv 40) (zk 0) 3) 4 38 true,zh 42 (.pick (zv 38) (zv 41) (.const (.bool false))) 4 35 false,zt 43 (.pick (zv 35) (.const (.bool true)) (zv 42)) 4]) (.cond (.tmp 43) (.seq (.ops false [zo 4 (.assign (zk 44)) 27]) .ret) .skip)) (.seq (.ops true [zt 44 (.move (zv 0)) 112,zt 45 (.nilCheck (zv 44)) 0,zt 46 (.fieldAddr 117 (zv 45) 0) 0,zt 47 (.load 26 (zv 46)) 26,zt 48 (.fieldAddr 62 (zv 3) 4) 0,zt 49 (.load 3 (zv 48)) 3,zt 50 (.binOp .shl 3 (zk 1) (zv 49) 3) 3,zt 51 (.fieldAddr 62 (zv 3) 5) 0,zt 52 (.load 3 (zv 51)) 3,zt 53 (.binOp .shl 3 (zk 1) (zv 52) 3) 3,zt 54 (.call ⟨.value (.func 89),⟨[(zv 50),(zv 53)]⟩,⟨[3,3]⟩⟩) 3,zo 55 (.call ⟨.value (.func 50),⟨[(zv 47),(zv 54)]⟩,⟨[26,3]⟩⟩) 3,zt 8 (.assign (zv 55)) 3]) Tryz.s107_c56)))))
def Tryz.s128:SC:=(.seq (.ops false [zo 4 (.assign (zk 0)) 3]) (.seq (.ops false [zo 5 (.assign (zk 0)) 3]) (.seq (.seq (.ops false [zo 6 (.assign (zk 0)) 3]) (.block 0 (.loop (.seq (.seq (.ops false [zo 7 (.move (zv 6)) 3,zo 8 (.move (zv 0)) 112,zo 9 (.nilCheck (zv 8)) 0,zo 10 (.fieldAddr 117 (zv 9) 1) 0,zo 11 (.load 115 (zv 10)) 115,zo 12 (.call ⟨.builtin .len,⟨[(zv 11)]⟩,⟨[115]⟩⟩) 3,zo 13 (.binOp .lss 3 (zv 7) (zv 12) 3) 4]) (.cond (.tmp 13) .skip (.exit 0))) (.seq (.block 1 (.seq (.ops false [zo 16 (.move (zv 0)) 112,zo 17 (.nilCheck (zv 16)) 0,zo 18 (.fieldAddr 117 (zv 17) 1) 0,zo 19 (.load 115 (zv 18)) 115,zo 20 (.move (zv 6)) 3,zo 21 (.indexAddr 115 (zv 19) (zv 20)) 0,zo 22 (.fieldAddr 47 (zv 21) 0) 0,zo 23 (.load 3 (zv 22)) 3,zo 24 (.move (zv 1)) 3,zo 25 (.binOp .eql 3 (zv 23) (zv 24) 3) 4]) (.cond (.tmp 25) (.ops false [zo 26 (.move (zv 5)) 3,zo 27 (.binOp .add 3 (zv 26) (zk 1) 3) 3,zo 5 (.assign (zv 27)) 3]) .skip))) (.ops false [zo 14 (.move (zv 6)) 3,zo 15 (.binOp .add 3 (zv 14) (zk 1) 3) 3,zo 6 (.assign (zv 15)) 3])))))) (.seq (.ops false [zo 28 (.move (zv 5)) 3,zo 4 (.assign (zv 28)) 3]) .ret))))
theorem Tryz.s72_eq:Tryz.f72.body.map sOf=some Tryz.s72:=by kernel_rfl
theorem Tryz.s105_eq:Tryz.f105.body.map sOf=some Tryz.s105:=by kernel_rfl
theorem Tryz.s106_eq:Tryz.f106.body.map sOf=some Tryz.s106:=by kernel_rfl
theorem Tryz.s107_eq:Tryz.f107.body.map sOf=some Tryz.s107:=by kernel_rfl
theorem Tryz.s128_eq:Tryz.f128.body.map sOf=some Tryz.s128:=by kernel_rfl
def RowsH (hb:Nat) (w:AW) (ve vs:Value) (L M:List Nat):Prop :=
 ∃ Se Ss:Nat->Prop,AOwnS Se w 3 1 ve L.length ((natsL L).flatMap icells)/\AOwnS Ss w 3 1 vs M.length ((natsL M).flatMap icells)/\(∀ j,Se j->¬ Ss j)/\∀ j,Se j \/ Ss j->hb+3≤j/\j < w.next
theorem RowsH.nil (hb:Nat) (w:AW):RowsH hb w (.slice none 0 0) (.slice none 0 0) [] [] :=
 ⟨fun _=>False,fun _=>False,.inl ⟨rfl,rfl,rfl⟩,.inl ⟨rfl,rfl,rfl⟩,fun _ h=>h.elim,fun _ h=>h.elim (fun q=>q.elim) fun q=>q.elim⟩
theorem RowsH.keep {hb:Nat} {w w':AW} {ve vs:Value} {L M:List Nat} (h:RowsH hb w ve vs L M) (g:Grown w w'):RowsH hb w' ve vs L M:=by
 obtain⟨Se,Ss,h1,h2,h3,h4⟩:=h
 have:=g.1.next
 exact⟨Se,Ss,h1.keep g.1,h2.keep g.1,h3,fun j q=>⟨(h4 j q).1,by have:=(h4 j q).2;omega⟩⟩
theorem RowsH.mut {hb r:Nat} {w w':AW} {ve vs:Value} {L M:List Nat} (h:RowsH hb w ve vs L M) (k:MutS (fun j=>j=r) w w') (hr:r < hb+3):RowsH hb w' ve vs L M:=by
 obtain⟨Se,Ss,h1,h2,h3,h4⟩:=h
 have:=k.next
 exact⟨Se,Ss,h1.other k (fun j q z=>by have:=(h4 j (.inl q)).1;have:j=r:=z;omega),h2.other k (fun j q z=>by have:=(h4 j (.inr q)).1;have:j=r:=z;omega),h3,fun j q=>⟨(h4 j q).1,by have:=(h4 j q).2;omega⟩⟩
theorem RowsH.swap {hb:Nat} {w:AW} {ve vs:Value} {L M:List Nat} (h:RowsH hb w ve vs L M):RowsH hb w vs ve M L:=by
 obtain⟨Se,Ss,h1,h2,h3,h4⟩:=h
 exact⟨Ss,Se,h2,h1,fun j a b=>h3 j b a,fun j q=>h4 j q.symm⟩
theorem RowsH.left {hb:Nat} {w:AW} {ve vs:Value} {L M:List Nat} (h:RowsH hb w ve vs L M):RowS 3 0 w ve L:=by
 obtain⟨Se,Ss,h1,_⟩:=h
 exact h1.own
theorem RowsH.add {hb:Nat} {u:AW} {ve vs:Value} {L M:List Nat} (h:RowsH hb u ve vs L M) (f:Fresh u) (hB:hb+3≤u.next) (hl:L.length+1≤1048576) (b x:Nat) (hx:u.cell? ⟨b,0,none⟩=some (.int .i64 (x:Int))) :
    ∃ v' w',append (prg Tryz.prog) u 24 24 ve (.slice (some ⟨b,0,none⟩) 1 1)=some (v',w')/\RowsH hb w' v' vs (L++[x]) M/\Keep (hb+3) u w'/\Apnd u w'/\Fresh w':=by
 obtain⟨Se,Ss,h1,h2,h3,h4⟩:=h
 have hf:aFirst u 1 1 (.slice (some ⟨b,0,none⟩) 1 1)=some [.int .i64 (x:Int)]:=by
  show aCells u b 0 (1 * 1)=some [.int .i64 (x:Int)]
  simp only[Nat.one_mul,aCells,hx]
 have hone:∀ y ∈ [Value.int .i64 (x:Int)],oneCell y=true:=fun y hy=>by simp at hy;subst hy;rfl
 obtain⟨v',w',a1,a2,a3,a4,a5,a6,_⟩:=append_anyS Tryz.ty24 Tryz.ty3 rfl (by omega) (by omega) h1 f hf rfl hone hl
 obtain⟨v2,w2,b1,_,_,_,_,b6⟩:=append_own2 (B:=0) (m:=1) Tryz.ty24 Tryz.ty3 rfl (by omega) (by omega) h1.own f (Nat.zero_le _) rfl hf rfl hone (by omega) hl
 rw[a1]at b1
 injection b1 with b1
 injection b1 with e1 e2
 subst e1 e2
 refine⟨v',w',a1,⟨fun j=>Se j \/ j=u.next,Ss,?_,h2.keepS a5 (fun j hj q=>a6 j hj fun z=>h3 j z q) (by omega),fun j q z=>?_,fun j q=>?_⟩,⟨fun j hj=>a5 j (by omega),fun j hj=>a6 j (by omega) fun z=>by have:=(h4 j (.inl z)).1;omega,by omega⟩,b6,a3⟩
 . rw[natsL_app,List.length_append];exact a2
 . rcases q with q|q
   . exact h3 j q z
   . have:=(h4 j (.inr z)).2;omega
 . rcases q with (q|q)|q
   . have:=h4 j (.inl q);omega
   . omega
   . have:=h4 j (.inr q);omega
structure HallAt (w:AW) (pR pG pS:Option Addr) (cR cG cS:Nat) (s:StrN) (hb m:Nat) (x:LogN) (ever:List Nat) (ve vs:Value):Prop where
 own:Own w (hb+2) 117 (strC pR pG pS cR cG cS s++[.slice (some ⟨hb,0,none⟩) 32 32,ve,vs,.slice (some ⟨hb+1,0,none⟩) 32 32])
 bags:Own w hb 47 (x.bags.flatMap bagC)
 since:Own w (hb+1) 3 ((natsL x.trails).flatMap icells)
 rows:RowsH hb w ve vs ever x.seals
 ok:LogOk x
 evo:EverOk x ever
 few:ever.length≤m/\x.seals.length≤m
section
variable {pR pG pS:Option Addr} {cR cG cS:Nat} {s:StrN} {hb m:Nat} {x:LogN} {ever:List Nat} {ve vs:Value}
theorem HallAt.evr {w:AW} (h:HallAt w pR pG pS cR cG cS s hb m x ever ve vs):RowS 3 0 w ve ever:=h.rows.left
theorem HallAt.sls {w:AW} (h:HallAt w pR pG pS cR cG cS s hb m x ever ve vs):RowS 3 0 w vs x.seals:=h.rows.swap.left
theorem HallAt.grown {w w':AW} (h:HallAt w pR pG pS cR cG cS s hb m x ever ve vs) (k:Grown w w'):HallAt w' pR pG pS cR cG cS s hb m x ever ve vs :=
 ⟨h.own.keep k.1,h.bags.keep k.1,h.since.keep k.1,h.rows.keep k,h.ok,h.evo,h.few⟩
theorem HallAt.bagCell {w:AW} (h:HallAt w pR pG pS cR cG cS s hb m x ever ve vs) {i:Nat} (hi:i < 32) (f:Nat) (hf:f < 5) {v:Value} (hv:(bagC (x.bag i))[f]? = some v) (h1:oneCell v=true):w.cell? ⟨hb,i * 5+f,none⟩=some v:=by
 have hB:=h.ok.bags
 refine h.bags.cell (o:=i * 5+f) ?_ h1
 rw[flatMap_get bagC_len x.bags i f _ (List.getElem?_eq_getElem (by omega)) hf,<- LogN.bag_get h.ok hi];exact hv
theorem HallAt.bagRow {w:AW} (h:HallAt w pR pG pS cR cG cS s hb m x ever ve vs) {i:Nat} (hi:i < 32):loadV w true 5 (.pointer (some ⟨hb,i * 5,none⟩))=some (.agg (bagC (x.bag i)).toArray):=by
 have hB:=h.ok.bags
 refine loadRow h.bags (bagC_len _) (fun j v hv=>?_) (bagC_one _)
 have hj:j < 5:=by
  rcases Nat.lt_or_ge j 5 with q|q
  . exact q
  . rw[List.getElem?_eq_none (by rw[bagC_len];exact q)]at hv;cases hv
 rw[flatMap_get bagC_len x.bags i j _ (List.getElem?_eq_getElem (by omega)) hj,<- LogN.bag_get h.ok hi];exact hv
theorem HallAt.cells {w:AW} (h:HallAt w pR pG pS cR cG cS s hb m x ever ve vs) :
    w.cell? ⟨hb+2,0,none⟩=some (.slice pR s.rooms.length cR)/\w.cell? ⟨hb+2,3,none⟩=some (.slice (some ⟨hb,0,none⟩) 32 32)/\w.cell? ⟨hb+2,4,none⟩=some ve/\w.cell? ⟨hb+2,5,none⟩=some vs/\w.cell? ⟨hb+2,6,none⟩=some (.slice (some ⟨hb+1,0,none⟩) 32 32) :=
 ⟨h.own.cell (o:=0) rfl rfl,h.own.cell (o:=3) rfl rfl,h.own.cell (o:=4) rfl (AOwn.one h.evr),h.own.cell (o:=5) rfl (AOwn.one h.sls),h.own.cell (o:=6) rfl rfl⟩
theorem HallAt.strong {w:AW} (h:HallAt w pR pG pS cR cG cS s hb m x ever ve vs):loadV w true 3 (.pointer (some ⟨hb+2,0,none⟩))=some (.agg (strC pR pG pS cR cG cS s).toArray) :=
 loadPart (A:=[]) (B:=strC pR pG pS cR cG cS s) h.own rfl (by simp[strC,oneCell])
set_option maxHeartbeats 8000000 in
theorem many_ok (room:Nat) (w:AW) (f:Fresh w) (h:HallAt w pR pG pS cR cG cS s hb m x ever ve vs) :
    CallT Tryz.prog Tryz.T1 (.fn (.func 128) #[]) #[.pointer (some ⟨hb+2,0,none⟩),.int .i64 (room:Int)] w (Ret (.int .i64 (manyB x.bags room:Int)) fun w'=>w=w'):=by
 have hB:=h.ok.bags
 obtain⟨_,h3,_,_,_⟩:=h.cells
 have hcm:=cnt_many hB room
 have hc0:cntTo x.bags room 0=0:=by simp[cntTo]
 have h32:((32:Nat):Int)=32:=rfl
 refine callT_code rfl Tryz.func128 rfl Tryz.s128_eq rfl ?_
 delta Tryz.s128 zo zv zk
 simp -dsimp -implicitDefEqProofs (maxSteps:=2000000) (disch:=first|assumption|omega|simp only[nx];omega|(repeat apply zfp);assumption|simp only[smA];done|simp[oneCell,znp]) only[go_sem]
 refine loopR (fun k t ds w1=>∃ i:Nat,i≤32/\k=32 - i/\ds=[]/\ev t (.tmp 0)=.pointer (some ⟨hb+2,0,none⟩)/\ev t (.tmp 1)=.int .i64 (room:Int)/\ev t (.tmp 5)=.int .i64 (cntTo x.bags room i:Int)/\ev t (.tmp 6)=.int .i64 (i:Int)/\w=w1) (32) ?_ ?_
 . refine⟨0,by omega,by omega,rfl,?_,?_,?_,?_,rfl⟩ <;> simp -dsimp -implicitDefEqProofs (maxSteps:=2000000) (disch:=first|assumption|omega|simp only[nx];omega|(repeat apply zfp);assumption|simp only[smA];done|simp[oneCell,znp]) only[go_sem,hc0,Int.natCast_zero] <;> rfl
 rintro k t ds w1 ⟨i,hii,rfl,rfl,e0,e1,e5,e6,hw⟩
 subst hw
 by_cases hlt:(i:Int) < 32
 case neg =>
  obtain rfl:i=32:=by omega
  rw[hcm]at e5
  have hl0:¬ (32:Int) < 32:=by omega
  simp -dsimp -implicitDefEqProofs (maxSteps:=2000000) (disch:=first|assumption|omega|simp only[nx];omega|(repeat apply zfp);assumption|simp only[smA];done|simp[oneCell,znp]) only[go_sem,hl0,e0,e1,e5,e6,h3,h32,hlt,Nat.zero_add]
  exact⟨rfl,rfl⟩
 have hi:i < 32:=by omega
 have c0:=h.bagCell hi 0 (by omega) (v:=.int .i64 ((x.bag i).room:Int)) rfl rfl
 rw[Nat.add_zero]at c0
 have hs:=cntTo_succ (L:=x.bags) (room:=room) (i:=i) (by omega)
 rw[<- LogN.bag_get h.ok hi]at hs
 have hle:=cntTo_le x.bags room i
 by_cases q:(x.bag i).room=room
 . rw[if_pos q]at hs
   have hq:((x.bag i).room:Int)=(room:Int):=by omega
   have hsI:(cntTo x.bags room i:Int)+1=(cntTo x.bags room (i+1):Int):=by omega
   rw[q]at c0
   simp -dsimp -implicitDefEqProofs (maxSteps:=2000000) (disch:=first|assumption|omega|simp only[nx];omega|(repeat apply zfp);assumption|simp only[smA];done|simp[oneCell,znp]) only[go_sem,e0,e1,e5,e6,h3,h32,hlt,indexV_eq,c0,Nat.zero_add]
   refine⟨_,by omega,i+1,by omega,rfl,rfl,by(simp only[go_sem,e0,hsI];try rfl),by(simp only[go_sem,e1,hsI];try rfl),by(simp only[go_sem,e5,hsI];try rfl),by(simp only[go_sem,e6,hsI];try rfl),rfl⟩
 . rw[if_neg q,Nat.add_zero]at hs
   have hq:¬ ((x.bag i).room:Int)=(room:Int):=by omega
   simp -dsimp -implicitDefEqProofs (maxSteps:=2000000) (disch:=first|assumption|omega|simp only[nx];omega|(repeat apply zfp);assumption|simp only[smA];done|simp[oneCell,znp]) only[go_sem,e0,e1,e5,e6,h3,h32,hlt,indexV_eq,c0,hq,Nat.zero_add]
   refine⟨_,by omega,i+1,by omega,rfl,rfl,by(simp only[go_sem,e0,hs];try rfl),by(simp only[go_sem,e1,hs];try rfl),by(simp only[go_sem,e5,hs];try rfl),by(simp only[go_sem,e6,hs];try rfl),rfl⟩
end
end Go.Proofs

namespace Go.Proofs
open Go Go.RowKit Go.Sim
set_option maxRecDepth 100000
def ref5 (a b c d e:Bool):Nat:=bif a then 44 else bif b then 45 else bif c then 46 else bif d then 47 else bif e then 48 else 0
theorem refE_5 (s:StrN) (x:LogN) (c:CarN):refE s x c=ref5 (e1B x c) (e2B s x c) (e3B s x c) (e4B s x c) (e5B x c):=by
 unfold refE ref5
 cases e1B x c <;> cases e2B s x c <;> cases e3B s x c <;> cases e4B s x c <;> cases e5B x c <;> rfl
theorem seek_geq {n:Int} {b:Bool} (h:decide (n < 0) = !b):decide (n ≥ 0)=b:=by
 have:decide (n ≥ 0) = !decide (n < 0):=by rw[<- decide_not,decide_eq_decide];omega
 rw[this,h,Bool.not_not]
theorem roomC_at {w:AW} {pR pG pS:Option Addr} {cR cG cS:Nat} {s:StrN} (hA:StrAt w pR pG pS cR cG cS s) {c:CarN} (hc:CarOk s c) :
    ∃ br orr,pR=some ⟨br,orr,none⟩/\w.cell? ⟨br,orr+c.to * 3,none⟩=some (.int .i64 (toRoom s c).hold)/\w.cell? ⟨br,orr+c.to * 3+1,none⟩=some (.int .i64 (toRoom s c).climate):=by
 obtain⟨_,_,ex,_,_,hat⟩:=hA.rooms.open
 injection ex with ex1 ex2 ex3
 obtain⟨br,orr,e,_,hrc⟩:=hat c.to hc.to
 rw[toRoom_at hc]
 have r0:=hrc w (.refl _ _) 0 _ rfl
 rw[Nat.add_zero]at r0
 exact⟨br,orr,by rw[ex1,e],r0,hrc w (.refl _ _) 1 _ rfl⟩
theorem climate_nat {s:StrN} (hs:strB s=true) {c:CarN} (hc:CarOk s c):∃ cl:Nat,(toRoom s c).climate=(cl:Int)/\cl < 4/\(toRoom s c).climate.toNat=cl:=by
 have hrok:=room_ok hs hc.to
 unfold roomB at hrok
 rw[<- toRoom_at hc]at hrok
 simp only[Bool.and_eq_true,inR_iff]at hrok
 exact⟨(toRoom s c).climate.toNat,by omega,by omega,rfl⟩
section
variable {pR pG pS:Option Addr} {cR cG cS:Nat} {s:StrN} {hb m:Nat} {x:LogN} {ever:List Nat} {ve vs:Value}
set_option maxHeartbeats 64000000 in
theorem ref_c109 (hs:strB s=true) (c:CarN) (hc:CarOk s c) (ht:CarT c) (hI:LogIn s x) (hm:m≤1000) (w w0:AW) (f:Fresh w) (ga:Grown w0 w) (hA:StrAt w pR pG pS cR cG cS s) (h:HallAt w pR pG pS cR cG cS s hb m x ever ve vs) (bc bb:Nat) (OC:Own w bc 62 (carC c)) (OB:Own w bb 47 (bagC (x.bag c.bag)))
    (t:Tmps) (e0:ev t (.tmp 0)=.pointer (some ⟨hb+2,0,none⟩)) (e3:ev t (.tmp 3)=.pointer (some ⟨bc,0,none⟩)) (e5:ev t (.tmp 5)=.pointer (some ⟨bb,0,none⟩)) (e6:ev t (.tmp 6)=.bool (inB1 c)) (e7:ev t (.tmp 7)=.bool (mvB c)) :
    CodeR Tryz.prog Tryz.T1 { fn:=107,round:=none } Tryz.s107_c109 t [] w (fun e t ds w'=>Sim.Left (P:=Tryz.prog) Tryz.f107.results.toList e t ds w' (Ret (.int .i64 (ref5 false false false (e4B s x c) (e5B x c):Int)) (Grown w0))) .mk:=by
 have hrl:=(str_rooms hs).2
 have hbag:=hc.bag
 have hin:=hI.bag h.ok c.bag hbag
 have hcto:=hc.to
 have hsuc:=hc.suits
 obtain⟨p0,p3,p4,p5,p6⟩:=h.cells
 have c1:=OC.cell (o:=1) (v:=.int .i64 (c.kind:Int)) rfl rfl
 have c3:=OC.cell (o:=3) (v:=.int .i64 (c.to:Int)) rfl rfl
 have c6:=OC.cell (o:=6) (v:=.int .i64 (c.sl:Int)) rfl rfl
 have c7:=OC.cell (o:=7) (v:=.int .i64 (c.suits:Int)) rfl rfl
 have b1:=OB.cell (o:=1) (v:=.int .i64 ((x.bag c.bag).sl:Int)) rfl rfl
 have b2:=OB.cell (o:=2) (v:=.int .i64 ((x.bag c.bag).suits:Int)) rfl rfl
 obtain⟨cl,hcl,hcl4,hclN⟩:=climate_nat hs hc
 obtain⟨br,orr,rfl,r0,r1⟩:=roomC_at hA hc
 rw[hcl]at r1
 have htoI:(c.to:Int) < (s.rooms.length:Int):=by omega
 have hsR:=same_s12V (some ⟨br,orr,none⟩) s.rooms.length cR
 have hle:WLe w w:=(Grown.refl f).1.wle f
 have hseS:=Seek_ok x.seals c.sl vs w (RowS.arr h.sls (by have:=h.few.2;omega))
 have hsS:same 12 vs vs=true:=by
  obtain⟨p,cc,e,_⟩:=(RowS.arr h.sls (by have:=h.few.2;omega)).open
  rw[e]
  exact same_s12V _ _ _
 have hkk:c.kind=1 \/ c.kind=2 \/ c.kind=3 \/ c.kind=4 \/ c.kind=5:=by have:=ht.lo;have:=ht.hi;omega
 delta Tryz.s107_c109 zo zt zg zh zv zk
 rcases hkk with q|q|q|q|q
 · have hqI:(c.kind:Int)=1:=by omega
   have hD1:e4B s x c = !c.suits.testBit cl:=by unfold e4B inB1 mvB suitsN;rw[if_pos q,hclN,q];simp
   have hE1:e5B x c=x.seals.contains c.sl:=by unfold e5B inB1;rw[q];simp
   have i1:inB1 c=true:=by unfold inB1;rw[q];rfl
   have i2:mvB c=false:=by unfold mvB;rw[q];rfl
   rw[i1]at e6
   rw[i2]at e7
   rw[hqI]at c1
   rw[hD1,hE1]
   simp -dsimp -implicitDefEqProofs (maxSteps:=2000000) (disch:=first|assumption|omega|simp only[nx];omega|(repeat apply zfp);assumption|simp only[smA];done|simp[oneCell,znp]) only[go_sem,hle,e0,e3,e5,e6,e7,c3,c7,b2,p0,hsR,indexV_eq,htoI,r1,Nat.zero_add]
   apply callV_of (e:=rfl)
   . exact Bit_ok c.suits cl (by omega) (by omega) w
   rintro _ _ ⟨rfl,rfl⟩
   cases hD2:c.suits.testBit cl with
   | false =>
    simp -dsimp -implicitDefEqProofs (maxSteps:=2000000) (disch:=first|assumption|omega|simp only[nx];omega|(repeat apply zfp);assumption|simp only[smA];done|simp[oneCell,znp]) only[go_sem,hle]
    exact⟨rfl,ga⟩
   | true =>
   simp -dsimp -implicitDefEqProofs (maxSteps:=2000000) (disch:=first|assumption|omega|simp only[nx];omega|(repeat apply zfp);assumption|simp only[smA];done|simp[oneCell,znp]) only[go_sem,hle,e0,e3,e5,e6,e7,c1,c6,p5,hsS,Nat.zero_add]
   apply callV_of (e:=rfl)
   . exact hseS
   rintro _ _ ⟨rfl,n',rfl,hn'⟩
   have hn3:=seek_geq hn'
   cases hE2:x.seals.contains c.sl with
   | true =>
    rw[hE2]at hn3
    simp -dsimp -implicitDefEqProofs (maxSteps:=2000000) (disch:=first|assumption|omega|simp only[nx];omega|(repeat apply zfp);assumption|simp only[smA];done|simp[oneCell,znp]) only[go_sem,hle,hn3]
    exact⟨rfl,ga⟩
   | false =>
    rw[hE2]at hn3
    simp -dsimp -implicitDefEqProofs (maxSteps:=2000000) (disch:=first|assumption|omega|simp only[nx];omega|(repeat apply zfp);assumption|simp only[smA];done|simp[oneCell,znp]) only[go_sem,hle,hn3]
    exact⟨rfl,ga⟩
 · have hqI:(c.kind:Int)=2:=by omega
   have hD1:e4B s x c = !(x.bag c.bag).suits.testBit cl:=by unfold e4B inB1 mvB suitsN;rw[if_neg (by omega),hclN,q];simp
   have hE1:e5B x c=false:=by unfold e5B inB1;rw[q];simp
   have i1:inB1 c=false:=by unfold inB1;rw[q];rfl
   have i2:mvB c=true:=by unfold mvB;rw[q];rfl
   rw[i1]at e6
   rw[i2]at e7
   rw[hqI]at c1
   rw[hD1,hE1]
   simp -dsimp -implicitDefEqProofs (maxSteps:=2000000) (disch:=first|assumption|omega|simp only[nx];omega|(repeat apply zfp);assumption|simp only[smA];done|simp[oneCell,znp]) only[go_sem,hle,e0,e3,e5,e6,e7,c3,c7,b2,p0,hsR,indexV_eq,htoI,r1,Nat.zero_add]
   apply callV_of (e:=rfl)
   . exact Bit_ok (x.bag c.bag).suits cl (by omega) (by omega) w
   rintro _ _ ⟨rfl,rfl⟩
   cases hD2:(x.bag c.bag).suits.testBit cl with
   | false =>
    simp -dsimp -implicitDefEqProofs (maxSteps:=2000000) (disch:=first|assumption|omega|simp only[nx];omega|(repeat apply zfp);assumption|simp only[smA];done|simp[oneCell,znp]) only[go_sem,hle]
    exact⟨rfl,ga⟩
   | true =>
   simp -dsimp -implicitDefEqProofs (maxSteps:=2000000) (disch:=first|assumption|omega|simp only[nx];omega|(repeat apply zfp);assumption|simp only[smA];done|simp[oneCell,znp]) only[go_sem,hle,e0,e3,e5,e6,e7,c1,c6,p5,hsS,Nat.zero_add]
   exact⟨rfl,ga⟩
 · have hqI:(c.kind:Int)=3:=by omega
   have hD1:e4B s x c=false:=by unfold e4B inB1 mvB;rw[q];simp
   have hE1:e5B x c = !decide (c.sl=(x.bag c.bag).sl):=by unfold e5B inB1;rw[q];simp
   have i1:inB1 c=false:=by unfold inB1;rw[q];rfl
   have i2:mvB c=false:=by unfold mvB;rw[q];rfl
   rw[i1]at e6
   rw[i2]at e7
   rw[hqI]at c1
   rw[hD1,hE1]
   have hdd:decide ((c.sl:Int)=((x.bag c.bag).sl:Int))=decide (c.sl=(x.bag c.bag).sl):=by rw[decide_eq_decide];omega
   cases hE2:decide (c.sl=(x.bag c.bag).sl) with
   | true =>
    rw[hE2]at hdd
    simp -dsimp -implicitDefEqProofs (maxSteps:=2000000) (disch:=first|assumption|omega|simp only[nx];omega|(repeat apply zfp);assumption|simp only[smA];done|simp[oneCell,znp]) only[go_sem,hle,e0,e3,e5,e6,e7,c1,c6,b1,b2,hdd,Nat.zero_add]
    exact⟨rfl,ga⟩
   | false =>
    rw[hE2]at hdd
    simp -dsimp -implicitDefEqProofs (maxSteps:=2000000) (disch:=first|assumption|omega|simp only[nx];omega|(repeat apply zfp);assumption|simp only[smA];done|simp[oneCell,znp]) only[go_sem,hle,e0,e3,e5,e6,e7,c1,c6,b1,b2,hdd,Nat.zero_add]
    exact⟨rfl,ga⟩
 · have hqI:(c.kind:Int)=4:=by omega
   have hD1:e4B s x c=false:=by unfold e4B inB1 mvB;rw[q];simp
   have hE1:e5B x c=x.seals.contains c.sl:=by unfold e5B inB1;rw[q];simp
   have i1:inB1 c=false:=by unfold inB1;rw[q];rfl
   have i2:mvB c=false:=by unfold mvB;rw[q];rfl
   rw[i1]at e6
   rw[i2]at e7
   rw[hqI]at c1
   rw[hD1,hE1]
   simp -dsimp -implicitDefEqProofs (maxSteps:=2000000) (disch:=first|assumption|omega|simp only[nx];omega|(repeat apply zfp);assumption|simp only[smA];done|simp[oneCell,znp]) only[go_sem,hle,e0,e3,e5,e6,e7,c1,c6,b2,p5,hsS,Nat.zero_add]
   apply callV_of (e:=rfl)
   . exact hseS
   rintro _ _ ⟨rfl,n',rfl,hn'⟩
   have hn3:=seek_geq hn'
   cases hE2:x.seals.contains c.sl with
   | true =>
    rw[hE2]at hn3
    simp -dsimp -implicitDefEqProofs (maxSteps:=2000000) (disch:=first|assumption|omega|simp only[nx];omega|(repeat apply zfp);assumption|simp only[smA];done|simp[oneCell,znp]) only[go_sem,hle,hn3]
    exact⟨rfl,ga⟩
   | false =>
    rw[hE2]at hn3
    simp -dsimp -implicitDefEqProofs (maxSteps:=2000000) (disch:=first|assumption|omega|simp only[nx];omega|(repeat apply zfp);assumption|simp only[smA];done|simp[oneCell,znp]) only[go_sem,hle,hn3]
    exact⟨rfl,ga⟩
 . have hqI:(c.kind:Int)=5:=by omega
   have hD1:e4B s x c=false:=by unfold e4B inB1 mvB;rw[q];simp
   have hE1:e5B x c=false:=by unfold e5B inB1;rw[q];simp
   have i1:inB1 c=false:=by unfold inB1;rw[q];rfl
   have i2:mvB c=false:=by unfold mvB;rw[q];rfl
   rw[i1]at e6
   rw[i2]at e7
   rw[hqI]at c1
   rw[hD1,hE1]
   simp -dsimp -implicitDefEqProofs (maxSteps:=2000000) (disch:=first|assumption|omega|simp only[nx];omega|(repeat apply zfp);assumption|simp only[smA];done|simp[oneCell,znp]) only[go_sem,hle,e0,e3,e5,e6,e7,c1,b2,Nat.zero_add]
   exact⟨rfl,ga⟩
end
end Go.Proofs

namespace Go.Proofs
open Go Go.RowKit Go.Sim
set_option maxRecDepth 100000
section
variable {pR pG pS:Option Addr} {cR cG cS:Nat} {s:StrN} {hb m:Nat} {x:LogN} {ever:List Nat} {ve vs:Value}
set_option maxHeartbeats 64000000 in
theorem ref_c78 (hs:strB s=true) (c:CarN) (hc:CarOk s c) (ht:CarT c) (hI:LogIn s x) (hm:m≤1000) (w w0:AW) (f:Fresh w) (ga:Grown w0 w) (hA:StrAt w pR pG pS cR cG cS s) (h:HallAt w pR pG pS cR cG cS s hb m x ever ve vs) (bc bb:Nat) (OC:Own w bc 62 (carC c)) (OB:Own w bb 47 (bagC (x.bag c.bag)))
    (t:Tmps) (e0:ev t (.tmp 0)=.pointer (some ⟨hb+2,0,none⟩)) (e3:ev t (.tmp 3)=.pointer (some ⟨bc,0,none⟩)) (e5:ev t (.tmp 5)=.pointer (some ⟨bb,0,none⟩)) (e6:ev t (.tmp 6)=.bool (inB1 c)) (e7:ev t (.tmp 7)=.bool (mvB c)) :
    CodeR Tryz.prog Tryz.T1 { fn:=107,round:=none } Tryz.s107_c78 t [] w (fun e t ds w'=>Sim.Left (P:=Tryz.prog) Tryz.f107.results.toList e t ds w' (Ret (.int .i64 (ref5 false false (e3B s x c) (e4B s x c) (e5B x c):Int)) (Grown w0))) .mk:=by
 have hrl:=(str_rooms hs).2
 have hcto:=hc.to
 obtain⟨p0,p3,p4,p5,p6⟩:=h.cells
 have c3:=OC.cell (o:=3) (v:=.int .i64 (c.to:Int)) rfl rfl
 have b0:=OB.cell (o:=0) (v:=.int .i64 ((x.bag c.bag).room:Int)) rfl rfl
 obtain⟨br,orr,ep,r0,r1⟩:=roomC_at hA hc
 have htoI:(c.to:Int) < (s.rooms.length:Int):=by omega
 have hle:WLe w w:=(Grown.refl f).1.wle f
 have hrest:=fun t' e0 e3 e5 e6 e7=>ref_c109 hs c hc ht hI hm w w0 f ga hA h bc bb OC OB t' e0 e3 e5 e6 e7
 subst ep
 have hsR:=same_s12V (some ⟨br,orr,none⟩) s.rooms.length cR
 have hmany:=many_ok (x:=x) c.to w f h
 have hkk:c.kind=1 \/ c.kind=2 \/ (c.kind ≠ 1/\c.kind ≠ 2):=by omega
 delta Tryz.s107_c78 zo zt zh zv zk
 rcases hkk with q|q|⟨q1,q2⟩
 · have i1:inB1 c=true:=by unfold inB1;rw[q];rfl
   have i2:mvB c=false:=by unfold mvB;rw[q];rfl
   have hC1:e3B s x c=decide ((toRoom s c).hold≤(manyB x.bags c.to:Int)):=by unfold e3B inB1 mvB;rw[q];simp
   rw[i1]at e6 hrest
   rw[i2]at e7 hrest
   rw[hC1]
   simp -dsimp -implicitDefEqProofs (maxSteps:=2000000) (disch:=first|assumption|omega|simp only[nx];omega|(repeat apply zfp);assumption|simp only[smA];done|simp[oneCell,znp]) only[go_sem,hle,e0,e3,e5,e6,e7,c3,b0,p0,hsR,indexV_eq,htoI,r0,Nat.zero_add]
   apply callV_of (e:=rfl)
   . exact hmany
   rintro _ _ ⟨rfl,rfl⟩
   cases hC2:decide ((toRoom s c).hold≤(manyB x.bags c.to:Int)) with
   | true =>
    simp -dsimp -implicitDefEqProofs (maxSteps:=2000000) (disch:=first|assumption|omega|simp only[nx];omega|(repeat apply zfp);assumption|simp only[smA];done|simp[oneCell,znp]) only[go_sem,hle,hC2]
    exact⟨rfl,ga⟩
   | false =>
    simp -dsimp -implicitDefEqProofs (maxSteps:=2000000) (disch:=first|assumption|omega|simp only[nx];omega|(repeat apply zfp);assumption|simp only[smA];done|simp[oneCell,znp]) only[go_sem,hle,hC2,e0,e3,e5,e6,e7]
    exact hrest _ (by(simp only[go_sem,e0];try rfl)) (by(simp only[go_sem,e3];try rfl)) (by(simp only[go_sem,e5];try rfl)) (by(simp only[go_sem,e6];try rfl)) (by(simp only[go_sem,e7];try rfl))
 · have i1:inB1 c=false:=by unfold inB1;rw[q];rfl
   have i2:mvB c=true:=by unfold mvB;rw[q];rfl
   have hC1:e3B s x c=(decide ((c.to:Int)=((x.bag c.bag).room:Int)) || decide ((toRoom s c).hold≤(manyB x.bags c.to:Int))):=by
    have:decide ((c.to:Int)=((x.bag c.bag).room:Int))=decide (c.to=(x.bag c.bag).room):=by rw[decide_eq_decide];omega
    unfold e3B inB1 mvB;rw[q,this];simp
   rw[i1]at e6 hrest
   rw[i2]at e7 hrest
   rw[hC1]
   cases hC0:decide ((c.to:Int)=((x.bag c.bag).room:Int)) with
   | true =>
    simp -dsimp -implicitDefEqProofs (maxSteps:=2000000) (disch:=first|assumption|omega|simp only[nx];omega|(repeat apply zfp);assumption|simp only[smA];done|simp[oneCell,znp]) only[go_sem,hle,e0,e3,e5,e6,e7,c3,b0,hC0,Nat.zero_add]
    exact⟨rfl,ga⟩
   | false =>
   simp -dsimp -implicitDefEqProofs (maxSteps:=2000000) (disch:=first|assumption|omega|simp only[nx];omega|(repeat apply zfp);assumption|simp only[smA];done|simp[oneCell,znp]) only[go_sem,hle,e0,e3,e5,e6,e7,c3,b0,hC0,p0,hsR,indexV_eq,htoI,r0,Nat.zero_add]
   apply callV_of (e:=rfl)
   . exact hmany
   rintro _ _ ⟨rfl,rfl⟩
   cases hC2:decide ((toRoom s c).hold≤(manyB x.bags c.to:Int)) with
   | true =>
    simp -dsimp -implicitDefEqProofs (maxSteps:=2000000) (disch:=first|assumption|omega|simp only[nx];omega|(repeat apply zfp);assumption|simp only[smA];done|simp[oneCell,znp]) only[go_sem,hle,hC2]
    exact⟨rfl,ga⟩
   | false =>
    simp -dsimp -implicitDefEqProofs (maxSteps:=2000000) (disch:=first|assumption|omega|simp only[nx];omega|(repeat apply zfp);assumption|simp only[smA];done|simp[oneCell,znp]) only[go_sem,hle,hC2,e0,e3,e5,e6,e7]
    exact hrest _ (by(simp only[go_sem,e0];try rfl)) (by(simp only[go_sem,e3];try rfl)) (by(simp only[go_sem,e5];try rfl)) (by(simp only[go_sem,e6];try rfl)) (by(simp only[go_sem,e7];try rfl))
 . have i1:inB1 c=false:=decide_eq_false q1
   have i2:mvB c=false:=decide_eq_false q2
   have hC1:e3B s x c=false:=by unfold e3B;rw[i1,i2];rfl
   rw[i1]at e6 hrest
   rw[i2]at e7 hrest
   rw[hC1]
   simp -dsimp -implicitDefEqProofs (maxSteps:=2000000) (disch:=first|assumption|omega|simp only[nx];omega|(repeat apply zfp);assumption|simp only[smA];done|simp[oneCell,znp]) only[go_sem,hle,e0,e3,e5,e6,e7]
   exact hrest _ (by(simp only[go_sem,e0];try rfl)) (by(simp only[go_sem,e3];try rfl)) (by(simp only[go_sem,e5];try rfl)) (by(simp only[go_sem,e6];try rfl)) (by(simp only[go_sem,e7];try rfl))
set_option maxHeartbeats 64000000 in
theorem ref_c56 (hs:strB s=true) (c:CarN) (hc:CarOk s c) (ht:CarT c) (hI:LogIn s x) (hm:m≤1000) (w w0:AW) (f:Fresh w) (ga:Grown w0 w) (hA:StrAt w pR pG pS cR cG cS s) (h:HallAt w pR pG pS cR cG cS s hb m x ever ve vs) (bc bb:Nat) (OC:Own w bc 62 (carC c)) (OB:Own w bb 47 (bagC (x.bag c.bag)))
    (t:Tmps) (e0:ev t (.tmp 0)=.pointer (some ⟨hb+2,0,none⟩)) (e3:ev t (.tmp 3)=.pointer (some ⟨bc,0,none⟩)) (e5:ev t (.tmp 5)=.pointer (some ⟨bb,0,none⟩)) (e6:ev t (.tmp 6)=.bool (inB1 c)) (e7:ev t (.tmp 7)=.bool (mvB c)) (e8:ev t (.tmp 8)=.int .i64 (endR s (pairN c) 1:Int)) :
    CodeR Tryz.prog Tryz.T1 { fn:=107,round:=none } Tryz.s107_c56 t [] w (fun e t ds w'=>Sim.Left (P:=Tryz.prog) Tryz.f107.results.toList e t ds w' (Ret (.int .i64 (ref5 false (e2B s x c) (e3B s x c) (e4B s x c) (e5B x c):Int)) (Grown w0))) .mk:=by
 have hrl:=(str_rooms hs).2
 have hcto:=hc.to
 have hbag:=hc.bag
 have hin:=hI.bag h.ok c.bag hbag
 have hein:=(endR_in hs (pairN c)).1
 have c3:=OC.cell (o:=3) (v:=.int .i64 (c.to:Int)) rfl rfl
 have b0:=OB.cell (o:=0) (v:=.int .i64 ((x.bag c.bag).room:Int)) rfl rfl
 have hle:WLe w w:=(Grown.refl f).1.wle f
 have hrest:=fun t' e0 e3 e5 e6 e7=>ref_c78 hs c hc ht hI hm w w0 f ga hA h bc bb OC OB t' e0 e3 e5 e6 e7
 have hbit0:=Bit_ok (endR s (pairN c) 1) (x.bag c.bag).room (by omega) (by omega) w
 have hbitT:=Bit_ok (endR s (pairN c) 1) c.to (by omega) (by omega) w
 have hkk:c.kind=1 \/ c.kind=2 \/ (c.kind ≠ 1/\c.kind ≠ 2):=by omega
 delta Tryz.s107_c56 zo zg zv zk
 rcases hkk with q|q|⟨q1,q2⟩
 · have i1:inB1 c=true:=by unfold inB1;rw[q];rfl
   have i2:mvB c=false:=by unfold mvB;rw[q];rfl
   have hB1:e2B s x c = !(endR s (pairN c) 1).testBit c.to:=by unfold e2B inB1 mvB;rw[q];simp
   rw[i1]at e6 hrest
   rw[i2]at e7 hrest
   rw[hB1]
   simp -dsimp -implicitDefEqProofs (maxSteps:=2000000) (disch:=first|assumption|omega|simp only[nx];omega|(repeat apply zfp);assumption|simp only[smA];done|simp[oneCell,znp]) only[go_sem,hle,e0,e3,e5,e6,e7,e8,c3,b0,Nat.zero_add]
   apply callV_of (e:=rfl)
   . exact hbitT
   rintro _ _ ⟨rfl,rfl⟩
   cases hB2:(endR s (pairN c) 1).testBit c.to with
   | false =>
    simp -dsimp -implicitDefEqProofs (maxSteps:=2000000) (disch:=first|assumption|omega|simp only[nx];omega|(repeat apply zfp);assumption|simp only[smA];done|simp[oneCell,znp]) only[go_sem]
    exact⟨rfl,ga⟩
   | true =>
    simp -dsimp -implicitDefEqProofs (maxSteps:=2000000) (disch:=first|assumption|omega|simp only[nx];omega|(repeat apply zfp);assumption|simp only[smA];done|simp[oneCell,znp]) only[go_sem,hle,e0,e3,e5,e6,e7,e8,c3,b0,Nat.zero_add]
    exact hrest _ (by(simp only[go_sem,e0];try rfl)) (by(simp only[go_sem,e3];try rfl)) (by(simp only[go_sem,e5];try rfl)) (by(simp only[go_sem,e6];try rfl)) (by(simp only[go_sem,e7];try rfl))
 · have i1:inB1 c=false:=by unfold inB1;rw[q];rfl
   have i2:mvB c=true:=by unfold mvB;rw[q];rfl
   have hB1:e2B s x c=(!(endR s (pairN c) 1).testBit (x.bag c.bag).room || !(endR s (pairN c) 1).testBit c.to):=by unfold e2B inB1 mvB;rw[q];simp
   rw[i1]at e6 hrest
   rw[i2]at e7 hrest
   rw[hB1]
   simp -dsimp -implicitDefEqProofs (maxSteps:=2000000) (disch:=first|assumption|omega|simp only[nx];omega|(repeat apply zfp);assumption|simp only[smA];done|simp[oneCell,znp]) only[go_sem,hle,e0,e3,e5,e6,e7,e8,c3,b0,Nat.zero_add]
   apply callV_of (e:=rfl)
   . exact hbit0
   rintro _ _ ⟨rfl,rfl⟩
   cases hB2:(endR s (pairN c) 1).testBit (x.bag c.bag).room with
   | false =>
    simp -dsimp -implicitDefEqProofs (maxSteps:=2000000) (disch:=first|assumption|omega|simp only[nx];omega|(repeat apply zfp);assumption|simp only[smA];done|simp[oneCell,znp]) only[go_sem]
    exact⟨rfl,ga⟩
   | true =>
   simp -dsimp -implicitDefEqProofs (maxSteps:=2000000) (disch:=first|assumption|omega|simp only[nx];omega|(repeat apply zfp);assumption|simp only[smA];done|simp[oneCell,znp]) only[go_sem,hle,e0,e3,e5,e6,e7,e8,c3,b0,Nat.zero_add]
   apply callV_of (e:=rfl)
   . exact hbitT
   rintro _ _ ⟨rfl,rfl⟩
   cases hB3:(endR s (pairN c) 1).testBit c.to with
   | false =>
    simp -dsimp -implicitDefEqProofs (maxSteps:=2000000) (disch:=first|assumption|omega|simp only[nx];omega|(repeat apply zfp);assumption|simp only[smA];done|simp[oneCell,znp]) only[go_sem]
    exact⟨rfl,ga⟩
   | true =>
    simp -dsimp -implicitDefEqProofs (maxSteps:=2000000) (disch:=first|assumption|omega|simp only[nx];omega|(repeat apply zfp);assumption|simp only[smA];done|simp[oneCell,znp]) only[go_sem,hle,e0,e3,e5,e6,e7,e8,c3,b0,Nat.zero_add]
    exact hrest _ (by(simp only[go_sem,e0];try rfl)) (by(simp only[go_sem,e3];try rfl)) (by(simp only[go_sem,e5];try rfl)) (by(simp only[go_sem,e6];try rfl)) (by(simp only[go_sem,e7];try rfl))
 · have i1:inB1 c=false:=decide_eq_false q1
   have i2:mvB c=false:=decide_eq_false q2
   have hB1:e2B s x c = !(endR s (pairN c) 1).testBit (x.bag c.bag).room:=by unfold e2B;rw[i1,i2];simp
   rw[i1]at e6 hrest
   rw[i2]at e7 hrest
   rw[hB1]
   simp -dsimp -implicitDefEqProofs (maxSteps:=2000000) (disch:=first|assumption|omega|simp only[nx];omega|(repeat apply zfp);assumption|simp only[smA];done|simp[oneCell,znp]) only[go_sem,hle,e0,e3,e5,e6,e7,e8,c3,b0,Nat.zero_add]
   apply callV_of (e:=rfl)
   . exact hbit0
   rintro _ _ ⟨rfl,rfl⟩
   cases hB2:(endR s (pairN c) 1).testBit (x.bag c.bag).room with
   | false =>
    simp -dsimp -implicitDefEqProofs (maxSteps:=2000000) (disch:=first|assumption|omega|simp only[nx];omega|(repeat apply zfp);assumption|simp only[smA];done|simp[oneCell,znp]) only[go_sem]
    exact⟨rfl,ga⟩
   | true =>
    simp -dsimp -implicitDefEqProofs (maxSteps:=2000000) (disch:=first|assumption|omega|simp only[nx];omega|(repeat apply zfp);assumption|simp only[smA];done|simp[oneCell,znp]) only[go_sem,hle,e0,e3,e5,e6,e7,e8,c3,b0,Nat.zero_add]
    exact hrest _ (by(simp only[go_sem,e0];try rfl)) (by(simp only[go_sem,e3];try rfl)) (by(simp only[go_sem,e5];try rfl)) (by(simp only[go_sem,e6];try rfl)) (by(simp only[go_sem,e7];try rfl))
end
end Go.Proofs

namespace Go.Proofs
open Go Go.RowKit Go.Sim
set_option maxRecDepth 100000
section
variable {pR pG pS:Option Addr} {cR cG cS:Nat} {s:StrN} {hb m:Nat} {x:LogN} {ever:List Nat} {ve vs:Value}
set_option maxHeartbeats 64000000 in
theorem refused_ok (hs:strB s=true) (c:CarN) (hc:CarOk s c) (ht:CarT c) (hI:LogIn s x) (hm:m≤1000) (w:AW) (f:Fresh w) (hA:StrAt w pR pG pS cR cG cS s) (h:HallAt w pR pG pS cR cG cS s hb m x ever ve vs) :
    CallT Tryz.prog Tryz.T1 (.fn (.func 107) #[]) #[.pointer (some ⟨hb+2,0,none⟩),carV c] w (Ret (.int .i64 (stepE s x c:Int)) (Grown w)):=by
 rw[<- refE_is h.ok hc ht,refE_5]
 have hsl:=(str_staff hs).2.1
 have hrl:=(str_rooms hs).2
 obtain⟨hp1,hp2⟩:=pair_in hs hc
 have hbag:=hc.bag
 have hkI:(c.bag:Int) < 32:=by omega
 have g1:=(Grown.refl f).push (.cells (carC c) 62 w.next 0 0)
 have O1:=Own.new f 62 (carC c)
 obtain⟨w1,hw1⟩:∃ w1,w.push (.cells (carC c) 62 w.next 0 0)=w1:=⟨_,rfl⟩
 rw[hw1]at g1 O1
 have H1:=h.grown g1
 have f1:=g1.2
 have hbr:=H1.bagRow hbag
 have O2:=Own.new f1 47 (bagC ⟨0,0,0,0,0⟩)
 have g2:=(Grown.refl f1).push (.cells (bagC ⟨0,0,0,0,0⟩) 47 w1.next 0 0)
 obtain⟨w2,hw2⟩:∃ w2,w1.push (.cells (bagC ⟨0,0,0,0,0⟩) 47 w1.next 0 0)=w2:=⟨_,rfl⟩
 rw[hw2]at g2 O2
 obtain⟨w3,st3,O3,m3,hn3⟩:=store_new (n:=5) (l:=bagC (x.bag c.bag)) g2.2 O2 rfl rfl (by omega) rfl
 have g13:Grown w1 w3:=⟨g2.1.trans (m3.keep (fun j q=>by have:j=w1.next:=q;omega) g2.1.next),m3.fresh⟩
 have g3:=g1.trans g13
 have H3:=H1.grown g13
 have O13:=O1.keep g13.1
 have f3:=g3.2
 have hle3:WLe w3 w3:=(Grown.refl f3).1.wle f3
 obtain⟨_,q3,_,_,_⟩:=H1.cells
 obtain⟨p0,p3,p4,p5,p6⟩:=H3.cells
 have hstr:=H3.strong
 have d2:=O1.cell (o:=2) (v:=.int .i64 (c.bag:Int)) rfl rfl
 have c1:=O13.cell (o:=1) (v:=.int .i64 (c.kind:Int)) rfl rfl
 have c2:=O13.cell (o:=2) (v:=.int .i64 (c.bag:Int)) rfl rfl
 have c4:=O13.cell (o:=4) (v:=.int .i64 (c.ca:Int)) rfl rfl
 have c5:=O13.cell (o:=5) (v:=.int .i64 (c.cb:Int)) rfl rfl
 have b0:=O3.cell (o:=0) (v:=.int .i64 ((x.bag c.bag).room:Int)) rfl rfl
 have hseE:=Seek_ok ever c.bag ve w3 (RowS.arr H3.evr (by have:=h.few.1;omega))
 have hss:=same_str pR pG pS s.rooms.length s.gates.length s.staff.length cR cG cS
 have hsb:=same_bag (x.bag c.bag)
 have hsr:=same_s12V (some ⟨hb,0,none⟩) 32 32
 have hsE:same 12 ve ve=true:=by
  obtain⟨p,cc,e,_⟩:=(RowS.arr H3.evr (by have:=h.few.1;omega)).open
  rw[e]
  exact same_s12V _ _ _
 have hz5:bagC ⟨0,0,0,0,0⟩=[.int .i64 0,.int .i64 0,.int .i64 0,.int .i64 0,.int .i64 0]:=rfl
 rw[hz5]at hw2
 have hsA:=full_shl (n:=c.ca) (by have:=hc.ca;omega)
 have hsB:=full_shl (n:=c.cb) (by have:=hc.cb;omega)
 have hpA:=pow_lt6 (a:=c.ca) (by have:=hc.ca;omega)
 have hpB:=pow_lt6 (a:=c.cb) (by have:=hc.cb;omega)
 have h0A:¬ (c.ca:Int) < 0:=by omega
 have h0B:¬ (c.cb:Int) < 0:=by omega
 have hwi:=with_ok (2 ^ c.ca) (2 ^ c.cb) (by omega) (by omega) w3
 rw[show 2 ^ c.ca ||| 2 ^ c.cb=pairN c from rfl]at hwi
 have hent:=enter_ok hs hp1 hp2 w3 f3 (hA.grown g3)
 have hcar:carV c=.agg #[.int .i64 (c.day:Int),.int .i64 (c.kind:Int),.int .i64 (c.bag:Int),.int .i64 (c.to:Int),.int .i64 (c.ca:Int),.int .i64 (c.cb:Int),.int .i64 (c.sl:Int),.int .i64 (c.suits:Int)]:=rfl
 have hcl:carC c=[.int .i64 (c.day:Int),.int .i64 (c.kind:Int),.int .i64 (c.bag:Int),.int .i64 (c.to:Int),.int .i64 (c.ca:Int),.int .i64 (c.cb:Int),.int .i64 (c.sl:Int),.int .i64 (c.suits:Int)]:=rfl
 rw[hcl]at hw1
 rw[hcar]
 have hk2:decide ((c.kind:Int)=2)=mvB c:=by unfold mvB;rw[decide_eq_decide];omega
 by_cases q:c.kind=1
 · have hqI:(c.kind:Int)=1:=by omega
   have hA1:e1B x c=ever.contains c.bag:=by unfold e1B;rw[if_pos q,h.evo c.bag hbag]
   have i1:inB1 c=true:=by unfold inB1;rw[q];rfl
   have i2:mvB c=false:=by unfold mvB;rw[q];rfl
   rw[hqI]at c1
   rw[hA1]
   generalize 2 ^ c.ca=PA at *
   generalize 2 ^ c.cb=PB at *
   unfold strC at *
   refine callT_code rfl Tryz.func107 rfl Tryz.s107_eq rfl ?_
   delta Tryz.s107 zo zt zg zh zon zv zk
   simp -dsimp -implicitDefEqProofs (maxSteps:=2000000) (disch:=first|assumption|omega|simp only[nx];omega|(repeat apply zfp);assumption|simp only[smA];done|simp[oneCell,znp]) only[go_sem,hw1,q3,d2,indexV_eq,hkI,hbr,hsr,hsb,hw2,st3,c1,c2,p4,b0,hsE,hle3,hstr,hss,c4,c5,h0A,h0B,hsA,hsB,Nat.zero_add]
   try rw[hw1]
   try rw[hw2]
   apply callV_of (e:=rfl)
   . exact hseE
   rintro _ _ ⟨rfl,n,rfl,hn⟩
   have hn2:=seek_geq hn
   cases hA2:ever.contains c.bag with
   | true =>
    rw[hA2]at hn2
    simp -dsimp -implicitDefEqProofs (maxSteps:=2000000) (disch:=first|assumption|omega|simp only[nx];omega|(repeat apply zfp);assumption|simp only[smA];done|simp[oneCell,znp]) only[go_sem,hle3,hn2]
    exact⟨rfl,g3⟩
   | false =>
   rw[hA2]at hn2
   simp -dsimp -implicitDefEqProofs (maxSteps:=2000000) (disch:=first|assumption|omega|simp only[nx];omega|(repeat apply zfp);assumption|simp only[smA];done|simp[oneCell,znp]) only[go_sem,hle3,hn2,hstr,hss,c4,c5,h0A,h0B,hsA,hsB,Nat.zero_add]
   apply callV_of (e:=rfl)
   . exact hwi
   rintro _ _ ⟨rfl,rfl⟩
   simp -dsimp -implicitDefEqProofs (maxSteps:=2000000) (disch:=first|assumption|omega|simp only[nx];omega|(repeat apply zfp);assumption|simp only[smA];done|simp[oneCell,znp]) only[go_sem,hle3,hstr,hss,c4,c5,h0A,h0B,hsA,hsB,Nat.zero_add]
   apply callV_of (e:=rfl)
   . exact hent
   rintro _ w4 ⟨rfl,g4⟩
   have hle34:WLe w3 w4:=g4.1.wle f3
   simp -dsimp -implicitDefEqProofs (maxSteps:=2000000) (disch:=first|assumption|omega|simp only[nx];omega|(repeat apply zfp);assumption|simp only[smA];done|simp[oneCell,znp]) only[go_sem,hle34]
   exact ref_c56 hs c hc ht hI hm w4 w g4.2 (g3.trans g4) (hA.grown (g3.trans g4)) (H3.grown g4) w.next w1.next (O13.keep g4.1) (O3.keep g4.1) _ (by(simp only[go_sem];try rfl)) (by(simp only[go_sem];try rfl)) (by(simp only[go_sem];try rfl)) (by(simp only[go_sem,i1];try rfl)) (by(simp only[go_sem,i2];try rfl)) (by(simp only[go_sem];try rfl))
 · have hqd:decide ((c.kind:Int)=1)=false:=decide_eq_false (by omega)
   have hA1:e1B x c=decide ((x.bag c.bag).room=0):=by unfold e1B;rw[if_neg q]
   have i1:inB1 c=false:=decide_eq_false q
   have i2:=hk2
   rw[hA1]
   by_cases r0:(x.bag c.bag).room=0
   . have r0I:((x.bag c.bag).room:Int)=0:=by omega
     rw[decide_eq_true r0]
     generalize 2 ^ c.ca=PA at *
     generalize 2 ^ c.cb=PB at *
     unfold strC at *
     refine callT_code rfl Tryz.func107 rfl Tryz.s107_eq rfl ?_
     delta Tryz.s107 zo zt zg zh zon zv zk
     simp -dsimp -implicitDefEqProofs (maxSteps:=2000000) (disch:=first|assumption|omega|simp only[nx];omega|(repeat apply zfp);assumption|simp only[smA];done|simp[oneCell,znp]) only[go_sem,hw1,q3,d2,indexV_eq,hkI,hbr,hsr,hsb,hw2,st3,c1,c2,p4,b0,hsE,hle3,hqd,hk2,r0I,Nat.zero_add]
     exact⟨rfl,g3⟩
   have r0I:¬ ((x.bag c.bag).room:Int)=0:=by omega
   rw[decide_eq_false r0]
   generalize 2 ^ c.ca=PA at *
   generalize 2 ^ c.cb=PB at *
   unfold strC at *
   refine callT_code rfl Tryz.func107 rfl Tryz.s107_eq rfl ?_
   delta Tryz.s107 zo zt zg zh zon zv zk
   simp -dsimp -implicitDefEqProofs (maxSteps:=2000000) (disch:=first|assumption|omega|simp only[nx];omega|(repeat apply zfp);assumption|simp only[smA];done|simp[oneCell,znp]) only[go_sem,hw1,q3,d2,indexV_eq,hkI,hbr,hsr,hsb,hw2,st3,c1,c2,p4,b0,hsE,hle3,hqd,hk2,r0I,hstr,hss,c4,c5,h0A,h0B,hsA,hsB,Nat.zero_add]
   try rw[hw1]
   try rw[hw2]
   apply callV_of (e:=rfl)
   . exact hwi
   rintro _ _ ⟨rfl,rfl⟩
   simp -dsimp -implicitDefEqProofs (maxSteps:=2000000) (disch:=first|assumption|omega|simp only[nx];omega|(repeat apply zfp);assumption|simp only[smA];done|simp[oneCell,znp]) only[go_sem,hle3,hstr,hss,c4,c5,h0A,h0B,hsA,hsB,Nat.zero_add]
   apply callV_of (e:=rfl)
   . exact hent
   rintro _ w4 ⟨rfl,g4⟩
   have hle34:WLe w3 w4:=g4.1.wle f3
   simp -dsimp -implicitDefEqProofs (maxSteps:=2000000) (disch:=first|assumption|omega|simp only[nx];omega|(repeat apply zfp);assumption|simp only[smA];done|simp[oneCell,znp]) only[go_sem,hle34]
   exact ref_c56 hs c hc ht hI hm w4 w g4.2 (g3.trans g4) (hA.grown (g3.trans g4)) (H3.grown g4) w.next w1.next (O13.keep g4.1) (O3.keep g4.1) _ (by(simp only[go_sem];try rfl)) (by(simp only[go_sem];try rfl)) (by(simp only[go_sem];try rfl)) (by(simp only[go_sem,i1];try rfl)) (by(simp only[go_sem,i2];try rfl)) (by(simp only[go_sem];try rfl))
end
end Go.Proofs

namespace Go.Proofs
open Go Go.RowKit Go.Sim
set_option maxRecDepth 100000
def susE (s:StrN) (L:List CarI) (bag:Int):Int:=if (runI s L).2.1=0 then (if inR 0 bag 31=true then (if ((logOf L).bag bag.toNat).room=0 then 44 else 0) else 7) else ((runI s L).2.1:Int)
def susN (s:StrN) (L:List CarI) (bag:Int):List Nat:=if susE s L bag=0 then leastN (reachB s ((logOf L).trail bag.toNat)) s.staff.length else []
theorem trail_lt {s:StrN} {x:LogN} (h:LogIn s x) (hk:LogOk x) {i:Nat} (hi:i < 32):x.trail i < 64:=by
 have ht:i < x.trails.length:=by rw[hk.trails];exact hi
 have:x.trail i=x.trails[i]:=by simp[LogN.trail,List.getD,ht]
 rw[this]
 exact h.trail _ (List.getElem_mem ht)
set_option maxHeartbeats 32000000 in
theorem Suspects_ok (s:StrN) (pR pG pS:Option Addr) (cR cG cS:Nat) (pL:Option Addr) (cL:Nat) (L:List CarI) (bag:Int) (w:AW) (f:Fresh w) (hA:StrAt w pR pG pS cR cG cS s) (hL:ArrOf w 8 carIC (.slice pL L.length cL) L) :
    CallT Tryz.prog Tryz.T1 (.fn (.func 35) #[]) #[.agg (strC pR pG pS cR cG cS s).toArray,.slice pL L.length cL,.int .i64 bag] w (fun v w'=>Grown w w'/\∃ u,v=.tuple #[u,.int .i64 (susE s L bag)]/\RowS 3 w.next w' u (susN s L bag)):=by
 have g1:=(Grown.refl f).push (.cells (strC pR pG pS cR cG cS s) 26 w.next 0 0)
 have O1:=Own.new f 26 (strC pR pG pS cR cG cS s)
 obtain⟨w1,hw1⟩:∃ w1,w.push (.cells (strC pR pG pS cR cG cS s) 26 w.next 0 0)=w1:=⟨_,rfl⟩
 rw[hw1]at g1 O1
 have hld:=loadAll O1 (n:=3) rfl (by simp[strC,oneCell])
 have hls:=fun w' (O:Own w' w.next 26 (strC pR pG pS cR cG cS s))=>loadAll O (n:=3) rfl (by simp[strC,oneCell])
 have hru:=run_ok s pR pG pS cR cG cS pL cL L w1 g1.2 (hA.grown g1) (hL.grown g1)
 have hgr:=fun (hs:strB s=true) (goals:Nat) (hgo:goals < 256) w' (g':Grown w w')=>groupsV_ok hs goals hgo w' g'.2 (hA.grown g')
 have hE:susE s L bag=if (runI s L).2.1=0 then (if inR 0 bag 31=true then (if ((logOf L).bag bag.toNat).room=0 then 44 else 0) else 7) else ((runI s L).2.1:Int):=rfl
 have hN:susN s L bag=if susE s L bag=0 then leastN (reachB s ((logOf L).trail bag.toNat)) s.staff.length else []:=rfl
 have hss:=same_str pR pG pS s.rooms.length s.gates.length s.staff.length cR cG cS
 unfold strC at *
 refine callT_code rfl Tryz.func35 rfl Tryz.s35_eq rfl ?_
 delta Tryz.s35 zo zt zv zk
 simp -dsimp -implicitDefEqProofs (maxSteps:=2000000) (disch:=first|assumption|omega|simp only[nx];omega|(repeat apply zfp);assumption|simp only[smA];done|simp[oneCell,znp]) only[go_sem,hw1,hld]
 try rw[hw1]
 apply callV_of (e:=rfl)
 . exact hru
 rintro v w2 ⟨g2,hv⟩
 have O12:=O1.keep g2.1
 have gg2:=g1.trans g2
 have hl2:=hls w2 O12
 rcases hv with ⟨he,rfl⟩|⟨he,hat,hs,ha,b,r,hNL,rfl,hLog,hI⟩
 . rw[if_neg he]at hE
   have h0:¬ ((runI s L).2.1:Int)=0:=by omega
   rw[hE,if_neg h0]at hN
   rw[hE,hN]
   generalize (runI s L).2.1=E at *
   generalize (runI s L).1=A at *
   simp -dsimp -implicitDefEqProofs (maxSteps:=2000000) (disch:=first|assumption|omega|simp only[nx];omega|(repeat apply zfp);assumption|simp only[smA];done|simp[oneCell,znp]) only[go_sem,h0]
   exact⟨gg2,_,rfl,RowS.nil 3 _ _⟩
 have hX:=(run_log he).2.2
 rw[hX]at hLog hI
 have hk:LogOk (logOf L):=logOf_ok L x0 x0_ok
 rw[if_pos he]at hE
 simp -dsimp -implicitDefEqProofs (maxSteps:=2000000) (disch:=first|assumption|omega|simp only[nx];omega|(repeat apply zfp);assumption|simp only[smA];done|simp[oneCell,znp]) only[go_sem]
 apply callV_of (e:=rfl)
 . exact isIndex_ok bag 32 (by omega) w2
 rintro _ _ ⟨rfl,rfl⟩
 have e32:(32:Int) - 1=31:=rfl
 rw[e32]
 cases h1:inR 0 bag 31 with
 | false =>
  rw[h1,if_neg (by intro z;cases z)]at hE
  rw[hE,if_neg (by omega)]at hN
  rw[hE,hN]
  simp -dsimp -implicitDefEqProofs (maxSteps:=2000000) (disch:=first|assumption|omega|simp only[nx];omega|(repeat apply zfp);assumption|simp only[smA];done|simp[oneCell,znp]) only[go_sem]
  exact⟨gg2,_,rfl,RowS.nil 3 _ _⟩
 | true =>
 rw[h1,if_pos rfl]at hE
 obtain⟨n,rfl⟩:∃ n:Nat,bag=n:=⟨bag.toNat,by rw[inR_iff]at h1;omega⟩
 have hn:n < 32:=by rw[inR_iff]at h1;omega
 rw[Int.toNat_natCast]at hE hN
 have hcR:=hLog.cell hn 0 (by omega) rfl rfl
 rw[Nat.add_zero]at hcR
 have ht:n < (logOf L).trails.length:=by rw[hk.trails];exact hn
 have hcT:w2.cell? ⟨b,163+n,none⟩=some (.int .i64 ((logOf L).trail n:Int)):=by
  have:=hLog.own.cell (o:=163+n) (log_trail hk ht) rfl
  rw[this]
  simp[LogN.trail,List.getD,ht]
 have htl:=trail_lt hI hk hn
 have hbl:=fun (o z:Nat)=>indexA_eq (z:=z) (len:=32) (b:=b) (o:=o) (k:=.i64) hn
 by_cases hr:((logOf L).bag n).room=0
 . have hrI:(((logOf L).bag n).room:Int)=0:=by omega
   rw[if_pos hr]at hE
   rw[hE,if_neg (by omega)]at hN
   rw[hE,hN]
   simp -dsimp -implicitDefEqProofs (maxSteps:=2000000) (disch:=first|assumption|omega|simp only[nx];omega|(repeat apply zfp);assumption|simp only[smA];done|simp[oneCell,znp]) only[go_sem,hbl,hcR,hrI,Nat.zero_add]
   exact⟨gg2,_,rfl,RowS.nil 3 _ _⟩
 have hrI:¬ (((logOf L).bag n).room:Int)=0:=by omega
 rw[if_neg hr]at hE
 rw[hE,if_pos rfl]at hN
 rw[hE,hN]
 have hgr2:=hgr hs ((logOf L).trail n) (by omega) w2 gg2
 have f2:=gg2.2
 have hleW:WLe w2 w2:=(Grown.refl f2).1.wle f2
 generalize (logOf L).trail n=TR at *
 simp -dsimp -implicitDefEqProofs (maxSteps:=2000000) (disch:=first|assumption|omega|simp only[nx];omega|(repeat apply zfp);assumption|simp only[smA];done|simp[oneCell,znp]) only[go_sem,hbl,hcR,hrI,hl2,hcT,hss,Nat.zero_add,Nat.mul_one]
 apply callV_of (e:=rfl)
 . exact hgr2
 rintro v w3 ⟨g3,hR⟩
 have hle3:WLe w2 w3:=g3.1.wle f2
 obtain⟨p3,c3,rfl,_⟩:=(RowS.arr hR (by have:=leastN_len (P:=reachB s TR) (str_staff hs).2.1;omega)).open
 have hs3:=same_s12V p3 (natsL (leastN (reachB s TR) s.staff.length)).length c3
 simp -dsimp -implicitDefEqProofs (maxSteps:=2000000) (disch:=first|assumption|omega|simp only[nx];omega|(repeat apply zfp);assumption|simp only[smA];done|simp[oneCell,znp]) only[go_sem,hle3,hs3]
 exact⟨gg2.trans g3,_,rfl,AOwn.weak hR gg2.1.next⟩
end Go.Proofs

namespace Go.Sim
open Go Go.RowKit
section
variable {P:Program} {told:ToldF} {d:Option Tmp} {ty0:TypeId} {pos:String} {af:Array Edge} {gd:Option (Tmp × Bool)} {t:Tmps} {w:AW} {K:Tmps->AW->Prop}
end
end Go.Sim

namespace Go.Proofs
open Go Go.RowKit Go.Sim
set_option maxRecDepth 100000
noncomputable def Tryz.s108r3:Array Oper:=match Tryz.f108.body with
 | some c=>regionAt 3 c
 | none=>#[]
noncomputable def Tryz.s108r7:Array Oper:=match Tryz.f108.body with
 | some c=>regionAt 7 c
 | none=>#[]
noncomputable def Tryz.s108r8:Array Oper:=match Tryz.f108.body with
 | some c=>regionAt 8 c
 | none=>#[]
noncomputable def Tryz.s108r17:Array Oper:=match Tryz.f108.body with
 | some c=>regionAt 17 c
 | none=>#[]
def Tryz.s108_c120:SC:=(.ops false [zo 120 (.move (zv 4)) 115,zo 121 (.fieldAddr 62 (zv 3) 2) 0,zo 122 (.load 3 (zv 121)) 3,zo 123 (.load 47 (zv 6)) 47,zo 124 (.indexAddr 115 (zv 120) (zv 122)) 0,zon (.store 47 (zv 124) (zv 123)) 0])
noncomputable def Tryz.s108_c26:SC :=
 (.seq
     (.raw (.region 3 Tryz.s108r3 true))
     (.seq
      (.seq
       (.ops false [
         ⟨⟨(some 26),.fieldAddr 62 (.tmp 3) 1, 0, "",⟨[]⟩,none⟩,none,false⟩,
         ⟨⟨(some 27),.load 3 (.tmp 26), 3, "",⟨[]⟩,none⟩,none,false⟩])
       (.block 0
        (.seq
         (.ops false [
           ⟨⟨(some 31),.binOp .eql 3 (.tmp 27) (.const (.int .i64 1)) 3, 4, "",⟨[]⟩,none⟩,none,false⟩,
           ⟨⟨(some 30),.assign (.tmp 31), 4, "",⟨[]⟩,none⟩,none,false⟩])
         (.cond (.tmp 30)
          (.seq
           (.raw (.region 7 Tryz.s108r7 true))
           (.seq
            (.raw (.region 8 Tryz.s108r8 true))
            (.ops true [
              ⟨⟨(some 63),.move (.tmp 5),24, "",⟨[]⟩,none⟩,none,true⟩,
              ⟨⟨(some 64),.fieldAddr 62 (.tmp 3) 2, 0, "",⟨[]⟩,none⟩,none,true⟩,
              ⟨⟨(some 65),.load 3 (.tmp 64), 3, "",⟨[]⟩,none⟩,none,true⟩,
              ⟨⟨(some 66),.fieldAddr 62 (.tmp 3) 3, 0, "",⟨[]⟩,none⟩,none,true⟩,
              ⟨⟨(some 67),.load 3 (.tmp 66), 3, "",⟨[]⟩,none⟩,none,true⟩,
              ⟨⟨(some 68),.binOp .shl 3 (.const (.int .i64 1)) (.tmp 67) 3, 3, "",⟨[]⟩,none⟩,none,true⟩,
              ⟨⟨(some 69),.indexAddr 24 (.tmp 63) (.tmp 65), 0, "",⟨[]⟩,none⟩,none,true⟩,
              ⟨⟨none,.store 3 (.tmp 69) (.tmp 68), 0, "",⟨[]⟩,none⟩,none,false⟩])))
          (.seq
           (.ops false [
             ⟨⟨(some 71),.binOp .eql 3 (.tmp 27) (.const (.int .i64 2)) 3, 4, "",⟨[]⟩,none⟩,none,false⟩,
             ⟨⟨(some 70),.assign (.tmp 71), 4, "",⟨[]⟩,none⟩,none,false⟩])
           (.cond (.tmp 70)
            (.seq
             (.ops false [
               ⟨⟨(some 72),.fieldAddr 62 (.tmp 3) 3, 0, "",⟨[]⟩,none⟩,none,false⟩,
               ⟨⟨(some 73),.load 3 (.tmp 72), 3, "",⟨[]⟩,none⟩,none,false⟩,
               ⟨⟨(some 74),.fieldAddr 47 (.tmp 6) 0, 0, "",⟨[]⟩,none⟩,none,false⟩,
               ⟨⟨none,.store 3 (.tmp 74) (.tmp 73), 0, "",⟨[]⟩,none⟩,none,false⟩])
             (.ops true [
               ⟨⟨(some 75),.move (.tmp 5),24, "",⟨[]⟩,none⟩,none,true⟩,
               ⟨⟨(some 76),.fieldAddr 62 (.tmp 3) 2, 0, "",⟨[]⟩,none⟩,none,true⟩,
               ⟨⟨(some 77),.load 3 (.tmp 76), 3, "",⟨[]⟩,none⟩,none,true⟩,
               ⟨⟨(some 78),.move (.tmp 5),24, "",⟨[]⟩,none⟩,none,true⟩,
               ⟨⟨(some 79),.fieldAddr 62 (.tmp 3) 2, 0, "",⟨[]⟩,none⟩,none,true⟩,
               ⟨⟨(some 80),.load 3 (.tmp 79), 3, "",⟨[]⟩,none⟩,none,true⟩,
               ⟨⟨(some 81),.indexAddr 24 (.tmp 78) (.tmp 80), 0, "",⟨[]⟩,none⟩,none,true⟩,
               ⟨⟨(some 82),.load 3 (.tmp 81), 3, "",⟨[]⟩,none⟩,none,true⟩,
               ⟨⟨(some 83),.fieldAddr 62 (.tmp 3) 3, 0, "",⟨[]⟩,none⟩,none,true⟩,
               ⟨⟨(some 84),.load 3 (.tmp 83), 3, "",⟨[]⟩,none⟩,none,true⟩,
               ⟨⟨(some 85),.binOp .shl 3 (.const (.int .i64 1)) (.tmp 84) 3, 3, "",⟨[]⟩,none⟩,none,true⟩,
               ⟨⟨(some 86),.call ⟨.value (.func 89),⟨[(.tmp 82),(.tmp 85)]⟩,⟨[3,3]⟩⟩, 3, "",⟨[]⟩,none⟩,none,true⟩,
               ⟨⟨(some 87),.indexAddr 24 (.tmp 75) (.tmp 77), 0, "",⟨[]⟩,none⟩,none,true⟩,
               ⟨⟨none,.store 3 (.tmp 87) (.tmp 86), 0, "",⟨[]⟩,none⟩,none,false⟩]))
            (.seq
             (.ops false [
               ⟨⟨(some 89),.binOp .eql 3 (.tmp 27) (.const (.int .i64 3)) 3, 4, "",⟨[]⟩,none⟩,none,false⟩,
               ⟨⟨(some 88),.assign (.tmp 89), 4, "",⟨[]⟩,none⟩,none,false⟩])
             (.cond (.tmp 88)
              (.ops true [
                ⟨⟨(some 90),.move (.tmp 5),24, "",⟨[]⟩,none⟩,none,true⟩,
                ⟨⟨(some 91),.fieldAddr 62 (.tmp 3) 2, 0, "",⟨[]⟩,none⟩,none,true⟩,
                ⟨⟨(some 92),.load 3 (.tmp 91), 3, "",⟨[]⟩,none⟩,none,true⟩,
                ⟨⟨(some 93),.fieldAddr 47 (.tmp 6) 0, 0, "",⟨[]⟩,none⟩,none,true⟩,
                ⟨⟨(some 94),.load 3 (.tmp 93), 3, "",⟨[]⟩,none⟩,none,true⟩,
                ⟨⟨(some 95),.binOp .shl 3 (.const (.int .i64 1)) (.tmp 94) 3, 3, "",⟨[]⟩,none⟩,none,true⟩,
                ⟨⟨(some 96),.indexAddr 24 (.tmp 90) (.tmp 92), 0, "",⟨[]⟩,none⟩,none,true⟩,
                ⟨⟨none,.store 3 (.tmp 96) (.tmp 95), 0, "",⟨[]⟩,none⟩,none,false⟩])
              (.seq
               (.ops false [
                 ⟨⟨(some 98),.binOp .eql 3 (.tmp 27) (.const (.int .i64 4)) 3, 4, "",⟨[]⟩,none⟩,none,false⟩,
                 ⟨⟨(some 97),.assign (.tmp 98), 4, "",⟨[]⟩,none⟩,none,false⟩])
               (.cond (.tmp 97)
                (.seq
                 (.ops false [
                   ⟨⟨(some 99),.fieldAddr 62 (.tmp 3) 6, 0, "",⟨[]⟩,none⟩,none,false⟩,
                   ⟨⟨(some 100),.load 3 (.tmp 99), 3, "",⟨[]⟩,none⟩,none,false⟩,
                   ⟨⟨(some 101),.fieldAddr 47 (.tmp 6) 1, 0, "",⟨[]⟩,none⟩,none,false⟩,
                   ⟨⟨none,.store 3 (.tmp 101) (.tmp 100), 0, "",⟨[]⟩,none⟩,none,false⟩])
                 (.seq
                  (.raw (.region 17 Tryz.s108r17 true))
                  (.ops true [
                    ⟨⟨(some 113),.move (.tmp 5),24, "",⟨[]⟩,none⟩,none,true⟩,
                    ⟨⟨(some 114),.fieldAddr 62 (.tmp 3) 2, 0, "",⟨[]⟩,none⟩,none,true⟩,
                    ⟨⟨(some 115),.load 3 (.tmp 114), 3, "",⟨[]⟩,none⟩,none,true⟩,
                    ⟨⟨(some 116),.fieldAddr 47 (.tmp 6) 0, 0, "",⟨[]⟩,none⟩,none,true⟩,
                    ⟨⟨(some 117),.load 3 (.tmp 116), 3, "",⟨[]⟩,none⟩,none,true⟩,
                    ⟨⟨(some 118),.binOp .shl 3 (.const (.int .i64 1)) (.tmp 117) 3, 3, "",⟨[]⟩,none⟩,none,true⟩,
                    ⟨⟨(some 119),.indexAddr 24 (.tmp 113) (.tmp 115), 0, "",⟨[]⟩,none⟩,none,true⟩,
                    ⟨⟨none,.store 3 (.tmp 119) (.tmp 118), 0, "",⟨[]⟩,none⟩,none,false⟩])))
                (.ops false [
                  ⟨⟨(some 28),.fieldAddr 47 (.tmp 6) 0, 0, "",⟨[]⟩,none⟩,none,false⟩,
                  ⟨⟨none,.store 3 (.tmp 28) (.const (.int .i64 0)), 0, "",⟨[]⟩,none⟩,none,false⟩,
                  ⟨⟨(some 29),.fieldAddr 47 (.tmp 6) 1, 0, "",⟨[]⟩,none⟩,none,false⟩,
                  ⟨⟨none,.store 3 (.tmp 29) (.const (.int .i64 0)), 0, "",⟨[]⟩,none⟩,none,false⟩])))))))))))
      Tryz.s108_c120))
noncomputable def Tryz.s108x:SC :=
 (.seq
  (.ops false [
    ⟨⟨(some 3),.box 62 (.tmp 1), 0, "",⟨[]⟩,none⟩,none,false⟩])
  (.seq
   (.ops true [
     ⟨⟨(some 7),.move (.tmp 0),112, "",⟨[]⟩,none⟩,none,true⟩,
     ⟨⟨(some 8),.nilCheck (.tmp 7), 0, "",⟨[]⟩,none⟩,none,true⟩,
     ⟨⟨(some 9),.fieldAddr 117 (.tmp 8) 1, 0, "",⟨[]⟩,none⟩,none,true⟩,
     ⟨⟨(some 10),.load 115 (.tmp 9),115, "",⟨[]⟩,none⟩,none,true⟩,
     ⟨⟨(some 11),.move (.tmp 0),112, "",⟨[]⟩,none⟩,none,true⟩,
     ⟨⟨(some 12),.nilCheck (.tmp 11), 0, "",⟨[]⟩,none⟩,none,true⟩,
     ⟨⟨(some 13),.fieldAddr 117 (.tmp 12) 4, 0, "",⟨[]⟩,none⟩,none,true⟩,
     ⟨⟨(some 14),.load 24 (.tmp 13),24, "",⟨[]⟩,none⟩,none,true⟩,
     ⟨⟨(some 4),.assign (.tmp 10),115, "",⟨[]⟩,none⟩,none,true⟩,
     ⟨⟨(some 5),.assign (.tmp 14),24, "",⟨[]⟩,none⟩,none,true⟩])
   (.seq
    (.ops false [
      ⟨⟨(some 15),.move (.tmp 4),115, "",⟨[]⟩,none⟩,none,false⟩,
      ⟨⟨(some 16),.fieldAddr 62 (.tmp 3) 2, 0, "",⟨[]⟩,none⟩,none,false⟩,
      ⟨⟨(some 17),.load 3 (.tmp 16), 3, "",⟨[]⟩,none⟩,none,false⟩,
      ⟨⟨(some 18),.indexAddr 115 (.tmp 15) (.tmp 17), 0, "",⟨[]⟩,none⟩,none,false⟩,
      ⟨⟨(some 19),.load 47 (.tmp 18),47, "",⟨[]⟩,none⟩,none,false⟩,
      ⟨⟨(some 6),.alloc 47, 0, "",⟨[]⟩,none⟩,none,false⟩,
      ⟨⟨none,.store 47 (.tmp 6) (.tmp 19), 0, "",⟨[]⟩,none⟩,none,false⟩])
    Tryz.s108_c26)))
def Tryz.x108r3:List XOp:=[
 ⟨⟨⟨(some 20),.fieldAddr 62 (.tmp 3) 4, 0, "",⟨[]⟩,none⟩,none,false⟩,0,0,false,none⟩,
 ⟨⟨⟨(some 21),.load 3 (.tmp 20), 3, "",⟨[]⟩,none⟩,none,false⟩,1,0,false,some (3,(.tmp 20))⟩,
 ⟨⟨⟨(some 22),.fieldAddr 62 (.tmp 3) 5, 0, "",⟨[]⟩,none⟩,none,false⟩,2,0,false,none⟩,
 ⟨⟨⟨(some 23),.load 3 (.tmp 22), 3, "",⟨[]⟩,none⟩,none,false⟩,3,0,false,some (3,(.tmp 22))⟩,
 ⟨⟨⟨(some 24),.fieldAddr 47 (.tmp 6) 3, 0, "",⟨[]⟩,none⟩,none,false⟩,4,0,false,none⟩,
 ⟨⟨⟨none,.store 3 (.tmp 24) (.tmp 21), 0, "",⟨[]⟩,none⟩,none,false⟩,5,19,true,none⟩,
 ⟨⟨⟨(some 25),.fieldAddr 47 (.tmp 6) 4, 0, "",⟨[]⟩,none⟩,none,false⟩,6,0,false,none⟩,
 ⟨⟨⟨none,.store 3 (.tmp 25) (.tmp 23), 0, "",⟨[]⟩,none⟩,none,false⟩,7,127,true,none⟩]
def Tryz.x108r7:List XOp:=[
 ⟨⟨⟨(some 32),.fieldAddr 62 (.tmp 3) 3, 0, "",⟨[]⟩,none⟩,none,false⟩,0,0,false,none⟩,
 ⟨⟨⟨(some 33),.load 3 (.tmp 32), 3, "",⟨[]⟩,none⟩,none,false⟩,1,0,false,some (3,(.tmp 32))⟩,
 ⟨⟨⟨(some 34),.fieldAddr 62 (.tmp 3) 6, 0, "",⟨[]⟩,none⟩,none,false⟩,2,0,false,none⟩,
 ⟨⟨⟨(some 35),.load 3 (.tmp 34), 3, "",⟨[]⟩,none⟩,none,false⟩,3,0,false,some (3,(.tmp 34))⟩,
 ⟨⟨⟨(some 36),.fieldAddr 62 (.tmp 3) 7, 0, "",⟨[]⟩,none⟩,none,false⟩,4,0,false,none⟩,
 ⟨⟨⟨(some 37),.load 3 (.tmp 36), 3, "",⟨[]⟩,none⟩,none,false⟩,5,0,false,some (3,(.tmp 36))⟩,
 ⟨⟨⟨(some 38),.fieldAddr 47 (.tmp 6) 0, 0, "",⟨[]⟩,none⟩,none,false⟩,6,0,false,none⟩,
 ⟨⟨⟨none,.store 3 (.tmp 38) (.tmp 33), 0, "",⟨[]⟩,none⟩,none,false⟩,7,67,true,none⟩,
 ⟨⟨⟨(some 39),.fieldAddr 47 (.tmp 6) 1, 0, "",⟨[]⟩,none⟩,none,false⟩,8,0,false,none⟩,
 ⟨⟨⟨none,.store 3 (.tmp 39) (.tmp 35), 0, "",⟨[]⟩,none⟩,none,false⟩,9,463,true,none⟩,
 ⟨⟨⟨(some 40),.fieldAddr 47 (.tmp 6) 2, 0, "",⟨[]⟩,none⟩,none,false⟩,10,0,false,none⟩,
 ⟨⟨⟨none,.store 3 (.tmp 40) (.tmp 37), 0, "",⟨[]⟩,none⟩,none,false⟩,11,2047,true,none⟩]
def Tryz.x108r8:List XOp:=[
 ⟨⟨⟨(some 41),.move (.tmp 0),112, "",⟨[]⟩,none⟩,none,false⟩,0,0,false,none⟩,
 ⟨⟨⟨(some 42),.move (.tmp 0),112, "",⟨[]⟩,none⟩,none,false⟩,1,0,false,none⟩,
 ⟨⟨⟨(some 43),.move (.tmp 0),112, "",⟨[]⟩,none⟩,none,false⟩,2,0,false,none⟩,
 ⟨⟨⟨(some 44),.nilCheck (.tmp 43), 0, "",⟨[]⟩,none⟩,none,false⟩,3,0,false,none⟩,
 ⟨⟨⟨(some 45),.fieldAddr 117 (.tmp 44) 2, 0, "",⟨[]⟩,none⟩,none,false⟩,4,0,false,none⟩,
 ⟨⟨⟨(some 46),.load 24 (.tmp 45),24, "",⟨[]⟩,none⟩,none,false⟩,5,0,false,some (24,(.tmp 45))⟩,
 ⟨⟨⟨(some 47),.fieldAddr 62 (.tmp 3) 2, 0, "",⟨[]⟩,none⟩,none,false⟩,6,0,false,none⟩,
 ⟨⟨⟨(some 48),.load 3 (.tmp 47), 3, "",⟨[]⟩,none⟩,none,false⟩,7,0,false,some (3,(.tmp 47))⟩,
 ⟨⟨⟨(some 49),.buildSlice 24 1 ⟨[(0,(.tmp 48))]⟩,24, "",⟨[]⟩,none⟩,none,false⟩,8,0,false,none⟩,
 ⟨⟨⟨(some 51),.move (.tmp 0),112, "",⟨[]⟩,none⟩,none,false⟩,10,0,false,none⟩,
 ⟨⟨⟨(some 52),.nilCheck (.tmp 51), 0, "",⟨[]⟩,none⟩,none,false⟩,11,0,false,none⟩,
 ⟨⟨⟨(some 53),.fieldAddr 117 (.tmp 52) 3, 0, "",⟨[]⟩,none⟩,none,false⟩,12,0,false,none⟩,
 ⟨⟨⟨(some 54),.load 24 (.tmp 53),24, "",⟨[]⟩,none⟩,none,false⟩,13,0,false,some (24,(.tmp 53))⟩,
 ⟨⟨⟨(some 55),.fieldAddr 62 (.tmp 3) 6, 0, "",⟨[]⟩,none⟩,none,false⟩,14,0,false,none⟩,
 ⟨⟨⟨(some 56),.load 3 (.tmp 55), 3, "",⟨[]⟩,none⟩,none,false⟩,15,0,false,some (3,(.tmp 55))⟩,
 ⟨⟨⟨(some 57),.buildSlice 24 1 ⟨[(0,(.tmp 56))]⟩,24, "",⟨[]⟩,none⟩,none,false⟩,16,0,false,none⟩,
 ⟨⟨⟨(some 50),.call ⟨.builtin .append,⟨[(.tmp 46),(.tmp 49)]⟩,⟨[24,24]⟩⟩,24, "",⟨[]⟩,none⟩,none,false⟩,9,508,true,none⟩,
 ⟨⟨⟨(some 58),.call ⟨.builtin .append,⟨[(.tmp 54),(.tmp 57)]⟩,⟨[24,24]⟩⟩,24, "",⟨[]⟩,none⟩,none,false⟩,17,131068,true,none⟩,
 ⟨⟨⟨(some 59),.nilCheck (.tmp 41), 0, "",⟨[]⟩,none⟩,none,false⟩,18,0,false,none⟩,
 ⟨⟨⟨(some 60),.fieldAddr 117 (.tmp 59) 2, 0, "",⟨[]⟩,none⟩,none,false⟩,19,0,false,none⟩,
 ⟨⟨⟨none,.store 24 (.tmp 60) (.tmp 50), 0, "",⟨[]⟩,none⟩,none,false⟩,20,1048573,true,none⟩,
 ⟨⟨⟨(some 61),.nilCheck (.tmp 42), 0, "",⟨[]⟩,none⟩,none,false⟩,21,0,false,none⟩,
 ⟨⟨⟨(some 62),.fieldAddr 117 (.tmp 61) 3, 0, "",⟨[]⟩,none⟩,none,false⟩,22,0,false,none⟩,
 ⟨⟨⟨none,.store 24 (.tmp 62) (.tmp 58), 0, "",⟨[]⟩,none⟩,none,false⟩,23,8388607,true,none⟩]
def Tryz.x108r17:List XOp:=[
 ⟨⟨⟨(some 102),.move (.tmp 0),112, "",⟨[]⟩,none⟩,none,false⟩,0,0,false,none⟩,
 ⟨⟨⟨(some 103),.move (.tmp 0),112, "",⟨[]⟩,none⟩,none,false⟩,1,0,false,none⟩,
 ⟨⟨⟨(some 104),.nilCheck (.tmp 103), 0, "",⟨[]⟩,none⟩,none,false⟩,2,0,false,none⟩,
 ⟨⟨⟨(some 105),.fieldAddr 117 (.tmp 104) 3, 0, "",⟨[]⟩,none⟩,none,false⟩,3,0,false,none⟩,
 ⟨⟨⟨(some 106),.load 24 (.tmp 105),24, "",⟨[]⟩,none⟩,none,false⟩,4,0,false,some (24,(.tmp 105))⟩,
 ⟨⟨⟨(some 107),.fieldAddr 62 (.tmp 3) 6, 0, "",⟨[]⟩,none⟩,none,false⟩,5,0,false,none⟩,
 ⟨⟨⟨(some 108),.load 3 (.tmp 107), 3, "",⟨[]⟩,none⟩,none,false⟩,6,0,false,some (3,(.tmp 107))⟩,
 ⟨⟨⟨(some 109),.buildSlice 24 1 ⟨[(0,(.tmp 108))]⟩,24, "",⟨[]⟩,none⟩,none,false⟩,7,0,false,none⟩,
 ⟨⟨⟨(some 110),.call ⟨.builtin .append,⟨[(.tmp 106),(.tmp 109)]⟩,⟨[24,24]⟩⟩,24, "",⟨[]⟩,none⟩,none,false⟩,8,254,true,none⟩,
 ⟨⟨⟨(some 111),.nilCheck (.tmp 102), 0, "",⟨[]⟩,none⟩,none,false⟩,9,0,false,none⟩,
 ⟨⟨⟨(some 112),.fieldAddr 117 (.tmp 111) 3, 0, "",⟨[]⟩,none⟩,none,false⟩,10,0,false,none⟩,
 ⟨⟨⟨none,.store 24 (.tmp 112) (.tmp 110), 0, "",⟨[]⟩,none⟩,none,false⟩,11,2047,true,none⟩]
theorem Tryz.s108x_eq:Tryz.f108.body.map (sOfX [3,7,8,17])=some Tryz.s108x:=by kernel_rfl
theorem Tryz.x108r3_eq:xRegion Tryz.s108r3=some Tryz.x108r3:=by kernel_rfl
theorem Tryz.x108r3_kinds:xkinds Tryz.x108r3=true:=by kernel_rfl
theorem Tryz.x108r7_eq:xRegion Tryz.s108r7=some Tryz.x108r7:=by kernel_rfl
theorem Tryz.x108r7_kinds:xkinds Tryz.x108r7=true:=by kernel_rfl
theorem Tryz.x108r8_eq:xRegion Tryz.s108r8=some Tryz.x108r8:=by kernel_rfl
theorem Tryz.x108r8_kinds:xkinds Tryz.x108r8=true:=by kernel_rfl
theorem Tryz.x108r17_eq:xRegion Tryz.s108r17=some Tryz.x108r17:=by kernel_rfl
theorem Tryz.x108r17_kinds:xkinds Tryz.x108r17=true:=by kernel_rfl
end Go.Proofs
