/- This program: its code, contracts, numbers, part 4. -/
import Derived.Test.YtlilncofnckgdaaPac
import Derived.Test.YtlilncofnckgdaaPab
import Derived.Test.YtlilncofnckgdaaNa
import Derived.Test.YtlilncofnckgdaaNc
import Derived.Test.YtlilncofnckgdaaCz
import Derived.Test.YtlilncofnckgdaaPaa
import Derived.Test.YtlilncofnckgdaaChecked
import Derived.Test.YtlilncofnckgdaaSh
set_option linter.unusedVariables false
set_option linter.unusedSimpArgs false
namespace Go.Proofs
open Go Go.RowKit Go.Sim
set_option maxRecDepth 100000
def Cutt (w : AW) (v : Value) (n : Nat) : Prop := n = 0 ∨ ∃ b o c, v = .slice (some ⟨b, o, none⟩) n c ∧ n ≤ c ∧ b < w.next ∧ ((∃ cs, w.blk b = some (.given cs)) ∨ ∃ cells e r, w.blk b = some (.cells cells e r 0 1))
theorem Cutt.grown {w w' : AW} {v : Value} {n : Nat} (h : Cutt w v n) (g : Keep w.next w w') : Cutt w' v n := by
  rcases h with q | ⟨b, o, c, e, hc, hb, hk⟩
  · exact .inl q
  · have := g.next
    exact .inr ⟨b, o, c, e, hc, by omega, by rw [g.blk b hb]; exact hk⟩
theorem Cutt.drop {w : AW} {v : Value} {L : List Int} (h : Cutt w v L.length) (hA : ArrOf w 1 icells v L) {a : Nat} (ha : a < L.length) :
    ∃ p c, sliceV w 1 v (some (.int .i64 (a : Int))) none = some (.slice p (L.length - a) c) ∧ ArrOf w 1 icells (.slice p (L.length - a) c) (L.drop a) := by
  rcases h with q | ⟨b, o, c, rfl, hc, hb, hk⟩
  · omega
  obtain ⟨p', n, cap, e, hn, hc', hm, hat⟩ := hA
  injection e with e1 e2 e3
  subst e1 e2 e3
  obtain ⟨b', o', e, hb', hcell⟩ := hat (by omega)
  injection e with e
  injection e with e1 e2
  subst e1 e2
  refine ⟨some ⟨b, o + a * 1, none⟩, c - a, ?_, ⟨_, _, _, rfl, by rw [List.length_map, List.length_drop], by omega, by omega, fun _ => ⟨b, o + a * 1, rfl, hb, fun i j r x hi hx => ?_⟩⟩⟩
  · show sliceV w 1 (.slice (some ⟨b, o, none⟩) L.length c) (some (.int .i64 (Int.ofNat a))) none = _
    have b1 : Nat.ble a L.length = true := Nat.ble_eq_true_of_le (by omega)
    have b2 : Nat.ble L.length c = true := Nat.ble_eq_true_of_le hc
    have b3 : Nat.beq 1 1 = true := rfl
    rcases hk with ⟨cs, hk⟩ | ⟨cells, e, r, hk⟩
    · have b4 : Nat.beq c a = false := Bool.eq_false_iff.2 fun q => by have := Nat.eq_of_beq_eq_true q; omega
      simp only [sliceV, natOr, b1, b2, hk, Bool.and_self, b4, cond_false]
    · simp only [sliceV, natOr, b1, b2, hk, Bool.and_self, b3, Bool.true_or]
  · have hi' : (List.map icells L)[a + i]? = some r := by
      rw [← hi, List.getElem?_map, List.getElem?_map, List.getElem?_drop]
    have := hcell (a + i) j r x hi' hx
    rw [show o + (a + i) * 1 + j = o + a * 1 + i * 1 + j by omega] at this
    exact this
end Go.Proofs

namespace Go.Proofs
open Go Go.RowKit Go.Sim
set_option maxRecDepth 100000
def Try.s75 : SC := (.seq (.ops false [⟨⟨(some 3),.box 70 (.tmp 0),0,"",⟨[]⟩,none⟩,none,false⟩,⟨⟨(some 4),.box 3 (.tmp 1),0,"",⟨[]⟩,none⟩,none,false⟩,⟨⟨(some 5),.box 3 (.tmp 2),0,"",⟨[]⟩,none⟩,none,false⟩,⟨⟨(some 6),.assign (.const .nilFunc),89,"",⟨[]⟩,none⟩,none,false⟩]) (.seq (.ops false [⟨⟨(some 7),.makeFunc (.func 111) ⟨[]⟩ ⟨[(.tmp 3),(.tmp 4),(.tmp 5)]⟩,88,"",⟨[]⟩,none⟩,none,false⟩,⟨⟨(some 6),.assign (.tmp 7),89,"",⟨[]⟩,none⟩,none,false⟩]) .ret))
def Try.s111 : SC := (.seq (.ops false [⟨⟨(some 4),.box 86 (.tmp 0),0,"",⟨[]⟩,none⟩,none,false⟩]) (.seq (.ops false [⟨⟨(some 5),.alloc 73,0,"",⟨[]⟩,none⟩,none,false⟩]) (.seq (.ops false [⟨⟨(some 6),.alloc 55,0,"",⟨[]⟩,none⟩,none,false⟩]) (.seq (.ops false [⟨⟨(some 7),.makeFunc (.func 112) ⟨[]⟩ ⟨[(.tmp 1),(.tmp 4),(.tmp 5),(.tmp 6)]⟩,55,"",⟨[]⟩,none⟩,none,false⟩,⟨⟨none,.store 55 (.tmp 6) (.tmp 7),0,"",⟨[]⟩,none⟩,none,false⟩]) (.ops false [⟨⟨(some 8),.load 55 (.tmp 6),55,"",⟨[]⟩,none⟩,none,false⟩,⟨⟨(some 9),.load 3 (.tmp 2),3,"",⟨[]⟩,none⟩,none,false⟩,⟨⟨(some 10),.load 3 (.tmp 3),3,"",⟨[]⟩,none⟩,none,false⟩,⟨⟨(some 11),.call ⟨.value (.tmp 8),⟨[(.const (.int .i64 0)),(.tmp 9),(.tmp 10)]⟩,⟨[3,3,3]⟩⟩,4,"",⟨[]⟩,none⟩,none,false⟩])))))
def Try.s112 : SC := (.seq (.ops false [⟨⟨(some 10),.assign (.const (.bool false)),4,"",⟨[]⟩,none⟩,none,false⟩]) (.seq (.seq (.ops false [⟨⟨(some 13),.move (.tmp 0),3,"",⟨[]⟩,none⟩,none,false⟩,⟨⟨(some 14),.load 70 (.tmp 3),70,"",⟨[]⟩,none⟩,none,false⟩,⟨⟨(some 15),.nilCheck (.tmp 14),0,"",⟨[]⟩,none⟩,none,false⟩,⟨⟨(some 16),.fieldAddr 119 (.tmp 15) 0,0,"",⟨[]⟩,none⟩,none,false⟩,⟨⟨(some 17),.fieldAddr 24 (.tmp 16) 0,0,"",⟨[]⟩,none⟩,none,false⟩,⟨⟨(some 18),.load 22 (.tmp 17),22,"",⟨[]⟩,none⟩,none,false⟩,⟨⟨(some 19),.call ⟨.builtin .len,⟨[(.tmp 18)]⟩,⟨[22]⟩⟩,3,"",⟨[]⟩,none⟩,none,false⟩,⟨⟨(some 20),.binOp .eql 3 (.tmp 13) (.tmp 19) 3,4,"",⟨[]⟩,none⟩,none,false⟩]) (.cond (.tmp 20) (.seq (.ops false [⟨⟨(some 21),.load 86 (.tmp 4),86,"",⟨[]⟩,none⟩,none,false⟩,⟨⟨(some 22),.load 73 (.tmp 5),73,"",⟨[]⟩,none⟩,none,false⟩,⟨⟨(some 23),.call ⟨.value (.tmp 21),⟨[(.tmp 22)]⟩,⟨[73]⟩⟩,4,"",⟨[]⟩,none⟩,none,false⟩,⟨⟨(some 10),.assign (.tmp 23),4,"",⟨[]⟩,none⟩,none,false⟩]) .ret) .skip)) (.seq (.ops false [⟨⟨(some 24),.load 70 (.tmp 3),70,"",⟨[]⟩,none⟩,none,false⟩,⟨⟨(some 25),.nilCheck (.tmp 24),0,"",⟨[]⟩,none⟩,none,false⟩,⟨⟨(some 26),.fieldAddr 119 (.tmp 25) 0,0,"",⟨[]⟩,none⟩,none,false⟩,⟨⟨(some 27),.fieldAddr 24 (.tmp 26) 0,0,"",⟨[]⟩,none⟩,none,false⟩,⟨⟨(some 28),.load 22 (.tmp 27),22,"",⟨[]⟩,none⟩,none,false⟩,⟨⟨(some 29),.move (.tmp 0),3,"",⟨[]⟩,none⟩,none,false⟩,⟨⟨(some 30),.binOp .add 3 (.tmp 29) (.const (.int .i64 1)) 3,3,"",⟨[]⟩,none⟩,none,false⟩,⟨⟨(some 31),.slice 22 (.tmp 28) (some (.tmp 30)) none none,22,"",⟨[]⟩,none⟩,none,false⟩,⟨⟨(some 32),.call ⟨.value (.func 68),⟨[(.tmp 31)]⟩,⟨[22]⟩⟩,3,"",⟨[]⟩,none⟩,none,false⟩,⟨⟨(some 11),.assign (.tmp 32),3,"",⟨[]⟩,none⟩,none,false⟩]) (.seq (.seq (.ops false [⟨⟨(some 33),.move (.tmp 1),3,"",⟨[]⟩,none⟩,none,false⟩,⟨⟨(some 34),.move (.tmp 11),3,"",⟨[]⟩,none⟩,none,false⟩,⟨⟨(some 35),.binOp .sub 3 (.tmp 33) (.tmp 34) 3,3,"",⟨[]⟩,none⟩,none,false⟩,⟨⟨(some 36),.call ⟨.builtin .max,⟨[(.const (.int .i64 0)),(.tmp 35)]⟩,⟨[3,3]⟩⟩,3,"",⟨[]⟩,none⟩,none,false⟩,⟨⟨(some 12),.assign (.tmp 36),3,"",⟨[]⟩,none⟩,none,false⟩]) (.block 0 (.loop (.seq (.seq (.ops false [⟨⟨(some 37),.move (.tmp 12),3,"",⟨[]⟩,none⟩,none,false⟩,⟨⟨(some 38),.load 70 (.tmp 3),70,"",⟨[]⟩,none⟩,none,false⟩,⟨⟨(some 39),.nilCheck (.tmp 38),0,"",⟨[]⟩,none⟩,none,false⟩,⟨⟨(some 40),.fieldAddr 119 (.tmp 39) 0,0,"",⟨[]⟩,none⟩,none,false⟩,⟨⟨(some 41),.fieldAddr 24 (.tmp 40) 0,0,"",⟨[]⟩,none⟩,none,false⟩,⟨⟨(some 42),.load 22 (.tmp 41),22,"",⟨[]⟩,none⟩,none,false⟩,⟨⟨(some 43),.move (.tmp 0),3,"",⟨[]⟩,none⟩,none,false⟩,⟨⟨(some 44),.indexAddr 22 (.tmp 42) (.tmp 43),0,"",⟨[]⟩,none⟩,none,false⟩,⟨⟨(some 45),.load 3 (.tmp 44),3,"",⟨[]⟩,none⟩,none,false⟩,⟨⟨(some 46),.move (.tmp 2),3,"",⟨[]⟩,none⟩,none,false⟩,⟨⟨(some 47),.call ⟨.builtin .min,⟨[(.tmp 45),(.tmp 46)]⟩,⟨[3,3]⟩⟩,3,"",⟨[]⟩,none⟩,none,false⟩,⟨⟨(some 48),.binOp .leq 3 (.tmp 37) (.tmp 47) 3,4,"",⟨[]⟩,none⟩,none,false⟩]) (.cond (.tmp 48) .skip (.exit 0))) (.seq (.block 1 (.seq (.ops false [⟨⟨(some 51),.move (.tmp 0),3,"",⟨[]⟩,none⟩,none,false⟩,⟨⟨(some 52),.move (.tmp 12),3,"",⟨[]⟩,none⟩,none,false⟩,⟨⟨(some 53),.indexAddr 73 (.tmp 5) (.tmp 51),0,"",⟨[]⟩,none⟩,none,false⟩,⟨⟨none,.store 3 (.tmp 53) (.tmp 52),0,"",⟨[]⟩,none⟩,none,false⟩]) (.seq (.ops false [⟨⟨(some 54),.load 55 (.tmp 6),55,"",⟨[]⟩,none⟩,none,false⟩,⟨⟨(some 55),.move (.tmp 0),3,"",⟨[]⟩,none⟩,none,false⟩,⟨⟨(some 56),.binOp .add 3 (.tmp 55) (.const (.int .i64 1)) 3,3,"",⟨[]⟩,none⟩,none,false⟩,⟨⟨(some 57),.move (.tmp 1),3,"",⟨[]⟩,none⟩,none,false⟩,⟨⟨(some 58),.move (.tmp 12),3,"",⟨[]⟩,none⟩,none,false⟩,⟨⟨(some 59),.binOp .sub 3 (.tmp 57) (.tmp 58) 3,3,"",⟨[]⟩,none⟩,none,false⟩,⟨⟨(some 60),.move (.tmp 2),3,"",⟨[]⟩,none⟩,none,false⟩,⟨⟨(some 61),.move (.tmp 12),3,"",⟨[]⟩,none⟩,none,false⟩,⟨⟨(some 62),.binOp .sub 3 (.tmp 60) (.tmp 61) 3,3,"",⟨[]⟩,none⟩,none,false⟩,⟨⟨(some 63),.call ⟨.value (.tmp 54),⟨[(.tmp 56),(.tmp 59),(.tmp 62)]⟩,⟨[3,3,3]⟩⟩,4,"",⟨[]⟩,none⟩,none,false⟩,⟨⟨(some 64),.unOp .not 4 (.tmp 63),4,"",⟨[]⟩,none⟩,none,false⟩]) (.cond (.tmp 64) (.seq (.ops false [⟨⟨(some 10),.assign (.const (.bool false)),4,"",⟨[]⟩,none⟩,none,false⟩]) .ret) .skip)))) (.ops false [⟨⟨(some 49),.move (.tmp 12),3,"",⟨[]⟩,none⟩,none,false⟩,⟨⟨(some 50),.binOp .add 3 (.tmp 49) (.const (.int .i64 1)) 3,3,"",⟨[]⟩,none⟩,none,false⟩,⟨⟨(some 12),.assign (.tmp 50),3,"",⟨[]⟩,none⟩,none,false⟩])))))) (.seq (.ops false [⟨⟨(some 10),.assign (.const (.bool true)),4,"",⟨[]⟩,none⟩,none,false⟩]) .ret)))))
theorem Try.s75_eq : Try.f75.body.map sOf = some Try.s75 := by kernel_rfl
theorem Try.s111_eq : Try.f111.body.map sOf = some Try.s111 := by kernel_rfl
theorem Try.s112_eq : Try.f112.body.map sOf = some Try.s112 := by kernel_rfl
end Go.Proofs

namespace Go.Sim
open Go
def rfOf : Code → Option (Code × Code)
  | .rangeFunc _ _ a b => some (a, b)
  | .seq a b => match rfOf a with
    | some x => some x
    | none => rfOf b
  | .cond _ a b => match rfOf a with
    | some x => some x
    | none => rfOf b
  | .block _ b => rfOf b
  | .loop b => rfOf b
  | .scope b => rfOf b
  | _ => none
def codeA (f : Func) : Code :=
  match f.body with
  | some c => match rfOf c with
    | some (a, _) => a
    | none => .skip
  | none => .skip
def codeB (f : Func) : Code :=
  match f.body with
  | some c => match rfOf c with
    | some (_, b) => b
    | none => .skip
  | none => .skip
end Go.Sim

namespace Go.Proofs
open Go Go.RowKit Go.Sim
set_option maxRecDepth 100000
noncomputable def Try.s69r7 : Array Oper := match Try.f69.body with
  | some c => regionAt 7 c
  | none => #[]
noncomputable def Try.s69 : SC :=
 (.seq
  (.ops false [
    ⟨⟨(some 2), .box 70 (.tmp 0), 0, "", ⟨[]⟩, none⟩, none, false⟩,
    ⟨⟨(some 3), .box 73 (.tmp 1), 0, "", ⟨[]⟩, none⟩, none, false⟩,
    ⟨⟨(some 4), .alloc 73, 0, "", ⟨[]⟩, none⟩, none, false⟩,
    ⟨⟨(some 5), .alloc 3, 0, "", ⟨[]⟩, none⟩, none, false⟩])
  (.seq
   (.ops false [
     ⟨⟨none, .store 3 (.tmp 5) (.const (.int .i64 (-1))), 0, "", ⟨[]⟩, none⟩, none, false⟩])
   (.seq
    (.seq
     (.ops true [
       ⟨⟨(some 8), .load 70 (.tmp 2), 70, "", ⟨[]⟩, none⟩, none, true⟩,
       ⟨⟨(some 9), .load 70 (.tmp 2), 70, "", ⟨[]⟩, none⟩, none, true⟩,
       ⟨⟨(some 10), .nilCheck (.tmp 9), 0, "", ⟨[]⟩, none⟩, none, true⟩,
       ⟨⟨(some 11), .fieldAddr 119 (.tmp 10) 0, 0, "", ⟨[]⟩, none⟩, none, true⟩,
       ⟨⟨(some 12), .fieldAddr 24 (.tmp 11) 2, 0, "", ⟨[]⟩, none⟩, none, true⟩,
       ⟨⟨(some 13), .load 3 (.tmp 12), 3, "", ⟨[]⟩, none⟩, none, true⟩,
       ⟨⟨(some 14), .load 70 (.tmp 2), 70, "", ⟨[]⟩, none⟩, none, true⟩,
       ⟨⟨(some 15), .nilCheck (.tmp 14), 0, "", ⟨[]⟩, none⟩, none, true⟩,
       ⟨⟨(some 16), .fieldAddr 119 (.tmp 15) 0, 0, "", ⟨[]⟩, none⟩, none, true⟩,
       ⟨⟨(some 17), .fieldAddr 24 (.tmp 16) 2, 0, "", ⟨[]⟩, none⟩, none, true⟩,
       ⟨⟨(some 18), .load 3 (.tmp 17), 3, "", ⟨[]⟩, none⟩, none, true⟩,
       ⟨⟨(some 19), .call ⟨.value (.func 75), ⟨[(.tmp 8), (.tmp 13), (.tmp 18)]⟩, ⟨[70, 3, 3]⟩⟩, 89, "", ⟨[]⟩, none⟩, none, false⟩])
     (.block 0
      (.raw (.rangeFunc (.tmp 19) ⟨[20]⟩ (codeA Try.f69) (codeB Try.f69)))))
    (.seq
     (.raw (.region 7 Try.s69r7 true))
     .ret))))
def Try.x69r7 : List XOp := [
  ⟨⟨⟨(some 30), .load 73 (.tmp 4), 73, "", ⟨[]⟩, none⟩, none, false⟩, 0, 0, false, some (73, (.tmp 4))⟩,
  ⟨⟨⟨(some 31), .load 3 (.tmp 5), 3, "", ⟨[]⟩, none⟩, none, false⟩, 1, 0, false, some (3, (.tmp 5))⟩,
  ⟨⟨⟨none, .store 73 (.tmp 4) (.tmp 30), 0, "", ⟨[]⟩, none⟩, none, false⟩, 2, 1, true, none⟩,
  ⟨⟨⟨none, .store 3 (.tmp 5) (.tmp 31), 0, "", ⟨[]⟩, none⟩, none, false⟩, 3, 7, true, none⟩]
theorem Try.s69_eq : Try.f69.body.map (sOfX [7]) = some Try.s69 := by kernel_rfl
theorem Try.x69r7_eq : xRegion Try.s69r7 = some Try.x69r7 := by kernel_rfl
theorem Try.x69r7_kinds : xkinds Try.x69r7 = true := by kernel_rfl
noncomputable def Try.s26r11 : Array Oper := match Try.f26.body with
  | some c => regionAt 11 c
  | none => #[]
noncomputable def Try.s26 : SC :=
 (.seq
  (.ops false [
    ⟨⟨(some 1), .box 24 (.tmp 0), 0, "", ⟨[]⟩, none⟩, none, false⟩,
    ⟨⟨(some 2), .alloc 22, 0, "", ⟨[]⟩, none⟩, none, false⟩,
    ⟨⟨(some 3), .alloc 3, 0, "", ⟨[]⟩, none⟩, none, false⟩,
    ⟨⟨(some 4), .assign (.const (.int .i64 0)), 25, "", ⟨[]⟩, none⟩, none, false⟩])
  (.seq
   (.seq
    (.ops false [
      ⟨⟨(some 9), .load 24 (.tmp 1), 24, "", ⟨[]⟩, none⟩, none, false⟩,
      ⟨⟨(some 10), .call ⟨.value (.func 18), ⟨[(.tmp 9)]⟩, ⟨[24]⟩⟩, 25, "", ⟨[]⟩, none⟩, none, false⟩,
      ⟨⟨(some 5), .assign (.tmp 10), 25, "", ⟨[]⟩, none⟩, none, false⟩])
    (.seq
     (.ops false [
       ⟨⟨(some 11), .move (.tmp 5), 25, "", ⟨[]⟩, none⟩, none, false⟩,
       ⟨⟨(some 12), .binOp .neq 25 (.tmp 11) (.const (.int .i64 0)) 25, 4, "", ⟨[]⟩, none⟩, none, false⟩])
     (.cond (.tmp 12)
      (.seq
       (.ops false [
         ⟨⟨(some 13), .move (.tmp 5), 25, "", ⟨[]⟩, none⟩, none, false⟩,
         ⟨⟨none, .store 22 (.tmp 2) (.const (.slice none 0 0)), 0, "", ⟨[]⟩, none⟩, none, false⟩,
         ⟨⟨none, .store 3 (.tmp 3) (.const (.int .i64 0)), 0, "", ⟨[]⟩, none⟩, none, false⟩,
         ⟨⟨(some 4), .assign (.tmp 13), 25, "", ⟨[]⟩, none⟩, none, false⟩])
       .ret)
      .skip)))
   (.seq
    (.ops false [
      ⟨⟨(some 14), .load 24 (.tmp 1), 24, "", ⟨[]⟩, none⟩, none, false⟩,
      ⟨⟨(some 15), .call ⟨.value (.func 57), ⟨[(.tmp 14)]⟩, ⟨[24]⟩⟩, 70, "", ⟨[]⟩, none⟩, none, false⟩,
      ⟨⟨(some 6), .alloc 70, 0, "", ⟨[]⟩, none⟩, none, false⟩,
      ⟨⟨none, .store 70 (.tmp 6) (.tmp 15), 0, "", ⟨[]⟩, none⟩, none, false⟩])
    (.seq
     (.ops false [
       ⟨⟨none, .store 3 (.tmp 3) (.const (.int .i64 9223372036854775807)), 0, "", ⟨[]⟩, none⟩, none, false⟩])
     (.seq
      (.seq
       (.ops true [
         ⟨⟨(some 16), .load 70 (.tmp 6), 70, "", ⟨[]⟩, none⟩, none, true⟩,
         ⟨⟨(some 17), .fieldAddr 24 (.tmp 1) 0, 0, "", ⟨[]⟩, none⟩, none, true⟩,
         ⟨⟨(some 18), .load 22 (.tmp 17), 22, "", ⟨[]⟩, none⟩, none, true⟩,
         ⟨⟨(some 19), .call ⟨.value (.func 68), ⟨[(.tmp 18)]⟩, ⟨[22]⟩⟩, 3, "", ⟨[]⟩, none⟩, none, true⟩,
         ⟨⟨(some 20), .call ⟨.value (.func 75), ⟨[(.tmp 16), (.const (.int .i64 0)), (.tmp 19)]⟩, ⟨[70, 3, 3]⟩⟩, 89, "", ⟨[]⟩, none⟩, none, false⟩])
       (.block 0
        (.raw (.rangeFunc (.tmp 20) ⟨[21]⟩ (codeA Try.f26) (codeB Try.f26)))))
      (.seq
       (.raw (.region 11 Try.s26r11 true))
       .ret))))))
def Try.x26r11 : List XOp := [
  ⟨⟨⟨(some 37), .load 22 (.tmp 2), 22, "", ⟨[]⟩, none⟩, none, false⟩, 0, 0, false, some (22, (.tmp 2))⟩,
  ⟨⟨⟨(some 38), .load 3 (.tmp 3), 3, "", ⟨[]⟩, none⟩, none, false⟩, 1, 0, false, some (3, (.tmp 3))⟩,
  ⟨⟨⟨none, .store 22 (.tmp 2) (.tmp 37), 0, "", ⟨[]⟩, none⟩, none, false⟩, 2, 1, true, none⟩,
  ⟨⟨⟨none, .store 3 (.tmp 3) (.tmp 38), 0, "", ⟨[]⟩, none⟩, none, false⟩, 3, 7, true, none⟩,
  ⟨⟨⟨(some 4), .assign (.const (.int .i64 0)), 25, "", ⟨[]⟩, none⟩, none, false⟩, 4, 0, false, none⟩]
theorem Try.s26_eq : Try.f26.body.map (sOfX [11]) = some Try.s26 := by kernel_rfl
theorem Try.x26r11_eq : xRegion Try.s26r11 = some Try.x26r11 := by kernel_rfl
theorem Try.x26r11_kinds : xkinds Try.x26r11 = true := by kernel_rfl
noncomputable def Try.ra69 : SC :=
 (.ops false [
   ⟨⟨(some 6), .alloc 73, 0, "", ⟨[]⟩, none⟩, none, false⟩,
   ⟨⟨none, .store 73 (.tmp 6) (.tmp 20), 0, "", ⟨[]⟩, none⟩, none, false⟩])
theorem Try.ra69_eq : sOf (codeA Try.f69) = Try.ra69 := by kernel_rfl
noncomputable def Try.rb69 : SC :=
 (.block 1
  (.seq
   (.ops false [
     ⟨⟨(some 21), .load 70 (.tmp 2), 70, "", ⟨[]⟩, none⟩, none, false⟩,
     ⟨⟨(some 22), .load 73 (.tmp 3), 73, "", ⟨[]⟩, none⟩, none, false⟩,
     ⟨⟨(some 23), .load 73 (.tmp 6), 73, "", ⟨[]⟩, none⟩, none, false⟩,
     ⟨⟨(some 24), .call ⟨.value (.func 59), ⟨[(.tmp 21), (.tmp 22), (.tmp 23)]⟩, ⟨[70, 73, 73]⟩⟩, 3, "", ⟨[]⟩, none⟩, none, false⟩,
     ⟨⟨(some 7), .assign (.tmp 24), 3, "", ⟨[]⟩, none⟩, none, false⟩])
   (.seq
    (.ops false [
      ⟨⟨(some 25), .move (.tmp 7), 3, "", ⟨[]⟩, none⟩, none, false⟩,
      ⟨⟨(some 26), .load 3 (.tmp 5), 3, "", ⟨[]⟩, none⟩, none, false⟩,
      ⟨⟨(some 27), .binOp .gtr 3 (.tmp 25) (.tmp 26) 3, 4, "", ⟨[]⟩, none⟩, none, false⟩])
    (.cond (.tmp 27)
     (.ops false [
       ⟨⟨(some 28), .load 73 (.tmp 6), 73, "", ⟨[]⟩, none⟩, none, false⟩,
       ⟨⟨(some 29), .move (.tmp 7), 3, "", ⟨[]⟩, none⟩, none, false⟩,
       ⟨⟨none, .store 73 (.tmp 4) (.tmp 28), 0, "", ⟨[]⟩, none⟩, none, false⟩,
       ⟨⟨none, .store 3 (.tmp 5) (.tmp 29), 0, "", ⟨[]⟩, none⟩, none, false⟩])
     .skip))))
theorem Try.rb69_eq : sOf (codeB Try.f69) = Try.rb69 := by kernel_rfl
noncomputable def Try.ra26 : SC :=
 (.ops false [
   ⟨⟨(some 7), .alloc 73, 0, "", ⟨[]⟩, none⟩, none, false⟩,
   ⟨⟨none, .store 73 (.tmp 7) (.tmp 21), 0, "", ⟨[]⟩, none⟩, none, false⟩])
theorem Try.ra26_eq : sOf (codeA Try.f26) = Try.ra26 := by kernel_rfl
noncomputable def Try.rb26 : SC :=
 (.block 1
  (.seq
   (.ops false [
     ⟨⟨(some 22), .load 70 (.tmp 6), 70, "", ⟨[]⟩, none⟩, none, false⟩,
     ⟨⟨(some 23), .load 73 (.tmp 7), 73, "", ⟨[]⟩, none⟩, none, false⟩,
     ⟨⟨(some 24), .call ⟨.value (.func 76), ⟨[(.tmp 22), (.tmp 23)]⟩, ⟨[70, 73]⟩⟩, 3, "", ⟨[]⟩, none⟩, none, false⟩,
     ⟨⟨(some 8), .assign (.tmp 24), 3, "", ⟨[]⟩, none⟩, none, false⟩])
   (.seq
    (.ops false [
      ⟨⟨(some 25), .move (.tmp 8), 3, "", ⟨[]⟩, none⟩, none, false⟩,
      ⟨⟨(some 26), .load 3 (.tmp 3), 3, "", ⟨[]⟩, none⟩, none, false⟩,
      ⟨⟨(some 27), .binOp .lss 3 (.tmp 25) (.tmp 26) 3, 4, "", ⟨[]⟩, none⟩, none, false⟩,
      ⟨⟨(some 28), .move (.tmp 27), 4, "", ⟨[]⟩, none⟩, none, false⟩,
      ⟨⟨(some 29), .load 70 (.tmp 6), 70, "", ⟨[]⟩, none⟩, some ((some 28), true), false⟩,
      ⟨⟨(some 30), .load 73 (.tmp 7), 73, "", ⟨[]⟩, none⟩, some ((some 28), true), false⟩,
      ⟨⟨(some 31), .call ⟨.value (.func 73), ⟨[(.tmp 29), (.tmp 30)]⟩, ⟨[70, 73]⟩⟩, 4, "", ⟨[]⟩, none⟩, some ((some 28), true), false⟩,
      ⟨⟨(some 32), .pick (.tmp 28) (.tmp 31) (.const (.bool false)), 4, "", ⟨[]⟩, none⟩, none, false⟩])
    (.cond (.tmp 32)
     (.ops false [
       ⟨⟨(some 33), .load 70 (.tmp 6), 70, "", ⟨[]⟩, none⟩, none, false⟩,
       ⟨⟨(some 34), .load 73 (.tmp 7), 73, "", ⟨[]⟩, none⟩, none, false⟩,
       ⟨⟨(some 35), .call ⟨.value (.func 70), ⟨[(.tmp 33), (.tmp 34)]⟩, ⟨[70, 73]⟩⟩, 22, "", ⟨[]⟩, none⟩, none, false⟩,
       ⟨⟨(some 36), .move (.tmp 8), 3, "", ⟨[]⟩, none⟩, none, false⟩,
       ⟨⟨none, .store 22 (.tmp 2) (.tmp 35), 0, "", ⟨[]⟩, none⟩, none, false⟩,
       ⟨⟨none, .store 3 (.tmp 3) (.tmp 36), 0, "", ⟨[]⟩, none⟩, none, false⟩])
     .skip))))
theorem Try.rb26_eq : sOf (codeB Try.f26) = Try.rb26 := by kernel_rfl
end Go.Proofs

namespace Go.Proofs
open Go Go.RowKit Go.Sim
set_option maxRecDepth 100000
theorem Try.ty55 : (prg Try.prog).ty 55 = some ⟨false, (.func #[3, 3, 3] #[4] false), 1, 8, .nilFunc⟩ := by kernel_rfl
attribute [go_sem] Try.ty55
theorem Try.ty70 : (prg Try.prog).ty 70 = some ⟨false, (.pointer 119), 1, 8, .pointer none⟩ := by kernel_rfl
attribute [go_sem] Try.ty70
theorem Try.ty86 : (prg Try.prog).ty 86 = some ⟨false, (.func #[73] #[4] false), 1, 8, .nilFunc⟩ := by kernel_rfl
attribute [go_sem] Try.ty86
end Go.Proofs

namespace Go.Proofs
open Go Go.RowKit Go.Sim
set_option maxRecDepth 100000
abbrev ptr (b : Nat) : Value := .pointer (some ⟨b, 0, none⟩)
theorem Cutt.drop2 {w : AW} {v : Value} {L : List Int} (h : Cutt w v L.length) (hA : ArrOf w 1 icells v L) (h1 : 1 ≤ L.length) {a : Nat} (ha : a ≤ L.length) :
    ∃ p c, sliceV w 1 v (some (.int .i64 (a : Int))) none = some (.slice p (L.length - a) c) ∧ ArrOf w 1 icells (.slice p (L.length - a) c) (L.drop a) := by
  rcases Nat.lt_or_ge a L.length with q | q
  · exact h.drop hA q
  obtain rfl : a = L.length := by omega
  rcases h with z | ⟨b, o, c, rfl, hc, hb, hk⟩
  · omega
  obtain ⟨p', n, cap, e, hn, hc', hm, hat⟩ := hA
  injection e with e1 e2 e3
  subst e1 e2 e3
  rw [List.drop_length, Nat.sub_self]
  have b1 : Nat.ble L.length L.length = true := Nat.ble_eq_true_of_le (Nat.le_refl _)
  have b2 : Nat.ble L.length c = true := Nat.ble_eq_true_of_le hc
  have b3 : Nat.beq 1 1 = true := rfl
  have nilA : ∀ (p : Option Addr) (d : Nat), (d : Int) ≤ 140737488355328 → ArrOf w 1 icells (.slice p 0 d) [] := fun p d hd => ⟨_, _, _, rfl, rfl, Nat.zero_le _, by omega, fun h0 => by omega⟩
  rcases hk with ⟨cs, hk⟩ | ⟨cells, e, r, hk⟩
  · refine ⟨some ⟨b, bif Nat.beq c L.length then o else o + L.length * 1, none⟩, c - L.length, ?_, nilA _ _ (by omega)⟩
    show sliceV w 1 (.slice (some ⟨b, o, none⟩) L.length c) (some (.int .i64 (Int.ofNat L.length))) none = _
    simp only [sliceV, natOr, b1, b2, hk, Bool.and_self, Nat.sub_self]
  · refine ⟨some ⟨b, o + L.length * 1, none⟩, c - L.length, ?_, nilA _ _ (by omega)⟩
    show sliceV w 1 (.slice (some ⟨b, o, none⟩) L.length c) (some (.int .i64 (Int.ofNat L.length))) none = _
    simp only [sliceV, natOr, b1, b2, hk, Bool.and_self, b3, Bool.true_or, Nat.sub_self]
def fillV (bs bY bc bf : Nat) : Value := .func (.func 112) #[] #[ptr bs, ptr bY, ptr bc, ptr bf]
structure SeaEnv (W0 : AW) (b : Nat) (p q : Option Addr) (a c : Nat) (A : AudN) (JS : Nat → Prop) (N0 : Nat) (Kp : AW → Prop) : Prop where
  keep : ∀ w, Kp w → Keep W0.next W0 w
  sea : ∀ w, Kp w → SearchAt w b p q a c A
  chg : ∀ w w' (T : Nat → Prop), Kp w → MutS T w w' → (∀ j, T j → JS j ∨ N0 ≤ j) → Kp w'
structure FillEnv (Kp : AW → Prop) (N0 : Nat) (w : AW) (b bs bY bc bf : Nat) (yv : Value) (C : List Int) : Prop where
  keep : Kp w
  fresh : Fresh w
  s : Own w bs 70 [ptr b]
  y : Own w bY 86 [yv]
  f : Own w bf 55 [fillV bs bY bc bf]
  c : Own w bc 73 (C.flatMap icells)
  len : C.length = 4
  bnd : N0 ≤ bs ∧ N0 ≤ bY ∧ N0 ≤ bf ∧ N0 ≤ bc
  ne : bs ≠ bc ∧ bY ≠ bc ∧ bf ≠ bc
section
variable {W0 : AW} {b0 : Nat} {p q : Option Addr} {a c : Nat} {A : AudN} {JS : Nat → Prop} {N0 : Nat} {Kp : AW → Prop} (hK : SeaEnv W0 b0 p q a c A JS N0 Kp)
include hK
theorem FillEnv.mut {w w' : AW} {b bs bY bc bf : Nat} {yv : Value} {C : List Int} (h : FillEnv Kp N0 w b bs bY bc bf yv C) {T : Nat → Prop} (m : MutS T w w') (hd : ¬ T bs ∧ ¬ T bY ∧ ¬ T bc ∧ ¬ T bf) (hJ : ∀ j, T j → JS j ∨ N0 ≤ j) : FillEnv Kp N0 w' b bs bY bc bf yv C :=
  ⟨hK.chg _ _ T h.keep m hJ, m.fresh, m.own h.s hd.1, m.own h.y hd.2.1, m.own h.f hd.2.2.2, m.own h.c hd.2.2.1, h.len, h.bnd, h.ne⟩
theorem FillEnv.set {w : AW} {b bs bY bc bf : Nat} {yv : Value} {C : List Int} (h : FillEnv Kp N0 w b bs bY bc bf yv C) {i : Nat} (hi : i < 4) (x : Int) :
    ∃ w', storeV w false 1 (.pointer (some ⟨bc, i, none⟩)) (.int .i64 x) = some w' ∧ FillEnv Kp N0 w' b bs bY bc bf yv (C.set i x) ∧ MutS (fun j => j = bc) w w' := by
  have st := storeV_own1 (o := i) (v := .int .i64 x) h.c (by rw [icells_flat_len, h.len]; exact hi) rfl
  have O := h.c.put (setL (C.flatMap icells) i (.int .i64 x))
  have m := MutS.put (S := fun j => j = bc) h.fresh rfl h.c.lt (.cells (setL (C.flatMap icells) i (.int .i64 x)) 73 bc 0 0)
  rw [setL_ic] at st O m
  exact ⟨_, st, ⟨hK.chg _ _ _ h.keep m (fun j q => .inr (by rw [q]; exact h.bnd.2.2.2)), m.fresh, m.own h.s h.ne.1, m.own h.y h.ne.2.1, m.own h.f h.ne.2.2, O, by rw [List.length_set]; exact h.len, h.bnd, h.ne⟩, m⟩
end
structure Yields (Kp : AW → Prop) (S : List Int) (lp bc : Nat) (JS : Nat → Prop) (J : List (List Int) → AW → Prop) : Prop where
  mutC : ∀ Q w w', J Q w → MutS (fun j => j = bc) w w' → J Q w'
  grow : ∀ Q w w', J Q w → Grown w w' → J Q w'
  yield : ∀ Q t w, J Q w → t.length = S.length → FitS S t → Fresh w → Kp w → bc < w.next → CallT Try.prog Try.T1 (.fn (.yield lp) #[]) #[aV (padI t)] w (fun v w' => v = .bool true ∧ J (Q ++ [t]) w' ∧ MutS JS w w')
theorem fromTo_len (a b : Int) : (fromTo a b).length = (b - a + 1).toNat := by simp [fromTo]
theorem fromTo_at {a b : Int} {i : Nat} (h : i < (fromTo a b).length) : (fromTo a b)[i] = a + (i : Int) := by simp [fromTo]
theorem padI_of {C t : List Int} {n : Nat} (hC : C.length = 4) (hn : n ≤ 4) (ht : C.take n = t) (hz : ∀ i, n ≤ i → W C i = 0) : C = padI t := by
  have htl : t.length = n := by rw [← ht, List.length_take]; omega
  refine W_ext (by rw [hC, padI_len (by omega)]) fun i hi => ?_
  rw [padI_at]
  by_cases q : i < n
  · rw [← ht]; simp [W, List.getD, List.getElem?_take, q]
  · rw [hz i (by omega), W_out (by omega)]
section
variable {W0 : AW} {A : AudN} (hS : okS A.st) {b : Nat} {p q : Option Addr} {a c : Nat} {JS : Nat → Prop} {N0 : Nat} {Kp : AW → Prop} (hK : SeaEnv W0 b p q a c A JS N0 Kp) (hs : ArrOf W0 1 icells (.slice p A.st.length a) A.st) (hcut : Cutt W0 (.slice p A.st.length a) A.st.length)
  {bs bY bc bf lp : Nat} {J : List (List Int) → AW → Prop} (hJ : Yields Kp A.st lp bc JS J) (hd : ¬ JS bs ∧ ¬ JS bY ∧ ¬ JS bc ∧ ¬ JS bf)
include hS hK hs hcut hJ hd
set_option maxHeartbeats 16000000 in
theorem fill_ok (m : Nat) : ∀ (room : Nat), room + m = A.st.length → ∀ (pre : List Int) (lo hi : Int) (C : List Int) (Q : List (List Int)) (w : AW), pre.length = room →
    FillEnv Kp N0 w b bs bY bc bf (.func (.yield lp) #[] #[]) C → C.take room = pre → (∀ i, A.st.length ≤ i → W C i = 0) → (∀ i, i < room → 0 ≤ W pre i ∧ W pre i ≤ W A.st i) →
    -(8 * (room : Int)) ≤ lo → lo ≤ 64 → 0 ≤ hi → hi ≤ 64 → lo ≤ (A.st.drop room).sum → J Q w →
    CallT Try.prog Try.T1 (.fn (.func 112) #[ptr bs, ptr bY, ptr bc, ptr bf]) #[.int .i64 (room : Int), .int .i64 lo, .int .i64 hi] w (fun v w' => v = .bool true ∧ ∃ C', FillEnv Kp N0 w' b bs bY bc bf (.func (.yield lp) #[] #[]) C' ∧ C'.take room = pre ∧ (∀ i, A.st.length ≤ i → W C' i = 0) ∧ J (Q ++ (listsL (A.st.drop room) lo hi).map (pre ++ ·)) w') := by
  induction m with
  | zero =>
    intro room hr pre lo hi C Q w hpl E hC hz hfit h1 h2 h3 h4 h5 hJQ
    obtain rfl : room = A.st.length := by omega
    have hbw := hK.sea _ E.keep
    have d0 := hbw.c0
    have s0 := E.s.cell (o := 0) rfl rfl
    have y0 := E.y.cell (o := 0) rfl rfl
    have hCp := padI_of E.len hS.2.1 hC hz
    have hld := loadAll E.c (n := 4) (by rw [icells_flat_len, E.len]) (icells_ones C)
    have hy := hJ.yield Q pre w hJQ hpl hfit E.fresh E.keep E.c.lt
    rw [← hCp] at hy
    have dd : decide ((A.st.length : Int) = (A.st.length : Int)) = true := decide_eq_true rfl
    unfold aV at hy
    refine callT_code rfl Try.func112 rfl Try.s112_eq rfl ?_
    unfold Try.s112
    simp -dsimp -implicitDefEqProofs (maxSteps := 2000000) (disch := first | assumption | omega | (simp only [nx]; omega) | ((repeat refine Fresh.push ?_ _); assumption) | (simp only [smA]; done) | (simp [oneCell, AW.next_push]; done) | fail) only [go_sem, Nat.reduceEqDiff, reduceIte, Nat.reduceAdd, Int.toNat_natCast, Nat.add_zero, Owes_true, Try.results112, s0, d0, dd, Nat.zero_add, y0, hld]
    apply callV_of (e := rfl)
    · exact hy
    rintro _ w2 ⟨rfl, hJ2, m2⟩
    simp -dsimp -implicitDefEqProofs (maxSteps := 2000000) (disch := first | assumption | omega | (simp only [nx]; omega) | ((repeat refine Fresh.push ?_ _); assumption) | (simp only [smA]; done) | (simp [oneCell, AW.next_push]; done) | fail) only [go_sem, Nat.reduceEqDiff, reduceIte, Nat.reduceAdd, Int.toNat_natCast, Nat.add_zero, Owes_true, Try.results112]
    refine ⟨trivial, C, FillEnv.mut hK E m2 hd fun j q => .inl q, hC, hz, ?_⟩
    rw [List.drop_length]
    simpa [listsL] using hJ2
  | succ m ih =>
    intro room hr pre lo hi C Q w hpl E hC hz hfit h1 h2 h3 h4 h5 hJQ
    have hrl : room < A.st.length := by omega
    have h4S := hS.2.1
    have hbw := hK.sea _ E.keep
    have d0 := hbw.c0
    have s0 := E.s.cell (o := 0) rfl rfl
    have hsw : ArrOf w 1 icells (.slice p A.st.length a) A.st := hs.kept (hK.keep _ E.keep)
    have hcw := hcut.grown (hK.keep _ E.keep)
    obtain ⟨pd, cd, hsl, hAd⟩ := hcw.drop2 hsw hS.1 (a := room + 1) (by omega)
    have hdl : (A.st.drop (room + 1)).length = A.st.length - (room + 1) := List.length_drop ..
    have dd : decide ((room : Int) = (A.st.length : Int)) = false := decide_eq_false (by omega)
    have hcast : (room : Int) + 1 = ((room + 1 : Nat) : Int) := by omega
    refine callT_code rfl Try.func112 rfl Try.s112_eq rfl ?_
    unfold Try.s112
    simp -dsimp -implicitDefEqProofs (maxSteps := 2000000) (disch := first | assumption | omega | (simp only [nx]; omega) | ((repeat refine Fresh.push ?_ _); assumption) | (simp only [smA]; done) | (simp [oneCell, AW.next_push]; done) | fail) only [go_sem, Nat.reduceEqDiff, reduceIte, Nat.reduceAdd, Int.toNat_natCast, Nat.add_zero, Owes_true, Try.results112, s0, d0, dd, Nat.zero_add, hcast, hsl]
    apply callV_of (e := rfl)
    · exact sum_ok (A.st.drop (room + 1)) _ w hAd
    rintro _ _ ⟨rfl, sm, rfl, hsum⟩
    have hsmall : smallL (A.st.drop (room + 1)) := ⟨fun x hx => by
      obtain ⟨i, hi, rfl⟩ := List.getElem_of_mem (List.mem_of_mem_drop hx)
      have := hS.2.2 i hi
      rw [W_at hi] at this; omega, by omega⟩
    obtain rfl := hsum hsmall
    have hsb := sum_small hsmall
    have hsn := sum_nonneg fun x hx => (hsmall.1 x hx).1
    have hds : A.st.drop room = W A.st room :: A.st.drop (room + 1) := by rw [W_at hrl]; exact List.drop_eq_getElem_cons hrl
    have hSr := hS.2.2 room hrl
    rw [hds, List.sum_cons] at h5
    rw [hds]
    obtain ⟨_, _, epd, _, _, hat⟩ := hs.open
    injection epd with epd1 epd2 epd3
    subst epd1 epd3
    obtain ⟨b1, o1, rfl, hb1, hcell⟩ := hat room hrl
    have hir : (room : Int) < (A.st.length : Int) := by omega
    have hlsn : listsL (W A.st room :: A.st.drop (room + 1)) lo hi = (fromTo (max 0 (lo - (A.st.drop (room + 1)).sum)) (min (W A.st room) hi)).flatMap fun n => (listsL (A.st.drop (room + 1)) (lo - n) (hi - n)).map (n :: ·) := rfl
    rw [hlsn]
    generalize hS' : (A.st.drop (room + 1)).sum = sm at *
    obtain ⟨base, hbase⟩ : ∃ x, x = max 0 (lo - sm) := ⟨_, rfl⟩
    obtain ⟨top, htop⟩ : ∃ x, x = min (W A.st room) hi := ⟨_, rfl⟩
    obtain ⟨N, hN⟩ : ∃ N, N = fromTo base top := ⟨_, rfl⟩
    rw [← hbase, ← htop, ← hN]
    have hNl : N.length = (top - base + 1).toNat := by rw [hN]; exact fromTo_len _ _
    simp -dsimp -implicitDefEqProofs (maxSteps := 2000000) (disch := first | assumption | omega | (simp only [nx]; omega) | ((repeat refine Fresh.push ?_ _); assumption) | (simp only [smA]; done) | (simp [oneCell, AW.next_push]; done) | fail) only [go_sem, Nat.reduceEqDiff, reduceIte, Nat.reduceAdd, Int.toNat_natCast, Nat.add_zero, Owes_true, Try.results112, s0, d0, dd, Nat.zero_add, hcast, hbase]
    rw [← hbase]
    have hb0 : base + ((0 : Nat) : Int) = base := by omega
    refine loopR (fun k t ds w2 => ∃ i : Nat, i ≤ N.length ∧ k = N.length - i ∧ ds = [] ∧ ev t (.tmp 0) = .int .i64 (room : Int) ∧ ev t (.tmp 1) = .int .i64 lo ∧ ev t (.tmp 2) = .int .i64 hi ∧ ev t (.tmp 3) = ptr bs ∧ ev t (.tmp 4) = ptr bY ∧ ev t (.tmp 5) = ptr bc ∧ ev t (.tmp 6) = ptr bf ∧ ev t (.tmp 12) = .int .i64 (base + (i : Int)) ∧ ∃ C2 : List Int, FillEnv Kp N0 w2 b bs bY bc bf (.func (.yield lp) #[] #[]) C2 ∧ C2.take room = pre ∧ (∀ i, A.st.length ≤ i → W C2 i = 0) ∧ J (Q ++ (((N.take i).flatMap fun n => (listsL (A.st.drop (room + 1)) (lo - n) (hi - n)).map (n :: ·)).map (pre ++ ·))) w2) (N.length) ?_ ?_
    · refine ⟨0, by omega, by omega, rfl, ?_, ?_, ?_, ?_, ?_, ?_, ?_, ?_, C, E, hC, hz, by simpa using hJQ⟩ <;> simp -dsimp -implicitDefEqProofs (maxSteps := 2000000) (disch := first | assumption | omega | (simp only [nx]; omega) | ((repeat refine Fresh.push ?_ _); assumption) | (simp only [smA]; done) | (simp [oneCell, AW.next_push]; done) | fail) only [go_sem, Nat.reduceEqDiff, reduceIte, Nat.reduceAdd, Int.toNat_natCast, Nat.add_zero, Owes_true, hb0] <;> rfl
    rintro k t ds w2 ⟨i, hii, rfl, rfl, e0, e1, e2, e3, e4, e5, e6, e12, C2, E2, hC2, hz2, hJ2⟩
    have hbw2 := hK.sea _ E2.keep
    have d2 := hbw2.c0
    have s2 := E2.s.cell (o := 0) rfl rfl
    have a0 := hcell w2 (hK.keep _ E2.keep) 0 _ rfl
    rw [Nat.add_zero, ← W_at hrl] at a0
    have htop' := htop.symm
    by_cases hlt : base + (i : Int) ≤ top
    case neg =>
      obtain rfl : i = N.length := by omega
      rw [List.take_of_length_le (Nat.le_refl _)] at hJ2
      simp -dsimp -implicitDefEqProofs (maxSteps := 2000000) (disch := first | assumption | omega | (simp only [nx]; omega) | ((repeat refine Fresh.push ?_ _); assumption) | (simp only [smA]; done) | (simp [oneCell, AW.next_push]; done) | fail) only [go_sem, Nat.reduceEqDiff, reduceIte, Nat.reduceAdd, Int.toNat_natCast, Nat.add_zero, Owes_true, Try.results112, e0, e1, e2, e3, e12, s2, d2, Nat.zero_add, hir, indexV_eq, a0, htop', hlt]
      exact ⟨trivial, C2, E2, hC2, hz2, hJ2⟩
    have hiN : i < N.length := by omega
    have hNi : N[i] = base + (i : Int) := by subst hN; exact fromTo_at hiN
    obtain ⟨w3, hst, E3, m3⟩ := FillEnv.set hK E2 (i := room) (by omega) (base + (i : Int))
    have hJ3 := hJ.mutC _ _ _ hJ2 m3
    have f3 := E3.f.cell (o := 0) rfl rfl
    have iA : indexA 1 4 (ptr bc) (.int .i64 (room : Int)) = some (.pointer (some ⟨bc, room, none⟩)) := by rw [indexA_eq (by omega)]; simp
    unfold fillV at f3
    obtain ⟨n, hn⟩ : ∃ n, n = base + (i : Int) := ⟨_, rfl⟩
    rw [← hn] at hst E3 hNi
    have hC3 : (C2.set room n).take (room + 1) = pre ++ [n] := by
      rw [List.take_succ_eq_append_getElem (by rw [List.length_set, E2.len]; omega), List.take_set_of_le (Nat.le_refl _), hC2]
      simp
    have hz3 : ∀ i, A.st.length ≤ i → W (C2.set room n) i = 0 := fun j hj => by
      rw [W_set (by rw [E2.len]; omega), if_neg (by omega)]; exact hz2 j hj
    have hcall := ih (room + 1) (by omega) (pre ++ [n]) (lo - n) (hi - n) (C2.set room n) _ w3 (by simp [hpl]) E3 hC3 hz3 (fun j hj => by
      by_cases q : j < room
      · have := hfit j q
        have e : W (pre ++ [n]) j = W pre j := by simp [W, List.getD, List.getElem?_append_left (show j < pre.length by omega)]
        rw [e]; exact this
      · obtain rfl : j = room := by omega
        have e : W (pre ++ [n]) j = n := by rw [← hpl]; simp [W, List.getD]
        rw [e]; omega) (by omega) (by omega) (by omega) (by omega) (by rw [hS']; omega) hJ3
    rw [← hn] at e12
    have hnt : n ≤ top := by omega
    simp -dsimp -implicitDefEqProofs (maxSteps := 2000000) (disch := first | assumption | omega | (simp only [nx]; omega) | ((repeat refine Fresh.push ?_ _); assumption) | (simp only [smA]; done) | (simp [oneCell, AW.next_push]; done) | fail) only [go_sem, Nat.reduceEqDiff, reduceIte, Nat.reduceAdd, Int.toNat_natCast, Nat.add_zero, Owes_true, Try.results112, e0, e1, e2, e3, e5, e6, e12, s2, d2, Nat.zero_add, hir, indexV_eq, a0, htop', hnt, iA, hst, f3, hcast]
    apply callV_of (e := rfl)
    · exact hcall
    rintro _ w4 ⟨rfl, C4, E4, hC4, hz4, hJ4⟩
    have hC4' : C4.take room = pre := by
      have := congrArg (fun l => l.take room) hC4
      simp only [List.take_take] at this
      rw [Nat.min_eq_left (by omega), List.take_append_of_le_length (l₁ := pre) (l₂ := [n]) (show room ≤ pre.length by omega), List.take_of_length_le (show pre.length ≤ room by omega)] at this
      exact this
    have hnx : n + 1 = base + ((i + 1 : Nat) : Int) := by omega
    have hJn : J (Q ++ (((N.take (i + 1)).flatMap fun n => (listsL (A.st.drop (room + 1)) (lo - n) (hi - n)).map (n :: ·)).map (pre ++ ·))) w4 := by
      rw [List.take_succ_eq_append_getElem hiN, List.flatMap_append, List.map_append, ← List.append_assoc, hNi]
      simp only [List.flatMap_cons, List.flatMap_nil, List.append_nil, List.map_map]
      have e : ((fun x => pre ++ x) ∘ fun x => n :: x) = fun x => pre ++ [n] ++ x := by
        funext x; simp
      rw [e]; exact hJ4
    simp -dsimp -implicitDefEqProofs (maxSteps := 2000000) (disch := first | assumption | omega | (simp only [nx]; omega) | ((repeat refine Fresh.push ?_ _); assumption) | (simp only [smA]; done) | (simp [oneCell, AW.next_push]; done) | fail) only [go_sem, Nat.reduceEqDiff, reduceIte, Nat.reduceAdd, Int.toNat_natCast, Nat.add_zero, Owes_true, Try.results112, e0, e1, e2, e3, e4, e5, e6, e12]
    refine ⟨_, by omega, i + 1, by omega, rfl, rfl, by (simp -dsimp -implicitDefEqProofs (maxSteps := 2000000) (disch := first | assumption | omega | (simp only [nx]; omega) | ((repeat refine Fresh.push ?_ _); assumption) | (simp only [smA]; done) | (simp [oneCell, AW.next_push]; done) | fail) only [go_sem, Nat.reduceEqDiff, reduceIte, Nat.reduceAdd, Int.toNat_natCast, Nat.add_zero, Owes_true, e0, hnx]; try rfl), by (simp -dsimp -implicitDefEqProofs (maxSteps := 2000000) (disch := first | assumption | omega | (simp only [nx]; omega) | ((repeat refine Fresh.push ?_ _); assumption) | (simp only [smA]; done) | (simp [oneCell, AW.next_push]; done) | fail) only [go_sem, Nat.reduceEqDiff, reduceIte, Nat.reduceAdd, Int.toNat_natCast, Nat.add_zero, Owes_true, e1, hnx]; try rfl), by (simp -dsimp -implicitDefEqProofs (maxSteps := 2000000) (disch := first | assumption | omega | (simp only [nx]; omega) | ((repeat refine Fresh.push ?_ _); assumption) | (simp only [smA]; done) | (simp [oneCell, AW.next_push]; done) | fail) only [go_sem, Nat.reduceEqDiff, reduceIte, Nat.reduceAdd, Int.toNat_natCast, Nat.add_zero, Owes_true, e2, hnx]; try rfl), by (simp -dsimp -implicitDefEqProofs (maxSteps := 2000000) (disch := first | assumption | omega | (simp only [nx]; omega) | ((repeat refine Fresh.push ?_ _); assumption) | (simp only [smA]; done) | (simp [oneCell, AW.next_push]; done) | fail) only [go_sem, Nat.reduceEqDiff, reduceIte, Nat.reduceAdd, Int.toNat_natCast, Nat.add_zero, Owes_true, e3, hnx]; try rfl), by (simp -dsimp -implicitDefEqProofs (maxSteps := 2000000) (disch := first | assumption | omega | (simp only [nx]; omega) | ((repeat refine Fresh.push ?_ _); assumption) | (simp only [smA]; done) | (simp [oneCell, AW.next_push]; done) | fail) only [go_sem, Nat.reduceEqDiff, reduceIte, Nat.reduceAdd, Int.toNat_natCast, Nat.add_zero, Owes_true, e4, hnx]; try rfl), by (simp -dsimp -implicitDefEqProofs (maxSteps := 2000000) (disch := first | assumption | omega | (simp only [nx]; omega) | ((repeat refine Fresh.push ?_ _); assumption) | (simp only [smA]; done) | (simp [oneCell, AW.next_push]; done) | fail) only [go_sem, Nat.reduceEqDiff, reduceIte, Nat.reduceAdd, Int.toNat_natCast, Nat.add_zero, Owes_true, e5, hnx]; try rfl), by (simp -dsimp -implicitDefEqProofs (maxSteps := 2000000) (disch := first | assumption | omega | (simp only [nx]; omega) | ((repeat refine Fresh.push ?_ _); assumption) | (simp only [smA]; done) | (simp [oneCell, AW.next_push]; done) | fail) only [go_sem, Nat.reduceEqDiff, reduceIte, Nat.reduceAdd, Int.toNat_natCast, Nat.add_zero, Owes_true, e6, hnx]; try rfl), by (simp -dsimp -implicitDefEqProofs (maxSteps := 2000000) (disch := first | assumption | omega | (simp only [nx]; omega) | ((repeat refine Fresh.push ?_ _); assumption) | (simp only [smA]; done) | (simp [oneCell, AW.next_push]; done) | fail) only [go_sem, Nat.reduceEqDiff, reduceIte, Nat.reduceAdd, Int.toNat_natCast, Nat.add_zero, Owes_true, e12, hnx]; try rfl), C4, E4, hC4', hz4, hJn⟩
end
end Go.Proofs

namespace Go.Proofs
open Go Go.RowKit Go.Sim
set_option maxRecDepth 100000
set_option maxHeartbeats 8000000 in
theorem gen_ok {W0 : AW} {A : AudN} (hS : okS A.st) {b : Nat} {p q : Option Addr} {a c : Nat} {JS : Nat → Prop} {N0 : Nat} {Kp : AW → Prop} (hK : SeaEnv W0 b p q a c A JS N0 Kp) (hs : ArrOf W0 1 icells (.slice p A.st.length a) A.st) (hcut : Cutt W0 (.slice p A.st.length a) A.st.length)
    {bs bl bh lp : Nat} {J : List (List Int) → AW → Prop} (w : AW) (hk : Kp w) (hkn : N0 ≤ w.next) (f : Fresh w) (hbs : Own w bs 70 [ptr b]) (hbs0 : N0 ≤ bs) (lo hi : Int) (hbl : Own w bl 3 [.int .i64 lo]) (hbh : Own w bh 3 [.int .i64 hi])
    (hJ : Yields Kp A.st lp (w.next + 1) JS J) (hJS : ∀ j, JS j → j < w.next) (hbJ : ¬ JS bs) (hJ0 : J [] w) (h1 : 0 ≤ lo) (h2 : lo ≤ 64) (h3 : 0 ≤ hi) (h4 : hi ≤ 64) (h5 : lo ≤ A.st.sum) :
    CallT Try.prog Try.T1 (.fn (.func 111) #[ptr bs, ptr bl, ptr bh]) #[.func (.yield lp) #[] #[]] w (fun _ w' => J (listsL A.st lo hi) w' ∧ Kp w' ∧ Fresh w') := by
  have hbn := hbs.lt
  have g1 := (Grown.refl f).push (.cells [.func (.yield lp) #[] #[]] 86 w.next 0 0)
  have O1 := Own.new f 86 [.func (.yield lp) #[] #[]]
  have g2 := g1.push (.cells [.int .i64 0, .int .i64 0, .int .i64 0, .int .i64 0] 73 (w.next + 1) 0 0)
  have O2 := Own.new g1.2 73 [.int .i64 0, .int .i64 0, .int .i64 0, .int .i64 0]
  have g3 := g2.push (.cells [.nilFunc] 55 (w.next + 1 + 1) 0 0)
  have O3 := Own.new g2.2 55 [.nilFunc]
  simp only [AW.next_push] at O2 O3
  have O1' := (O1.push (.cells [.int .i64 0, .int .i64 0, .int .i64 0, .int .i64 0] 73 (w.next + 1) 0 0)).push (.cells [.nilFunc] 55 (w.next + 1 + 1) 0 0)
  have O2' := O2.push (.cells [.nilFunc] 55 (w.next + 1 + 1) 0 0)
  have st := storeV_own1 (o := 0) (v := fillV bs w.next (w.next + 1) (w.next + 1 + 1)) O3 (by simp) rfl
  simp only [setL] at st
  have m3 := MutS.put (S := fun j => j = w.next + 1 + 1) g3.2 rfl O3.lt (.cells [fillV bs w.next (w.next + 1) (w.next + 1 + 1)] 55 (w.next + 1 + 1) 0 0)
  have O3' := O3.put [fillV bs w.next (w.next + 1) (w.next + 1 + 1)]
  have k4 : Keep w.next w _ := g3.1.trans (m3.keep (fun j h => by omega) g3.1.next)
  have f4 := m3.fresh
  have O1f := m3.own O1' (by omega)
  have O2f := m3.own O2' (by omega)
  have hsm : same 12 (.func (.yield lp) #[] #[]) (.func (.yield lp) #[] #[]) = true := by simp [same, same.all]
  unfold fillV at *
  refine callT_code rfl Try.func111 rfl Try.s111_eq rfl ?_
  unfold Try.s111
  simp -dsimp -implicitDefEqProofs (maxSteps := 2000000) (disch := first | assumption | omega | (simp only [nx]; omega) | ((repeat refine Fresh.push ?_ _); assumption) | (simp only [smA]; done) | (simp [oneCell, AW.next_push]; done) | fail) only [go_sem, Nat.reduceEqDiff, reduceIte, Nat.reduceAdd, Int.toNat_natCast, Nat.add_zero, Owes_true, Try.results111, st]
  generalize (((w.push (.cells [.func (.yield lp) #[] #[]] 86 w.next 0 0)).push (.cells [.int .i64 0, .int .i64 0, .int .i64 0, .int .i64 0] 73 (w.next + 1) 0 0)).push (.cells [.nilFunc] 55 (w.next + 1 + 1) 0 0)).put (w.next + 1 + 1) (.cells [.func (.func 112) #[] #[ptr bs, ptr w.next, ptr (w.next + 1), ptr (w.next + 1 + 1)]] 55 (w.next + 1 + 1) 0 0) = w4 at *
  have hbl4 := (hbl.keep k4).cell (o := 0) rfl rfl
  have hbh4 := (hbh.keep k4).cell (o := 0) rfl rfl
  have hf4 := O3'.cell (o := 0) rfl rfl
  have hJy := hJ
  have E : FillEnv Kp N0 w4 b bs w.next (w.next + 1) (w.next + 1 + 1) (.func (.yield lp) #[] #[]) [0, 0, 0, 0] :=
    ⟨hK.chg _ _ (fun _ => False) hk (.of ⟨k4, f4⟩) (fun j q => q.elim), f4, hbs.keep k4, O1f, O3', O2f, rfl, ⟨hbs0, by omega, by omega, by omega⟩, ⟨by omega, by omega, by omega⟩⟩
  have hcall := fill_ok hS hK hs hcut hJy ⟨hbJ, fun h => by have := hJS _ h; omega, fun h => by have := hJS _ h; omega, fun h => by have := hJS _ h; omega⟩ A.st.length 0 (by omega) [] lo hi [0, 0, 0, 0] [] w4 rfl E rfl (fun i _ => by rw [show W [0, 0, 0, 0] i = 0 from W_zero4 i ▸ W_nil i]) (fun i h => by omega) (by omega) h2 h3 h4 (by simpa using h5) (hJy.grow _ _ _ hJ0 ⟨k4, f4⟩)
  simp -dsimp -implicitDefEqProofs (maxSteps := 2000000) (disch := first | assumption | omega | (simp only [nx]; omega) | ((repeat refine Fresh.push ?_ _); assumption) | (simp only [smA]; done) | (simp [oneCell, AW.next_push]; done) | fail) only [go_sem, Nat.reduceEqDiff, reduceIte, Nat.reduceAdd, Int.toNat_natCast, Nat.add_zero, Owes_true, Try.results111, hbl4, hbh4, hf4, Nat.zero_add]
  apply callV_of (e := rfl)
  · exact hcall
  rintro _ w5 ⟨rfl, C', E', _, _, hJ5⟩
  simp -dsimp -implicitDefEqProofs (maxSteps := 2000000) (disch := first | assumption | omega | (simp only [nx]; omega) | ((repeat refine Fresh.push ?_ _); assumption) | (simp only [smA]; done) | (simp [oneCell, AW.next_push]; done) | fail) only [go_sem, Nat.reduceEqDiff, reduceIte, Nat.reduceAdd, Int.toNat_natCast, Nat.add_zero, Owes_true, Try.results111]
  exact ⟨by simpa using hJ5, E'.keep, E'.fresh⟩
def stepW (S P : List Int) (x : Int × List Int) (t : List Int) : Int × List Int := if x.1 < (missI S P t : Int) then ((missI S P t : Int), t) else x
def worstF (S P : List Int) (Q : List (List Int)) : Int × List Int := Q.foldl (stepW S P) (-1, [])
theorem worstF_snoc (S P : List Int) (Q : List (List Int)) (t : List Int) : worstF S P (Q ++ [t]) = stepW S P (worstF S P Q) t := by
  unfold worstF; rw [List.foldl_append]; rfl
noncomputable abbrev lpW (s : LoopState) (t : Tmps) (dm : Nat) : ALoop := ⟨s, none, 69, t, #[20], codeA Try.f69, codeB Try.f69, dm⟩
structure JW (W0 : AW) (S P : List Int) (b n0 dm lp : Nat) (lv : ALoop) (Q : List (List Int)) (w : AW) : Prop where
  o2 : Own w n0 70 [ptr b]
  o3 : Own w (n0 + 1) 73 (P.flatMap icells)
  o4 : Own w (n0 + 1 + 1) 73 ((padI (worstF S P Q).2).flatMap icells)
  o5 : Own w (n0 + 1 + 1 + 1) 3 [.int .i64 (worstF S P Q).1]
  loop : w.blk lp = some (.loop lv)
  mark : w.blk dm = some (.deferred (some []))
  keep : Keep W0.next W0 w
  fresh : Fresh w
  lt : lp < w.next
  len : (worstF S P Q).2.length ≤ 4
  bnd : W0.next ≤ n0 ∧ n0 + 1 + 1 + 1 < dm ∧ dm < lp
theorem JW.mut {W0 w w' : AW} {S P : List Int} {b n0 dm lp : Nat} {lv : ALoop} {Q : List (List Int)} (h : JW W0 S P b n0 dm lp lv Q w) {T : Nat → Prop} (m : MutS T w w') (hT : ∀ j, T j → lp < j) : JW W0 S P b n0 dm lp lv Q w' := by
  have hb := h.bnd
  have hl := h.lt
  have no : ∀ j, j ≤ lp → ¬ T j := fun j hj q => by have := hT j q; omega
  exact ⟨m.own h.o2 (no _ (by omega)), m.own h.o3 (no _ (by omega)), m.own h.o4 (no _ (by omega)), m.own h.o5 (no _ (by omega)), by rw [m.blk _ hl (no _ (by omega))]; exact h.loop, by rw [m.blk _ (by omega) (no _ (by omega))]; exact h.mark,
    h.keep.trans (m.keep (fun j q => by have := hT j q; omega) h.keep.next), m.fresh, by have := m.next; omega, h.len, h.bnd⟩
theorem JW.relp {W0 w : AW} {S P : List Int} {b n0 dm lp : Nat} {lv : ALoop} {Q : List (List Int)} (h : JW W0 S P b n0 dm lp lv Q w) (lv2 : ALoop) : JW W0 S P b n0 dm lp lv2 Q (w.put lp (.loop lv2)) := by
  have hb := h.bnd
  have m := MutS.put (S := fun j => j = lp) h.fresh rfl h.lt (.loop lv2)
  exact ⟨m.own h.o2 (by omega), m.own h.o3 (by omega), m.own h.o4 (by omega), m.own h.o5 (by omega), by rw [AW.blk_put _ _ _ _ (Trie.in_ _) (Trie.in_ _), if_pos rfl], by rw [m.blk _ (by have := h.lt; omega) (by omega)]; exact h.mark,
    h.keep.trans (m.keep (fun j q => by have := h.keep.next; omega) h.keep.next), m.fresh, by rw [AW.next_put]; exact h.lt, h.len, h.bnd⟩
set_option maxHeartbeats 16000000 in
theorem yieldW_ok {W0 : AW} {A : AudN} (hS : okS A.st) {b : Nat} {p q : Option Addr} {a c : Nat} (hb : SearchAt W0 b p q a c A) (hs : ArrOf W0 1 icells (.slice p A.st.length a) A.st) (P : List Int) (hP4 : P.length = 4) (hP : FitS A.st P) {n0 dm lp : Nat} (t : Tmps)
    (e2 : ev t (.tmp 2) = ptr n0) (e3 : ev t (.tmp 3) = ptr (n0 + 1)) (e4 : ev t (.tmp 4) = ptr (n0 + 1 + 1)) (e5 : ev t (.tmp 5) = ptr (n0 + 1 + 1 + 1)) (Q : List (List Int)) (u : List Int) (w : AW) (h : JW W0 A.st P b n0 dm lp (lpW .ready t dm) Q w) (hul : u.length = A.st.length) (huf : FitS A.st u) :
    CallT Try.prog Try.T1 (.fn (.yield lp) #[]) #[aV (padI u)] w (fun v w' => v = .bool true ∧ JW W0 A.st P b n0 dm lp (lpW .ready t dm) (Q ++ [u]) w' ∧ MutS (fun j => j = n0 + 1 + 1 ∨ j = n0 + 1 + 1 + 1 ∨ j = lp) w w') := by
  have hu4 : (padI u).length = 4 := padI_len (by have := hS.2.1; omega)
  obtain ⟨w1, hst, O1, g1, n1⟩ := put4 h.fresh hu4
  have h1 : JW W0 A.st P b n0 dm lp (lpW .ready t dm) Q w1 := h.mut (T := fun _ => False) (.of g1) fun _ q => q.elim
  refine callT_yield (lp := lpW .ready t dm) h.loop rfl ?_
  show CodeT Try.prog Try.T1 { fn := 69, round := some lp } (codeA Try.f69) (putTmp t (some 20) _) [] w _
  refine codeR_codeT (x := .mk) _ ?_
  rw [Try.ra69_eq]
  unfold Try.ra69
  unfold aV
  simp -dsimp -implicitDefEqProofs (maxSteps := 2000000) (disch := first | assumption | omega | (simp only [nx]; omega) | ((repeat refine Fresh.push ?_ _); assumption) | (simp only [smA]; done) | (simp [oneCell, AW.next_push]; done) | fail) only [go_sem, Nat.reduceEqDiff, reduceIte, Nat.reduceAdd, Int.toNat_natCast, Nat.add_zero, Owes_true, hst]
  refine ⟨trivial, _, h1.loop, rfl, ?_⟩
  refine codeR_codeT (x := .mk) _ ?_
  rw [Try.rb69_eq]
  unfold Try.rb69
  have h2 := h1.relp (lpW .busy t dm)
  have m12 := MutS.put (S := fun j => j = lp) h1.fresh rfl h1.lt (.loop (lpW .busy t dm))
  have hlt := h.lt
  have hbd := h.bnd
  have O2 := m12.own O1 (by omega)
  generalize w1.put lp (.loop (lpW .busy t dm)) = w2 at *
  have d2 := h2.o2.cell (o := 0) rfl rfl
  have l3 := loadAll h2.o3 (n := 4) (by rw [icells_flat_len, hP4]) (icells_ones P)
  have lu := loadAll O2 (n := 4) (by rw [icells_flat_len, hu4]) (icells_ones _)
  have hm := miss_ok A hS P (padI u) hP4 hu4 hP (fit_pad huf) b p q a c w2 h2.fresh (hb.keep h2.keep) (hs.kept h2.keep)
  have hmu : missI A.st P (padI u) = missI A.st P u := missTo_ext (fun _ => rfl) (padI_at u) _
  rw [hmu] at hm
  unfold aV at hm
  simp -dsimp -implicitDefEqProofs (maxSteps := 2000000) (disch := first | assumption | omega | (simp only [nx]; omega) | ((repeat refine Fresh.push ?_ _); assumption) | (simp only [smA]; done) | (simp [oneCell, AW.next_push]; done) | fail) only [go_sem, Nat.reduceEqDiff, reduceIte, Nat.reduceAdd, Int.toNat_natCast, Nat.add_zero, Owes_true, e2, e3, e4, e5, d2, l3, lu, Nat.zero_add]
  apply callV_of (e := rfl)
  · exact hm
  rintro _ w3 ⟨rfl, g3⟩
  have h3 : JW W0 A.st P b n0 dm lp (lpW .busy t dm) Q w3 := h2.mut (T := fun _ => False) (.of g3) fun _ q => q.elim
  have O3 := O2.keep g3.1
  have lu3 := loadAll O3 (n := 4) (by rw [icells_flat_len, hu4]) (icells_ones _)
  have d5 := h3.o5.cell (o := 0) rfl rfl
  have hsn := worstF_snoc A.st P Q u
  have m03 : MutS (fun j => j = n0 + 1 + 1 ∨ j = n0 + 1 + 1 + 1 ∨ j = lp) w w3 := ((MutS.of g1).trans (m12.mono fun j q => .inr (.inr q)) (Within.refl _ _)).trans (MutS.of g3) (Within.refl _ _)
  have hlt3 := h3.lt
  by_cases hlt2 : (worstF A.st P Q).1 < (missI A.st P u : Int)
  case neg =>
    have hst : worstF A.st P (Q ++ [u]) = worstF A.st P Q := by rw [hsn]; unfold stepW; rw [if_neg hlt2]
    have hdl : decide ((missI A.st P u : Int) > (worstF A.st P Q).1) = false := decide_eq_false hlt2
    have h3' : JW W0 A.st P b n0 dm lp (lpW .busy t dm) (Q ++ [u]) w3 := ⟨h3.o2, h3.o3, by rw [hst]; exact h3.o4, by rw [hst]; exact h3.o5, h3.loop, h3.mark, h3.keep, h3.fresh, h3.lt, by rw [hst]; exact h3.len, h3.bnd⟩
    simp -dsimp -implicitDefEqProofs (maxSteps := 2000000) (disch := first | assumption | omega | (simp only [nx]; omega) | ((repeat refine Fresh.push ?_ _); assumption) | (simp only [smA]; done) | (simp [oneCell, AW.next_push]; done) | fail) only [go_sem, Nat.reduceEqDiff, reduceIte, Nat.reduceAdd, Int.toNat_natCast, Nat.add_zero, Owes_true, e2, e3, e4, e5, d5, hlt2, hdl]
    exact ⟨trivial, trivial, _, h3.loop, trivial, h3'.relp _, m03.trans ((MutS.put (S := fun j => j = lp) h3.fresh rfl hlt3 _).mono fun j q => .inr (.inr q)) (Within.refl _ _)⟩
  have hst : worstF A.st P (Q ++ [u]) = ((missI A.st P u : Int), u) := by rw [hsn]; unfold stepW; rw [if_pos hlt2]
  have hdl : decide ((missI A.st P u : Int) > (worstF A.st P Q).1) = true := decide_eq_true hlt2
  have hpu : ((padI u).flatMap icells).length = 4 := by rw [icells_flat_len, hu4]
  have hpx : ((padI (worstF A.st P Q).2).flatMap icells).length = 4 := by rw [icells_flat_len, padI_len h3.len]
  have st4 := storeV_own (o := 0) (l := (padI u).flatMap icells) (size := 4) h3.o4 hpu (by omega) (by omega) (List.all_eq_true.2 (icells_ones _))
  have hcut : setsL ((padI (worstF A.st P Q).2).flatMap icells) 0 ((padI u).flatMap icells) = (padI u).flatMap icells := by
    rw [setsL_cut _ _ _ (by omega), hpu, List.drop_eq_nil_of_le (by omega)]; simp
  rw [hcut] at st4
  have m4 := MutS.put (S := fun j => j = n0 + 1 + 1) h3.fresh rfl h3.o4.lt (.cells ((padI u).flatMap icells) 73 (n0 + 1 + 1) 0 0)
  have o4' := h3.o4.put ((padI u).flatMap icells)
  have n4 : (w3.put (n0 + 1 + 1) (.cells ((padI u).flatMap icells) 73 (n0 + 1 + 1) 0 0)).next = w3.next := AW.next_put _ _ _
  generalize w3.put (n0 + 1 + 1) (.cells ((padI u).flatMap icells) 73 (n0 + 1 + 1) 0 0) = w4 at *
  have o5' := m4.own h3.o5 (by omega)
  have st5 := storeV_own1 (o := 0) (v := .int .i64 (missI A.st P u : Int)) o5' (by simp) rfl
  simp only [setL] at st5
  have m5 := MutS.put (S := fun j => j = n0 + 1 + 1 + 1) m4.fresh rfl o5'.lt (.cells [.int .i64 (missI A.st P u : Int)] 3 (n0 + 1 + 1 + 1) 0 0)
  have o5'' := o5'.put [.int .i64 (missI A.st P u : Int)]
  have n5 : (w4.put (n0 + 1 + 1 + 1) (.cells [.int .i64 (missI A.st P u : Int)] 3 (n0 + 1 + 1 + 1) 0 0)).next = w4.next := AW.next_put _ _ _
  simp -dsimp -implicitDefEqProofs (maxSteps := 2000000) (disch := first | assumption | omega | (simp only [nx]; omega) | ((repeat refine Fresh.push ?_ _); assumption) | (simp only [smA]; done) | (simp [oneCell, AW.next_push]; done) | fail) only [go_sem, Nat.reduceEqDiff, reduceIte, Nat.reduceAdd, Int.toNat_natCast, Nat.add_zero, Owes_true, e2, e3, e4, e5, d5, hlt2, hdl, lu3, st4, st5]
  generalize w4.put (n0 + 1 + 1 + 1) (.cells [.int .i64 (missI A.st P u : Int)] 3 (n0 + 1 + 1 + 1) 0 0) = w5 at *
  have hk3 := h3.keep.next
  have h5 : JW W0 A.st P b n0 dm lp (lpW .busy t dm) (Q ++ [u]) w5 :=
    ⟨m5.own (m4.own h3.o2 (by omega)) (by omega), m5.own (m4.own h3.o3 (by omega)) (by omega), by rw [hst]; exact m5.own o4' (by omega), by rw [hst]; exact o5'', by rw [m5.blk _ (by omega) (by omega), m4.blk _ (by omega) (by omega)]; exact h3.loop,
      by rw [m5.blk _ (by omega) (by omega), m4.blk _ (by omega) (by omega)]; exact h3.mark, (h3.keep.trans (m4.keep (fun j q => by omega) h3.keep.next)).trans (m5.keep (fun j q => by omega) (by omega)), m5.fresh, by omega, by rw [hst]; have := hS.2.1; simp only []; omega, h3.bnd⟩
  exact ⟨trivial, trivial, _, h5.loop, trivial, h5.relp _, ((m03.trans (m4.mono fun j q => .inl q) (Within.refl _ _)).trans (m5.mono fun j q => .inr (.inl q)) (Within.refl _ _)).trans ((MutS.put (S := fun j => j = lp) h5.fresh rfl h5.lt _).mono fun j q => .inr (.inr q)) (Within.refl _ _)⟩
end Go.Proofs

namespace Go.Proofs
open Go Go.RowKit Go.Sim
set_option maxRecDepth 100000
theorem lists_ok (b : Nat) (lo hi : Int) (w : AW) (f : Fresh w) : CallT Try.prog Try.T1 (.fn (.func 75) #[]) #[ptr b, .int .i64 lo, .int .i64 hi] w (fun v w' => v = .func (.func 111) #[] #[ptr w.next, ptr (w.next + 1), ptr (w.next + 1 + 1)] ∧ Own w' w.next 70 [ptr b] ∧ Own w' (w.next + 1) 3 [.int .i64 lo] ∧ Own w' (w.next + 1 + 1) 3 [.int .i64 hi] ∧ Grown w w' ∧ w'.next = w.next + 1 + 1 + 1) := by
  have g1 := (Grown.refl f).push (.cells [ptr b] 70 w.next 0 0)
  have O1 := Own.new f 70 [ptr b]
  have g2 := g1.push (.cells [.int .i64 lo] 3 (w.next + 1) 0 0)
  have O2 := Own.new g1.2 3 [.int .i64 lo]
  have g3 := g2.push (.cells [.int .i64 hi] 3 (w.next + 1 + 1) 0 0)
  have O3 := Own.new g2.2 3 [.int .i64 hi]
  simp only [AW.next_push] at O2 O3
  have O1' := (O1.push (.cells [.int .i64 lo] 3 (w.next + 1) 0 0)).push (.cells [.int .i64 hi] 3 (w.next + 1 + 1) 0 0)
  have O2' := O2.push (.cells [.int .i64 hi] 3 (w.next + 1 + 1) 0 0)
  refine callT_code rfl Try.func75 rfl Try.s75_eq rfl ?_
  unfold Try.s75
  simp -dsimp -implicitDefEqProofs (maxSteps := 2000000) (disch := first | assumption | omega | (simp only [nx]; omega) | ((repeat refine Fresh.push ?_ _); assumption) | (simp only [smA]; done) | (simp [oneCell, AW.next_push]; done) | fail) only [go_sem, Nat.reduceEqDiff, reduceIte, Nat.reduceAdd, Int.toNat_natCast, Nat.add_zero, Owes_true, Try.results75]
  exact ⟨trivial, O1', O2', O3, g3, by simp only [AW.next_push]⟩
theorem yields_W {W0 : AW} {A : AudN} (hS : okS A.st) {b : Nat} {p q : Option Addr} {a c : Nat} (hb : SearchAt W0 b p q a c A) (hs : ArrOf W0 1 icells (.slice p A.st.length a) A.st) (P : List Int) (hP4 : P.length = 4) (hP : FitS A.st P) {n0 dm lp : Nat} (t : Tmps)
    (e2 : ev t (.tmp 2) = ptr n0) (e3 : ev t (.tmp 3) = ptr (n0 + 1)) (e4 : ev t (.tmp 4) = ptr (n0 + 1 + 1)) (e5 : ev t (.tmp 5) = ptr (n0 + 1 + 1 + 1)) (bc : Nat) (hbc : lp < bc) :
    Yields (fun w => Keep W0.next W0 w) A.st lp bc (fun j => j = n0 + 1 + 1 ∨ j = n0 + 1 + 1 + 1 ∨ j = lp) (fun Q w => JW W0 A.st P b n0 dm lp (lpW .ready t dm) Q w) where
  mutC := fun Q w w' h m => h.mut m fun j q => by omega
  grow := fun Q w w' h g => h.mut (T := fun _ => False) (.of g) fun _ q => q.elim
  yield := fun Q u w h hl hf _ _ _ => yieldW_ok hS hb hs P hP4 hP t e2 e3 e4 e5 Q u w h hl hf
theorem rangeW_ok {W0 w5 : AW} {A : AudN} (hS : okS A.st) {b : Nat} {p q : Option Addr} {a c : Nat} (hb : SearchAt W0 b p q a c A) (hs : ArrOf W0 1 icells (.slice p A.st.length a) A.st) (hcut : Cutt W0 (.slice p A.st.length a) A.st.length) (P : List Int) (hP4 : P.length = 4) (hP : FitS A.st P) {n0 bs bl bh : Nat} (k5 : Keep W0.next W0 w5) (f5 : Fresh w5)
    (o2 : Own w5 n0 70 [ptr b]) (o3 : Own w5 (n0 + 1) 73 (P.flatMap icells)) (o4 : Own w5 (n0 + 1 + 1) 73 [.int .i64 0, .int .i64 0, .int .i64 0, .int .i64 0]) (o5 : Own w5 (n0 + 1 + 1 + 1) 3 [.int .i64 (-1)])
    (lo hi : Int) (L1 : Own w5 bs 70 [ptr b]) (L2 : Own w5 bl 3 [.int .i64 lo]) (L3 : Own w5 bh 3 [.int .i64 hi]) (hn0 : W0.next ≤ n0) (hbs : n0 + 1 + 1 + 1 < bs) (t : Tmps)
    (e2 : ev t (.tmp 2) = ptr n0) (e3 : ev t (.tmp 3) = ptr (n0 + 1)) (e4 : ev t (.tmp 4) = ptr (n0 + 1 + 1)) (e5 : ev t (.tmp 5) = ptr (n0 + 1 + 1 + 1)) (h1 : 0 ≤ lo) (h2 : lo ≤ 64) (h3 : 0 ≤ hi) (h4 : hi ≤ 64) (h5 : lo ≤ A.st.sum) :
    CallT Try.prog Try.T1 (.fn (.func 111) #[ptr bs, ptr bl, ptr bh]) #[.func (.yield (w5.next + 1)) #[] #[]] ((w5.push (.deferred (some []))).push (.loop (lpW .ready t w5.next)))
      (fun _ w' => JW W0 A.st P b n0 w5.next (w5.next + 1) (lpW .ready t w5.next) (listsL A.st lo hi) w') := by
  have hn1 : (w5.push (.deferred (some []))).next = w5.next + 1 := AW.next_push _ _
  have hn2 : ((w5.push (.deferred (some []))).push (.loop (lpW .ready t w5.next))).next = w5.next + 1 + 1 := by rw [AW.next_push, hn1]
  have gA := ((Grown.refl f5).push (.deferred (some []))).push (.loop (lpW .ready t w5.next))
  have hkn := k5.next
  have hbl := L1.lt
  have J0 : JW W0 A.st P b n0 w5.next (w5.next + 1) (lpW .ready t w5.next) [] ((w5.push (.deferred (some []))).push (.loop (lpW .ready t w5.next))) := by
    refine ⟨(o2.push _).push _, (o3.push _).push _, (o4.push _).push _, (o5.push _).push _, ?_, ?_, k5.trans (gA.1.mono hkn), gA.2, by omega, by show 0 ≤ 4; omega, ⟨hn0, by omega, by omega⟩⟩
    · show ((w5.push (.deferred (some []))).push _).blk (w5.next + 1) = _
      rw [AW.blk_push _ _ _ (Trie.in_ _) (Trie.in_ _), if_pos hn1.symm]
    · show ((w5.push (.deferred (some []))).push _).blk w5.next = _
      rw [AW.blk_push _ _ _ (Trie.in_ _) (Trie.in_ _), if_neg (by omega), AW.blk_push _ _ _ (Trie.in_ _) (Trie.in_ _), if_pos rfl]
  have hK : SeaEnv W0 b p q a c A (fun j => j = n0 + 1 + 1 ∨ j = n0 + 1 + 1 + 1 ∨ j = w5.next + 1) W0.next (fun w => Keep W0.next W0 w) :=
    ⟨fun _ h => h, fun _ h => hb.keep h, fun w w' T h m hT => h.trans (m.keep (fun j q => by rcases hT j q with z | z <;> omega) h.next)⟩
  exact (gen_ok hS hK hs hcut (lp := w5.next + 1) (J := fun Q w => JW W0 A.st P b n0 w5.next (w5.next + 1) (lpW .ready t w5.next) Q w) _ (k5.trans (gA.1.mono hkn)) (by omega) gA.2 ((L1.push _).push _) (by omega) lo hi ((L2.push _).push _) ((L3.push _).push _)
    (yields_W hS hb hs P hP4 hP t e2 e3 e4 e5 _ (by omega)) (fun j hj => by omega) (by omega) J0 h1 h2 h3 h4 h5).mono fun _ w' h => h.1
set_option maxHeartbeats 32000000 in
theorem worst_ok {A : AudN} (hS : okS A.st) {b : Nat} {p q : Option Addr} {a c : Nat} (w : AW) (f : Fresh w) (hb : SearchAt w b p q a c A) (hs : ArrOf w 1 icells (.slice p A.st.length a) A.st) (hcut : Cutt w (.slice p A.st.length a) A.st.length) (P : List Int) (hP4 : P.length = 4) (hP : FitS A.st P) (hl1 : 1 ≤ A.lost) (hl2 : A.lost ≤ A.st.sum) :
    CallT Try.prog Try.T1 (.fn (.func 69) #[]) #[ptr b, aV P] w (fun v w' => v = .tuple #[aV (padI (worstF A.st P (listsL A.st A.lost A.lost)).2), .int .i64 (worstF A.st P (listsL A.st A.lost A.lost)).1] ∧ Grown w w') := by
  have hsm : smallL A.st := ⟨fun x hx => by
    obtain ⟨i, hi, rfl⟩ := List.getElem_of_mem hx
    have := hS.2.2 i hi
    rw [W_at hi] at this; omega, by have := hS.2.1; omega⟩
  have h32 : A.st.sum ≤ 32 := by
    have : ∀ L : List Int, (∀ x ∈ L, x ≤ 8) → L.sum ≤ 8 * (L.length : Int) := by
      intro L
      induction L with
      | nil => simp
      | cons x L ih =>
        intro h
        have := ih fun y hy => h y (List.mem_cons_of_mem _ hy)
        have := h x List.mem_cons_self
        rw [List.sum_cons, List.length_cons]; push_cast; omega
    have := this A.st fun x hx => by
      obtain ⟨i, hi, rfl⟩ := List.getElem_of_mem hx
      have := hS.2.2 i hi
      rw [W_at hi] at this; omega
    have := hS.2.1
    omega
  have g1 := (Grown.refl f).push (.cells [ptr b] 70 w.next 0 0)
  have O1 := Own.new f 70 [ptr b]
  have g2 := g1.push (.cells (P.flatMap icells) 73 (w.next + 1) 0 0)
  have O2 := Own.new g1.2 73 (P.flatMap icells)
  have g3 := g2.push (.cells [.int .i64 0, .int .i64 0, .int .i64 0, .int .i64 0] 73 (w.next + 1 + 1) 0 0)
  have O3 := Own.new g2.2 73 [.int .i64 0, .int .i64 0, .int .i64 0, .int .i64 0]
  have g4 := g3.push (.cells [.int .i64 0] 3 (w.next + 1 + 1 + 1) 0 0)
  have O4 := Own.new g3.2 3 [.int .i64 0]
  simp only [AW.next_push] at O2 O3 O4
  have O1' := ((O1.push (.cells (P.flatMap icells) 73 (w.next + 1) 0 0)).push (.cells [.int .i64 0, .int .i64 0, .int .i64 0, .int .i64 0] 73 (w.next + 1 + 1) 0 0)).push (.cells [.int .i64 0] 3 (w.next + 1 + 1 + 1) 0 0)
  have O2' := (O2.push (.cells [.int .i64 0, .int .i64 0, .int .i64 0, .int .i64 0] 73 (w.next + 1 + 1) 0 0)).push (.cells [.int .i64 0] 3 (w.next + 1 + 1 + 1) 0 0)
  have O3' := O3.push (.cells [.int .i64 0] 3 (w.next + 1 + 1 + 1) 0 0)
  have st := storeV_own1 (o := 0) (v := .int .i64 (-1)) O4 (by simp) rfl
  simp only [setL] at st
  have m4 := MutS.put (S := fun j => j = w.next + 1 + 1 + 1) g4.2 rfl O4.lt (.cells [.int .i64 (-1)] 3 (w.next + 1 + 1 + 1) 0 0)
  have O4' := O4.put [.int .i64 (-1)]
  have O1f := m4.own O1' (by omega)
  have O2f := m4.own O2' (by omega)
  have O3f := m4.own O3' (by omega)
  have k4 : Keep w.next w _ := g4.1.trans (m4.keep (fun j h => by omega) g4.1.next)
  have f4 := m4.fresh
  have n4 : ((((w.push (.cells [ptr b] 70 w.next 0 0)).push (.cells (P.flatMap icells) 73 (w.next + 1) 0 0)).push (.cells [.int .i64 0, .int .i64 0, .int .i64 0, .int .i64 0] 73 (w.next + 1 + 1) 0 0)).push (.cells [.int .i64 0] 3 (w.next + 1 + 1 + 1) 0 0)).next = w.next + 1 + 1 + 1 + 1 := by simp only [AW.next_push]
  have n4' : (((((w.push (.cells [ptr b] 70 w.next 0 0)).push (.cells (P.flatMap icells) 73 (w.next + 1) 0 0)).push (.cells [.int .i64 0, .int .i64 0, .int .i64 0, .int .i64 0] 73 (w.next + 1 + 1) 0 0)).push (.cells [.int .i64 0] 3 (w.next + 1 + 1 + 1) 0 0)).put (w.next + 1 + 1 + 1) (.cells [.int .i64 (-1)] 3 (w.next + 1 + 1 + 1) 0 0)).next = w.next + 1 + 1 + 1 + 1 := by rw [AW.next_put]; exact n4
  unfold aV
  refine callT_codeX [7] rfl Try.func69 rfl Try.s69_eq rfl ?_
  unfold Try.s69
  simp -dsimp -implicitDefEqProofs (maxSteps := 2000000) (disch := first | assumption | omega | (simp only [nx]; omega) | ((repeat refine Fresh.push ?_ _); assumption) | (simp only [smA]; done) | (simp [oneCell, AW.next_push]; done) | fail) only [go_sem, Nat.reduceEqDiff, reduceIte, Nat.reduceAdd, Int.toNat_natCast, Nat.add_zero, Owes_true, Try.results69, st]
  generalize ((((w.push (.cells [ptr b] 70 w.next 0 0)).push (.cells (P.flatMap icells) 73 (w.next + 1) 0 0)).push (.cells [.int .i64 0, .int .i64 0, .int .i64 0, .int .i64 0] 73 (w.next + 1 + 1) 0 0)).push (.cells [.int .i64 0] 3 (w.next + 1 + 1 + 1) 0 0)).put (w.next + 1 + 1 + 1) (.cells [.int .i64 (-1)] 3 (w.next + 1 + 1 + 1) 0 0) = w4 at *
  have d1 := O1f.cell (o := 0) rfl rfl
  have c2 := (hb.keep k4).c2
  simp -dsimp -implicitDefEqProofs (maxSteps := 2000000) (disch := first | assumption | omega | (simp only [nx]; omega) | ((repeat refine Fresh.push ?_ _); assumption) | (simp only [smA]; done) | (simp [oneCell, AW.next_push]; done) | fail) only [go_sem, Nat.reduceEqDiff, reduceIte, Nat.reduceAdd, Int.toNat_natCast, Nat.add_zero, Owes_true, Try.results69, d1, c2, Nat.zero_add]
  apply callV_of (e := rfl)
  · exact lists_ok b A.lost A.lost w4 f4
  rintro _ w5 ⟨rfl, L1, L2, L3, g5, n5⟩
  have hle5 : WLe w4 w5 := g5.1.wle f4
  have hk5 : Keep w.next w w5 := k4.trans (g5.1.mono k4.next)
  rw [n4'] at L1 L2 L3 n5
  simp -dsimp -implicitDefEqProofs (maxSteps := 2000000) (disch := first | assumption | omega | (simp only [nx]; omega) | ((repeat refine Fresh.push ?_ _); assumption) | (simp only [smA]; done) | (simp [oneCell, AW.next_push]; done) | fail) only [go_sem, Nat.reduceEqDiff, reduceIte, Nat.reduceAdd, Int.toNat_natCast, Nat.add_zero, Owes_true, Try.results69, hle5, n4']
  refine codeT_range rfl (by simp -dsimp -implicitDefEqProofs (maxSteps := 2000000) (disch := first | assumption | omega | (simp only [nx]; omega) | ((repeat refine Fresh.push ?_ _); assumption) | (simp only [smA]; done) | (simp [oneCell, AW.next_push]; done) | fail) only [go_sem, Nat.reduceEqDiff, reduceIte, Nat.reduceAdd, Int.toNat_natCast, Nat.add_zero, Owes_true]; rfl) ?_
  refine (rangeW_ok hS hb hs hcut P hP4 hP hk5 g5.2 (O1f.keep g5.1) (O2f.keep g5.1) (O3f.keep g5.1) (O4'.keep g5.1) A.lost A.lost L1 L2 L3 (Nat.le_refl _) (by omega) _ (by simp -dsimp -implicitDefEqProofs (maxSteps := 2000000) (disch := first | assumption | omega | (simp only [nx]; omega) | ((repeat refine Fresh.push ?_ _); assumption) | (simp only [smA]; done) | (simp [oneCell, AW.next_push]; done) | fail) only [go_sem, Nat.reduceEqDiff, reduceIte, Nat.reduceAdd, Int.toNat_natCast, Nat.add_zero, Owes_true]) (by simp -dsimp -implicitDefEqProofs (maxSteps := 2000000) (disch := first | assumption | omega | (simp only [nx]; omega) | ((repeat refine Fresh.push ?_ _); assumption) | (simp only [smA]; done) | (simp [oneCell, AW.next_push]; done) | fail) only [go_sem, Nat.reduceEqDiff, reduceIte, Nat.reduceAdd, Int.toNat_natCast, Nat.add_zero, Owes_true]) (by simp -dsimp -implicitDefEqProofs (maxSteps := 2000000) (disch := first | assumption | omega | (simp only [nx]; omega) | ((repeat refine Fresh.push ?_ _); assumption) | (simp only [smA]; done) | (simp [oneCell, AW.next_push]; done) | fail) only [go_sem, Nat.reduceEqDiff, reduceIte, Nat.reduceAdd, Int.toNat_natCast, Nat.add_zero, Owes_true]) (by simp -dsimp -implicitDefEqProofs (maxSteps := 2000000) (disch := first | assumption | omega | (simp only [nx]; omega) | ((repeat refine Fresh.push ?_ _); assumption) | (simp only [smA]; done) | (simp [oneCell, AW.next_push]; done) | fail) only [go_sem, Nat.reduceEqDiff, reduceIte, Nat.reduceAdd, Int.toNat_natCast, Nat.add_zero, Owes_true]) (by omega) (by omega) (by omega) (by omega) hl2).mono ?_
  rintro _ w6 hI
  refine ⟨_, hI.loop, rfl, rfl, ?_⟩
  intro W2 hW2
  obtain ⟨lpx, hIW⟩ : ∃ lpx, JW w A.st P b w.next w5.next (w5.next + 1) lpx (listsL A.st A.lost A.lost) W2 := ⟨_, by rw [hW2]; exact hI.relp _⟩
  clear hW2 hI
  obtain ⟨X, hX⟩ : ∃ X, X = worstF A.st P (listsL A.st A.lost A.lost) := ⟨_, rfl⟩
  have i4 := hIW.o4
  have i5 := hIW.o5
  have hmk := hIW.mark
  have hlt2 := hIW.lt
  have hkp := hIW.keep
  have hfr := hIW.fresh
  have hXl := hIW.len
  rw [← hX] at i4 i5 hXl ⊢
  clear hIW
  have hpx : ((padI X.2).flatMap icells).length = 4 := by rw [icells_flat_len, padI_len hXl]
  have ld4 := loadAll i4 hpx (icells_ones _)
  have ld5 := i5.cell (o := 0) rfl rfl
  have sme := same_ptV (padI X.2)
  have st4 := storeV_own (o := 0) (l := (padI X.2).flatMap icells) (size := 4) i4 hpx (by omega) (by omega) (List.all_eq_true.2 (icells_ones _))
  have hcut2 : setsL ((padI X.2).flatMap icells) 0 ((padI X.2).flatMap icells) = (padI X.2).flatMap icells := by
    rw [setsL_cut _ _ _ (by omega), hpx, List.drop_eq_nil_of_le (by omega)]; simp
  rw [hcut2] at st4
  have m6 := MutS.put (S := fun j => j = w.next + 1 + 1) hfr rfl i4.lt (.cells ((padI X.2).flatMap icells) 73 (w.next + 1 + 1) 0 0)
  have j4 := i4.put ((padI X.2).flatMap icells)
  have nn6 : (W2.put (w.next + 1 + 1) (.cells ((padI X.2).flatMap icells) 73 (w.next + 1 + 1) 0 0)).next = W2.next := AW.next_put _ _ _
  generalize W2.put (w.next + 1 + 1) (.cells ((padI X.2).flatMap icells) 73 (w.next + 1 + 1) 0 0) = W3 at *
  have j5 := m6.own i5 (by omega)
  have ld5' := j5.cell (o := 0) rfl rfl
  have st5 := storeV_own1 (o := 0) (v := .int .i64 X.1) j5 (by simp) rfl
  simp only [setL] at st5
  have m7 := MutS.put (S := fun j => j = w.next + 1 + 1 + 1) m6.fresh rfl j5.lt (.cells [.int .i64 X.1] 3 (w.next + 1 + 1 + 1) 0 0)
  have q5 := j5.put [.int .i64 X.1]
  have nn7 : (W3.put (w.next + 1 + 1 + 1) (.cells [.int .i64 X.1] 3 (w.next + 1 + 1 + 1) 0 0)).next = W3.next := AW.next_put _ _ _
  simp -dsimp -implicitDefEqProofs (maxSteps := 2000000) (disch := first | assumption | omega | (simp only [nx]; omega) | ((repeat refine Fresh.push ?_ _); assumption) | (simp only [smA]; done) | (simp [oneCell, AW.next_push]; done) | fail) only [go_sem, Nat.reduceEqDiff, reduceIte, Nat.reduceAdd, Int.toNat_natCast, Nat.add_zero, Owes_true, Try.results69]
  show CodeT _ _ _ _ _ _ _ _
  refine codeT_regX Try.x69r7_eq Try.x69r7_kinds ?_
  unfold Try.x69r7
  simp -dsimp -implicitDefEqProofs (maxSteps := 2000000) (disch := first | assumption | omega | (simp only [nx]; omega) | ((repeat refine Fresh.push ?_ _); assumption) | (simp only [smA]; done) | (simp [oneCell, AW.next_push]; done) | fail) only [go_sem, Nat.reduceEqDiff, reduceIte, Nat.reduceAdd, Int.toNat_natCast, Nat.add_zero, Owes_true, ld4, ld5, sme, st4]
  refine ⟨⟨.inr fun inf hinf => ?_, .inl (show Nat.testBit 1 0 = true by decide), trivial⟩, ?_⟩
  · rw [Try.ty3] at hinf
    injection hinf with hinf
    subst hinf
    simp -dsimp -implicitDefEqProofs (maxSteps := 2000000) (disch := first | assumption | omega | (simp only [nx]; omega) | ((repeat refine Fresh.push ?_ _); assumption) | (simp only [smA]; done) | (simp [oneCell, AW.next_push]; done) | fail) only [go_sem, Nat.reduceEqDiff, reduceIte, Nat.reduceAdd, Int.toNat_natCast, Nat.add_zero, Owes_true, ld5', ld5]
  simp -dsimp -implicitDefEqProofs (maxSteps := 2000000) (disch := first | assumption | omega | (simp only [nx]; omega) | ((repeat refine Fresh.push ?_ _); assumption) | (simp only [smA]; done) | (simp [oneCell, AW.next_push]; done) | fail) only [go_sem, Nat.reduceEqDiff, reduceIte, Nat.reduceAdd, Int.toNat_natCast, Nat.add_zero, Owes_true, ld4, ld5, sme, st5]
  generalize W3.put (w.next + 1 + 1 + 1) (.cells [.int .i64 X.1] 3 (w.next + 1 + 1 + 1) 0 0) = W4 at *
  refine ⟨⟨.inl (show Nat.testBit 7 1 = true by decide), .inl (show Nat.testBit 7 0 = true by decide), trivial⟩, ?_⟩
  simp -dsimp -implicitDefEqProofs (maxSteps := 2000000) (disch := first | assumption | omega | (simp only [nx]; omega) | ((repeat refine Fresh.push ?_ _); assumption) | (simp only [smA]; done) | (simp [oneCell, AW.next_push]; done) | fail) only [go_sem, Nat.reduceEqDiff, reduceIte, Nat.reduceAdd, Int.toNat_natCast, Nat.add_zero, Owes_true, Try.results69]
  have hn52 := hkp.next
  refine Left_one ?_ ?_
  · rw [m7.blk _ (by omega) (by omega), m6.blk _ (by omega) (by omega)]; exact hmk
  have m9 := MutS.put (S := fun j => j = w5.next) m7.fresh rfl (by omega) (.deferred none)
  have z4 := m9.own (m7.own j4 (by omega)) (by omega)
  have z5 := m9.own q5 (by omega)
  have lz4 := loadAll z4 hpx (icells_ones _)
  have lz5 := z5.cell (o := 0) rfl rfl
  have kk : Keep w.next w _ := (hkp.trans (m6.keep (fun j q => by omega) (by omega))).trans ((m7.keep (fun j q => by omega) (by omega)).trans (m9.keep (fun j q => by omega) (by omega)))
  simp -dsimp -implicitDefEqProofs (maxSteps := 2000000) (disch := first | assumption | omega | (simp only [nx]; omega) | ((repeat refine Fresh.push ?_ _); assumption) | (simp only [smA]; done) | (simp [oneCell, AW.next_push]; done) | fail) only [go_sem, Nat.reduceEqDiff, reduceIte, Nat.reduceAdd, Int.toNat_natCast, Nat.add_zero, Owes_true, Try.results69, lz4, lz5]
  exact ⟨trivial, kk, m9.fresh⟩
end Go.Proofs

namespace Go.Sim
open Go Go.RowKit
theorem AOwn.weak {B C : Nat} {w : AW} {e : TypeId} {size n : Nat} {v : Value} {cells : List Value} (h : AOwn B w e size v n cells) (k : C ≤ B) : AOwn C w e size v n cells := by
  rcases h with h | ⟨b, r, a1, a2, a3, a4, a5, a6, a7, a9, a8⟩
  · exact .inl h
  · exact .inr ⟨b, r, a1, by omega, a3, by omega, a5, a6, a7, a9, fun j hj => let ⟨x, y⟩ := a8 j hj; ⟨by omega, y⟩⟩
theorem AOwn.cut {B : Nat} {w : AW} {e : TypeId} {size n : Nat} {v : Value} {cells : List Value} (h : AOwn B w e size v n cells) {a : Nat} (ha : a ≤ n) :
    ∃ p q c, ∀ w', Keep w.next w w' → sliceV w' size v none (some (.int .i64 (a : Int))) = some (.slice p a n) ∧ aNew w' size a (.slice p a n) = some (cells.take (a * size)) ∧
      sliceV w' size v (some (.int .i64 (a : Int))) none = some (.slice q (n - a) c) ∧ aNew w' size (n - a) (.slice q (n - a) c) = some (cells.drop (a * size)) := by
  rcases h with ⟨rfl, rfl, rfl⟩ | ⟨b, r, rfl, h1, h2, h3, h4, h5, h6, h7, _⟩
  · obtain rfl : a = 0 := by omega
    exact ⟨none, none, 0, fun w' _ => ⟨rfl, by simp [aNew, aFirst], rfl, by simp [aNew, aFirst]⟩⟩
  · have hle : a * size ≤ n * size := Nat.mul_le_mul_right _ ha
    have b1 : Nat.ble 0 a = true := rfl
    have b2 : Nat.ble a n = true := Nat.ble_eq_true_of_le ha
    have b3 : Nat.ble n n = true := Nat.ble_eq_true_of_le (Nat.le_refl _)
    have b4 : Nat.beq size size = true := Nat.beq_refl _
    refine ⟨some ⟨b, 0 + 0 * size, none⟩, some ⟨b, 0 + a * size, none⟩, n - a, fun w' k => ?_⟩
    have h5 : w'.blk b = some (.cells cells e r 0 size) := by rw [k.blk b h2]; exact h5
    have hc : ∀ (i : Nat) v, cells[i]? = some v → w'.cell? ⟨b, i, none⟩ = some v := fun i v hv => by
      simp only [AW.cell?, h5, getL_eq, hv, h7 v (List.mem_of_getElem? hv)]
    refine ⟨?_, ?_, ?_, ?_⟩
    · show sliceV w' size (.slice (some ⟨b, 0, none⟩) n n) none (some (.int .i64 (Int.ofNat a))) = _
      simp only [sliceV, natOr, b1, b2, h5, b4, Bool.true_or, Bool.and_self, Nat.sub_zero]
    · have ht : (cells.take (a * size)).length = a * size := by rw [List.length_take, h6]; omega
      have := aCells_of (w := w') (b := b) (cells.take (a * size)) (0 + 0 * size) fun i v hv => by
        rw [List.getElem?_take] at hv
        split at hv
        · rw [show 0 + 0 * size + i = i by omega]; exact hc i v hv
        · cases hv
      rw [ht] at this
      simp only [aNew, aFirst, this]
    · show sliceV w' size (.slice (some ⟨b, 0, none⟩) n n) (some (.int .i64 (Int.ofNat a))) none = _
      simp only [sliceV, natOr, b3, b2, h5, b4, Bool.true_or, Bool.and_self]
    · have ht : (cells.drop (a * size)).length = (n - a) * size := by rw [List.length_drop, h6, Nat.sub_mul]
      have := aCells_of (w := w') (b := b) (cells.drop (a * size)) (0 + a * size) fun i v hv => by
        rw [List.getElem?_drop] at hv
        rw [show 0 + a * size + i = a * size + i by omega]; exact hc _ v hv
      rw [ht] at this
      simp only [aNew, aFirst, this]
end Go.Sim

namespace Go.Proofs
open Go Go.RowKit Go.Sim
set_option maxRecDepth 100000
theorem worstF_is (S P : List Int) : ∀ (Q : List (List Int)), (Q = [] → worstF S P Q = (-1, [])) ∧ (Q ≠ [] → (worstF S P Q).2 ∈ Q ∧ (worstF S P Q).1 = (missI S P (worstF S P Q).2 : Int)) ∧ ∀ t ∈ Q, (missI S P t : Int) ≤ (worstF S P Q).1 := by
  intro Q
  suffices h : ∀ (R : List (List Int)) (n : Nat), R.length = n → (R = [] → worstF S P R = (-1, [])) ∧ (R ≠ [] → (worstF S P R).2 ∈ R ∧ (worstF S P R).1 = (missI S P (worstF S P R).2 : Int)) ∧ ∀ t ∈ R, (missI S P t : Int) ≤ (worstF S P R).1 from h Q _ rfl
  intro R n
  induction n generalizing R with
  | zero =>
    intro h
    obtain rfl := List.length_eq_zero_iff.1 h
    exact ⟨fun _ => rfl, fun h => absurd rfl h, fun t ht => by cases ht⟩
  | succ n ih =>
    intro h
    obtain ⟨R', t, rfl⟩ : ∃ R' t, R = R' ++ [t] := ⟨R.dropLast, R.getLast (by intro e; subst e; simp at h), (List.dropLast_concat_getLast _).symm⟩
    obtain ⟨h1, h2, h3⟩ := ih R' (by simpa using h)
    refine ⟨fun e => by simp at e, fun _ => ?_, fun u hu => ?_⟩
    · rw [worstF_snoc]
      unfold stepW
      split
      · exact ⟨by simp, rfl⟩
      · rename_i hlt
        by_cases he : R' = []
        · rw [h1 he] at hlt; simp at hlt; omega
        · exact ⟨List.mem_append_left _ (h2 he).1, (h2 he).2⟩
    · rw [worstF_snoc]
      unfold stepW
      rcases List.mem_append.1 hu with q | q
      · have := h3 u q
        split <;> (try simp only []) <;> omega
      · simp at q; subst q
        split <;> (try simp only []) <;> omega
theorem exists_list : ∀ {S : List Int} {k : Int}, (∀ x ∈ S, 0 ≤ x) → 0 ≤ k → k ≤ S.sum → ∃ t : List Int, t.length = S.length ∧ FitS S t ∧ t.sum = k
  | [], k, _, h0, h1 => ⟨[], rfl, fun i hi => by simp at hi, by rw [List.sum_nil] at h1 ⊢; omega⟩
  | s :: S, k, hS, h0, h1 => by
    have hs := hS s List.mem_cons_self
    rw [List.sum_cons] at h1
    have hnn := sum_nn fun x hx => hS x (List.mem_cons_of_mem s hx)
    obtain ⟨t, a, b, c⟩ := exists_list (S := S) (k := k - min s k) (fun x hx => hS x (List.mem_cons_of_mem _ hx)) (by omega) (by omega)
    refine ⟨min s k :: t, by simp [a], fun i hi => ?_, by rw [List.sum_cons, c]; omega⟩
    cases i with
    | zero => simp only [W, List.getD, List.getElem?_cons_zero, Option.getD_some]; omega
    | succ i =>
      have := b i (by simpa using hi)
      simpa [W, List.getD] using this
theorem okS_nn {S : List Int} (h : okS S) : ∀ x ∈ S, 0 ≤ x := fun x hx => by
  obtain ⟨i, hi, rfl⟩ := List.getElem_of_mem hx
  have := h.2.2 i hi
  rw [W_at hi] at this; omega
def lossesL (A : AudN) : List (List Int) := listsL A.st A.lost A.lost
def worstX (A : AudN) (P : List Int) : Int × List Int := worstF A.st P (lossesL A)
theorem losses_mem {A : AudN} (h : audB A = true) (t : List Int) : t ∈ lossesL A ↔ t.length = A.st.length ∧ FitS A.st t ∧ t.sum = A.lost := by
  obtain ⟨hS, _, _, h1, h2, _⟩ := audB_ok h
  unfold lossesL
  rw [listsL_mem t (okS_nn hS) h2 (by omega)]
  constructor
  · rintro ⟨a, b, c, d⟩; exact ⟨a, b, by omega⟩
  · rintro ⟨a, b, c⟩; exact ⟨a, b, by omega, by omega⟩
theorem losses_ne {A : AudN} (h : audB A = true) : lossesL A ≠ [] := by
  obtain ⟨hS, _, _, h1, h2, _⟩ := audB_ok h
  obtain ⟨t, a, b, c⟩ := exists_list (okS_nn hS) (show 0 ≤ A.lost by omega) h2
  intro e
  have := (losses_mem h t).2 ⟨a, b, c⟩
  rw [e] at this; cases this
theorem worstX_is {A : AudN} (h : audB A = true) (P : List Int) : (worstX A P).2 ∈ lossesL A ∧ (worstX A P).1 = (missI A.st P (worstX A P).2 : Int) ∧ ∀ t ∈ lossesL A, (missI A.st P t : Int) ≤ (worstX A P).1 := by
  obtain ⟨_, h2, h3⟩ := worstF_is A.st P (lossesL A)
  exact ⟨(h2 (losses_ne h)).1, (h2 (losses_ne h)).2, h3⟩
theorem worstX_pad (A : AudN) (P : List Int) : worstX A (padI P) = worstX A P := by
  unfold worstX worstF
  have : stepW A.st (padI P) = stepW A.st P := by
    funext x t; unfold stepW; rw [missI_padP]
  rw [this]
theorem Try.sl73a (t : Tmps) (w : AW) (x hi : Operand) : fast (prg Try.prog) t w (.slice 73 x none (some hi) none) = slicePV 4 1 (ev t x) none (some (ev t hi)) := by simp only [fast, Try.ty73, Try.ty3]; rfl
theorem slicePV_4n (b n : Nat) (h : n ≤ 4) : slicePV 4 1 (.pointer (some ⟨b, 0, none⟩)) none (some (.int .i64 (n : Int))) = some (.slice (some ⟨b, 0, none⟩) n 4) := by
  have b1 : Nat.ble 0 n = true := Nat.ble_eq_true_of_le (Nat.zero_le _)
  have b2 : Nat.ble n 4 = true := Nat.ble_eq_true_of_le h
  show (match (some 0 : Option Nat), some n with | some l, some h => (match Nat.ble l h && Nat.ble h 4 with | true => some (Value.slice (some ⟨b, bif Nat.beq 4 l then 0 else 0 + l * 1, none⟩) (h - l) (4 - l)) | false => none) | _, _ => none) = _
  simp only [b1, b2, Bool.and_self]
  rfl
attribute [go_sem] Try.sl73a
theorem own_arr {w : AW} {b n c : Nat} {e : TypeId} {C : List Int} (h : Own w b e (C.flatMap icells)) (hn : n ≤ C.length) (hc : n ≤ c) (hc2 : c ≤ 1048576) : ArrOf w 1 icells (.slice (some ⟨b, 0, none⟩) n c) (C.take n) := by
  refine ⟨_, _, _, rfl, by rw [List.length_map, List.length_take]; omega, hc, by omega, fun h0 => ⟨b, 0, rfl, h.lt, fun i j r y hi hx => ?_⟩⟩
  rw [List.getElem?_map, List.getElem?_take] at hi
  split at hi
  · rename_i hin
    rw [List.getElem?_eq_getElem (show i < C.length by omega)] at hi
    simp only [Option.map_some, Option.some.injEq] at hi
    subst hi
    match j, hx with
    | 0, hx =>
      simp only [icells, List.getElem?_cons_zero, Option.some.injEq] at hx
      subst hx
      have := h.icell (i := i) (by omega)
      rw [W_at (by omega)] at this
      simpa using this
  · cases hi
theorem bin_slice (op : BinOp) (p q : Option Addr) (a b c d : Nat) : binQ op (.slice p a b) (.slice q c d) = none := rfl
theorem eqQ_slice (op : BinOp) (ty : TypeId) (p q : Option Addr) (a b c d : Nat) : eqQ Try.prog op ty (.slice p a b) (.slice q c d) = none := rfl
theorem fast_bin22 {t : Tmps} {w : AW} {op : BinOp} {x y : Operand} {r : TypeId} : fast (prg Try.prog) t w (.binOp op 22 x y r) = orElse (binV op (ev t x) (ev t y)) (eqNilV (.slice 3) op (ev t x) (ev t y)) := by
  simp only [fast, Try.ty22]
  cases binV op (ev t x) (ev t y) <;> rfl
theorem binV_slice (op : BinOp) (p q : Option Addr) (a b c d : Nat) : binV op (.slice p a b) (.slice q c d) = none := rfl
theorem eqNil_some (q : Addr) (a b : Nat) : eqNilV (.slice 3) .eql (.slice (some q) a b) (.slice none 0 0) = some (.bool false) := rfl
theorem Clone_ok (b n c : Nat) (L : List Int) (hl : L.length = n) (h1 : 1 ≤ n) (h4 : n ≤ 1000) (w : AW) (f : Fresh w) (hs : ArrOf w 1 icells (.slice (some ⟨b, 0, none⟩) n c) L) :
    CallT Try.prog Try.T1 (.fn (.func 110) #[]) #[.slice (some ⟨b, 0, none⟩) n c] w (fun r w' => RowA w.next w' r L ∧ Grown w w') := by
  subst hl
  have g := (Grown.refl f).push (.cells [] 3 w.next 0 0)
  have hn := arr_new (hs.grown g) icells_len (Nat.le_refl _)
  obtain ⟨v', w', happ, hk, hf, hor⟩ := append_empty (b := w.next) (e' := 3) Try.ty22 Try.ty3 rfl (by omega) (blk_push_top _ _) g.2 rfl hn (by rw [icells_flat_len, Nat.mul_one]) (icells_ones L) (by omega) (by omega)
  refine callT_code rfl Try.func110 rfl Try.s110_eq rfl ?_
  unfold Try.s110
  simp -dsimp -implicitDefEqProofs (maxSteps := 2000000) (disch := first | assumption | omega | (simp only [nx]; omega) | ((repeat refine Fresh.push ?_ _); assumption) | (simp only [smA]; done) | (simp [oneCell, AW.next_push]; done) | fail) only [go_sem, Nat.reduceEqDiff, reduceIte, Nat.reduceAdd, Int.toNat_natCast, Nat.add_zero, Owes_true, Try.results110, bin_slice, eqQ_slice, fast_bin22, binV_slice, eqNil_some, happ]
  rcases hor with ⟨q, _⟩ | hA
  · omega
  · exact ⟨RowA.weak (B := (w.push (.cells [] 3 w.next 0 0)).next) hA (by rw [AW.next_push]; omega), g.trans ⟨hk, hf⟩⟩
theorem list_ok {A : AudN} (hS : okS A.st) {b : Nat} {p q : Option Addr} {a c : Nat} (w : AW) (f : Fresh w) (hb : SearchAt w b p q a c A) (C : List Int) (hC : C.length = 4) :
    CallT Try.prog Try.T1 (.fn (.func 70) #[]) #[ptr b, aV C] w (fun v w' => RowA w.next w' v (C.take A.st.length) ∧ Grown w w') := by
  have g1 := (Grown.refl f).push (.cells (C.flatMap icells) 73 w.next 0 0)
  have O1 := Own.new f 73 (C.flatMap icells)
  have hb1 := hb.keep g1.1
  have d0 := hb1.c0
  have hsl := slicePV_4n w.next A.st.length hS.2.1
  have hA := own_arr (n := A.st.length) (c := 4) O1 (by have := hS.2.1; omega) hS.2.1 (by omega)
  have hcl := Clone_ok w.next A.st.length 4 (C.take A.st.length) (by rw [List.length_take]; have := hS.2.1; omega) hS.1 (by have := hS.2.1; omega) _ g1.2 hA
  unfold aV
  refine callT_code rfl Try.func70 rfl Try.s70_eq rfl ?_
  unfold Try.s70
  simp -dsimp -implicitDefEqProofs (maxSteps := 2000000) (disch := first | assumption | omega | (simp only [nx]; omega) | ((repeat refine Fresh.push ?_ _); assumption) | (simp only [smA]; done) | (simp [oneCell, AW.next_push]; done) | fail) only [go_sem, Nat.reduceEqDiff, reduceIte, Nat.reduceAdd, Int.toNat_natCast, Nat.add_zero, Owes_true, Try.results70, d0, Nat.zero_add, hsl]
  apply callV_of (e := rfl)
  · exact hcl
  rintro v w2 ⟨hR, g2⟩
  simp -dsimp -implicitDefEqProofs (maxSteps := 2000000) (disch := first | assumption | omega | (simp only [nx]; omega) | ((repeat refine Fresh.push ?_ _); assumption) | (simp only [smA]; done) | (simp [oneCell, AW.next_push]; done) | fail) only [go_sem, Nat.reduceEqDiff, reduceIte, Nat.reduceAdd, Int.toNat_natCast, Nat.add_zero, Owes_true, Try.results70]
  exact ⟨hR.weak g1.1.next, g1.trans g2⟩
end Go.Proofs

namespace Go.Proofs
open Go Go.RowKit Go.Sim
def aheadB : List Int → List Int → Bool
  | x :: a, y :: b => if x = y then aheadB a b else decide (x < y)
  | a, b => decide (a.length < b.length)
theorem aheadB_refl : ∀ a : List Int, aheadB a a = false
  | [] => rfl
  | x :: a => by rw [aheadB, if_pos rfl]; exact aheadB_refl a
theorem aheadB_asymm : ∀ {a b : List Int}, aheadB a b = true → aheadB b a = false
  | [], [], h => by simp [aheadB] at h
  | [], y :: b, h => by simp [aheadB]
  | x :: a, [], h => by simp [aheadB] at h
  | x :: a, y :: b, h => by
    rw [aheadB] at h ⊢
    by_cases e : x = y
    · rw [if_pos e] at h; rw [if_pos e.symm]; exact aheadB_asymm h
    · rw [if_neg e] at h; rw [if_neg (fun q => e q.symm)]
      have := of_decide_eq_true h
      exact decide_eq_false (by omega)
theorem fromTo_pw (a b : Int) : (fromTo a b).Pairwise (· < ·) := by
  unfold fromTo
  rw [List.pairwise_map]
  exact List.pairwise_lt_range.imp fun h => by omega
theorem listsL_pw : ∀ (S : List Int) (lo hi : Int), (listsL S lo hi).Pairwise fun a b => aheadB a b = true
  | [], _, _ => by simp [listsL]
  | s :: S, lo, hi => by
    rw [listsL, List.pairwise_flatMap]
    refine ⟨fun n _ => ?_, (fromTo_pw _ _).imp fun {n m} hnm x hx y hy => ?_⟩
    · rw [List.pairwise_map]
      exact (listsL_pw S _ _).imp fun {a b} h => by rw [aheadB, if_pos rfl]; exact h
    · obtain ⟨u, _, rfl⟩ := List.mem_map.1 hx
      obtain ⟨v, _, rfl⟩ := List.mem_map.1 hy
      rw [aheadB, if_neg (by omega)]
      exact decide_eq_true hnm
def costTo (co P : List Int) : Nat → Int
  | 0 => 0
  | i + 1 => costTo co P i + W P i * W co i
def costI (co P : List Int) : Int := costTo co P co.length
theorem costTo_pad (co P : List Int) : ∀ i, costTo co (padI P) i = costTo co P i
  | 0 => rfl
  | i + 1 => by rw [costTo, costTo, costTo_pad co P i, padI_at]
theorem costTo_in {co P S : List Int} (hco : ∀ i, i < S.length → 0 ≤ W co i ∧ W co i ≤ 1000) (hS : okS S) (hP : FitS S P) : ∀ i, i ≤ S.length → 0 ≤ costTo co P i ∧ costTo co P i ≤ 8000 * (i : Int)
  | 0, _ => by simp [costTo]
  | i + 1, h => by
    have ih := costTo_in hco hS hP i (by omega)
    have h1 := hco i (by omega)
    have h2 := hP i (by omega)
    have h3 := hS.2.2 i (by omega)
    rw [costTo]
    have a1 : 0 ≤ W P i * W co i := Int.mul_nonneg h2.1 h1.1
    have a2 : W P i * W co i ≤ 8 * 1000 := Int.mul_le_mul (by omega) h1.2 h1.1 (by omega)
    push_cast
    omega
def findsB (A : AudN) (P : List Int) : Bool := decide (1000 * (worstX A P).1 ≤ (allI A.st P : Int) * (1000 - A.sure))
theorem findsB_pad (A : AudN) (P : List Int) : findsB A (padI P) = findsB A P := by
  unfold findsB
  rw [worstX_pad]
  have : allI A.st (padI P) = allI A.st P := missI_padP _ _ _
  rw [this]
def stepC (A : AudN) (x : Int × List Int) (t : List Int) : Int × List Int := if costI A.co t < x.1 ∧ findsB A t = true then (costI A.co t, t) else x
def leastF (A : AudN) (Q : List (List Int)) : Int × List Int := Q.foldl (stepC A) (9223372036854775807, [])
theorem leastF_snoc (A : AudN) (Q : List (List Int)) (t : List Int) : leastF A (Q ++ [t]) = stepC A (leastF A Q) t := by
  unfold leastF; rw [List.foldl_append]; rfl
theorem leastF_is (A : AudN) : ∀ (n : Nat) (Q : List (List Int)), Q.length = n → (Q.Pairwise fun a b => aheadB a b = true) → (∀ t ∈ Q, costI A.co t < 9223372036854775807) →
    (((leastF A Q).1 = 9223372036854775807 ∧ (leastF A Q).2 = []) ∨ ((leastF A Q).2 ∈ Q ∧ (leastF A Q).1 = costI A.co (leastF A Q).2 ∧ findsB A (leastF A Q).2 = true)) ∧
    ∀ t ∈ Q, findsB A t = true → (leastF A Q).1 ≤ costI A.co t ∧ ((leastF A Q).1 = costI A.co t → aheadB t (leastF A Q).2 = false) := by
  intro n
  induction n with
  | zero =>
    intro Q h _ _
    obtain rfl := List.length_eq_zero_iff.1 h
    exact ⟨.inl ⟨rfl, rfl⟩, fun t ht => by cases ht⟩
  | succ n ih =>
    intro Q h hp hc
    obtain ⟨R, t, rfl⟩ : ∃ R t, Q = R ++ [t] := ⟨Q.dropLast, Q.getLast (by intro e; subst e; simp at h), (List.dropLast_concat_getLast _).symm⟩
    rw [List.pairwise_append] at hp
    obtain ⟨hp1, _, hp2⟩ := hp
    obtain ⟨h1, h2⟩ := ih R (by simpa using h) hp1 fun u hu => hc u (List.mem_append_left _ hu)
    have hct := hc t (by simp)
    rw [leastF_snoc]
    unfold stepC
    split
    · rename_i hif
      refine ⟨.inr ⟨by simp, rfl, hif.2⟩, fun u hu hf => ?_⟩
      rcases List.mem_append.1 hu with q | q
      · have := h2 u q hf
        simp only []
        exact ⟨by omega, fun e => by omega⟩
      · simp at q; subst q
        exact ⟨Int.le_refl _, fun _ => aheadB_refl _⟩
    · rename_i hif
      refine ⟨?_, fun u hu hf => ?_⟩
      · rcases h1 with h1 | h1
        · exact .inl h1
        · exact .inr ⟨List.mem_append_left _ h1.1, h1.2⟩
      · rcases List.mem_append.1 hu with q | q
        · exact h2 u q hf
        · simp at q; subst q
          have hle : (leastF A R).1 ≤ costI A.co u := by
            rcases (by omega : costI A.co u < (leastF A R).1 ∨ (leastF A R).1 ≤ costI A.co u) with z | z
            · exact absurd ⟨z, hf⟩ hif
            · exact z
          refine ⟨hle, fun e => ?_⟩
          rcases h1 with ⟨z, _⟩ | ⟨z, _⟩
          · omega
          · exact aheadB_asymm (hp2 _ z u (by simp))
theorem chs_zero {n : Nat} {k : Nat} (hk : k < 9) (h : n < k) : chs n k = 0 := by
  have : ∀ k, k < 9 → ∀ n, n < k → chs n k = 0 := by decide +kernel
  exact this k hk n h
theorem missTo_zero {S L : List Int} (hS : okS S) (hL : FitS S L) : ∀ i, i ≤ S.length → (∃ j, j < i ∧ 1 ≤ W L j) → missTo S S L i = 0
  | 0, _, ⟨j, h, _⟩ => by omega
  | i + 1, h, ⟨j, hj, h1⟩ => by
    simp only [missTo]
    by_cases e : j = i
    · subst e
      have a := hS.2.2 j (by omega)
      have b := hL j (by omega)
      rw [chs_zero (n := (W S j - W L j).toNat) (by omega) (by omega), Nat.mul_zero]
    · rw [missTo_zero hS hL i (by omega) ⟨j, by omega, h1⟩, Nat.zero_mul]
theorem fit_self {S : List Int} (hS : okS S) : FitS S S := fun i hi => by have := hS.2.2 i hi; omega
theorem finds_all {A : AudN} (h : audB A = true) : findsB A A.st = true := by
  obtain ⟨hS, _, _, h1, h2, h3, h4⟩ := audB_ok h
  obtain ⟨hm, he, _⟩ := worstX_is h A.st
  obtain ⟨a, b, c⟩ := (losses_mem h _).1 hm
  have hz : missI A.st A.st (worstX A A.st).2 = 0 := by
    refine missTo_zero hS b _ (Nat.le_refl _) ?_
    rcases Classical.em (∃ j, j < A.st.length ∧ 1 ≤ W (worstX A A.st).2 j) with q | q
    · exact q
    · exfalso
      have : ∀ x ∈ (worstX A A.st).2, x ≤ 0 := fun x hx => by
        obtain ⟨i, hi, rfl⟩ := List.getElem_of_mem hx
        rcases (by omega : 0 < (worstX A A.st).2[i] ∨ (worstX A A.st).2[i] ≤ 0) with z | z
        · exact absurd ⟨i, by omega, by rw [W_at hi]; omega⟩ q
        · exact z
      have : (worstX A A.st).2.sum ≤ 0 := by
        have aux : ∀ l : List Int, (∀ x ∈ l, x ≤ 0) → l.sum ≤ 0 := by
          intro l
          induction l with
          | nil => simp
          | cons x l ih =>
            intro hh
            have := ih fun y hy => hh y (List.mem_cons_of_mem _ hy)
            have := hh x List.mem_cons_self
            rw [List.sum_cons]; omega
        exact aux _ this
      omega
  unfold findsB
  rw [he, hz]
  refine decide_eq_true ?_
  have : (0 : Int) ≤ (allI A.st A.st : Int) * (1000 - A.sure) := Int.mul_nonneg (by omega) (by omega)
  simpa using this
def samplesL (A : AudN) : List (List Int) := listsL A.st 0 A.st.sum
def leastX (A : AudN) : Int × List Int := leastF A (samplesL A)
theorem samples_mem {A : AudN} (h : audB A = true) (t : List Int) : t ∈ samplesL A ↔ t.length = A.st.length ∧ FitS A.st t := by
  obtain ⟨hS, _, _, h1, h2, _⟩ := audB_ok h
  unfold samplesL
  rw [listsL_mem t (okS_nn hS) (by omega) (by omega)]
  constructor
  · rintro ⟨a, b, _⟩; exact ⟨a, b⟩
  · rintro ⟨a, b⟩
    have := listsL_mem.fit_sum [] 0 0 a b
    exact ⟨a, b, by omega, by omega⟩
theorem cost_in {A : AudN} (h : audB A = true) {t : List Int} (ht : FitS A.st t) : 0 ≤ costI A.co t ∧ costI A.co t ≤ 32000 := by
  obtain ⟨hS, hco, hci, _⟩ := audB_ok h
  have := costTo_in hci hS ht A.st.length (Nat.le_refl _)
  have := hS.2.1
  unfold costI
  rw [hco]
  omega
theorem leastX_is {A : AudN} (h : audB A = true) : (leastX A).2.length = A.st.length ∧ FitS A.st (leastX A).2 ∧ (leastX A).1 = costI A.co (leastX A).2 ∧ findsB A (leastX A).2 = true ∧
    ∀ t, t.length = A.st.length → FitS A.st t → findsB A t = true → (leastX A).1 ≤ costI A.co t ∧ ((leastX A).1 = costI A.co t → aheadB t (leastX A).2 = false) := by
  obtain ⟨h1, h2⟩ := leastF_is A _ (samplesL A) rfl (listsL_pw _ _ _) fun t ht => by
    have := cost_in h ((samples_mem h t).1 ht).2; omega
  have hS := (audB_ok h).1
  have hm : A.st ∈ samplesL A := (samples_mem h _).2 ⟨rfl, fit_self hS⟩
  have ha := h2 _ hm (finds_all h)
  have hc := cost_in h (fit_self hS)
  unfold leastX at *
  rcases h1 with ⟨z, _⟩ | ⟨z1, z2, z3⟩
  · omega
  · obtain ⟨a, b⟩ := (samples_mem h _).1 z1
    exact ⟨a, b, z2, z3, fun t t1 t2 t3 => h2 t ((samples_mem h t).2 ⟨t1, t2⟩) t3⟩
end Go.Proofs

namespace Go.Proofs
open Go Go.RowKit Go.Sim
set_option maxRecDepth 100000
end Go.Proofs

namespace Go.Proofs
open Go Go.RowKit Go.Sim
set_option maxRecDepth 100000
end Go.Proofs

namespace Go.Proofs
open Go Go.RowKit Go.Sim
set_option maxRecDepth 100000
def Srch (L : List Int) (lo hi : Int) : Prop := 0 ≤ lo ∧ lo ≤ hi ∧ hi ≤ 640000 ∧ (lo = 0 ∨ 64 < needL L (lo - 1)) ∧ needL L hi ≤ 64
theorem Srch.done {L : List Int} {lo hi : Int} (h : Srch L lo hi) (he : ¬ lo < hi) : LeastRisk L lo := by
  obtain ⟨a, b, c, d, e⟩ := h
  obtain rfl : lo = hi := by omega
  exact ⟨a, c, e, d⟩
end Go.Proofs
