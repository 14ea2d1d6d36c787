/- This program: its code, contracts, numbers, part 2. -/
import Derived.Test.YtlilncofnckgdaaPaa
import Derived.Test.YtlilncofnckgdaaNa
import Derived.Test.YtlilncofnckgdaaNc
import Derived.Test.YtlilncofnckgdaaChecked
import Derived.Test.YtlilncofnckgdaaSh
import Derived.Test.YtlilncofnckgdaaSf
import Derived.Test.YtlilncofnckgdaaCz
set_option linter.unusedVariables false
set_option linter.unusedSimpArgs false
namespace Go.Proofs
open Go Go.RowKit Go.Sim
set_option maxRecDepth 100000
def Try.s22 : SC := (.seq (.ops false [⟨⟨(some 4),.assign (.const (.bool false)),4,"",⟨[]⟩,none⟩,none,false⟩]) (.seq (.ops false [⟨⟨(some 7),.move (.tmp 0),22,"",⟨[]⟩,none⟩,none,false⟩,⟨⟨(some 8),.call ⟨.builtin .len,⟨[(.tmp 7)]⟩,⟨[22]⟩⟩,3,"",⟨[]⟩,none⟩,none,false⟩,⟨⟨(some 9),.move (.tmp 1),22,"",⟨[]⟩,none⟩,none,false⟩,⟨⟨(some 10),.call ⟨.builtin .len,⟨[(.tmp 9)]⟩,⟨[22]⟩⟩,3,"",⟨[]⟩,none⟩,none,false⟩,⟨⟨(some 11),.binOp .eql 3 (.tmp 8) (.tmp 10) 3,4,"",⟨[]⟩,none⟩,none,false⟩,⟨⟨(some 5),.assign (.tmp 11),4,"",⟨[]⟩,none⟩,none,false⟩]) (.seq (.seq (.ops false [⟨⟨(some 6),.assign (.const (.int .i64 0)),3,"",⟨[]⟩,none⟩,none,false⟩]) (.block 0 (.loop (.seq (.seq (.ops false [⟨⟨(some 12),.move (.tmp 5),4,"",⟨[]⟩,none⟩,none,false⟩,⟨⟨(some 13),.move (.tmp 12),4,"",⟨[]⟩,none⟩,none,false⟩,⟨⟨(some 14),.move (.tmp 6),3,"",⟨[]⟩,none⟩,some ((some 13),true),false⟩,⟨⟨(some 15),.move (.tmp 0),22,"",⟨[]⟩,none⟩,some ((some 13),true),false⟩,⟨⟨(some 16),.call ⟨.builtin .len,⟨[(.tmp 15)]⟩,⟨[22]⟩⟩,3,"",⟨[]⟩,none⟩,some ((some 13),true),false⟩,⟨⟨(some 17),.binOp .lss 3 (.tmp 14) (.tmp 16) 3,4,"",⟨[]⟩,none⟩,some ((some 13),true),false⟩,⟨⟨(some 18),.pick (.tmp 13) (.tmp 17) (.const (.bool false)),4,"",⟨[]⟩,none⟩,none,false⟩]) (.cond (.tmp 18) .skip (.exit 0))) (.seq (.block 1 (.ops true [⟨⟨(some 21),.move (.tmp 0),22,"",⟨[]⟩,none⟩,none,true⟩,⟨⟨(some 22),.move (.tmp 6),3,"",⟨[]⟩,none⟩,none,true⟩,⟨⟨(some 23),.indexAddr 22 (.tmp 21) (.tmp 22),0,"",⟨[]⟩,none⟩,none,true⟩,⟨⟨(some 24),.load 3 (.tmp 23),3,"",⟨[]⟩,none⟩,none,true⟩,⟨⟨(some 25),.move (.tmp 1),22,"",⟨[]⟩,none⟩,none,true⟩,⟨⟨(some 26),.move (.tmp 6),3,"",⟨[]⟩,none⟩,none,true⟩,⟨⟨(some 27),.indexAddr 22 (.tmp 25) (.tmp 26),0,"",⟨[]⟩,none⟩,none,true⟩,⟨⟨(some 28),.load 3 (.tmp 27),3,"",⟨[]⟩,none⟩,none,true⟩,⟨⟨(some 29),.binOp .eql 3 (.tmp 24) (.tmp 28) 3,4,"",⟨[]⟩,none⟩,none,true⟩,⟨⟨(some 5),.assign (.tmp 29),4,"",⟨[]⟩,none⟩,none,true⟩])) (.ops false [⟨⟨(some 19),.move (.tmp 6),3,"",⟨[]⟩,none⟩,none,false⟩,⟨⟨(some 20),.binOp .add 3 (.tmp 19) (.const (.int .i64 1)) 3,3,"",⟨[]⟩,none⟩,none,false⟩,⟨⟨(some 6),.assign (.tmp 20),3,"",⟨[]⟩,none⟩,none,false⟩])))))) (.seq (.ops false [⟨⟨(some 30),.move (.tmp 5),4,"",⟨[]⟩,none⟩,none,false⟩,⟨⟨(some 4),.assign (.tmp 30),4,"",⟨[]⟩,none⟩,none,false⟩]) .ret))))
def Try.s6 : SC := (.seq (.ops false [⟨⟨(some 4),.box 45 (.tmp 1),0,"",⟨[]⟩,none⟩,none,false⟩,⟨⟨(some 6),.assign (.const (.bool false)),4,"",⟨[]⟩,none⟩,none,false⟩]) (.seq (.ops false [⟨⟨(some 14),.move (.tmp 0),22,"",⟨[]⟩,none⟩,none,false⟩,⟨⟨(some 15),.call ⟨.value (.func 34),⟨[(.tmp 14)]⟩,⟨[22]⟩⟩,39,"",⟨[]⟩,none⟩,none,false⟩,⟨⟨(some 13),.move (.tmp 15),39,"",⟨[]⟩,none⟩,none,false⟩,⟨⟨(some 16),.extract (.tmp 13) 0,3,"",⟨[]⟩,none⟩,none,false⟩,⟨⟨(some 17),.extract (.tmp 13) 1,25,"",⟨[]⟩,none⟩,none,false⟩,⟨⟨(some 7),.assign (.tmp 16),3,"",⟨[]⟩,none⟩,none,false⟩,⟨⟨(some 8),.assign (.tmp 17),25,"",⟨[]⟩,none⟩,none,false⟩]) (.seq (.ops false [⟨⟨(some 19),.move (.tmp 0),22,"",⟨[]⟩,none⟩,none,false⟩,⟨⟨(some 20),.call ⟨.value (.func 35),⟨[(.tmp 19)]⟩,⟨[22]⟩⟩,39,"",⟨[]⟩,none⟩,none,false⟩,⟨⟨(some 18),.move (.tmp 20),39,"",⟨[]⟩,none⟩,none,false⟩,⟨⟨(some 21),.extract (.tmp 18) 0,3,"",⟨[]⟩,none⟩,none,false⟩,⟨⟨(some 22),.extract (.tmp 18) 1,25,"",⟨[]⟩,none⟩,none,false⟩,⟨⟨(some 9),.assign (.tmp 21),3,"",⟨[]⟩,none⟩,none,false⟩,⟨⟨(some 10),.assign (.tmp 22),25,"",⟨[]⟩,none⟩,none,false⟩]) (.seq (.seq (.ops false [⟨⟨(some 23),.move (.tmp 7),3,"",⟨[]⟩,none⟩,none,false⟩,⟨⟨(some 24),.move (.tmp 9),3,"",⟨[]⟩,none⟩,none,false⟩,⟨⟨(some 25),.binOp .neq 3 (.tmp 23) (.tmp 24) 3,4,"",⟨[]⟩,none⟩,none,false⟩,⟨⟨(some 26),.move (.tmp 25),4,"",⟨[]⟩,none⟩,none,false⟩,⟨⟨(some 27),.move (.tmp 8),25,"",⟨[]⟩,none⟩,some ((some 26),false),false⟩,⟨⟨(some 28),.move (.tmp 10),25,"",⟨[]⟩,none⟩,some ((some 26),false),false⟩,⟨⟨(some 29),.binOp .neq 25 (.tmp 27) (.tmp 28) 25,4,"",⟨[]⟩,none⟩,some ((some 26),false),false⟩,⟨⟨(some 30),.pick (.tmp 26) (.const (.bool true)) (.tmp 29),4,"",⟨[]⟩,none⟩,none,false⟩]) (.cond (.tmp 30) (.seq (.ops false [⟨⟨(some 6),.assign (.const (.bool false)),4,"",⟨[]⟩,none⟩,none,false⟩]) .ret) .skip)) (.seq (.ops false [⟨⟨(some 32),.indexAddr 45 (.tmp 4) (.const (.int .i64 0)),0,"",⟨[]⟩,none⟩,none,false⟩,⟨⟨(some 33),.load 3 (.tmp 32),3,"",⟨[]⟩,none⟩,none,false⟩,⟨⟨(some 34),.indexAddr 45 (.tmp 4) (.const (.int .i64 1)),0,"",⟨[]⟩,none⟩,none,false⟩,⟨⟨(some 35),.load 3 (.tmp 34),3,"",⟨[]⟩,none⟩,none,false⟩,⟨⟨(some 36),.call ⟨.value (.func 36),⟨[(.tmp 33),(.tmp 35)]⟩,⟨[3,3]⟩⟩,47,"",⟨[]⟩,none⟩,none,false⟩,⟨⟨(some 31),.move (.tmp 36),47,"",⟨[]⟩,none⟩,none,false⟩,⟨⟨(some 37),.extract (.tmp 31) 0,22,"",⟨[]⟩,none⟩,none,false⟩,⟨⟨(some 38),.extract (.tmp 31) 1,25,"",⟨[]⟩,none⟩,none,false⟩,⟨⟨(some 11),.assign (.tmp 37),22,"",⟨[]⟩,none⟩,none,false⟩,⟨⟨(some 8),.assign (.tmp 38),25,"",⟨[]⟩,none⟩,none,false⟩]) (.seq (.ops false [⟨⟨(some 40),.indexAddr 45 (.tmp 4) (.const (.int .i64 0)),0,"",⟨[]⟩,none⟩,none,false⟩,⟨⟨(some 41),.load 3 (.tmp 40),3,"",⟨[]⟩,none⟩,none,false⟩,⟨⟨(some 42),.indexAddr 45 (.tmp 4) (.const (.int .i64 1)),0,"",⟨[]⟩,none⟩,none,false⟩,⟨⟨(some 43),.load 3 (.tmp 42),3,"",⟨[]⟩,none⟩,none,false⟩,⟨⟨(some 44),.call ⟨.value (.func 37),⟨[(.tmp 41),(.tmp 43)]⟩,⟨[3,3]⟩⟩,47,"",⟨[]⟩,none⟩,none,false⟩,⟨⟨(some 39),.move (.tmp 44),47,"",⟨[]⟩,none⟩,none,false⟩,⟨⟨(some 45),.extract (.tmp 39) 0,22,"",⟨[]⟩,none⟩,none,false⟩,⟨⟨(some 46),.extract (.tmp 39) 1,25,"",⟨[]⟩,none⟩,none,false⟩,⟨⟨(some 12),.assign (.tmp 45),22,"",⟨[]⟩,none⟩,none,false⟩,⟨⟨(some 10),.assign (.tmp 46),25,"",⟨[]⟩,none⟩,none,false⟩]) (.seq (.seq (.ops false [⟨⟨(some 47),.move (.tmp 11),22,"",⟨[]⟩,none⟩,none,false⟩,⟨⟨(some 48),.move (.tmp 12),22,"",⟨[]⟩,none⟩,none,false⟩,⟨⟨(some 49),.call ⟨.value (.func 22),⟨[(.tmp 47),(.tmp 48)]⟩,⟨[22,22]⟩⟩,4,"",⟨[]⟩,none⟩,none,false⟩,⟨⟨(some 50),.unOp .not 4 (.tmp 49),4,"",⟨[]⟩,none⟩,none,false⟩,⟨⟨(some 51),.move (.tmp 50),4,"",⟨[]⟩,none⟩,none,false⟩,⟨⟨(some 52),.move (.tmp 8),25,"",⟨[]⟩,none⟩,some ((some 51),false),false⟩,⟨⟨(some 53),.move (.tmp 10),25,"",⟨[]⟩,none⟩,some ((some 51),false),false⟩,⟨⟨(some 54),.binOp .neq 25 (.tmp 52) (.tmp 53) 25,4,"",⟨[]⟩,none⟩,some ((some 51),false),false⟩,⟨⟨(some 55),.pick (.tmp 51) (.const (.bool true)) (.tmp 54),4,"",⟨[]⟩,none⟩,none,false⟩]) (.cond (.tmp 55) (.seq (.ops false [⟨⟨(some 6),.assign (.const (.bool false)),4,"",⟨[]⟩,none⟩,none,false⟩]) .ret) .skip)) (.seq (.ops false [⟨⟨(some 57),.indexAddr 45 (.tmp 4) (.const (.int .i64 0)),0,"",⟨[]⟩,none⟩,none,false⟩,⟨⟨(some 58),.load 3 (.tmp 57),3,"",⟨[]⟩,none⟩,none,false⟩,⟨⟨(some 59),.indexAddr 45 (.tmp 4) (.const (.int .i64 2)),0,"",⟨[]⟩,none⟩,none,false⟩,⟨⟨(some 60),.load 3 (.tmp 59),3,"",⟨[]⟩,none⟩,none,false⟩,⟨⟨(some 61),.move (.tmp 2),22,"",⟨[]⟩,none⟩,none,false⟩,⟨⟨(some 62),.call ⟨.value (.func 38),⟨[(.tmp 58),(.tmp 60),(.tmp 61)]⟩,⟨[3,3,22]⟩⟩,47,"",⟨[]⟩,none⟩,none,false⟩,⟨⟨(some 56),.move (.tmp 62),47,"",⟨[]⟩,none⟩,none,false⟩,⟨⟨(some 63),.extract (.tmp 56) 0,22,"",⟨[]⟩,none⟩,none,false⟩,⟨⟨(some 64),.extract (.tmp 56) 1,25,"",⟨[]⟩,none⟩,none,false⟩,⟨⟨(some 11),.assign (.tmp 63),22,"",⟨[]⟩,none⟩,none,false⟩,⟨⟨(some 8),.assign (.tmp 64),25,"",⟨[]⟩,none⟩,none,false⟩]) (.seq (.ops false [⟨⟨(some 66),.indexAddr 45 (.tmp 4) (.const (.int .i64 0)),0,"",⟨[]⟩,none⟩,none,false⟩,⟨⟨(some 67),.load 3 (.tmp 66),3,"",⟨[]⟩,none⟩,none,false⟩,⟨⟨(some 68),.indexAddr 45 (.tmp 4) (.const (.int .i64 2)),0,"",⟨[]⟩,none⟩,none,false⟩,⟨⟨(some 69),.load 3 (.tmp 68),3,"",⟨[]⟩,none⟩,none,false⟩,⟨⟨(some 70),.move (.tmp 2),22,"",⟨[]⟩,none⟩,none,false⟩,⟨⟨(some 71),.call ⟨.value (.func 39),⟨[(.tmp 67),(.tmp 69),(.tmp 70)]⟩,⟨[3,3,22]⟩⟩,47,"",⟨[]⟩,none⟩,none,false⟩,⟨⟨(some 65),.move (.tmp 71),47,"",⟨[]⟩,none⟩,none,false⟩,⟨⟨(some 72),.extract (.tmp 65) 0,22,"",⟨[]⟩,none⟩,none,false⟩,⟨⟨(some 73),.extract (.tmp 65) 1,25,"",⟨[]⟩,none⟩,none,false⟩,⟨⟨(some 12),.assign (.tmp 72),22,"",⟨[]⟩,none⟩,none,false⟩,⟨⟨(some 10),.assign (.tmp 73),25,"",⟨[]⟩,none⟩,none,false⟩]) (.seq (.ops false [⟨⟨(some 74),.move (.tmp 11),22,"",⟨[]⟩,none⟩,none,false⟩,⟨⟨(some 75),.move (.tmp 12),22,"",⟨[]⟩,none⟩,none,false⟩,⟨⟨(some 76),.call ⟨.value (.func 22),⟨[(.tmp 74),(.tmp 75)]⟩,⟨[22,22]⟩⟩,4,"",⟨[]⟩,none⟩,none,false⟩,⟨⟨(some 77),.move (.tmp 76),4,"",⟨[]⟩,none⟩,none,false⟩,⟨⟨(some 78),.move (.tmp 8),25,"",⟨[]⟩,none⟩,some ((some 77),true),false⟩,⟨⟨(some 79),.move (.tmp 10),25,"",⟨[]⟩,none⟩,some ((some 77),true),false⟩,⟨⟨(some 80),.binOp .eql 25 (.tmp 78) (.tmp 79) 25,4,"",⟨[]⟩,none⟩,some ((some 77),true),false⟩,⟨⟨(some 81),.pick (.tmp 77) (.tmp 80) (.const (.bool false)),4,"",⟨[]⟩,none⟩,none,false⟩,⟨⟨(some 82),.move (.tmp 81),4,"",⟨[]⟩,none⟩,none,false⟩,⟨⟨(some 83),.call ⟨.value (.func 25),⟨[]⟩,⟨[]⟩⟩,4,"",⟨[]⟩,none⟩,some ((some 82),true),false⟩,⟨⟨(some 84),.pick (.tmp 82) (.tmp 83) (.const (.bool false)),4,"",⟨[]⟩,none⟩,none,false⟩,⟨⟨(some 6),.assign (.tmp 84),4,"",⟨[]⟩,none⟩,none,false⟩]) .ret))))))))))
theorem Try.s22_eq : Try.f22.body.map sOf = some Try.s22 := by kernel_rfl
end Go.Proofs

namespace Go.Proofs
open Go Go.RowKit Go.Sim
set_option maxRecDepth 100000
end Go.Proofs

namespace Go.Sim
open Go Go.RowKit
section
variable {P : Program} {told : ToldF} {d : Option Tmp} {ty0 : TypeId} {pos : String} {af : Array Edge} {gd : Option (Tmp × Bool)} {t : Tmps} {w : AW} {K : Tmps → AW → Prop}
end
theorem setsL_cut : ∀ (l c : List Value) (o : Nat), o + l.length ≤ c.length → setsL c o l = c.take o ++ l ++ c.drop (o + l.length)
  | [], c, o, _ => by simp [setsL]
  | v :: l, c, o, h => by
    rw [List.length_cons] at h
    rw [setsL, setsL_cut l _ _ (by rw [setL_eq, List.length_set]; omega), setL_eq, List.drop_set_of_lt (by omega), List.take_succ_eq_append_getElem (by rw [List.length_set]; omega), List.take_set_of_le (Nat.le_refl _)]
    rw [List.length_cons, show o + 1 + l.length = o + (l.length + 1) by omega]
    simp
end Go.Sim

namespace Go.Proofs
open Go Go.RowKit Go.Sim
set_option maxRecDepth 100000
theorem icells_ones (A : List Int) : ∀ v ∈ A.flatMap icells, oneCell v = true := fun v hv => by
  obtain ⟨y, _, hy⟩ := List.mem_flatMap.1 hv
  exact icells_one y v hy
end Go.Proofs

namespace Go.Proofs
open Go Go.RowKit Go.Sim
set_option maxRecDepth 100000
end Go.Proofs

namespace Go.Proofs
open Go Go.RowKit Go.Sim
set_option maxRecDepth 100000
theorem ArrOf.takeI {w : AW} {p : Option Addr} {n c a : Nat} {L : List Int} (h : ArrOf w 1 icells (.slice p n c) L) (ha : a ≤ L.length) : ArrOf w 1 icells (.slice p a c) (L.take a) := by
  obtain ⟨p', n', cap, e, hn, hc, hm, hat⟩ := h
  injection e with e1 e2 e3
  subst e1 e2 e3
  rw [List.length_map] at hn
  refine ⟨_, _, _, rfl, by rw [List.length_map, List.length_take]; omega, by omega, hm, fun h0 => ?_⟩
  obtain ⟨b, o, e, hb, hcell⟩ := hat (by omega)
  refine ⟨b, o, e, hb, fun i j r x hi hx => hcell i j r x ?_ hx⟩
  rw [List.map_take, List.getElem?_take] at hi
  split at hi
  · exact hi
  · cases hi
theorem RowA.to {B : Nat} {w : AW} {v : Value} {L : List Int} {a : Nat} (h : RowA B w v L) (h1 : 1 ≤ L.length) (ha : a ≤ L.length) (hl : L.length ≤ 1048576) : ∃ b, v = .slice (some ⟨b, 0, none⟩) L.length L.length ∧ sliceV w 1 v none (some (.int .i64 (a : Int))) = some (.slice (some ⟨b, 0, none⟩) a L.length) ∧ ArrOf w 1 icells (.slice (some ⟨b, 0, none⟩) a L.length) (L.take a) := by
  have hA := h.arr hl
  rcases h with ⟨_, h, _⟩ | ⟨b, r, rfl, _, _, _, _, hb, _⟩
  · omega
  refine ⟨b, rfl, ?_, Go.Proofs.ArrOf.takeI hA ha⟩
  have b1 : Nat.ble 0 a = true := Nat.ble_eq_true_of_le (Nat.zero_le _)
  have b2 : Nat.ble a L.length = true := Nat.ble_eq_true_of_le ha
  show sliceV w 1 (.slice (some ⟨b, 0, none⟩) L.length L.length) none (some (.int .i64 (Int.ofNat a))) = _
  have b3 : Nat.beq 1 1 = true := rfl
  simp only [sliceV, natOr, b1, b2, hb, Bool.and_self, b3, Bool.true_or, Nat.zero_mul, Nat.zero_add, Nat.sub_zero]
def Drawn (e : Int) (L : List Int) (w : AW) : Value → AW → Prop := fun v w' => Grown w w' ∧ ∃ (p : Option Addr) (m c : Nat), v = .tuple #[.slice p m c, .int .i64 e] ∧ (e ≠ 0 → Value.slice p m c = .slice none 0 0) ∧ (e = 0 → ArrOf w' 1 icells (.slice p m c) L)
def DrawnR (e : Int) (L : List Int) (w : AW) : Value → AW → Prop := fun v w' => Grown w w' ∧ ∃ (p : Option Addr) (m c : Nat), v = .tuple #[.slice p m c, .int .i64 e] ∧ (e ≠ 0 → Value.slice p m c = .slice none 0 0) ∧ (e = 0 → ArrOf w' 1 icells (.slice p m c) L) ∧
  (e = 0 → ∃ (b : Nat) (F : List Int), p = some ⟨b, 0, none⟩ ∧ c = F.length ∧ m ≤ F.length ∧ F.take m = L ∧ F.length ≤ 8 ∧ RowA w.next w' (.slice (some ⟨b, 0, none⟩) F.length F.length) F)
theorem DrawnR.drawn {e : Int} {L : List Int} {w w' : AW} {v : Value} (h : DrawnR e L w v w') : Drawn e L w v w' := by
  obtain ⟨g, p, m, c, h1, h2, h3, _⟩ := h
  exact ⟨g, p, m, c, h1, h2, h3⟩
theorem RowA.weak {B C : Nat} {w : AW} {v : Value} {L : List Int} (h : RowA B w v L) (k : C ≤ B) : RowA C w v L := by
  rcases h with h | ⟨b, r, a1, a2, a3, a4, a5, a6, a7, a9, a8⟩
  · exact .inl h
  · exact .inr ⟨b, r, a1, by omega, a3, by omega, a5, a6, a7, a9, fun j hj => let ⟨c1, c2⟩ := a8 j hj; ⟨by omega, c2⟩⟩
end Go.Proofs

namespace Go.Proofs
open Go Go.RowKit Go.Sim
set_option maxRecDepth 100000
end Go.Proofs
