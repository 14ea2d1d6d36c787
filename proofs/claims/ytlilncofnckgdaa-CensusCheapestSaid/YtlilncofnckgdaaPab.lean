/- This program: its code, contracts, numbers, part 2. -/
import Derived.Test.YtlilncofnckgdaaPaa
import Derived.Test.YtlilncofnckgdaaNa
import Derived.Test.YtlilncofnckgdaaNc
import Derived.Test.YtlilncofnckgdaaChecked
import Derived.Test.YtlilncofnckgdaaSh
import Derived.Test.YtlilncofnckgdaaSf
set_option linter.unusedVariables false
set_option linter.unusedSimpArgs false
namespace Go.Proofs
open Go Go.RowKit Go.Sim
set_option maxRecDepth 100000
def Try.s49 : SC := (.seq (.ops false [⟨⟨(some 4),.assign (.const (.int .i64 0)),3,"",⟨[]⟩,none⟩,none,false⟩]) (.seq (.seq (.ops false [⟨⟨(some 5),.move (.tmp 1),3,"",⟨[]⟩,none⟩,none,false⟩,⟨⟨(some 6),.binOp .leq 3 (.tmp 5) (.const (.int .i64 0)) 3,4,"",⟨[]⟩,none⟩,none,false⟩]) (.cond (.tmp 6) (.seq (.ops false [⟨⟨(some 4),.assign (.const (.int .i64 0)),3,"",⟨[]⟩,none⟩,none,false⟩]) .ret) .skip)) (.seq (.ops false [⟨⟨(some 7),.move (.tmp 0),3,"",⟨[]⟩,none⟩,none,false⟩,⟨⟨(some 8),.move (.tmp 1),3,"",⟨[]⟩,none⟩,none,false⟩,⟨⟨(some 9),.binOp .rem 3 (.tmp 7) (.tmp 8) 3,3,"",⟨[]⟩,none⟩,none,false⟩,⟨⟨(some 10),.move (.tmp 1),3,"",⟨[]⟩,none⟩,none,false⟩,⟨⟨(some 11),.binOp .add 3 (.tmp 9) (.tmp 10) 3,3,"",⟨[]⟩,none⟩,none,false⟩,⟨⟨(some 12),.move (.tmp 1),3,"",⟨[]⟩,none⟩,none,false⟩,⟨⟨(some 13),.binOp .rem 3 (.tmp 11) (.tmp 12) 3,3,"",⟨[]⟩,none⟩,none,false⟩,⟨⟨(some 4),.assign (.tmp 13),3,"",⟨[]⟩,none⟩,none,false⟩]) .ret)))
def Try.s6 : SC := (.seq (.ops false [⟨⟨(some 4),.box 45 (.tmp 1),0,"",⟨[]⟩,none⟩,none,false⟩,⟨⟨(some 6),.assign (.const (.bool false)),4,"",⟨[]⟩,none⟩,none,false⟩]) (.seq (.ops false [⟨⟨(some 14),.move (.tmp 0),22,"",⟨[]⟩,none⟩,none,false⟩,⟨⟨(some 15),.call ⟨.value (.func 34),⟨[(.tmp 14)]⟩,⟨[22]⟩⟩,39,"",⟨[]⟩,none⟩,none,false⟩,⟨⟨(some 13),.move (.tmp 15),39,"",⟨[]⟩,none⟩,none,false⟩,⟨⟨(some 16),.extract (.tmp 13) 0,3,"",⟨[]⟩,none⟩,none,false⟩,⟨⟨(some 17),.extract (.tmp 13) 1,25,"",⟨[]⟩,none⟩,none,false⟩,⟨⟨(some 7),.assign (.tmp 16),3,"",⟨[]⟩,none⟩,none,false⟩,⟨⟨(some 8),.assign (.tmp 17),25,"",⟨[]⟩,none⟩,none,false⟩]) (.seq (.ops false [⟨⟨(some 19),.move (.tmp 0),22,"",⟨[]⟩,none⟩,none,false⟩,⟨⟨(some 20),.call ⟨.value (.func 35),⟨[(.tmp 19)]⟩,⟨[22]⟩⟩,39,"",⟨[]⟩,none⟩,none,false⟩,⟨⟨(some 18),.move (.tmp 20),39,"",⟨[]⟩,none⟩,none,false⟩,⟨⟨(some 21),.extract (.tmp 18) 0,3,"",⟨[]⟩,none⟩,none,false⟩,⟨⟨(some 22),.extract (.tmp 18) 1,25,"",⟨[]⟩,none⟩,none,false⟩,⟨⟨(some 9),.assign (.tmp 21),3,"",⟨[]⟩,none⟩,none,false⟩,⟨⟨(some 10),.assign (.tmp 22),25,"",⟨[]⟩,none⟩,none,false⟩]) (.seq (.seq (.ops false [⟨⟨(some 23),.move (.tmp 7),3,"",⟨[]⟩,none⟩,none,false⟩,⟨⟨(some 24),.move (.tmp 9),3,"",⟨[]⟩,none⟩,none,false⟩,⟨⟨(some 25),.binOp .neq 3 (.tmp 23) (.tmp 24) 3,4,"",⟨[]⟩,none⟩,none,false⟩,⟨⟨(some 26),.move (.tmp 25),4,"",⟨[]⟩,none⟩,none,false⟩,⟨⟨(some 27),.move (.tmp 8),25,"",⟨[]⟩,none⟩,some ((some 26),false),false⟩,⟨⟨(some 28),.move (.tmp 10),25,"",⟨[]⟩,none⟩,some ((some 26),false),false⟩,⟨⟨(some 29),.binOp .neq 25 (.tmp 27) (.tmp 28) 25,4,"",⟨[]⟩,none⟩,some ((some 26),false),false⟩,⟨⟨(some 30),.pick (.tmp 26) (.const (.bool true)) (.tmp 29),4,"",⟨[]⟩,none⟩,none,false⟩]) (.cond (.tmp 30) (.seq (.ops false [⟨⟨(some 6),.assign (.const (.bool false)),4,"",⟨[]⟩,none⟩,none,false⟩]) .ret) .skip)) (.seq (.ops false [⟨⟨(some 32),.indexAddr 45 (.tmp 4) (.const (.int .i64 0)),0,"",⟨[]⟩,none⟩,none,false⟩,⟨⟨(some 33),.load 3 (.tmp 32),3,"",⟨[]⟩,none⟩,none,false⟩,⟨⟨(some 34),.indexAddr 45 (.tmp 4) (.const (.int .i64 1)),0,"",⟨[]⟩,none⟩,none,false⟩,⟨⟨(some 35),.load 3 (.tmp 34),3,"",⟨[]⟩,none⟩,none,false⟩,⟨⟨(some 36),.call ⟨.value (.func 36),⟨[(.tmp 33),(.tmp 35)]⟩,⟨[3,3]⟩⟩,47,"",⟨[]⟩,none⟩,none,false⟩,⟨⟨(some 31),.move (.tmp 36),47,"",⟨[]⟩,none⟩,none,false⟩,⟨⟨(some 37),.extract (.tmp 31) 0,22,"",⟨[]⟩,none⟩,none,false⟩,⟨⟨(some 38),.extract (.tmp 31) 1,25,"",⟨[]⟩,none⟩,none,false⟩,⟨⟨(some 11),.assign (.tmp 37),22,"",⟨[]⟩,none⟩,none,false⟩,⟨⟨(some 8),.assign (.tmp 38),25,"",⟨[]⟩,none⟩,none,false⟩]) (.seq (.ops false [⟨⟨(some 40),.indexAddr 45 (.tmp 4) (.const (.int .i64 0)),0,"",⟨[]⟩,none⟩,none,false⟩,⟨⟨(some 41),.load 3 (.tmp 40),3,"",⟨[]⟩,none⟩,none,false⟩,⟨⟨(some 42),.indexAddr 45 (.tmp 4) (.const (.int .i64 1)),0,"",⟨[]⟩,none⟩,none,false⟩,⟨⟨(some 43),.load 3 (.tmp 42),3,"",⟨[]⟩,none⟩,none,false⟩,⟨⟨(some 44),.call ⟨.value (.func 37),⟨[(.tmp 41),(.tmp 43)]⟩,⟨[3,3]⟩⟩,47,"",⟨[]⟩,none⟩,none,false⟩,⟨⟨(some 39),.move (.tmp 44),47,"",⟨[]⟩,none⟩,none,false⟩,⟨⟨(some 45),.extract (.tmp 39) 0,22,"",⟨[]⟩,none⟩,none,false⟩,⟨⟨(some 46),.extract (.tmp 39) 1,25,"",⟨[]⟩,none⟩,none,false⟩,⟨⟨(some 12),.assign (.tmp 45),22,"",⟨[]⟩,none⟩,none,false⟩,⟨⟨(some 10),.assign (.tmp 46),25,"",⟨[]⟩,none⟩,none,false⟩]) (.seq (.seq (.ops false [⟨⟨(some 47),.move (.tmp 11),22,"",⟨[]⟩,none⟩,none,false⟩,⟨⟨(some 48),.move (.tmp 12),22,"",⟨[]⟩,none⟩,none,false⟩,⟨⟨(some 49),.call ⟨.value (.func 22),⟨[(.tmp 47),(.tmp 48)]⟩,⟨[22,22]⟩⟩,4,"",⟨[]⟩,none⟩,none,false⟩,⟨⟨(some 50),.unOp .not 4 (.tmp 49),4,"",⟨[]⟩,none⟩,none,false⟩,⟨⟨(some 51),.move (.tmp 50),4,"",⟨[]⟩,none⟩,none,false⟩,⟨⟨(some 52),.move (.tmp 8),25,"",⟨[]⟩,none⟩,some ((some 51),false),false⟩,⟨⟨(some 53),.move (.tmp 10),25,"",⟨[]⟩,none⟩,some ((some 51),false),false⟩,⟨⟨(some 54),.binOp .neq 25 (.tmp 52) (.tmp 53) 25,4,"",⟨[]⟩,none⟩,some ((some 51),false),false⟩,⟨⟨(some 55),.pick (.tmp 51) (.const (.bool true)) (.tmp 54),4,"",⟨[]⟩,none⟩,none,false⟩]) (.cond (.tmp 55) (.seq (.ops false [⟨⟨(some 6),.assign (.const (.bool false)),4,"",⟨[]⟩,none⟩,none,false⟩]) .ret) .skip)) (.seq (.ops false [⟨⟨(some 57),.indexAddr 45 (.tmp 4) (.const (.int .i64 0)),0,"",⟨[]⟩,none⟩,none,false⟩,⟨⟨(some 58),.load 3 (.tmp 57),3,"",⟨[]⟩,none⟩,none,false⟩,⟨⟨(some 59),.indexAddr 45 (.tmp 4) (.const (.int .i64 2)),0,"",⟨[]⟩,none⟩,none,false⟩,⟨⟨(some 60),.load 3 (.tmp 59),3,"",⟨[]⟩,none⟩,none,false⟩,⟨⟨(some 61),.move (.tmp 2),22,"",⟨[]⟩,none⟩,none,false⟩,⟨⟨(some 62),.call ⟨.value (.func 38),⟨[(.tmp 58),(.tmp 60),(.tmp 61)]⟩,⟨[3,3,22]⟩⟩,47,"",⟨[]⟩,none⟩,none,false⟩,⟨⟨(some 56),.move (.tmp 62),47,"",⟨[]⟩,none⟩,none,false⟩,⟨⟨(some 63),.extract (.tmp 56) 0,22,"",⟨[]⟩,none⟩,none,false⟩,⟨⟨(some 64),.extract (.tmp 56) 1,25,"",⟨[]⟩,none⟩,none,false⟩,⟨⟨(some 11),.assign (.tmp 63),22,"",⟨[]⟩,none⟩,none,false⟩,⟨⟨(some 8),.assign (.tmp 64),25,"",⟨[]⟩,none⟩,none,false⟩]) (.seq (.ops false [⟨⟨(some 66),.indexAddr 45 (.tmp 4) (.const (.int .i64 0)),0,"",⟨[]⟩,none⟩,none,false⟩,⟨⟨(some 67),.load 3 (.tmp 66),3,"",⟨[]⟩,none⟩,none,false⟩,⟨⟨(some 68),.indexAddr 45 (.tmp 4) (.const (.int .i64 2)),0,"",⟨[]⟩,none⟩,none,false⟩,⟨⟨(some 69),.load 3 (.tmp 68),3,"",⟨[]⟩,none⟩,none,false⟩,⟨⟨(some 70),.move (.tmp 2),22,"",⟨[]⟩,none⟩,none,false⟩,⟨⟨(some 71),.call ⟨.value (.func 39),⟨[(.tmp 67),(.tmp 69),(.tmp 70)]⟩,⟨[3,3,22]⟩⟩,47,"",⟨[]⟩,none⟩,none,false⟩,⟨⟨(some 65),.move (.tmp 71),47,"",⟨[]⟩,none⟩,none,false⟩,⟨⟨(some 72),.extract (.tmp 65) 0,22,"",⟨[]⟩,none⟩,none,false⟩,⟨⟨(some 73),.extract (.tmp 65) 1,25,"",⟨[]⟩,none⟩,none,false⟩,⟨⟨(some 12),.assign (.tmp 72),22,"",⟨[]⟩,none⟩,none,false⟩,⟨⟨(some 10),.assign (.tmp 73),25,"",⟨[]⟩,none⟩,none,false⟩]) (.seq (.ops false [⟨⟨(some 74),.move (.tmp 11),22,"",⟨[]⟩,none⟩,none,false⟩,⟨⟨(some 75),.move (.tmp 12),22,"",⟨[]⟩,none⟩,none,false⟩,⟨⟨(some 76),.call ⟨.value (.func 22),⟨[(.tmp 74),(.tmp 75)]⟩,⟨[22,22]⟩⟩,4,"",⟨[]⟩,none⟩,none,false⟩,⟨⟨(some 77),.move (.tmp 76),4,"",⟨[]⟩,none⟩,none,false⟩,⟨⟨(some 78),.move (.tmp 8),25,"",⟨[]⟩,none⟩,some ((some 77),true),false⟩,⟨⟨(some 79),.move (.tmp 10),25,"",⟨[]⟩,none⟩,some ((some 77),true),false⟩,⟨⟨(some 80),.binOp .eql 25 (.tmp 78) (.tmp 79) 25,4,"",⟨[]⟩,none⟩,some ((some 77),true),false⟩,⟨⟨(some 81),.pick (.tmp 77) (.tmp 80) (.const (.bool false)),4,"",⟨[]⟩,none⟩,none,false⟩,⟨⟨(some 82),.move (.tmp 81),4,"",⟨[]⟩,none⟩,none,false⟩,⟨⟨(some 83),.call ⟨.value (.func 25),⟨[]⟩,⟨[]⟩⟩,4,"",⟨[]⟩,none⟩,some ((some 82),true),false⟩,⟨⟨(some 84),.pick (.tmp 82) (.tmp 83) (.const (.bool false)),4,"",⟨[]⟩,none⟩,none,false⟩,⟨⟨(some 6),.assign (.tmp 84),4,"",⟨[]⟩,none⟩,none,false⟩]) .ret))))))))))
theorem Try.s49_eq : Try.f49.body.map sOf = some Try.s49 := by kernel_rfl
end Go.Proofs

namespace Go.Proofs
open Go Go.RowKit Go.Sim
set_option maxRecDepth 100000
end Go.Proofs

namespace Go.Sim
open Go Go.RowKit
section
variable {P : Program} {told : ToldF} {d : Option Tmp} {ty0 : TypeId} {pos : String} {af : Array Edge} {gd : Option (Tmp × Bool)} {t : Tmps} {w : AW} {K : Tmps → AW → Prop}
theorem stepR_copy {draw tie : Bool} {x y : Operand} {dT xT : TypeId} {tk : Tok ((⟨d, .call ⟨.builtin .copy, ⟨[x, y]⟩, ⟨[dT, xT]⟩⟩, ty0, pos, af, gd⟩ : Oper), t, w, K)} {v : Value} {w' : AW}
    (h : copyV (prg P) w (ev t x) (ev t y) dT xT = some (v, w')) (k : Owes (draw && tie) (WLe w w') (K (putTmp t d v) w') .mk) : StepR P told draw tie ⟨d, .call ⟨.builtin .copy, ⟨[x, y]⟩, ⟨[dT, xT]⟩⟩, ty0, pos, af, gd⟩ t w K tk := by
  show EffT P told _ t w _
  exact effT_still (fun call => by simp only [effect, h, gave]) k
end
theorem setsL_cut : ∀ (l c : List Value) (o : Nat), o + l.length ≤ c.length → setsL c o l = c.take o ++ l ++ c.drop (o + l.length)
  | [], c, o, _ => by simp [setsL]
  | v :: l, c, o, h => by
    rw [List.length_cons] at h
    rw [setsL, setsL_cut l _ _ (by rw [setL_eq, List.length_set]; omega), setL_eq, List.drop_set_of_lt (by omega), List.take_succ_eq_append_getElem (by rw [List.length_set]; omega), List.take_set_of_le (Nat.le_refl _)]
    rw [List.length_cons, show o + 1 + l.length = o + (l.length + 1) by omega]
    simp
def setsI (A : List Int) (o : Nat) (xs : List Int) : List Int := A.take o ++ xs ++ A.drop (o + xs.length)
theorem setsI_eq {A : List Int} {o : Nat} {xs : List Int} (h : o + xs.length ≤ A.length) : setsL (A.flatMap icells) o (xs.flatMap icells) = (setsI A o xs).flatMap icells := by
  rw [setsL_cut _ _ _ (by rw [icells_flat_len, icells_flat_len]; exact h), icells_flat_len]
  unfold setsI
  rw [flat_icells, flat_icells, flat_icells, List.map_append, List.map_append, List.map_take, List.map_drop]
theorem stores_ints {w : AW} {b : Nat} {e : TypeId} {A : List Int} (h : Own w b e (A.flatMap icells)) (f : Fresh w) {o : Nat} {xs : List Int} (ho : o + xs.length ≤ A.length) :
    ∃ w', aStores b o (xs.flatMap icells) w = some w' ∧ Own w' b e ((setsI A o xs).flatMap icells) ∧ MutS (fun j => j = b) w w' ∧ w'.next = w.next := by
  cases xs with
  | nil =>
    refine ⟨w, rfl, ?_, MutS.refl f, rfl⟩
    have : setsI A o [] = A := by simp [setsI]
    rw [this]; exact h
  | cons x xs =>
    refine ⟨_, stores_own _ o w _ h (by simp [icells]) (by rw [icells_flat_len, icells_flat_len]; exact ho) (fun v hv => by
      obtain ⟨y, _, hy⟩ := List.mem_flatMap.1 hv
      exact icells_one y v hy), ?_, MutS.put (S := fun j => j = b) f rfl h.lt _, AW.next_put _ _ _⟩
    rw [setsI_eq ho]
    exact h.put _
theorem first_arr {w w' : AW} {v : Value} {L : List Int} (h : ArrOf w 1 icells v L) (k : Keep w.next w w') {n : Nat} (hn : n ≤ L.length) (h0 : 1 ≤ n) : ∃ b o c, v = .slice (some ⟨b, o, none⟩) L.length c ∧ aFirst w' 1 n v = some ((L.take n).flatMap icells) := by
  obtain ⟨p, c, rfl, h1, h2, hat⟩ := h.open
  obtain ⟨b, o, rfl, _⟩ := hat 0 (by omega)
  refine ⟨b, o, c, rfl, ?_⟩
  show aCells w' b o (n * 1) = _
  rw [Nat.mul_one]
  have := aCells_of (w := w') (b := b) ((L.take n).flatMap icells) o fun i v hv => by
    have hi : i < n := by
      have := (List.getElem?_eq_some_iff.1 hv).1
      rw [icells_flat_len, List.length_take] at this; omega
    obtain ⟨b1, o1, e, _, hc⟩ := hat i (by omega)
    injection e with e; injection e with e1 e2
    subst e1 e2
    have := hc w' k 0 _ rfl
    rw [flat_icells, List.getElem?_map, List.getElem?_take, if_pos hi, List.getElem?_eq_getElem (show i < L.length by omega)] at hv
    simp only [Option.map_some, Option.some.injEq] at hv
    subst hv
    simpa using this
  rw [icells_flat_len, List.length_take, Nat.min_eq_left hn] at this
  exact this
theorem copy_ints {g : Prg} {w w0 : AW} {b : Nat} {e e0 : TypeId} {A L : List Int} {ty xty : TypeId} {a1 a2 : Bool} {n1 b1 b2 : Nat} {d2 : TypeDesc} {z1 z2 : Value} (h : g.ty ty = some ⟨a1, .slice e0, n1, b1, z1⟩) (h2 : g.ty e0 = some ⟨a2, d2, 1, b2, z2⟩)
    (hO : Own w b e (A.flatMap icells)) (f : Fresh w) {v : Value} (hv : ArrOf w0 1 icells v L) (k : Keep w0.next w0 w) (h1 : 1 ≤ L.length) (hl : L.length ≤ A.length) {c : Nat} :
    ∃ w', copyV g w (.slice (some ⟨b, 0, none⟩) A.length c) v ty xty = some (.int .i64 (L.length : Int), w') ∧ Own w' b e ((setsI A 0 L).flatMap icells) ∧ MutS (fun j => j = b) w w' ∧ w'.next = w.next := by
  obtain ⟨b1, o1, c1, rfl, hf⟩ := first_arr hv k (Nat.le_refl _) h1
  rw [List.take_of_length_le (Nat.le_refl _)] at hf
  obtain ⟨w', s1, s2, s3, s4⟩ := stores_ints hO f (o := 0) (xs := L) (by omega)
  refine ⟨w', ?_, s2, s3, s4⟩
  have hm : Nat.min L.length A.length = L.length := Nat.min_eq_left hl
  simp only [copyV, h, h2, hm, hf, s1]
  rfl
end Go.Sim

namespace Go.Proofs
open Go Go.RowKit Go.Sim
set_option maxRecDepth 100000
theorem icells_ones (A : List Int) : ∀ v ∈ A.flatMap icells, oneCell v = true := fun v hv => by
  obtain ⟨y, _, hy⟩ := List.mem_flatMap.1 hv
  exact icells_one y v hy
theorem Try.sl22b (t : Tmps) (w : AW) (x lo : Operand) : fast (prg Try.prog) t w (.slice 22 x (some lo) none none) = sliceV w 1 (ev t x) (some (ev t lo)) none := by simp only [fast, Try.ty22, Try.ty3]; rfl
attribute [go_sem] Try.sl22b
end Go.Proofs
