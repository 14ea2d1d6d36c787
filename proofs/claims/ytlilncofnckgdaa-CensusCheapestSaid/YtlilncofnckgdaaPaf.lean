/- This program: its code, contracts, numbers, part 6. -/
import Derived.Test.YtlilncofnckgdaaPae
import Derived.Test.YtlilncofnckgdaaPad
import Derived.Test.YtlilncofnckgdaaNa
import Derived.Test.YtlilncofnckgdaaNc
import Derived.Test.YtlilncofnckgdaaRows
import Derived.ProofKit
import Derived.SizedLaws
set_option linter.unusedVariables false
set_option linter.unusedSimpArgs false
namespace Go.Proofs
open Go Go.RowKit Go.Sim
set_option maxRecDepth 100000
end Go.Proofs

namespace Go.Proofs
open Go Go.RowKit Go.Sim
set_option maxRecDepth 100000
theorem given_intsD {w : AW} {n : Nat} {cs : List Value} (h : Hd Try.prog w n 22 cs) : ∃ v, cs = [v] ∧ ∃ xs, ArrOf w 1 icells v xs ∧ (∀ x ∈ xs, I64 x) ∧ Cutt w v xs.length := by
  cases n with
  | zero => exact h.elim
  | succ n =>
    simp only [Hd, Try.und22, Try.cells3] at h
    obtain ⟨v, rows, rfl, ha, hr, hgv⟩ := h
    obtain ⟨xs, rfl, hI⟩ := rows_ofR (R := I64) fun r hq => by obtain ⟨x, hx, h1, h2⟩ := given_int (hr r hq); exact ⟨x, hx, h1, h2⟩
    have hA : ArrOf w 1 icells v xs := ha
    refine ⟨v, rfl, xs, hA, hI, ?_⟩
    obtain ⟨p, cap, rfl, hc, _, hat⟩ := hA.open
    rcases Nat.eq_zero_or_pos xs.length with q | q
    · exact .inl q
    · obtain ⟨b, o, rfl, hb, _⟩ := hat 0 q
      obtain ⟨g1, cs, g2⟩ := hgv.1 b o none _ _ rfl q
      exact .inr ⟨b, o, cap, rfl, hc, g1, .inl ⟨cs, g2⟩⟩
theorem given_audit {w : AW} {n : Nat} {v : Value} (h : HdV Try.prog w n 24 v) : ∃ (A : AudN) (p q : Option Addr) (a c : Nat), v = .agg (audC p q a c A).toArray ∧ ArrOf w 1 icells (.slice p A.st.length a) A.st ∧ Cutt w (.slice p A.st.length a) A.st.length ∧ ArrOf w 1 icells (.slice q A.co.length c) A.co ∧ I64 A.lost ∧ I64 A.sure ∧ (∀ x ∈ A.st, I64 x) ∧ ∀ x ∈ A.co, I64 x := by
  simp only [HdV, Try.underlying24] at h
  obtain ⟨cs, rfl, h⟩ := h
  cases n with
  | zero => exact h.elim
  | succ n =>
    simp only [Hd, Try.underlying24] at h
    obtain ⟨parts, hc, hl, hp⟩ := h
    match parts, hl with
    | [p0, p1, p2, p3], _ =>
      obtain ⟨u, rfl, xs, hx, hxi, hxc⟩ := given_intsD (hp 0 _ p0 rfl rfl)
      obtain ⟨z, rfl, ys, hy, hyi, _⟩ := given_intsD (hp 1 _ p1 rfl rfl)
      obtain ⟨k, rfl, hk⟩ := given_int (hp 2 _ p2 rfl rfl)
      obtain ⟨s, rfl, hs⟩ := given_int (hp 3 _ p3 rfl rfl)
      obtain ⟨p, a, rfl, _⟩ := id hx.open
      obtain ⟨q, c, rfl, _⟩ := id hy.open
      refine ⟨⟨xs, ys, k, s⟩, p, q, a, c, ?_, hx, hxc, hy, hk, hs, hxi, hyi⟩
      rw [show cs = cs.toList.toArray from rfl, hc]; rfl
theorem given_loss {w : AW} {n : Nat} {v : Value} (h : HdV Try.prog w n 54 v) : ∃ (P L : List Int) (p q : Option Addr) (a c : Nat), v = .agg #[.slice p P.length a, .slice q L.length c] ∧ ArrOf w 1 icells (.slice p P.length a) P ∧ ArrOf w 1 icells (.slice q L.length c) L ∧ (∀ x ∈ P, I64 x) ∧ ∀ x ∈ L, I64 x := by
  simp only [HdV, Try.underlying54] at h
  obtain ⟨cs, rfl, h⟩ := h
  cases n with
  | zero => exact h.elim
  | succ n =>
    simp only [Hd, Try.underlying54] at h
    obtain ⟨parts, hc, hl, hp⟩ := h
    match parts, hl with
    | [p0, p1], _ =>
      obtain ⟨u, rfl, xs, hx, hxi, _⟩ := given_intsD (hp 0 _ p0 rfl rfl)
      obtain ⟨z, rfl, ys, hy, hyi, _⟩ := given_intsD (hp 1 _ p1 rfl rfl)
      obtain ⟨p, a, rfl, _⟩ := id hx.open
      obtain ⟨q, c, rfl, _⟩ := id hy.open
      refine ⟨xs, ys, p, q, a, c, ?_, hx, hy, hxi, hyi⟩
      rw [show cs = cs.toList.toArray from rfl, hc]; rfl
end Go.Proofs

namespace Go.Proofs
open Go Go.RowKit Go.Sim
set_option maxRecDepth 100000
def Try.s9_c82 : SC := (.seq (.ops false [⟨⟨(some 82),.load 24 (.tmp 2),24,"",⟨[]⟩,none⟩,none,false⟩,⟨⟨(some 83),.fieldAddr 54 (.tmp 3) 0,0,"",⟨[]⟩,none⟩,none,false⟩,⟨⟨(some 84),.load 22 (.tmp 83),22,"",⟨[]⟩,none⟩,none,false⟩,⟨⟨(some 85),.call ⟨.value (.func 23),⟨[(.tmp 82),(.tmp 84)]⟩,⟨[24,22]⟩⟩,32,"",⟨[]⟩,none⟩,none,false⟩,⟨⟨(some 81),.move (.tmp 85),32,"",⟨[]⟩,none⟩,none,false⟩,⟨⟨(some 86),.extract (.tmp 81) 0,4,"",⟨[]⟩,none⟩,none,false⟩,⟨⟨(some 87),.extract (.tmp 81) 1,25,"",⟨[]⟩,none⟩,none,false⟩,⟨⟨(some 12),.assign (.tmp 86),4,"",⟨[]⟩,none⟩,none,false⟩,⟨⟨(some 13),.assign (.tmp 87),25,"",⟨[]⟩,none⟩,none,false⟩]) (.seq (.seq (.ops false [⟨⟨(some 88),.move (.tmp 13),25,"",⟨[]⟩,none⟩,none,false⟩,⟨⟨(some 89),.binOp .neq 25 (.tmp 88) (.const (.int .i64 0)) 25,4,"",⟨[]⟩,none⟩,none,false⟩,⟨⟨(some 90),.move (.tmp 89),4,"",⟨[]⟩,none⟩,none,false⟩,⟨⟨(some 91),.move (.tmp 12),4,"",⟨[]⟩,none⟩,some ((some 90),false),false⟩,⟨⟨(some 92),.unOp .not 4 (.tmp 91),4,"",⟨[]⟩,none⟩,some ((some 90),false),false⟩,⟨⟨(some 93),.pick (.tmp 90) (.const (.bool true)) (.tmp 92),4,"",⟨[]⟩,none⟩,none,false⟩]) (.cond (.tmp 93) (.seq (.ops false [⟨⟨(some 94),.move (.tmp 13),25,"",⟨[]⟩,none⟩,none,false⟩,⟨⟨(some 95),.binOp .eql 25 (.tmp 94) (.const (.int .i64 0)) 25,4,"",⟨[]⟩,none⟩,none,false⟩,⟨⟨(some 96),.move (.tmp 95),4,"",⟨[]⟩,none⟩,none,false⟩,⟨⟨(some 97),.move (.tmp 13),25,"",⟨[]⟩,none⟩,some ((some 96),false),false⟩,⟨⟨(some 98),.binOp .eql 25 (.tmp 97) (.const (.int .i64 101)) 25,4,"",⟨[]⟩,none⟩,some ((some 96),false),false⟩,⟨⟨(some 99),.pick (.tmp 96) (.const (.bool true)) (.tmp 98),4,"",⟨[]⟩,none⟩,none,false⟩,⟨⟨(some 100),.move (.tmp 99),4,"",⟨[]⟩,none⟩,none,false⟩,⟨⟨(some 101),.call ⟨.value (.func 25),⟨[]⟩,⟨[]⟩⟩,4,"",⟨[]⟩,none⟩,some ((some 100),true),false⟩,⟨⟨(some 102),.pick (.tmp 100) (.tmp 101) (.const (.bool false)),4,"",⟨[]⟩,none⟩,none,false⟩,⟨⟨(some 4),.assign (.tmp 102),4,"",⟨[]⟩,none⟩,none,false⟩]) .ret) .skip)) (.seq (.ops false [⟨⟨(some 103),.load 24 (.tmp 2),24,"",⟨[]⟩,none⟩,none,false⟩,⟨⟨(some 104),.fieldAddr 54 (.tmp 3) 0,0,"",⟨[]⟩,none⟩,none,false⟩,⟨⟨(some 105),.load 22 (.tmp 104),22,"",⟨[]⟩,none⟩,none,false⟩,⟨⟨(some 106),.call ⟨.value (.func 51),⟨[(.tmp 103),(.tmp 105)]⟩,⟨[24,22]⟩⟩,3,"",⟨[]⟩,none⟩,none,false⟩,⟨⟨(some 14),.assign (.tmp 106),3,"",⟨[]⟩,none⟩,none,false⟩]) (.seq (.ops false [⟨⟨(some 107),.move (.tmp 14),3,"",⟨[]⟩,none⟩,none,false⟩,⟨⟨(some 108),.move (.tmp 6),3,"",⟨[]⟩,none⟩,none,false⟩,⟨⟨(some 109),.binOp .gtr 3 (.tmp 107) (.tmp 108) 3,4,"",⟨[]⟩,none⟩,none,false⟩,⟨⟨(some 110),.move (.tmp 109),4,"",⟨[]⟩,none⟩,none,false⟩,⟨⟨(some 111),.move (.tmp 14),3,"",⟨[]⟩,none⟩,some ((some 110),false),false⟩,⟨⟨(some 112),.move (.tmp 6),3,"",⟨[]⟩,none⟩,some ((some 110),false),false⟩,⟨⟨(some 113),.binOp .eql 3 (.tmp 111) (.tmp 112) 3,4,"",⟨[]⟩,none⟩,some ((some 110),false),false⟩,⟨⟨(some 114),.move (.tmp 113),4,"",⟨[]⟩,none⟩,some ((some 110),false),false⟩,⟨⟨(some 115),.fieldAddr 54 (.tmp 3) 0,0,"",⟨[]⟩,none⟩,some ((some 114),true),false⟩,⟨⟨(some 116),.load 22 (.tmp 115),22,"",⟨[]⟩,none⟩,some ((some 114),true),false⟩,⟨⟨(some 117),.move (.tmp 5),22,"",⟨[]⟩,none⟩,some ((some 114),true),false⟩,⟨⟨(some 118),.call ⟨.value (.func 52),⟨[(.tmp 116),(.tmp 117)]⟩,⟨[22,22]⟩⟩,4,"",⟨[]⟩,none⟩,some ((some 114),true),false⟩,⟨⟨(some 119),.unOp .not 4 (.tmp 118),4,"",⟨[]⟩,none⟩,some ((some 114),true),false⟩,⟨⟨(some 120),.pick (.tmp 114) (.tmp 119) (.const (.bool false)),4,"",⟨[]⟩,none⟩,some ((some 110),false),false⟩,⟨⟨(some 121),.pick (.tmp 110) (.const (.bool true)) (.tmp 120),4,"",⟨[]⟩,none⟩,none,false⟩,⟨⟨(some 122),.move (.tmp 121),4,"",⟨[]⟩,none⟩,none,false⟩,⟨⟨(some 123),.call ⟨.value (.func 25),⟨[]⟩,⟨[]⟩⟩,4,"",⟨[]⟩,none⟩,some ((some 122),true),false⟩,⟨⟨(some 124),.pick (.tmp 122) (.tmp 123) (.const (.bool false)),4,"",⟨[]⟩,none⟩,none,false⟩,⟨⟨(some 4),.assign (.tmp 124),4,"",⟨[]⟩,none⟩,none,false⟩]) .ret))))
def Try.s9 : SC := (.seq (.ops false [⟨⟨(some 2),.box 24 (.tmp 0),0,"",⟨[]⟩,none⟩,none,false⟩,⟨⟨(some 3),.box 54 (.tmp 1),0,"",⟨[]⟩,none⟩,none,false⟩,⟨⟨(some 4),.assign (.const (.bool false)),4,"",⟨[]⟩,none⟩,none,false⟩]) (.seq (.ops false [⟨⟨(some 16),.load 24 (.tmp 2),24,"",⟨[]⟩,none⟩,none,false⟩,⟨⟨(some 17),.call ⟨.value (.func 26),⟨[(.tmp 16)]⟩,⟨[24]⟩⟩,36,"",⟨[]⟩,none⟩,none,false⟩,⟨⟨(some 15),.move (.tmp 17),36,"",⟨[]⟩,none⟩,none,false⟩,⟨⟨(some 18),.extract (.tmp 15) 0,22,"",⟨[]⟩,none⟩,none,false⟩,⟨⟨(some 19),.extract (.tmp 15) 1,3,"",⟨[]⟩,none⟩,none,false⟩,⟨⟨(some 20),.extract (.tmp 15) 2,25,"",⟨[]⟩,none⟩,none,false⟩,⟨⟨(some 5),.assign (.tmp 18),22,"",⟨[]⟩,none⟩,none,false⟩,⟨⟨(some 6),.assign (.tmp 19),3,"",⟨[]⟩,none⟩,none,false⟩,⟨⟨(some 7),.assign (.tmp 20),25,"",⟨[]⟩,none⟩,none,false⟩]) (.seq (.seq (.ops false [⟨⟨(some 21),.move (.tmp 7),25,"",⟨[]⟩,none⟩,none,false⟩,⟨⟨(some 22),.binOp .neq 25 (.tmp 21) (.const (.int .i64 0)) 25,4,"",⟨[]⟩,none⟩,none,false⟩]) (.cond (.tmp 22) (.seq (.ops false [⟨⟨(some 23),.move (.tmp 5),22,"",⟨[]⟩,none⟩,none,false⟩,⟨⟨(some 24),.call ⟨.builtin .len,⟨[(.tmp 23)]⟩,⟨[22]⟩⟩,3,"",⟨[]⟩,none⟩,none,false⟩,⟨⟨(some 25),.binOp .eql 3 (.tmp 24) (.const (.int .i64 0)) 3,4,"",⟨[]⟩,none⟩,none,false⟩,⟨⟨(some 26),.move (.tmp 25),4,"",⟨[]⟩,none⟩,none,false⟩,⟨⟨(some 27),.move (.tmp 6),3,"",⟨[]⟩,none⟩,some ((some 26),true),false⟩,⟨⟨(some 28),.binOp .eql 3 (.tmp 27) (.const (.int .i64 0)) 3,4,"",⟨[]⟩,none⟩,some ((some 26),true),false⟩,⟨⟨(some 29),.pick (.tmp 26) (.tmp 28) (.const (.bool false)),4,"",⟨[]⟩,none⟩,none,false⟩,⟨⟨(some 30),.move (.tmp 29),4,"",⟨[]⟩,none⟩,none,false⟩,⟨⟨(some 31),.call ⟨.value (.func 25),⟨[]⟩,⟨[]⟩⟩,4,"",⟨[]⟩,none⟩,some ((some 30),true),false⟩,⟨⟨(some 32),.pick (.tmp 30) (.tmp 31) (.const (.bool false)),4,"",⟨[]⟩,none⟩,none,false⟩,⟨⟨(some 4),.assign (.tmp 32),4,"",⟨[]⟩,none⟩,none,false⟩]) .ret) .skip)) (.seq (.ops false [⟨⟨(some 34),.load 24 (.tmp 2),24,"",⟨[]⟩,none⟩,none,false⟩,⟨⟨(some 35),.move (.tmp 5),22,"",⟨[]⟩,none⟩,none,false⟩,⟨⟨(some 36),.call ⟨.value (.func 23),⟨[(.tmp 34),(.tmp 35)]⟩,⟨[24,22]⟩⟩,32,"",⟨[]⟩,none⟩,none,false⟩,⟨⟨(some 33),.move (.tmp 36),32,"",⟨[]⟩,none⟩,none,false⟩,⟨⟨(some 37),.extract (.tmp 33) 0,4,"",⟨[]⟩,none⟩,none,false⟩,⟨⟨(some 38),.extract (.tmp 33) 1,25,"",⟨[]⟩,none⟩,none,false⟩,⟨⟨(some 8),.assign (.tmp 37),4,"",⟨[]⟩,none⟩,none,false⟩,⟨⟨(some 7),.assign (.tmp 38),25,"",⟨[]⟩,none⟩,none,false⟩]) (.seq (.seq (.ops false [⟨⟨(some 39),.move (.tmp 8),4,"",⟨[]⟩,none⟩,none,false⟩,⟨⟨(some 40),.unOp .not 4 (.tmp 39),4,"",⟨[]⟩,none⟩,none,false⟩,⟨⟨(some 41),.move (.tmp 40),4,"",⟨[]⟩,none⟩,none,false⟩,⟨⟨(some 42),.move (.tmp 7),25,"",⟨[]⟩,none⟩,some ((some 41),false),false⟩,⟨⟨(some 43),.binOp .neq 25 (.tmp 42) (.const (.int .i64 0)) 25,4,"",⟨[]⟩,none⟩,some ((some 41),false),false⟩,⟨⟨(some 44),.pick (.tmp 41) (.const (.bool true)) (.tmp 43),4,"",⟨[]⟩,none⟩,none,false⟩,⟨⟨(some 45),.move (.tmp 44),4,"",⟨[]⟩,none⟩,none,false⟩,⟨⟨(some 46),.load 24 (.tmp 2),24,"",⟨[]⟩,none⟩,some ((some 45),false),false⟩,⟨⟨(some 47),.move (.tmp 5),22,"",⟨[]⟩,none⟩,some ((some 45),false),false⟩,⟨⟨(some 48),.call ⟨.value (.func 51),⟨[(.tmp 46),(.tmp 47)]⟩,⟨[24,22]⟩⟩,3,"",⟨[]⟩,none⟩,some ((some 45),false),false⟩,⟨⟨(some 49),.move (.tmp 6),3,"",⟨[]⟩,none⟩,some ((some 45),false),false⟩,⟨⟨(some 50),.binOp .neq 3 (.tmp 48) (.tmp 49) 3,4,"",⟨[]⟩,none⟩,some ((some 45),false),false⟩,⟨⟨(some 51),.pick (.tmp 45) (.const (.bool true)) (.tmp 50),4,"",⟨[]⟩,none⟩,none,false⟩]) (.cond (.tmp 51) (.seq (.ops false [⟨⟨(some 4),.assign (.const (.bool false)),4,"",⟨[]⟩,none⟩,none,false⟩]) .ret) .skip)) (.seq (.seq (.ops false [⟨⟨(some 53),.load 24 (.tmp 2),24,"",⟨[]⟩,none⟩,none,false⟩,⟨⟨(some 54),.move (.tmp 5),22,"",⟨[]⟩,none⟩,none,false⟩,⟨⟨(some 55),.fieldAddr 54 (.tmp 3) 1,0,"",⟨[]⟩,none⟩,none,false⟩,⟨⟨(some 56),.load 22 (.tmp 55),22,"",⟨[]⟩,none⟩,none,false⟩,⟨⟨(some 57),.call ⟨.value (.func 16),⟨[(.tmp 53),(.tmp 54),(.tmp 56)]⟩,⟨[24,22,22]⟩⟩,26,"",⟨[]⟩,none⟩,none,false⟩,⟨⟨(some 52),.move (.tmp 57),26,"",⟨[]⟩,none⟩,none,false⟩,⟨⟨(some 58),.extract (.tmp 52) 0,3,"",⟨[]⟩,none⟩,none,false⟩,⟨⟨(some 59),.extract (.tmp 52) 1,3,"",⟨[]⟩,none⟩,none,false⟩,⟨⟨(some 60),.extract (.tmp 52) 2,25,"",⟨[]⟩,none⟩,none,false⟩,⟨⟨(some 9),.assign (.tmp 58),3,"",⟨[]⟩,none⟩,none,false⟩,⟨⟨(some 10),.assign (.tmp 59),3,"",⟨[]⟩,none⟩,none,false⟩,⟨⟨(some 11),.assign (.tmp 60),25,"",⟨[]⟩,none⟩,none,false⟩]) (.seq (.ops true [⟨⟨(some 61),.move (.tmp 11),25,"",⟨[]⟩,none⟩,none,true⟩,⟨⟨(some 62),.binOp .eql 25 (.tmp 61) (.const (.int .i64 0)) 25,4,"",⟨[]⟩,none⟩,none,true⟩,⟨⟨(some 63),.move (.tmp 62),4,"",⟨[]⟩,none⟩,none,true⟩,⟨⟨(some 64),.fieldAddr 54 (.tmp 3) 1,0,"",⟨[]⟩,none⟩,some ((some 63),true),true⟩,⟨⟨(some 65),.load 22 (.tmp 64),22,"",⟨[]⟩,none⟩,some ((some 63),true),true⟩,⟨⟨(some 67),.fieldAddr 24 (.tmp 2) 2,0,"",⟨[]⟩,none⟩,some ((some 63),true),true⟩,⟨⟨(some 68),.load 3 (.tmp 67),3,"",⟨[]⟩,none⟩,some ((some 63),true),true⟩,⟨⟨(some 66),.call ⟨.value (.func 48),⟨[(.tmp 65)]⟩,⟨[22]⟩⟩,3,"",⟨[]⟩,none⟩,some ((some 63),true),true⟩,⟨⟨(some 69),.binOp .geq 3 (.tmp 66) (.tmp 68) 3,4,"",⟨[]⟩,none⟩,some ((some 63),true),true⟩,⟨⟨(some 70),.pick (.tmp 63) (.tmp 69) (.const (.bool false)),4,"",⟨[]⟩,none⟩,none,true⟩,⟨⟨(some 71),.move (.tmp 70),4,"",⟨[]⟩,none⟩,none,true⟩,⟨⟨(some 72),.move (.tmp 9),3,"",⟨[]⟩,none⟩,some ((some 71),true),true⟩,⟨⟨(some 73),.binOp .mul 3 (.const (.int .i64 1000)) (.tmp 72) 3,3,"",⟨[]⟩,none⟩,some ((some 71),true),true⟩,⟨⟨(some 74),.move (.tmp 10),3,"",⟨[]⟩,none⟩,some ((some 71),true),true⟩,⟨⟨(some 75),.fieldAddr 24 (.tmp 2) 3,0,"",⟨[]⟩,none⟩,some ((some 71),true),true⟩,⟨⟨(some 76),.load 3 (.tmp 75),3,"",⟨[]⟩,none⟩,some ((some 71),true),true⟩,⟨⟨(some 77),.binOp .sub 3 (.const (.int .i64 1000)) (.tmp 76) 3,3,"",⟨[]⟩,none⟩,some ((some 71),true),true⟩,⟨⟨(some 78),.binOp .mul 3 (.tmp 74) (.tmp 77) 3,3,"",⟨[]⟩,none⟩,some ((some 71),true),true⟩,⟨⟨(some 79),.binOp .gtr 3 (.tmp 73) (.tmp 78) 3,4,"",⟨[]⟩,none⟩,some ((some 71),true),true⟩,⟨⟨(some 80),.pick (.tmp 71) (.tmp 79) (.const (.bool false)),4,"",⟨[]⟩,none⟩,none,true⟩]) (.cond (.tmp 80) (.seq (.ops false [⟨⟨(some 4),.assign (.const (.bool false)),4,"",⟨[]⟩,none⟩,none,false⟩]) .ret) .skip))) Try.s9_c82))))))
theorem Try.s9_eq : Try.f9.body.map sOf = some Try.s9 := by kernel_rfl
end Go.Proofs

namespace Go.Proofs
open Go Go.RowKit Go.Sim
set_option maxRecDepth 100000
theorem fit_smallC {S L : List Int} (hS : okS S) (hl : L.length = S.length) (hL : FitS S L) : smallL L := by
  refine ⟨fun x hx => ?_, ?_⟩
  · obtain ⟨i, hi, rfl⟩ := List.mem_iff_getElem.1 hx
    have h1 := hL i (by omega)
    have h2 := hS.2.2 i (by omega)
    rw [W_at hi] at h1
    omega
  · have := hS.2.1
    omega
theorem missE_fitC {A : AudN} {P L : List Int} (h : missE A P L = 0) : fitB A.st P = true ∧ fitB A.st L = true := by
  unfold missE at h
  split at h
  · split at h
    · rename_i z2
      split at h
      · rename_i z3; exact ⟨z2, z3⟩
      · omega
    · omega
  · omega
theorem least_misses {A : AudN} (h : audB A = true) {L : List Int} (hE : missE A (leastX A).2 L = 0) (hs : A.lost ≤ L.sum) : 1000 * missV A (leastX A).2 L ≤ missW A (leastX A).2 L * (1000 - A.sure) := by
  obtain ⟨h1, h2, _, h4, _⟩ := leastX_is h
  have hfL := (missE_fitC hE).2
  obtain ⟨hLl, hLf⟩ := fitB_iff.1 hfL
  have hm := miss_above h h2 hLl hLf hs
  unfold missV missW
  rw [if_pos hE, if_pos hE]
  unfold findsB at h4
  have := of_decide_eq_true h4
  omega
theorem missVW_in {A : AudN} (h : audB A = true) (P L : List Int) : (0 ≤ missV A P L ∧ missV A P L ≤ 24010000) ∧ 0 ≤ missW A P L ∧ missW A P L ≤ 24010000 := by
  have hS := (audB_ok h).1
  by_cases hE : missE A P L = 0
  case neg =>
    unfold missV missW
    rw [if_neg hE, if_neg hE]; omega
  have := missE_fitC hE
  obtain ⟨_, hP⟩ := fitB_iff.1 this.1
  obtain ⟨_, hL⟩ := fitB_iff.1 this.2
  have a := missTo_b hS hP hL (i := A.st.length) (Nat.le_refl _)
  have b := missTo_b hS hP (fit_nil hS) (i := A.st.length) (Nat.le_refl _)
  have a' : missI A.st P L ≤ 24010000 := a
  have b' : allI A.st P ≤ 24010000 := b
  unfold missV missW
  rw [if_pos hE, if_pos hE]; omega
theorem aOwnS_arrC {S : Nat → Prop} {w : AW} {v : Value} {L : List Int} (h : AOwnS S w 3 1 v L.length (L.flatMap icells)) (hl : L.length ≤ 1048576) : ArrOf w 1 icells v L := h.own.arr icells_len hl
set_option maxHeartbeats 64000000 in
theorem cheapest_law (w : AW) (xs : List Value) (f : Fresh w) (h : HdAll Try.prog w [24, 54] xs) : CallT Try.prog Try.T1 (.fn (.func 9) #[]) xs.toArray w fun v _ => v = .bool true := by
  cases h with
  | cons n1 h1 h =>
  cases h with
  | cons n2 h2 h =>
  cases h
  rename_i v1 v2
  obtain ⟨A, p, q, a, c, rfl, hs, hcut, hc, _, _, _, _⟩ := given_audit h1
  obtain ⟨P, L, pP, pL, cP, cL, rfl, hPa, hLa, _, _⟩ := given_loss h2
  clear h1 h2
  show CallT Try.prog Try.T1 (.fn (.func 9) #[]) #[.agg (audC p q a c A).toArray, .agg #[.slice pP P.length cP, .slice pL L.length cL]] w _
  have g1 := (Grown.refl f).push (.cells (audC p q a c A) 24 w.next 0 0)
  have O1 := Own.new f 24 (audC p q a c A)
  have g2 := g1.push (.cells [.slice pP P.length cP, .slice pL L.length cL] 54 (w.next + 1) 0 0)
  have O2 := Own.new g1.2 54 [.slice pP P.length cP, .slice pL L.length cL]
  rw [AW.next_push] at O2
  have O1' := O1.push (.cells [.slice pP P.length cP, .slice pL L.length cL] 54 (w.next + 1) 0 0)
  have hmiss := fun (P' L' : List Int) (v u : Value) (w' : AW) (g' : Grown w w') (hv : ArrOf w' 1 icells v P') (hu : ArrOf w' 1 icells u L') => Miss_ok A P' L' p q a c v u w' g'.2 (hs.grown g') (hc.grown g') hv hu
  have hfinds := fun (P' : List Int) (v : Value) (w' : AW) (g' : Grown w w') (hv : ArrOf w' 1 icells v P') => Finds_ok A P' p q a c v w' g'.2 (hs.grown g') (hcut.grown g'.1) (hc.grown g') hv
  have hprice := fun (hA : audB A = true) (P' : List Int) (hPl : P'.length = A.st.length) (hPf : FitS A.st P') (v : Value) (w' : AW) (g' : Grown w w') (hv : ArrOf w' 1 icells v P') => price_ok hA P' hPl hPf p q a c v w' g'.2 (hc.grown g') hv
  have hleast := fun (w' : AW) (g' : Grown w w') => Least_ok A p q a c w' g'.2 (hs.grown g') (hcut.grown g'.1) (hc.grown g')
  refine callT_code rfl Try.func9 rfl Try.s9_eq rfl ?_
  unfold Try.s9
  unfold audC at *
  simp -dsimp -implicitDefEqProofs (maxSteps := 2000000) (disch := first | assumption | omega | (simp only [nx]; omega) | ((repeat refine Fresh.push ?_ _); assumption) | (simp only [smA]; done) | (simp [oneCell, AW.next_push]; done) | fail) only [go_sem, Nat.reduceEqDiff, reduceIte, Nat.reduceAdd, Int.toNat_natCast, Nat.add_zero, Owes_true, Try.results9]
  generalize (w.push (.cells [.slice p A.st.length a, .slice q A.co.length c, .int .i64 A.lost, .int .i64 A.sure] 24 w.next 0 0)).push (.cells [.slice pP P.length cP, .slice pL L.length cL] 54 (w.next + 1) 0 0) = w1 at *
  have a0 := O1'.cell (o := 0) rfl rfl
  have a1 := O1'.cell (o := 1) rfl rfl
  have a2 := O1'.cell (o := 2) rfl rfl
  have a3 := O1'.cell (o := 3) rfl rfl
  try simp -dsimp -implicitDefEqProofs (maxSteps := 2000000) (disch := first | assumption | omega | (simp only [nx]; omega) | ((repeat refine Fresh.push ?_ _); assumption) | (simp only [smA]; done) | (simp [oneCell, AW.next_push]; done) | fail) only [go_sem, Nat.reduceEqDiff, reduceIte, Nat.reduceAdd, Int.toNat_natCast, Nat.add_zero, Owes_true, Try.results9, a0, a1, a2, a3, Nat.zero_add]
  apply callV_of (e := rfl)
  · exact hleast w1 g2
  rintro _ w2 ⟨g3, v, rfl, hR⟩
  have gg3 := g2.trans g3
  have O1b := O1'.keep g3.1
  have O2b := O2.keep g3.1
  have c0 := O1b.cell (o := 0) rfl rfl
  have c1 := O1b.cell (o := 1) rfl rfl
  have c2 := O1b.cell (o := 2) rfl rfl
  have c3 := O1b.cell (o := 3) rfl rfl
  have k0 := O2b.cell (o := 0) rfl rfl
  have k1 := O2b.cell (o := 1) rfl rfl
  have d00 : decide ((0 : Int) = 0) = true := rfl
  have d100 : decide ((100 : Int) = 0) = false := rfl
  cases hA : audB A with
  | false =>
    have hE : audE A = 100 := by unfold audE; rw [hA]; rfl
    have hL : lstL A = [] := by unfold lstL; rw [hA]; rfl
    have hC : lstC A = 0 := by unfold lstC; rw [hA]; rfl
    rw [hL] at hR
    obtain ⟨pv, nv, cv, rfl, hn, _⟩ := aOwnS_arrC hR (by simp)
    obtain rfl : 0 = nv := by simpa using hn
    have dn : decide (((0 : Nat) : Int) = 0) = true := rfl
    rw [hE, hC]
    simp -dsimp -implicitDefEqProofs (maxSteps := 2000000) (disch := first | assumption | omega | (simp only [nx]; omega) | ((repeat refine Fresh.push ?_ _); assumption) | (simp only [smA]; done) | (simp [oneCell, AW.next_push]; done) | fail) only [go_sem, Nat.reduceEqDiff, reduceIte, Nat.reduceAdd, Int.toNat_natCast, Nat.add_zero, Owes_true, Try.results9, d00, d100, dn]
    apply callV_of (e := rfl)
    · exact callT_told (Q := fun v w' => v = .bool true ∧ w2 = w') (v := .bool true) (w' := w2) rfl ⟨rfl, rfl⟩
    rintro _ _ ⟨rfl, rfl⟩
    simp -dsimp -implicitDefEqProofs (maxSteps := 2000000) (disch := first | assumption | omega | (simp only [nx]; omega) | ((repeat refine Fresh.push ?_ _); assumption) | (simp only [smA]; done) | (simp [oneCell, AW.next_push]; done) | fail) only [go_sem, Nat.reduceEqDiff, reduceIte, Nat.reduceAdd, Int.toNat_natCast, Nat.add_zero, Owes_true, Try.results9]
  | true =>
  have hE : audE A = 0 := by unfold audE; rw [hA]; rfl
  have hL : lstL A = (leastX A).2 := by unfold lstL; rw [hA]; rfl
  have hC : lstC A = (leastX A).1 := by unfold lstC; rw [hA]; rfl
  obtain ⟨hS, hco, hci, hl1, hl2, hu1, hu2⟩ := audB_ok hA
  obtain ⟨x1, x2, x3, x4, x5⟩ := leastX_is hA
  rw [hL] at hR
  have hvA := aOwnS_arrC hR (by rw [x1]; have := hS.2.1; omega)
  obtain ⟨pv, cv, rfl, _⟩ := id hvA.open
  rw [hE, hC]
  have hfX := hfinds _ _ w2 gg3 hvA
  have hsX : samE A (leastX A).2 = 0 := by unfold samE; rw [hA, fitB_iff.2 ⟨x1, x2⟩]; rfl
  have hfX2 : fndB A (leastX A).2 = true := by unfold fndB; rw [if_pos hsX]; exact x4
  rw [hsX, hfX2] at hfX
  have hmis := fun (w' : AW) (g' : Grown w w') (hv : ArrOf w' 1 icells (.slice pv (leastX A).2.length cv) (leastX A).2) => hmiss (leastX A).2 L _ _ w' g' hv (hLa.grown g')
  have hle := fun hE hs => least_misses hA (L := L) hE hs
  have hbd := missVW_in hA (leastX A).2 L
  have hfit := fun h => (missE_fitC (A := A) (P := (leastX A).2) (L := L) h).2
  have hpX := fun (w' : AW) (g' : Grown w w') (hv : ArrOf w' 1 icells (.slice pv (leastX A).2.length cv) (leastX A).2) => hprice hA (leastX A).2 x1 x2 _ w' g' hv
  rw [← x3] at hpX
  have hXb := cost_in hA x2
  rw [← x3] at hXb
  generalize missE A (leastX A).2 L = ME at *
  generalize missV A (leastX A).2 L = MV at *
  generalize missW A (leastX A).2 L = MW at *
  generalize leastX A = X at *
  simp -dsimp -implicitDefEqProofs (maxSteps := 2000000) (disch := first | assumption | omega | (simp only [nx]; omega) | ((repeat refine Fresh.push ?_ _); assumption) | (simp only [smA]; done) | (simp [oneCell, AW.next_push]; done) | fail) only [go_sem, Nat.reduceEqDiff, reduceIte, Nat.reduceAdd, Int.toNat_natCast, Nat.add_zero, Owes_true, Try.results9, d00, c0, c1, c2, c3, Nat.zero_add]
  apply callV_of (e := rfl)
  · exact hfX
  rintro _ w3 ⟨rfl, g4⟩
  have gg4 := gg3.trans g4
  have O1c := O1b.keep g4.1
  have e0 := O1c.cell (o := 0) rfl rfl
  have e1 := O1c.cell (o := 1) rfl rfl
  have e2 := O1c.cell (o := 2) rfl rfl
  have e3 := O1c.cell (o := 3) rfl rfl
  simp -dsimp -implicitDefEqProofs (maxSteps := 2000000) (disch := first | assumption | omega | (simp only [nx]; omega) | ((repeat refine Fresh.push ?_ _); assumption) | (simp only [smA]; done) | (simp [oneCell, AW.next_push]; done) | fail) only [go_sem, Nat.reduceEqDiff, reduceIte, Nat.reduceAdd, Int.toNat_natCast, Nat.add_zero, Owes_true, Try.results9, d00, e0, e1, e2, e3, Nat.zero_add]
  apply callV_of (e := rfl)
  · exact hpX w3 gg4 (hvA.grown g4)
  rintro _ w4 ⟨rfl, g5⟩
  have gg5 := gg4.trans g5
  have O1d := O1c.keep g5.1
  have O2d := (O2b.keep g4.1).keep g5.1
  have f0 := O1d.cell (o := 0) rfl rfl
  have f1 := O1d.cell (o := 1) rfl rfl
  have f2 := O1d.cell (o := 2) rfl rfl
  have f3 := O1d.cell (o := 3) rfl rfl
  have j0 := O2d.cell (o := 0) rfl rfl
  have j1 := O2d.cell (o := 1) rfl rfl
  have hvA5 := (hvA.grown g4).grown g5
  have dX : decide (X.1 = X.1) = true := decide_eq_true rfl
  simp -dsimp -implicitDefEqProofs (maxSteps := 2000000) (disch := first | assumption | omega | (simp only [nx]; omega) | ((repeat refine Fresh.push ?_ _); assumption) | (simp only [smA]; done) | (simp [oneCell, AW.next_push]; done) | fail) only [go_sem, Nat.reduceEqDiff, reduceIte, Nat.reduceAdd, Int.toNat_natCast, Nat.add_zero, Owes_true, Try.results9, d00, dX, f0, f1, f2, f3, j0, j1, Nat.zero_add]
  apply callV_of (e := rfl)
  · exact hmis w4 gg5 hvA5
  rintro _ w5 ⟨rfl, g6⟩
  have gg6 := gg5.trans g6
  have O1e := O1d.keep g6.1
  have O2e := O2d.keep g6.1
  have r0 := O1e.cell (o := 0) rfl rfl
  have r1 := O1e.cell (o := 1) rfl rfl
  have r2 := O1e.cell (o := 2) rfl rfl
  have r3 := O1e.cell (o := 3) rfl rfl
  have s0 := O2e.cell (o := 0) rfl rfl
  have s1 := O2e.cell (o := 1) rfl rfl
  have hvA6 := hvA5.grown g6
  have hle5 : WLe w5 w5 := (Grown.refl gg6.2).1.wle gg6.2
  have m1 : 0 ≤ MW * (1000 - A.sure) := Int.mul_nonneg (by omega) (by omega)
  have m2 : MW * (1000 - A.sure) ≤ 24010000 * 1000 := Int.mul_le_mul (by omega) (by omega) (by omega) (by omega)
  apply joinC (F := fun t => ev t (.tmp 2) = ptr w.next ∧ ev t (.tmp 3) = ptr (w.next + 1) ∧ ev t (.tmp 5) = .slice pv X.2.length cv ∧ ev t (.tmp 6) = .int .i64 X.1) (w := w5)
  case mainC =>
    intro go
    by_cases hz : ME = 0
    case neg =>
      have hd : decide (ME = 0) = false := decide_eq_false hz
      simp -dsimp -implicitDefEqProofs (maxSteps := 2000000) (disch := first | assumption | omega | (simp only [nx]; omega) | ((repeat refine Fresh.push ?_ _); assumption) | (simp only [smA]; done) | (simp [oneCell, AW.next_push]; done) | fail) only [go_sem, Nat.reduceEqDiff, reduceIte, Nat.reduceAdd, Int.toNat_natCast, Nat.add_zero, Owes_true, Try.results9, hd, d00]
      exact joinC_use go ⟨by (simp -dsimp -implicitDefEqProofs (maxSteps := 2000000) (disch := first | assumption | omega | (simp only [nx]; omega) | ((repeat refine Fresh.push ?_ _); assumption) | (simp only [smA]; done) | (simp [oneCell, AW.next_push]; done) | fail) only [go_sem, Nat.reduceEqDiff, reduceIte, Nat.reduceAdd, Int.toNat_natCast, Nat.add_zero, Owes_true]; try rfl), by (simp -dsimp -implicitDefEqProofs (maxSteps := 2000000) (disch := first | assumption | omega | (simp only [nx]; omega) | ((repeat refine Fresh.push ?_ _); assumption) | (simp only [smA]; done) | (simp [oneCell, AW.next_push]; done) | fail) only [go_sem, Nat.reduceEqDiff, reduceIte, Nat.reduceAdd, Int.toNat_natCast, Nat.add_zero, Owes_true]; try rfl), by (simp -dsimp -implicitDefEqProofs (maxSteps := 2000000) (disch := first | assumption | omega | (simp only [nx]; omega) | ((repeat refine Fresh.push ?_ _); assumption) | (simp only [smA]; done) | (simp [oneCell, AW.next_push]; done) | fail) only [go_sem, Nat.reduceEqDiff, reduceIte, Nat.reduceAdd, Int.toNat_natCast, Nat.add_zero, Owes_true]; try rfl), by (simp -dsimp -implicitDefEqProofs (maxSteps := 2000000) (disch := first | assumption | omega | (simp only [nx]; omega) | ((repeat refine Fresh.push ?_ _); assumption) | (simp only [smA]; done) | (simp [oneCell, AW.next_push]; done) | fail) only [go_sem, Nat.reduceEqDiff, reduceIte, Nat.reduceAdd, Int.toNat_natCast, Nat.add_zero, Owes_true]; try rfl)⟩
    have hd : decide (ME = 0) = true := decide_eq_true hz
    have hLf : fitB A.st L = true := hfit hz
    obtain ⟨hLl, hLf⟩ := fitB_iff.1 hLf
    have hsL := fit_smallC hS hLl hLf
    simp -dsimp -implicitDefEqProofs (maxSteps := 2000000) (disch := first | assumption | omega | (simp only [nx]; omega) | ((repeat refine Fresh.push ?_ _); assumption) | (simp only [smA]; done) | (simp [oneCell, AW.next_push]; done) | fail) only [go_sem, Nat.reduceEqDiff, reduceIte, Nat.reduceAdd, Int.toNat_natCast, Nat.add_zero, Owes_true, Try.results9, hd, r0, r1, r2, r3, s0, s1, d00, Nat.zero_add]
    apply callV_of (e := rfl)
    · exact Sum_ok L _ w5 (hLa.grown gg6)
    rintro _ _ ⟨rfl, sm, rfl, hsm⟩
    obtain rfl := hsm hsL
    by_cases hge : L.sum ≥ A.lost
    case neg =>
      simp -dsimp -implicitDefEqProofs (maxSteps := 2000000) (disch := first | assumption | omega | (simp only [nx]; omega) | ((repeat refine Fresh.push ?_ _); assumption) | (simp only [smA]; done) | (simp [oneCell, AW.next_push]; done) | fail) only [go_sem, Nat.reduceEqDiff, reduceIte, Nat.reduceAdd, Int.toNat_natCast, Nat.add_zero, Owes_true, Try.results9, hd, hge, hle5, r0, r1, r2, r3, s0, s1, d00, Nat.zero_add]
      exact joinC_use go ⟨by (simp -dsimp -implicitDefEqProofs (maxSteps := 2000000) (disch := first | assumption | omega | (simp only [nx]; omega) | ((repeat refine Fresh.push ?_ _); assumption) | (simp only [smA]; done) | (simp [oneCell, AW.next_push]; done) | fail) only [go_sem, Nat.reduceEqDiff, reduceIte, Nat.reduceAdd, Int.toNat_natCast, Nat.add_zero, Owes_true]; try rfl), by (simp -dsimp -implicitDefEqProofs (maxSteps := 2000000) (disch := first | assumption | omega | (simp only [nx]; omega) | ((repeat refine Fresh.push ?_ _); assumption) | (simp only [smA]; done) | (simp [oneCell, AW.next_push]; done) | fail) only [go_sem, Nat.reduceEqDiff, reduceIte, Nat.reduceAdd, Int.toNat_natCast, Nat.add_zero, Owes_true]; try rfl), by (simp -dsimp -implicitDefEqProofs (maxSteps := 2000000) (disch := first | assumption | omega | (simp only [nx]; omega) | ((repeat refine Fresh.push ?_ _); assumption) | (simp only [smA]; done) | (simp [oneCell, AW.next_push]; done) | fail) only [go_sem, Nat.reduceEqDiff, reduceIte, Nat.reduceAdd, Int.toNat_natCast, Nat.add_zero, Owes_true]; try rfl), by (simp -dsimp -implicitDefEqProofs (maxSteps := 2000000) (disch := first | assumption | omega | (simp only [nx]; omega) | ((repeat refine Fresh.push ?_ _); assumption) | (simp only [smA]; done) | (simp [oneCell, AW.next_push]; done) | fail) only [go_sem, Nat.reduceEqDiff, reduceIte, Nat.reduceAdd, Int.toNat_natCast, Nat.add_zero, Owes_true]; try rfl)⟩
    have hmb := hle hz hge
    have hng : ¬ 1000 * MV > MW * (1000 - A.sure) := by omega
    simp -dsimp -implicitDefEqProofs (maxSteps := 2000000) (disch := first | assumption | omega | (simp only [nx]; omega) | ((repeat refine Fresh.push ?_ _); assumption) | (simp only [smA]; done) | (simp [oneCell, AW.next_push]; done) | fail) only [go_sem, Nat.reduceEqDiff, reduceIte, Nat.reduceAdd, Int.toNat_natCast, Nat.add_zero, Owes_true, Try.results9, hd, hge, hle5, hng, r0, r1, r2, r3, s0, s1, d00, Nat.zero_add]
    exact joinC_use go ⟨by (simp -dsimp -implicitDefEqProofs (maxSteps := 2000000) (disch := first | assumption | omega | (simp only [nx]; omega) | ((repeat refine Fresh.push ?_ _); assumption) | (simp only [smA]; done) | (simp [oneCell, AW.next_push]; done) | fail) only [go_sem, Nat.reduceEqDiff, reduceIte, Nat.reduceAdd, Int.toNat_natCast, Nat.add_zero, Owes_true]; try rfl), by (simp -dsimp -implicitDefEqProofs (maxSteps := 2000000) (disch := first | assumption | omega | (simp only [nx]; omega) | ((repeat refine Fresh.push ?_ _); assumption) | (simp only [smA]; done) | (simp [oneCell, AW.next_push]; done) | fail) only [go_sem, Nat.reduceEqDiff, reduceIte, Nat.reduceAdd, Int.toNat_natCast, Nat.add_zero, Owes_true]; try rfl), by (simp -dsimp -implicitDefEqProofs (maxSteps := 2000000) (disch := first | assumption | omega | (simp only [nx]; omega) | ((repeat refine Fresh.push ?_ _); assumption) | (simp only [smA]; done) | (simp [oneCell, AW.next_push]; done) | fail) only [go_sem, Nat.reduceEqDiff, reduceIte, Nat.reduceAdd, Int.toNat_natCast, Nat.add_zero, Owes_true]; try rfl), by (simp -dsimp -implicitDefEqProofs (maxSteps := 2000000) (disch := first | assumption | omega | (simp only [nx]; omega) | ((repeat refine Fresh.push ?_ _); assumption) | (simp only [smA]; done) | (simp [oneCell, AW.next_push]; done) | fail) only [go_sem, Nat.reduceEqDiff, reduceIte, Nat.reduceAdd, Int.toNat_natCast, Nat.add_zero, Owes_true]; try rfl)⟩
  case restC =>
  rintro t ⟨e2', e3', e5', e6'⟩
  unfold Try.s9_c82
  have hfP := hfinds P _ w5 gg6 (hPa.grown gg6)
  simp -dsimp -implicitDefEqProofs (maxSteps := 2000000) (disch := first | assumption | omega | (simp only [nx]; omega) | ((repeat refine Fresh.push ?_ _); assumption) | (simp only [smA]; done) | (simp [oneCell, AW.next_push]; done) | fail) only [go_sem, Nat.reduceEqDiff, reduceIte, Nat.reduceAdd, Int.toNat_natCast, Nat.add_zero, Owes_true, Try.results9, e2', e3', e5', e6', r0, r1, r2, r3, s0, s1, Nat.zero_add]
  apply callV_of (e := rfl)
  · exact hfP
  rintro _ w6 ⟨rfl, g7⟩
  have gg7 := gg6.trans g7
  have O1f := O1e.keep g7.1
  have O2f := O2e.keep g7.1
  have t0 := O1f.cell (o := 0) rfl rfl
  have t1 := O1f.cell (o := 1) rfl rfl
  have t2 := O1f.cell (o := 2) rfl rfl
  have t3 := O1f.cell (o := 3) rfl rfl
  have u0 := O2f.cell (o := 0) rfl rfl
  by_cases hz : samE A P = 0
  case neg =>
    have h1 : samE A P = 101 := by
      unfold samE at hz ⊢
      rw [hA, if_pos rfl] at hz ⊢
      split at hz
      · exact absurd rfl hz
      · rename_i z; rw [if_neg z]
    have d1 : decide ((101 : Int) = 0) = false := rfl
    have d2 : decide ((101 : Int) = 101) = true := rfl
    rw [h1]
    simp -dsimp -implicitDefEqProofs (maxSteps := 2000000) (disch := first | assumption | omega | (simp only [nx]; omega) | ((repeat refine Fresh.push ?_ _); assumption) | (simp only [smA]; done) | (simp [oneCell, AW.next_push]; done) | fail) only [go_sem, Nat.reduceEqDiff, reduceIte, Nat.reduceAdd, Int.toNat_natCast, Nat.add_zero, Owes_true, Try.results9, d1, d2, e2', e3', e5', e6']
    apply callV_of (e := rfl)
    · exact callT_told (Q := fun v w' => v = .bool true ∧ w6 = w') (v := .bool true) (w' := w6) rfl ⟨rfl, rfl⟩
    rintro _ _ ⟨rfl, rfl⟩
    simp -dsimp -implicitDefEqProofs (maxSteps := 2000000) (disch := first | assumption | omega | (simp only [nx]; omega) | ((repeat refine Fresh.push ?_ _); assumption) | (simp only [smA]; done) | (simp [oneCell, AW.next_push]; done) | fail) only [go_sem, Nat.reduceEqDiff, reduceIte, Nat.reduceAdd, Int.toNat_natCast, Nat.add_zero, Owes_true, Try.results9]
  have hd : decide (samE A P = 0) = true := decide_eq_true hz
  obtain ⟨_, hPfB⟩ := samE_ok hz
  obtain ⟨hPl, hPf⟩ := fitB_iff.1 hPfB
  have hFB : fndB A P = findsB A P := by unfold fndB; rw [if_pos hz]
  rw [hFB]
  cases hF : findsB A P with
  | false =>
    simp -dsimp -implicitDefEqProofs (maxSteps := 2000000) (disch := first | assumption | omega | (simp only [nx]; omega) | ((repeat refine Fresh.push ?_ _); assumption) | (simp only [smA]; done) | (simp [oneCell, AW.next_push]; done) | fail) only [go_sem, Nat.reduceEqDiff, reduceIte, Nat.reduceAdd, Int.toNat_natCast, Nat.add_zero, Owes_true, Try.results9, hd, e2', e3', e5', e6']
    apply callV_of (e := rfl)
    · exact callT_told (Q := fun v w' => v = .bool true ∧ w6 = w') (v := .bool true) (w' := w6) rfl ⟨rfl, rfl⟩
    rintro _ _ ⟨rfl, rfl⟩
    simp -dsimp -implicitDefEqProofs (maxSteps := 2000000) (disch := first | assumption | omega | (simp only [nx]; omega) | ((repeat refine Fresh.push ?_ _); assumption) | (simp only [smA]; done) | (simp [oneCell, AW.next_push]; done) | fail) only [go_sem, Nat.reduceEqDiff, reduceIte, Nat.reduceAdd, Int.toNat_natCast, Nat.add_zero, Owes_true, Try.results9]
  | true =>
  obtain ⟨hc1, hc2⟩ := x5 P hPl hPf hF
  simp -dsimp -implicitDefEqProofs (maxSteps := 2000000) (disch := first | assumption | omega | (simp only [nx]; omega) | ((repeat refine Fresh.push ?_ _); assumption) | (simp only [smA]; done) | (simp [oneCell, AW.next_push]; done) | fail) only [go_sem, Nat.reduceEqDiff, reduceIte, Nat.reduceAdd, Int.toNat_natCast, Nat.add_zero, Owes_true, Try.results9, hd, e2', e3', e5', e6', t0, t1, t2, t3, u0, Nat.zero_add]
  apply callV_of (e := rfl)
  · exact hprice hA P hPl hPf _ w6 gg7 (hPa.grown gg7)
  rintro _ w7 ⟨rfl, g8⟩
  have gg8 := gg7.trans g8
  have O2g := O2f.keep g8.1
  have v0 := O2g.cell (o := 0) rfl rfl
  by_cases hgt : costI A.co P > X.1
  · simp -dsimp -implicitDefEqProofs (maxSteps := 2000000) (disch := first | assumption | omega | (simp only [nx]; omega) | ((repeat refine Fresh.push ?_ _); assumption) | (simp only [smA]; done) | (simp [oneCell, AW.next_push]; done) | fail) only [go_sem, Nat.reduceEqDiff, reduceIte, Nat.reduceAdd, Int.toNat_natCast, Nat.add_zero, Owes_true, Try.results9, hgt, e2', e3', e5', e6']
    apply callV_of (e := rfl)
    · exact callT_told (Q := fun v w' => v = .bool true ∧ w7 = w') (v := .bool true) (w' := w7) rfl ⟨rfl, rfl⟩
    rintro _ _ ⟨rfl, rfl⟩
    simp -dsimp -implicitDefEqProofs (maxSteps := 2000000) (disch := first | assumption | omega | (simp only [nx]; omega) | ((repeat refine Fresh.push ?_ _); assumption) | (simp only [smA]; done) | (simp [oneCell, AW.next_push]; done) | fail) only [go_sem, Nat.reduceEqDiff, reduceIte, Nat.reduceAdd, Int.toNat_natCast, Nat.add_zero, Owes_true, Try.results9]
  have heq : costI A.co P = X.1 := by omega
  have hah := hc2 heq.symm
  have hq : decide (costI A.co P = X.1) = true := decide_eq_true heq
  simp -dsimp -implicitDefEqProofs (maxSteps := 2000000) (disch := first | assumption | omega | (simp only [nx]; omega) | ((repeat refine Fresh.push ?_ _); assumption) | (simp only [smA]; done) | (simp [oneCell, AW.next_push]; done) | fail) only [go_sem, Nat.reduceEqDiff, reduceIte, Nat.reduceAdd, Int.toNat_natCast, Nat.add_zero, Owes_true, Try.results9, hgt, hq, e2', e3', e5', e6', v0, Nat.zero_add]
  apply callV_of (e := rfl)
  · exact Ahead_ok P X.2 _ _ w7 (hPa.grown gg8) ((hvA6.grown g7).grown g8)
  rintro _ _ ⟨rfl, rfl⟩
  simp -dsimp -implicitDefEqProofs (maxSteps := 2000000) (disch := first | assumption | omega | (simp only [nx]; omega) | ((repeat refine Fresh.push ?_ _); assumption) | (simp only [smA]; done) | (simp [oneCell, AW.next_push]; done) | fail) only [go_sem, Nat.reduceEqDiff, reduceIte, Nat.reduceAdd, Int.toNat_natCast, Nat.add_zero, Owes_true, Try.results9, hah, e2', e3', e5', e6']
  apply callV_of (e := rfl)
  · exact callT_told (Q := fun v w' => v = .bool true ∧ w7 = w') (v := .bool true) (w' := w7) rfl ⟨rfl, rfl⟩
  rintro _ _ ⟨rfl, rfl⟩
  simp -dsimp -implicitDefEqProofs (maxSteps := 2000000) (disch := first | assumption | omega | (simp only [nx]; omega) | ((repeat refine Fresh.push ?_ _); assumption) | (simp only [smA]; done) | (simp [oneCell, AW.next_push]; done) | fail) only [go_sem, Nat.reduceEqDiff, reduceIte, Nat.reduceAdd, Int.toNat_natCast, Nat.add_zero, Owes_true, Try.results9]
end Go.Proofs

namespace Go.Proofs
open Go Go.RowKit Go.Sim Go.ChangeShapes Go.WideShapes Go.ChangeAt
set_option maxRecDepth 100000
theorem Try.own : ownKnob Try.prog.godebug = none := by kernel_rfl
theorem Try.laidOut : laidOutB Try.prog = true := by kernel_rfl
end Go.Proofs
