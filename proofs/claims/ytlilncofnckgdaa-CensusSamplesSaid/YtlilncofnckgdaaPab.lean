/- This program: its code, contracts, numbers, part 2. -/
import Derived.Test.YtlilncofnckgdaaPaa
import Derived.Test.YtlilncofnckgdaaNa
import Derived.Test.YtlilncofnckgdaaNc
import Derived.Test.YtlilncofnckgdaaChecked
import Derived.Test.YtlilncofnckgdaaSh
import Derived.Test.YtlilncofnckgdaaSf
set_option linter.unusedVariables false
set_option linter.unusedSimpArgs false
namespace Go.Proofs
open Go Go.RowKit Go.Sim
set_option maxRecDepth 100000
def Try.s50 : SC := (.seq (.ops false [⟨⟨(some 2),.assign (.const (.slice none 0 0)),22,"",⟨[]⟩,none⟩,none,false⟩]) (.seq (.ops false [⟨⟨(some 3),.buildSlice 22 0 ⟨[]⟩,22,"",⟨[]⟩,none⟩,none,false⟩,⟨⟨(some 4),.move (.tmp 0),22,"",⟨[]⟩,none⟩,none,false⟩,⟨⟨(some 5),.call ⟨.builtin .append,⟨[(.tmp 3),(.tmp 4)]⟩,⟨[22,22]⟩⟩,22,"",⟨[]⟩,none⟩,none,false⟩,⟨⟨(some 2),.assign (.tmp 5),22,"",⟨[]⟩,none⟩,none,false⟩]) .ret))
def Try.s22 : SC := (.seq (.ops false [⟨⟨(some 4),.assign (.const (.bool false)),4,"",⟨[]⟩,none⟩,none,false⟩]) (.seq (.ops false [⟨⟨(some 7),.move (.tmp 0),22,"",⟨[]⟩,none⟩,none,false⟩,⟨⟨(some 8),.call ⟨.builtin .len,⟨[(.tmp 7)]⟩,⟨[22]⟩⟩,3,"",⟨[]⟩,none⟩,none,false⟩,⟨⟨(some 9),.move (.tmp 1),22,"",⟨[]⟩,none⟩,none,false⟩,⟨⟨(some 10),.call ⟨.builtin .len,⟨[(.tmp 9)]⟩,⟨[22]⟩⟩,3,"",⟨[]⟩,none⟩,none,false⟩,⟨⟨(some 11),.binOp .eql 3 (.tmp 8) (.tmp 10) 3,4,"",⟨[]⟩,none⟩,none,false⟩,⟨⟨(some 5),.assign (.tmp 11),4,"",⟨[]⟩,none⟩,none,false⟩]) (.seq (.seq (.ops false [⟨⟨(some 6),.assign (.const (.int .i64 0)),3,"",⟨[]⟩,none⟩,none,false⟩]) (.block 0 (.loop (.seq (.seq (.ops false [⟨⟨(some 12),.move (.tmp 5),4,"",⟨[]⟩,none⟩,none,false⟩,⟨⟨(some 13),.move (.tmp 12),4,"",⟨[]⟩,none⟩,none,false⟩,⟨⟨(some 14),.move (.tmp 6),3,"",⟨[]⟩,none⟩,some ((some 13),true),false⟩,⟨⟨(some 15),.move (.tmp 0),22,"",⟨[]⟩,none⟩,some ((some 13),true),false⟩,⟨⟨(some 16),.call ⟨.builtin .len,⟨[(.tmp 15)]⟩,⟨[22]⟩⟩,3,"",⟨[]⟩,none⟩,some ((some 13),true),false⟩,⟨⟨(some 17),.binOp .lss 3 (.tmp 14) (.tmp 16) 3,4,"",⟨[]⟩,none⟩,some ((some 13),true),false⟩,⟨⟨(some 18),.pick (.tmp 13) (.tmp 17) (.const (.bool false)),4,"",⟨[]⟩,none⟩,none,false⟩]) (.cond (.tmp 18) .skip (.exit 0))) (.seq (.block 1 (.ops true [⟨⟨(some 21),.move (.tmp 0),22,"",⟨[]⟩,none⟩,none,true⟩,⟨⟨(some 22),.move (.tmp 6),3,"",⟨[]⟩,none⟩,none,true⟩,⟨⟨(some 23),.indexAddr 22 (.tmp 21) (.tmp 22),0,"",⟨[]⟩,none⟩,none,true⟩,⟨⟨(some 24),.load 3 (.tmp 23),3,"",⟨[]⟩,none⟩,none,true⟩,⟨⟨(some 25),.move (.tmp 1),22,"",⟨[]⟩,none⟩,none,true⟩,⟨⟨(some 26),.move (.tmp 6),3,"",⟨[]⟩,none⟩,none,true⟩,⟨⟨(some 27),.indexAddr 22 (.tmp 25) (.tmp 26),0,"",⟨[]⟩,none⟩,none,true⟩,⟨⟨(some 28),.load 3 (.tmp 27),3,"",⟨[]⟩,none⟩,none,true⟩,⟨⟨(some 29),.binOp .eql 3 (.tmp 24) (.tmp 28) 3,4,"",⟨[]⟩,none⟩,none,true⟩,⟨⟨(some 5),.assign (.tmp 29),4,"",⟨[]⟩,none⟩,none,true⟩])) (.ops false [⟨⟨(some 19),.move (.tmp 6),3,"",⟨[]⟩,none⟩,none,false⟩,⟨⟨(some 20),.binOp .add 3 (.tmp 19) (.const (.int .i64 1)) 3,3,"",⟨[]⟩,none⟩,none,false⟩,⟨⟨(some 6),.assign (.tmp 20),3,"",⟨[]⟩,none⟩,none,false⟩])))))) (.seq (.ops false [⟨⟨(some 30),.move (.tmp 5),4,"",⟨[]⟩,none⟩,none,false⟩,⟨⟨(some 4),.assign (.tmp 30),4,"",⟨[]⟩,none⟩,none,false⟩]) .ret))))
theorem Try.s50_eq : Try.f50.body.map sOf = some Try.s50 := by kernel_rfl
theorem Try.s22_eq : Try.f22.body.map sOf = some Try.s22 := by kernel_rfl
end Go.Proofs

namespace Go.Proofs
open Go Go.RowKit Go.Sim
set_option maxRecDepth 100000
end Go.Proofs

namespace Go.Sim
open Go Go.RowKit
section
variable {P : Program} {told : ToldF} {d : Option Tmp} {ty0 : TypeId} {pos : String} {af : Array Edge} {gd : Option (Tmp × Bool)} {t : Tmps} {w : AW} {K : Tmps → AW → Prop}
theorem stepR_copy {draw tie : Bool} {x y : Operand} {dT xT : TypeId} {tk : Tok ((⟨d, .call ⟨.builtin .copy, ⟨[x, y]⟩, ⟨[dT, xT]⟩⟩, ty0, pos, af, gd⟩ : Oper), t, w, K)} {v : Value} {w' : AW}
    (h : copyV (prg P) w (ev t x) (ev t y) dT xT = some (v, w')) (k : Owes (draw && tie) (WLe w w') (K (putTmp t d v) w') .mk) : StepR P told draw tie ⟨d, .call ⟨.builtin .copy, ⟨[x, y]⟩, ⟨[dT, xT]⟩⟩, ty0, pos, af, gd⟩ t w K tk := by
  show EffT P told _ t w _
  exact effT_still (fun call => by simp only [effect, h, gave]) k
end
theorem setsL_cut : ∀ (l c : List Value) (o : Nat), o + l.length ≤ c.length → setsL c o l = c.take o ++ l ++ c.drop (o + l.length)
  | [], c, o, _ => by simp [setsL]
  | v :: l, c, o, h => by
    rw [List.length_cons] at h
    rw [setsL, setsL_cut l _ _ (by rw [setL_eq, List.length_set]; omega), setL_eq, List.drop_set_of_lt (by omega), List.take_succ_eq_append_getElem (by rw [List.length_set]; omega), List.take_set_of_le (Nat.le_refl _)]
    rw [List.length_cons, show o + 1 + l.length = o + (l.length + 1) by omega]
    simp
def setsI (A : List Int) (o : Nat) (xs : List Int) : List Int := A.take o ++ xs ++ A.drop (o + xs.length)
theorem setsI_eq {A : List Int} {o : Nat} {xs : List Int} (h : o + xs.length ≤ A.length) : setsL (A.flatMap icells) o (xs.flatMap icells) = (setsI A o xs).flatMap icells := by
  rw [setsL_cut _ _ _ (by rw [icells_flat_len, icells_flat_len]; exact h), icells_flat_len]
  unfold setsI
  rw [flat_icells, flat_icells, flat_icells, List.map_append, List.map_append, List.map_take, List.map_drop]
theorem stores_ints {w : AW} {b : Nat} {e : TypeId} {A : List Int} (h : Own w b e (A.flatMap icells)) (f : Fresh w) {o : Nat} {xs : List Int} (ho : o + xs.length ≤ A.length) :
    ∃ w', aStores b o (xs.flatMap icells) w = some w' ∧ Own w' b e ((setsI A o xs).flatMap icells) ∧ MutS (fun j => j = b) w w' ∧ w'.next = w.next := by
  cases xs with
  | nil =>
    refine ⟨w, rfl, ?_, MutS.refl f, rfl⟩
    have : setsI A o [] = A := by simp [setsI]
    rw [this]; exact h
  | cons x xs =>
    refine ⟨_, stores_own _ o w _ h (by simp [icells]) (by rw [icells_flat_len, icells_flat_len]; exact ho) (fun v hv => by
      obtain ⟨y, _, hy⟩ := List.mem_flatMap.1 hv
      exact icells_one y v hy), ?_, MutS.put (S := fun j => j = b) f rfl h.lt _, AW.next_put _ _ _⟩
    rw [setsI_eq ho]
    exact h.put _
theorem first_arr {w w' : AW} {v : Value} {L : List Int} (h : ArrOf w 1 icells v L) (k : Keep w.next w w') {n : Nat} (hn : n ≤ L.length) (h0 : 1 ≤ n) : ∃ b o c, v = .slice (some ⟨b, o, none⟩) L.length c ∧ aFirst w' 1 n v = some ((L.take n).flatMap icells) := by
  obtain ⟨p, c, rfl, h1, h2, hat⟩ := h.open
  obtain ⟨b, o, rfl, _⟩ := hat 0 (by omega)
  refine ⟨b, o, c, rfl, ?_⟩
  show aCells w' b o (n * 1) = _
  rw [Nat.mul_one]
  have := aCells_of (w := w') (b := b) ((L.take n).flatMap icells) o fun i v hv => by
    have hi : i < n := by
      have := (List.getElem?_eq_some_iff.1 hv).1
      rw [icells_flat_len, List.length_take] at this; omega
    obtain ⟨b1, o1, e, _, hc⟩ := hat i (by omega)
    injection e with e; injection e with e1 e2
    subst e1 e2
    have := hc w' k 0 _ rfl
    rw [flat_icells, List.getElem?_map, List.getElem?_take, if_pos hi, List.getElem?_eq_getElem (show i < L.length by omega)] at hv
    simp only [Option.map_some, Option.some.injEq] at hv
    subst hv
    simpa using this
  rw [icells_flat_len, List.length_take, Nat.min_eq_left hn] at this
  exact this
theorem copy_ints {g : Prg} {w w0 : AW} {b : Nat} {e e0 : TypeId} {A L : List Int} {ty xty : TypeId} {a1 a2 : Bool} {n1 b1 b2 : Nat} {d2 : TypeDesc} {z1 z2 : Value} (h : g.ty ty = some ⟨a1, .slice e0, n1, b1, z1⟩) (h2 : g.ty e0 = some ⟨a2, d2, 1, b2, z2⟩)
    (hO : Own w b e (A.flatMap icells)) (f : Fresh w) {v : Value} (hv : ArrOf w0 1 icells v L) (k : Keep w0.next w0 w) (h1 : 1 ≤ L.length) (hl : L.length ≤ A.length) {c : Nat} :
    ∃ w', copyV g w (.slice (some ⟨b, 0, none⟩) A.length c) v ty xty = some (.int .i64 (L.length : Int), w') ∧ Own w' b e ((setsI A 0 L).flatMap icells) ∧ MutS (fun j => j = b) w w' ∧ w'.next = w.next := by
  obtain ⟨b1, o1, c1, rfl, hf⟩ := first_arr hv k (Nat.le_refl _) h1
  rw [List.take_of_length_le (Nat.le_refl _)] at hf
  obtain ⟨w', s1, s2, s3, s4⟩ := stores_ints hO f (o := 0) (xs := L) (by omega)
  refine ⟨w', ?_, s2, s3, s4⟩
  have hm : Nat.min L.length A.length = L.length := Nat.min_eq_left hl
  simp only [copyV, h, h2, hm, hf, s1]
  rfl
end Go.Sim

namespace Go.Proofs
open Go Go.RowKit Go.Sim
set_option maxRecDepth 100000
theorem icells_ones (A : List Int) : ∀ v ∈ A.flatMap icells, oneCell v = true := fun v hv => by
  obtain ⟨y, _, hy⟩ := List.mem_flatMap.1 hv
  exact icells_one y v hy
theorem Try.sl22b (t : Tmps) (w : AW) (x lo : Operand) : fast (prg Try.prog) t w (.slice 22 x (some lo) none none) = sliceV w 1 (ev t x) (some (ev t lo)) none := by simp only [fast, Try.ty22, Try.ty3]; rfl
attribute [go_sem] Try.sl22b
end Go.Proofs
