/- This program: its code, contracts, numbers, part 6. -/
import Derived.Test.YtlilncofnckgdaaPae
import Derived.Test.YtlilncofnckgdaaCz
import Derived.Test.YtlilncofnckgdaaPac
set_option linter.unusedVariables false
set_option linter.unusedSimpArgs false
namespace Go.Proofs
open Go Go.RowKit Go.Sim
set_option maxRecDepth 100000
end Go.Proofs

namespace Go.Proofs
open Go Go.RowKit Go.Sim
set_option maxRecDepth 100000
abbrev ptr (b : Nat) : Value := .pointer (some ⟨b, 0, none⟩)
def fillV (bs bY bc bf : Nat) : Value := .func (.func 112) #[] #[ptr bs, ptr bY, ptr bc, ptr bf]
structure SeaEnv (W0 : AW) (b : Nat) (p q : Option Addr) (a c : Nat) (A : AudN) (JS : Nat → Prop) (N0 : Nat) (Kp : AW → Prop) : Prop where
  keep : ∀ w, Kp w → Keep W0.next W0 w
  sea : ∀ w, Kp w → SearchAt w b p q a c A
  chg : ∀ w w' (T : Nat → Prop), Kp w → MutS T w w' → (∀ j, T j → JS j ∨ N0 ≤ j) → Kp w'
structure FillEnv (Kp : AW → Prop) (N0 : Nat) (w : AW) (b bs bY bc bf : Nat) (yv : Value) (C : List Int) : Prop where
  keep : Kp w
  fresh : Fresh w
  s : Own w bs 70 [ptr b]
  y : Own w bY 86 [yv]
  f : Own w bf 55 [fillV bs bY bc bf]
  c : Own w bc 73 (C.flatMap icells)
  len : C.length = 4
  bnd : N0 ≤ bs ∧ N0 ≤ bY ∧ N0 ≤ bf ∧ N0 ≤ bc
  ne : bs ≠ bc ∧ bY ≠ bc ∧ bf ≠ bc
section
variable {W0 : AW} {b0 : Nat} {p q : Option Addr} {a c : Nat} {A : AudN} {JS : Nat → Prop} {N0 : Nat} {Kp : AW → Prop} (hK : SeaEnv W0 b0 p q a c A JS N0 Kp)
include hK
theorem FillEnv.set {w : AW} {b bs bY bc bf : Nat} {yv : Value} {C : List Int} (h : FillEnv Kp N0 w b bs bY bc bf yv C) {i : Nat} (hi : i < 4) (x : Int) :
    ∃ w', storeV w false 1 (.pointer (some ⟨bc, i, none⟩)) (.int .i64 x) = some w' ∧ FillEnv Kp N0 w' b bs bY bc bf yv (C.set i x) ∧ MutS (fun j => j = bc) w w' := by
  have st := storeV_own1 (o := i) (v := .int .i64 x) h.c (by rw [icells_flat_len, h.len]; exact hi) rfl
  have O := h.c.put (setL (C.flatMap icells) i (.int .i64 x))
  have m := MutS.put (S := fun j => j = bc) h.fresh rfl h.c.lt (.cells (setL (C.flatMap icells) i (.int .i64 x)) 73 bc 0 0)
  rw [setL_ic] at st O m
  exact ⟨_, st, ⟨hK.chg _ _ _ h.keep m (fun j q => .inr (by rw [q]; exact h.bnd.2.2.2)), m.fresh, m.own h.s h.ne.1, m.own h.y h.ne.2.1, m.own h.f h.ne.2.2, O, by rw [List.length_set]; exact h.len, h.bnd, h.ne⟩, m⟩
end
structure Yields (Kp : AW → Prop) (S : List Int) (lp bc : Nat) (JS : Nat → Prop) (J : List (List Int) → AW → Prop) : Prop where
  mutC : ∀ Q w w', J Q w → MutS (fun j => j = bc) w w' → J Q w'
  grow : ∀ Q w w', J Q w → Grown w w' → J Q w'
  yield : ∀ Q t w, J Q w → t.length = S.length → FitS S t → Fresh w → Kp w → bc < w.next → CallT Try.prog Try.T1 (.fn (.yield lp) #[]) #[aV (padI t)] w (fun v w' => v = .bool true ∧ J (Q ++ [t]) w' ∧ MutS JS w w')
section
variable {W0 : AW} {A : AudN} (hS : okS A.st) {b : Nat} {p q : Option Addr} {a c : Nat} {JS : Nat → Prop} {N0 : Nat} {Kp : AW → Prop} (hK : SeaEnv W0 b p q a c A JS N0 Kp) (hs : ArrOf W0 1 icells (.slice p A.st.length a) A.st) (hcut : Cutt W0 (.slice p A.st.length a) A.st.length)
  {bs bY bc bf lp : Nat} {J : List (List Int) → AW → Prop} (hJ : Yields Kp A.st lp bc JS J) (hd : ¬ JS bs ∧ ¬ JS bY ∧ ¬ JS bc ∧ ¬ JS bf)
include hS hK hs hcut hJ hd
end
end Go.Proofs

namespace Go.Proofs
open Go Go.RowKit Go.Sim
set_option maxRecDepth 100000
end Go.Proofs

namespace Go.Proofs
open Go Go.RowKit Go.Sim
set_option maxRecDepth 100000
end Go.Proofs

namespace Go.Proofs
open Go Go.RowKit Go.Sim
set_option maxRecDepth 100000
end Go.Proofs

namespace Go.Proofs
open Go Go.RowKit Go.Sim
end Go.Proofs

namespace Go.Proofs
open Go Go.RowKit Go.Sim
set_option maxRecDepth 100000
end Go.Proofs

namespace Go.Proofs
open Go Go.RowKit Go.Sim
set_option maxRecDepth 100000
end Go.Proofs

namespace Go.Proofs
open Go Go.RowKit Go.Sim
set_option maxRecDepth 100000
end Go.Proofs
