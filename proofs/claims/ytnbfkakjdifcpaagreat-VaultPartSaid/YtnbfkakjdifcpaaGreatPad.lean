/- This program: its code, contracts, numbers, part 4. -/
import Derived.Test.YtnbfkakjdifcpaaGreatPac
import Derived.Test.YtnbfkakjdifcpaaGreatPaa
import Derived.Test.YtnbfkakjdifcpaaGreatPab
import Derived.Test.YtnbfkakjdifcpaaGreatNc
import Derived.Test.YtnbfkakjdifcpaaGreatNa
import Derived.Test.YtnbfkakjdifcpaaGreatChecked
set_option linter.unusedVariables false
set_option linter.unusedSimpArgs false
namespace Go.Proofs
open Go Go.RowKit Go.Sim
set_option maxRecDepth 100000
end Go.Proofs

namespace Go.Proofs
open Go Go.RowKit Go.Sim
set_option maxRecDepth 100000
end Go.Proofs

namespace Go.Proofs
open Go Go.RowKit Go.Sim
set_option maxRecDepth 100000
end Go.Proofs

namespace Go.Proofs
open Go Go.RowKit Go.Sim
set_option maxRecDepth 100000
end Go.Proofs

namespace Go.Proofs
open Go Go.RowKit Go.Sim
set_option maxRecDepth 100000
end Go.Proofs

namespace Go.Proofs
open Go Go.RowKit Go.Sim
set_option maxRecDepth 100000
theorem Tryz.undV3 : Tryz.prog.underlying 3 = some (.int .i64) := by kernel_rfl
theorem Tryz.undV22 : Tryz.prog.underlying 22 = some (.slice 73) := by kernel_rfl
theorem Tryz.undV23 : Tryz.prog.underlying 23 = some (.slice 71) := by kernel_rfl
theorem Tryz.undV24 : Tryz.prog.underlying 24 = some (.slice 3) := by kernel_rfl
theorem Tryz.cellsV3 : Tryz.prog.cellsOf 3 = 1 := by kernel_rfl
theorem Tryz.cellsV128 : Tryz.prog.cellsOf 73 = 3 := by kernel_rfl
theorem Tryz.cellsV132 : Tryz.prog.cellsOf 71 = 4 := by kernel_rfl
theorem Tryz.undV128 : Tryz.prog.underlying 73 = some (.struct #[{ name := "Hold", type := 3, offset := 0, embedded := false, tag := "", pkgPath := "", byteOffset := 0 }, { name := "Climate", type := 3, offset := 1, embedded := false, tag := "", pkgPath := "", byteOffset := 8 }, { name := "Keys", type := 3, offset := 2, embedded := false, tag := "", pkgPath := "", byteOffset := 16 }]) := by kernel_rfl
theorem Tryz.undV132 : Tryz.prog.underlying 71 = some (.struct #[{ name := "A", type := 3, offset := 0, embedded := false, tag := "", pkgPath := "", byteOffset := 0 }, { name := "B", type := 3, offset := 1, embedded := false, tag := "", pkgPath := "", byteOffset := 8 }, { name := "Need", type := 3, offset := 2, embedded := false, tag := "", pkgPath := "", byteOffset := 16 }, { name := "Ways", type := 24, offset := 3, embedded := false, tag := "", pkgPath := "", byteOffset := 24 }]) := by kernel_rfl
theorem Tryz.undV26 : Tryz.prog.underlying 26 = some (.struct #[{ name := "Rooms", type := 22, offset := 0, embedded := false, tag := "", pkgPath := "", byteOffset := 0 }, { name := "Gates", type := 23, offset := 1, embedded := false, tag := "", pkgPath := "", byteOffset := 24 }, { name := "Staff", type := 24, offset := 2, embedded := false, tag := "", pkgPath := "", byteOffset := 48 }]) := by kernel_rfl
theorem given_intV {w : AW} {n : Nat} {cs : List Value} (h : Hd Tryz.prog w n 3 cs) : ∃ x : Int, cs = icells x := by
  cases n with
  | zero => exact h.elim
  | succ n =>
    simp only [Hd, Tryz.undV3] at h
    obtain ⟨i, rfl, h1, h2⟩ := h
    exact ⟨i, rfl⟩
theorem rows_ofV {α : Type} {enc : α → List Value} {rows : List (List Value)} (h : ∀ r ∈ rows, ∃ x : α, r = enc x) : ∃ xs : List α, rows = xs.map enc := by
  induction rows with
  | nil => exact ⟨[], rfl⟩
  | cons r rows ih =>
    obtain ⟨x, hx⟩ := h r List.mem_cons_self
    obtain ⟨xs, hxs⟩ := ih fun q hq => h q (List.mem_cons_of_mem _ hq)
    exact ⟨x :: xs, by rw [hx, hxs]; rfl⟩
theorem given_intsW {w : AW} {n : Nat} {cs : List Value} (h : Hd Tryz.prog w n 24 cs) : ∃ v, cs = [v] ∧ ∃ xs, ArrOf w 1 icells v xs := by
  cases n with
  | zero => exact h.elim
  | succ n =>
    simp only [Hd, Tryz.undV24, Tryz.cellsV3] at h
    obtain ⟨v, rows, rfl, ha, hr, _⟩ := h
    obtain ⟨xs, rfl⟩ := rows_ofV (enc := icells) fun r hq => given_intV (hr r hq)
    exact ⟨v, rfl, xs, ha⟩
theorem given_room {w : AW} {n : Nat} {cs : List Value} (h : Hd Tryz.prog w n 73 cs) : ∃ r : RoomN, cs = rcells r := by
  cases n with
  | zero => exact h.elim
  | succ n =>
    simp only [Hd, Tryz.undV128] at h
    obtain ⟨parts, hc, hl, hp⟩ := h
    match parts, hl with
    | [p0, p1, p2], _ =>
      obtain ⟨a, rfl⟩ := given_intV (hp 0 _ p0 rfl rfl)
      obtain ⟨b, rfl⟩ := given_intV (hp 1 _ p1 rfl rfl)
      obtain ⟨c, rfl⟩ := given_intV (hp 2 _ p2 rfl rfl)
      exact ⟨⟨a, b, c⟩, by rw [hc]; rfl⟩
theorem given_rooms {w : AW} {n : Nat} {cs : List Value} (h : Hd Tryz.prog w n 22 cs) : ∃ v, cs = [v] ∧ ∃ xs, ArrOf w 3 rcells v xs := by
  cases n with
  | zero => exact h.elim
  | succ n =>
    simp only [Hd, Tryz.undV22, Tryz.cellsV128] at h
    obtain ⟨v, rows, rfl, ha, hr, _⟩ := h
    obtain ⟨xs, rfl⟩ := rows_ofV (enc := rcells) fun r hq => given_room (hr r hq)
    exact ⟨v, rfl, xs, ha⟩
theorem given_gate {w : AW} {n : Nat} {cs : List Value} (h : Hd Tryz.prog w n 71 cs) : ∃ p : GateN × Value, cs = gcells p ∧ ArrOf w 1 icells p.2 p.1.ways := by
  cases n with
  | zero => exact h.elim
  | succ n =>
    simp only [Hd, Tryz.undV132] at h
    obtain ⟨parts, hc, hl, hp⟩ := h
    match parts, hl with
    | [p0, p1, p2, p3], _ =>
      obtain ⟨a, rfl⟩ := given_intV (hp 0 _ p0 rfl rfl)
      obtain ⟨b, rfl⟩ := given_intV (hp 1 _ p1 rfl rfl)
      obtain ⟨c, rfl⟩ := given_intV (hp 2 _ p2 rfl rfl)
      obtain ⟨v, rfl, xs, hx⟩ := given_intsW (hp 3 _ p3 rfl rfl)
      exact ⟨(⟨a, b, c, xs⟩, v), by rw [hc]; rfl, hx⟩
theorem rows_ofP {α : Type} {enc : α → List Value} {Q : α → Prop} {rows : List (List Value)} (h : ∀ r ∈ rows, ∃ x : α, r = enc x ∧ Q x) : ∃ xs : List α, rows = xs.map enc ∧ ∀ x ∈ xs, Q x := by
  induction rows with
  | nil => exact ⟨[], rfl, fun _ h => by cases h⟩
  | cons r rows ih =>
    obtain ⟨x, hx, hr⟩ := h r List.mem_cons_self
    obtain ⟨xs, hxs, hr2⟩ := ih fun q hq => h q (List.mem_cons_of_mem _ hq)
    exact ⟨x :: xs, by rw [hx, hxs]; rfl, fun y hy => by
      rcases List.mem_cons.1 hy with rfl | hy
      · exact hr
      · exact hr2 y hy⟩
theorem given_gates {w : AW} {n : Nat} {cs : List Value} (h : Hd Tryz.prog w n 23 cs) : ∃ v, cs = [v] ∧ ∃ xs, GatesAt w v xs := by
  cases n with
  | zero => exact h.elim
  | succ n =>
    simp only [Hd, Tryz.undV23, Tryz.cellsV132] at h
    obtain ⟨v, rows, rfl, ha, hr, _⟩ := h
    obtain ⟨xs, rfl, hq⟩ := rows_ofP (enc := gcells) (Q := fun p => ArrOf w 1 icells p.2 p.1.ways) fun r hq => given_gate (hr r hq)
    exact ⟨v, rfl, xs.map Prod.fst, xs, rfl, ha, hq⟩
theorem given_strong {w : AW} {n : Nat} {v : Value} (h : HdV Tryz.prog w n 26 v) : ∃ (s : StrN) (pR pG pS : Option Addr) (cR cG cS : Nat), v = .agg (strC pR pG pS cR cG cS s).toArray ∧ StrAt w pR pG pS cR cG cS s := by
  simp only [HdV, Tryz.undV26] at h
  obtain ⟨cs, rfl, h⟩ := h
  cases n with
  | zero => exact h.elim
  | succ n =>
    simp only [Hd, Tryz.undV26] at h
    obtain ⟨parts, hc, hl, hp⟩ := h
    match parts, hl with
    | [p0, p1, p2], _ =>
      obtain ⟨u, rfl, xs, hx⟩ := given_rooms (hp 0 _ p0 rfl rfl)
      obtain ⟨z, rfl, ys, hy⟩ := given_gates (hp 1 _ p1 rfl rfl)
      obtain ⟨q, rfl, ss, hss⟩ := given_intsW (hp 2 _ p2 rfl rfl)
      obtain ⟨pR, cR, rfl, _⟩ := id hx.open
      have hg : ∃ p c, z = .slice p ys.length c := by
        obtain ⟨ws, rfl, hA, _⟩ := hy
        obtain ⟨p, c, rfl, _⟩ := hA.open
        exact ⟨p, c, by simp⟩
      obtain ⟨pG, cG, rfl⟩ := hg
      obtain ⟨pS, cS, rfl, _⟩ := id hss.open
      refine ⟨⟨xs, ys, ss⟩, pR, pG, pS, cR, cG, cS, ?_, hx, hy, hss⟩
      rw [show cs = cs.toList.toArray from rfl, hc]; rfl
end Go.Proofs

namespace Go.Proofs
open Go Go.RowKit Go.Sim
set_option maxRecDepth 100000
theorem given_intX {w : AW} {n : Nat} {v : Value} (h : HdV Tryz.prog w n 3 v) : ∃ x : Int, v = .int .i64 x := by
  simp only [HdV, Tryz.undV3] at h
  obtain ⟨i, hi⟩ := given_intV h
  injection hi with hi _
  exact ⟨i, hi⟩
theorem StrAt.len {w : AW} {pR pG pS : Option Addr} {cR cG cS : Nat} {s : StrN} (h : StrAt w pR pG pS cR cG cS s) : (s.rooms.length : Int) ≤ 140737488355328 := by
  obtain ⟨p, c, _, h1, h2, _⟩ := h.rooms.open
  omega
end Go.Proofs

namespace Go.Proofs
open Go Go.RowKit Go.Sim
set_option maxRecDepth 100000
def Tryz.s44 : SC := (.seq (.ops false [⟨⟨(some 4),.assign (.const (.int .i64 0)),3,"",⟨[]⟩,none⟩,none,false⟩]) (.seq (.seq (.ops false [⟨⟨(some 5),.move (.tmp 1),3,"",⟨[]⟩,none⟩,none,false⟩,⟨⟨(some 6),.binOp .leq 3 (.tmp 5) (.const (.int .i64 0)) 3,4,"",⟨[]⟩,none⟩,none,false⟩]) (.cond (.tmp 6) (.seq (.ops false [⟨⟨(some 4),.assign (.const (.int .i64 0)),3,"",⟨[]⟩,none⟩,none,false⟩]) .ret) .skip)) (.seq (.ops false [⟨⟨(some 7),.move (.tmp 0),3,"",⟨[]⟩,none⟩,none,false⟩,⟨⟨(some 8),.move (.tmp 1),3,"",⟨[]⟩,none⟩,none,false⟩,⟨⟨(some 9),.binOp .rem 3 (.tmp 7) (.tmp 8) 3,3,"",⟨[]⟩,none⟩,none,false⟩,⟨⟨(some 10),.move (.tmp 1),3,"",⟨[]⟩,none⟩,none,false⟩,⟨⟨(some 11),.binOp .add 3 (.tmp 9) (.tmp 10) 3,3,"",⟨[]⟩,none⟩,none,false⟩,⟨⟨(some 12),.move (.tmp 1),3,"",⟨[]⟩,none⟩,none,false⟩,⟨⟨(some 13),.binOp .rem 3 (.tmp 11) (.tmp 12) 3,3,"",⟨[]⟩,none⟩,none,false⟩,⟨⟨(some 4),.assign (.tmp 13),3,"",⟨[]⟩,none⟩,none,false⟩]) .ret)))
theorem Tryz.s44_eq : Tryz.f44.body.map sOf = some Tryz.s44 := by kernel_rfl
end Go.Proofs

namespace Go.Proofs
open Go Go.RowKit Go.Sim
set_option maxRecDepth 100000
end Go.Proofs

namespace Go.Sim
open Go Go.RowKit
theorem AOwn.weak {B C : Nat} {w : AW} {e : TypeId} {size n : Nat} {v : Value} {cells : List Value} (h : AOwn B w e size v n cells) (k : C ≤ B) : AOwn C w e size v n cells := by
  rcases h with h | ⟨b, r, a1, a2, a3, a4, a5, a6, a7, a9, a8⟩
  · exact .inl h
  · exact .inr ⟨b, r, a1, by omega, a3, by omega, a5, a6, a7, a9, fun j hj => let ⟨x, y⟩ := a8 j hj; ⟨by omega, y⟩⟩
theorem AOwn.cut {B : Nat} {w : AW} {e : TypeId} {size n : Nat} {v : Value} {cells : List Value} (h : AOwn B w e size v n cells) {a : Nat} (ha : a ≤ n) :
    ∃ p q c, ∀ w', Keep w.next w w' → sliceV w' size v none (some (.int .i64 (a : Int))) = some (.slice p a n) ∧ aNew w' size a (.slice p a n) = some (cells.take (a * size)) ∧
      sliceV w' size v (some (.int .i64 (a : Int))) none = some (.slice q (n - a) c) ∧ aNew w' size (n - a) (.slice q (n - a) c) = some (cells.drop (a * size)) := by
  rcases h with ⟨rfl, rfl, rfl⟩ | ⟨b, r, rfl, h1, h2, h3, h4, h5, h6, h7, _⟩
  · obtain rfl : a = 0 := by omega
    exact ⟨none, none, 0, fun w' _ => ⟨rfl, by simp [aNew, aFirst], rfl, by simp [aNew, aFirst]⟩⟩
  · have hle : a * size ≤ n * size := Nat.mul_le_mul_right _ ha
    have b1 : Nat.ble 0 a = true := rfl
    have b2 : Nat.ble a n = true := Nat.ble_eq_true_of_le ha
    have b3 : Nat.ble n n = true := Nat.ble_eq_true_of_le (Nat.le_refl _)
    have b4 : Nat.beq size size = true := Nat.beq_refl _
    refine ⟨some ⟨b, 0 + 0 * size, none⟩, some ⟨b, 0 + a * size, none⟩, n - a, fun w' k => ?_⟩
    have h5 : w'.blk b = some (.cells cells e r 0 size) := by rw [k.blk b h2]; exact h5
    have hc : ∀ (i : Nat) v, cells[i]? = some v → w'.cell? ⟨b, i, none⟩ = some v := fun i v hv => by
      simp only [AW.cell?, h5, getL_eq, hv, h7 v (List.mem_of_getElem? hv)]
    refine ⟨?_, ?_, ?_, ?_⟩
    · show sliceV w' size (.slice (some ⟨b, 0, none⟩) n n) none (some (.int .i64 (Int.ofNat a))) = _
      simp only [sliceV, natOr, b1, b2, h5, b4, Bool.true_or, Bool.and_self, Nat.sub_zero]
    · have ht : (cells.take (a * size)).length = a * size := by rw [List.length_take, h6]; omega
      have := aCells_of (w := w') (b := b) (cells.take (a * size)) (0 + 0 * size) fun i v hv => by
        rw [List.getElem?_take] at hv
        split at hv
        · rw [show 0 + 0 * size + i = i by omega]; exact hc i v hv
        · cases hv
      rw [ht] at this
      simp only [aNew, aFirst, this]
    · show sliceV w' size (.slice (some ⟨b, 0, none⟩) n n) (some (.int .i64 (Int.ofNat a))) none = _
      simp only [sliceV, natOr, b3, b2, h5, b4, Bool.true_or, Bool.and_self]
    · have ht : (cells.drop (a * size)).length = (n - a) * size := by rw [List.length_drop, h6, Nat.sub_mul]
      have := aCells_of (w := w') (b := b) (cells.drop (a * size)) (0 + a * size) fun i v hv => by
        rw [List.getElem?_drop] at hv
        rw [show 0 + a * size + i = a * size + i by omega]; exact hc _ v hv
      rw [ht] at this
      simp only [aNew, aFirst, this]
end Go.Sim

namespace Go.Proofs
open Go Go.RowKit Go.Sim
set_option maxRecDepth 100000
end Go.Proofs

namespace Go.Proofs
open Go Go.RowKit Go.Sim
set_option maxRecDepth 100000
end Go.Proofs

namespace Go.Proofs
open Go Go.RowKit Go.Sim
set_option maxRecDepth 100000
end Go.Proofs
