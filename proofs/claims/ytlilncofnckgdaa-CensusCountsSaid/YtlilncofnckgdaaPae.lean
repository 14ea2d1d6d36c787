/- This program: its code, contracts, numbers, part 5. -/
import Derived.Test.YtlilncofnckgdaaPad
import Derived.Test.YtlilncofnckgdaaSh
import Derived.Test.YtlilncofnckgdaaPaa
import Derived.Test.YtlilncofnckgdaaNc
set_option linter.unusedVariables false
set_option linter.unusedSimpArgs false
namespace Go.Proofs
open Go Go.RowKit Go.Sim
set_option maxRecDepth 100000
end Go.Proofs

namespace Go.Proofs
open Go Go.RowKit Go.Sim
set_option maxRecDepth 100000
def Srch (L : List Int) (lo hi : Int) : Prop := 0 ≤ lo ∧ lo ≤ hi ∧ hi ≤ 640000 ∧ (lo = 0 ∨ 64 < needL L (lo - 1)) ∧ needL L hi ≤ 64
theorem Srch.done {L : List Int} {lo hi : Int} (h : Srch L lo hi) (he : ¬ lo < hi) : LeastRisk L lo := by
  obtain ⟨a, b, c, d, e⟩ := h
  obtain rfl : lo = hi := by omega
  exact ⟨a, c, e, d⟩
end Go.Proofs

namespace Go.Proofs
open Go Go.RowKit Go.Sim
set_option maxRecDepth 100000
theorem Sum_ok (L : List Int) (v : Value) (w : AW) (hs : ArrOf w 1 icells v L) :
    CallT Try.prog Try.T1 (.fn (.func 48) #[]) #[v] w (fun r w' => w = w' ∧ ∃ n : Int, r = .int .i64 n ∧ (smallL L → n = L.sum)) := by
  obtain ⟨pp, cp, rfl, _, _, hat⟩ := hs.open
  refine callT_code rfl Try.func48 rfl Try.s48_eq rfl ?_
  unfold Try.s48
  simp -dsimp -implicitDefEqProofs (maxSteps := 2000000) (disch := first | assumption | omega | (simp only [nx]; omega) | ((repeat refine Fresh.push ?_ _); assumption) | (simp only [smA]; done) | (simp [oneCell, AW.next_push]; done) | fail) only [go_sem, Nat.reduceEqDiff, reduceIte, Nat.reduceAdd, Int.toNat_natCast, Nat.add_zero, Owes_true, Try.results48]
  refine loopR (fun k t ds w1 => ∃ i : Nat, i ≤ L.length ∧ k = L.length - i ∧ ds = [] ∧ ev t (.tmp 0) = .slice pp L.length cp ∧ ev t (.tmp 4) = .int .i64 (i : Int) ∧ w = w1 ∧ ∃ s : Int, ev t (.tmp 3) = .int .i64 s ∧ (smallL L → s = (L.take i).sum ∧ 0 ≤ s ∧ s ≤ (i : Int) * 65536)) (L.length) ?_ ?_
  · refine ⟨0, by omega, by omega, rfl, ?_, ?_, rfl, 0, by simp -dsimp -implicitDefEqProofs (maxSteps := 2000000) (disch := first | assumption | omega | (simp only [nx]; omega) | ((repeat refine Fresh.push ?_ _); assumption) | (simp only [smA]; done) | (simp [oneCell, AW.next_push]; done) | fail) only [go_sem, Nat.reduceEqDiff, reduceIte, Nat.reduceAdd, Int.toNat_natCast, Nat.add_zero, Owes_true], fun _ => by simp⟩ <;> simp -dsimp -implicitDefEqProofs (maxSteps := 2000000) (disch := first | assumption | omega | (simp only [nx]; omega) | ((repeat refine Fresh.push ?_ _); assumption) | (simp only [smA]; done) | (simp [oneCell, AW.next_push]; done) | fail) only [go_sem, Nat.reduceEqDiff, reduceIte, Nat.reduceAdd, Int.toNat_natCast, Nat.add_zero, Owes_true] <;> rfl
  rintro k t ds w1 ⟨i, hii, rfl, rfl, e0, e4, hw, s, e3, hsm⟩
  subst hw
  by_cases hlt : (i : Int) < (L.length : Int)
  case neg =>
    obtain rfl : i = L.length := by omega
    simp -dsimp -implicitDefEqProofs (maxSteps := 2000000) (disch := first | assumption | omega | (simp only [nx]; omega) | ((repeat refine Fresh.push ?_ _); assumption) | (simp only [smA]; done) | (simp [oneCell, AW.next_push]; done) | fail) only [go_sem, Nat.reduceEqDiff, reduceIte, Nat.reduceAdd, Int.toNat_natCast, Nat.add_zero, Owes_true, Try.results48, e0, e3, e4, hlt]
    exact ⟨trivial, s, rfl, fun h1 => by rw [(hsm h1).1, List.take_of_length_le (Nat.le_refl _)]⟩
  have hlt' : i < L.length := by omega
  obtain ⟨b1, o1, rfl, hb1, hcell⟩ := hat i hlt'
  have a0 := hcell w (.refl _ _) 0 _ rfl
  rw [Nat.add_zero] at a0
  simp -dsimp -implicitDefEqProofs (maxSteps := 2000000) (disch := first | assumption | omega | (simp only [nx]; omega) | ((repeat refine Fresh.push ?_ _); assumption) | (simp only [smA]; done) | (simp [oneCell, AW.next_push]; done) | fail) only [go_sem, Nat.reduceEqDiff, reduceIte, Nat.reduceAdd, Int.toNat_natCast, Nat.add_zero, Owes_true, Try.results48, e0, e3, e4, hlt, indexV_eq, a0]
  refine ⟨_, by omega, i + 1, by omega, rfl, rfl, by (simp -dsimp -implicitDefEqProofs (maxSteps := 2000000) (disch := first | assumption | omega | (simp only [nx]; omega) | ((repeat refine Fresh.push ?_ _); assumption) | (simp only [smA]; done) | (simp [oneCell, AW.next_push]; done) | fail) only [go_sem, Nat.reduceEqDiff, reduceIte, Nat.reduceAdd, Int.toNat_natCast, Nat.add_zero, Owes_true, e0]; try rfl), by (simp -dsimp -implicitDefEqProofs (maxSteps := 2000000) (disch := first | assumption | omega | (simp only [nx]; omega) | ((repeat refine Fresh.push ?_ _); assumption) | (simp only [smA]; done) | (simp [oneCell, AW.next_push]; done) | fail) only [go_sem, Nat.reduceEqDiff, reduceIte, Nat.reduceAdd, Int.toNat_natCast, Nat.add_zero, Owes_true, e4]; try rfl), rfl, _, (by simp -dsimp -implicitDefEqProofs (maxSteps := 2000000) (disch := first | assumption | omega | (simp only [nx]; omega) | ((repeat refine Fresh.push ?_ _); assumption) | (simp only [smA]; done) | (simp [oneCell, AW.next_push]; done) | fail) only [go_sem, Nat.reduceEqDiff, reduceIte, Nat.reduceAdd, Int.toNat_natCast, Nat.add_zero, Owes_true, e3]), sum_next hlt' hsm⟩
end Go.Proofs

namespace Go.Proofs
open Go Go.RowKit Go.Sim
set_option maxRecDepth 100000
theorem Ring_ok (a b : Int) (hb1 : b ≤ 4611686018427387904) (w : AW) :
    CallT Try.prog Try.T1 (.fn (.func 49) #[]) #[.int .i64 a, .int .i64 b] w (Ret (.int .i64 (if b ≤ 0 then 0 else a % b)) fun w' => w = w') := by
  refine callT_code rfl Try.func49 rfl Try.s49_eq rfl ?_
  unfold Try.s49
  by_cases hb : b ≤ 0
  · rw [if_pos hb]
    simp -dsimp -implicitDefEqProofs (maxSteps := 2000000) (disch := first | assumption | omega | (simp only [nx]; omega) | ((repeat refine Fresh.push ?_ _); assumption) | (simp only [smA]; done) | (simp [oneCell, AW.next_push]; done) | fail) only [go_sem, Nat.reduceEqDiff, reduceIte, Nat.reduceAdd, Int.toNat_natCast, Nat.add_zero, Owes_true, Try.results49, hb]
    exact ⟨rfl, rfl⟩
  · rw [if_neg hb]
    have h0 : ¬ b = 0 := by omega
    have h1 := Int.tmod_lt_of_pos a (b := b) (by omega)
    have h2 : -b < a.tmod b := by
      have := Int.lt_tmod_of_pos a (b := b) (by omega)
      omega
    have h3 : (a.tmod b + b).tmod b = a % b := by
      rw [Int.tmod_eq_emod_of_nonneg (by omega), Int.add_emod_right]
      have := Int.mul_tdiv_add_tmod a b
      conv => rhs; rw [← this]
      rw [Int.add_comm, Int.add_mul_emod_self_left]
    simp -dsimp -implicitDefEqProofs (maxSteps := 2000000) (disch := first | assumption | omega | (simp only [nx]; omega) | ((repeat refine Fresh.push ?_ _); assumption) | (simp only [smA]; done) | (simp [oneCell, AW.next_push]; done) | fail) only [go_sem, Nat.reduceEqDiff, reduceIte, Nat.reduceAdd, Int.toNat_natCast, Nat.add_zero, Owes_true, Try.results49, hb, h0, h3]
    exact ⟨rfl, rfl⟩
theorem Own_ok (l : List Int) (v : Value) (w : AW) (f : Fresh w) (hs : ArrOf w 1 icells v l) (hl : l.length ≤ 1048576) :
    CallT Try.prog Try.T1 (.fn (.func 50) #[]) #[v] w (fun r w' => Making w.next w' 3 1 r l.length (l.flatMap icells) ∧ Grown w w') := by
  obtain ⟨p, cap, rfl, _⟩ := id hs.open
  have g := (Grown.refl f).push (.cells [] 3 w.next 0 0)
  have hn := arr_new (hs.grown g) icells_len (Nat.le_refl _)
  obtain ⟨v', w', happ, hk, hf, hor⟩ := append_empty (b := w.next) (e' := 3) Try.ty22 Try.ty3 rfl (by omega) (blk_push_top _ _) g.2 rfl hn (by rw [icells_flat_len, Nat.mul_one]) (icells_ones l) (by omega) (by omega)
  refine callT_code rfl Try.func50 rfl Try.s50_eq rfl ?_
  unfold Try.s50
  simp -dsimp -implicitDefEqProofs (maxSteps := 2000000) (disch := first | assumption | omega | (simp only [nx]; omega) | ((repeat refine Fresh.push ?_ _); assumption) | (simp only [smA]; done) | (simp [oneCell, AW.next_push]; done) | fail) only [go_sem, Nat.reduceEqDiff, reduceIte, Nat.reduceAdd, Int.toNat_natCast, Nat.add_zero, Owes_true, Try.results50, happ]
  rcases hor with ⟨q, rfl, rfl⟩ | hA
  · have : l = [] := List.length_eq_zero_iff.mp q
    subst this
    exact ⟨.inl ⟨rfl, rfl, w.next, 3, rfl, by rw [AW.next_push]; omega, blk_push_top _ _⟩, g⟩
  · exact ⟨.inr (hA.weak (by rw [AW.next_push]; omega)), g.trans ⟨hk, hf⟩⟩
theorem making_row {B n : Nat} {v : Value} {w : AW} {A : List Int} (h : Making B w 3 1 v n (A.flatMap icells)) (hn : A.length = n) (h1 : 1 ≤ n) : RowA B w v A := by
  rcases h with ⟨h0, _⟩ | h
  · omega
  · subst hn; exact h
theorem making_one {B n : Nat} {v : Value} {w : AW} {cells : List Value} (h : Making B w 3 1 v n cells) : oneCell v = true := by
  rcases h with ⟨_, _, b, e', rfl, _⟩ | h
  · rfl
  · exact AOwn.one h
theorem RowA.from {B : Nat} {w : AW} {v : Value} {L : List Int} {a : Nat} (h : RowA B w v L) (h1 : 1 ≤ L.length) (ha : a ≤ L.length) (hl : L.length ≤ 1048576) : ∃ b, v = .slice (some ⟨b, 0, none⟩) L.length L.length ∧ sliceV w 1 v (some (.int .i64 (a : Int))) none = some (.slice (some ⟨b, a, none⟩) (L.length - a) (L.length - a)) ∧ ArrOf w 1 icells (.slice (some ⟨b, a, none⟩) (L.length - a) (L.length - a)) (L.drop a) := by
  have hA := h.arr hl
  rcases h with ⟨_, h, _⟩ | ⟨b, r, rfl, _, hb, _, _, hk, _⟩
  · omega
  refine ⟨b, rfl, ?_, ?_⟩
  · have b1 : Nat.ble a L.length = true := Nat.ble_eq_true_of_le ha
    have b2 : Nat.ble L.length L.length = true := Nat.ble_eq_true_of_le (Nat.le_refl _)
    show sliceV w 1 (.slice (some ⟨b, 0, none⟩) L.length L.length) (some (.int .i64 (Int.ofNat a))) none = _
    have b3 : Nat.beq 1 1 = true := rfl
    simp only [sliceV, natOr, b1, b2, hk, Bool.and_self, b3, Bool.true_or, Nat.mul_one, Nat.zero_add]
  · obtain ⟨p', n, cap, e, hn, hc', hm, hat⟩ := hA
    injection e with e1 e2 e3
    subst e1 e2 e3
    obtain ⟨b', o', e, hb', hcell⟩ := hat (by omega)
    injection e with e
    injection e with e1 e2
    subst e1 e2
    refine ⟨_, _, _, rfl, by rw [List.length_map, List.length_drop], Nat.le_refl _, by omega, fun _ => ⟨b, a, rfl, hb, fun i j r x hi hx => ?_⟩⟩
    have hi' : (List.map icells L)[a + i]? = some r := by
      rw [← hi, List.getElem?_map, List.getElem?_map, List.getElem?_drop]
    have := hcell (a + i) j r x hi' hx
    rw [show 0 + (a + i) * 1 + j = a + i * 1 + j by omega] at this
    exact this
end Go.Proofs

namespace Go.Proofs
open Go Go.RowKit Go.Sim
set_option maxRecDepth 100000
theorem making_same {B n : Nat} {v : Value} {w : AW} {cells : List Value} (h : Making B w 3 1 v n cells) : same 12 v v = true := by
  rcases h with ⟨_, _, b, e', rfl, _⟩ | ⟨rfl, _⟩ | ⟨b, r, rfl, _⟩
  · exact same_slice _ _ _ _
  · rfl
  · exact same_slice _ _ _ _
end Go.Proofs

namespace Go.Proofs
open Go Go.RowKit Go.Sim
set_option maxRecDepth 100000
end Go.Proofs

namespace Go.Proofs
open Go Go.RowKit Go.Sim
set_option maxRecDepth 100000
end Go.Proofs

namespace Go.Proofs
open Go Go.RowKit Go.Sim
set_option maxRecDepth 100000
theorem Try.und22 : Try.prog.underlying 22 = some (.slice 3) := by kernel_rfl
theorem Try.und4 : Try.prog.underlying 4 = some .bool := by kernel_rfl
theorem Try.cells3 : Try.prog.cellsOf 3 = 1 := by kernel_rfl
theorem given_int {w : AW} {n : Nat} {cs : List Value} (h : Hd Try.prog w n 3 cs) : ∃ x : Int, cs = icells x ∧ -9223372036854775808 ≤ x ∧ x ≤ 9223372036854775807 := by
  cases n with
  | zero => exact h.elim
  | succ n =>
    simp only [Hd, Try.und3] at h
    obtain ⟨i, rfl, h1, h2⟩ := h
    exact ⟨i, rfl, h1, h2⟩
theorem given_num {w : AW} {n : Nat} {v : Value} (h : HdV Try.prog w n 3 v) : ∃ x : Int, v = .int .i64 x ∧ -9223372036854775808 ≤ x ∧ x ≤ 9223372036854775807 := by
  simp only [HdV, Try.und3] at h
  obtain ⟨x, e, h1⟩ := given_int h
  injection e with e
  exact ⟨x, e, h1⟩
theorem rows_ofR {R : Int → Prop} {rows : List (List Value)} (h : ∀ r ∈ rows, ∃ x : Int, r = icells x ∧ R x) : ∃ xs : List Int, rows = xs.map icells ∧ ∀ x ∈ xs, R x := by
  induction rows with
  | nil => exact ⟨[], rfl, fun _ h => by cases h⟩
  | cons r rows ih =>
    obtain ⟨x, hx, hr⟩ := h r List.mem_cons_self
    obtain ⟨xs, hxs, hr2⟩ := ih fun q hq => h q (List.mem_cons_of_mem _ hq)
    exact ⟨x :: xs, by rw [hx, hxs]; rfl, fun y hy => by
      rcases List.mem_cons.1 hy with rfl | hy
      · exact hr
      · exact hr2 y hy⟩
def I64 (x : Int) : Prop := -9223372036854775808 ≤ x ∧ x ≤ 9223372036854775807
end Go.Proofs

namespace Go.Proofs
open Go Go.RowKit Go.Sim
set_option maxRecDepth 100000
end Go.Proofs

namespace Go.Proofs
open Go Go.RowKit Go.Sim
set_option maxRecDepth 100000
theorem given_intsD {w : AW} {n : Nat} {cs : List Value} (h : Hd Try.prog w n 22 cs) : ∃ v, cs = [v] ∧ ∃ xs, ArrOf w 1 icells v xs ∧ (∀ x ∈ xs, I64 x) ∧ Cutt w v xs.length := by
  cases n with
  | zero => exact h.elim
  | succ n =>
    simp only [Hd, Try.und22, Try.cells3] at h
    obtain ⟨v, rows, rfl, ha, hr, hgv⟩ := h
    obtain ⟨xs, rfl, hI⟩ := rows_ofR (R := I64) fun r hq => by obtain ⟨x, hx, h1, h2⟩ := given_int (hr r hq); exact ⟨x, hx, h1, h2⟩
    have hA : ArrOf w 1 icells v xs := ha
    refine ⟨v, rfl, xs, hA, hI, ?_⟩
    obtain ⟨p, cap, rfl, hc, _, hat⟩ := hA.open
    rcases Nat.eq_zero_or_pos xs.length with q | q
    · exact .inl q
    · obtain ⟨b, o, rfl, hb, _⟩ := hat 0 q
      obtain ⟨g1, cs, g2⟩ := hgv.1 b o none _ _ rfl q
      exact .inr ⟨b, o, cap, rfl, hc, g1, .inl ⟨cs, g2⟩⟩
theorem given_audit {w : AW} {n : Nat} {v : Value} (h : HdV Try.prog w n 24 v) : ∃ (A : AudN) (p q : Option Addr) (a c : Nat), v = .agg (audC p q a c A).toArray ∧ ArrOf w 1 icells (.slice p A.st.length a) A.st ∧ Cutt w (.slice p A.st.length a) A.st.length ∧ ArrOf w 1 icells (.slice q A.co.length c) A.co ∧ I64 A.lost ∧ I64 A.sure ∧ (∀ x ∈ A.st, I64 x) ∧ ∀ x ∈ A.co, I64 x := by
  simp only [HdV, Try.underlying24] at h
  obtain ⟨cs, rfl, h⟩ := h
  cases n with
  | zero => exact h.elim
  | succ n =>
    simp only [Hd, Try.underlying24] at h
    obtain ⟨parts, hc, hl, hp⟩ := h
    match parts, hl with
    | [p0, p1, p2, p3], _ =>
      obtain ⟨u, rfl, xs, hx, hxi, hxc⟩ := given_intsD (hp 0 _ p0 rfl rfl)
      obtain ⟨z, rfl, ys, hy, hyi, _⟩ := given_intsD (hp 1 _ p1 rfl rfl)
      obtain ⟨k, rfl, hk⟩ := given_int (hp 2 _ p2 rfl rfl)
      obtain ⟨s, rfl, hs⟩ := given_int (hp 3 _ p3 rfl rfl)
      obtain ⟨p, a, rfl, _⟩ := id hx.open
      obtain ⟨q, c, rfl, _⟩ := id hy.open
      refine ⟨⟨xs, ys, k, s⟩, p, q, a, c, ?_, hx, hxc, hy, hk, hs, hxi, hyi⟩
      rw [show cs = cs.toList.toArray from rfl, hc]; rfl
theorem given_loss {w : AW} {n : Nat} {v : Value} (h : HdV Try.prog w n 54 v) : ∃ (P L : List Int) (p q : Option Addr) (a c : Nat), v = .agg #[.slice p P.length a, .slice q L.length c] ∧ ArrOf w 1 icells (.slice p P.length a) P ∧ ArrOf w 1 icells (.slice q L.length c) L ∧ (∀ x ∈ P, I64 x) ∧ ∀ x ∈ L, I64 x := by
  simp only [HdV, Try.underlying54] at h
  obtain ⟨cs, rfl, h⟩ := h
  cases n with
  | zero => exact h.elim
  | succ n =>
    simp only [Hd, Try.underlying54] at h
    obtain ⟨parts, hc, hl, hp⟩ := h
    match parts, hl with
    | [p0, p1], _ =>
      obtain ⟨u, rfl, xs, hx, hxi, _⟩ := given_intsD (hp 0 _ p0 rfl rfl)
      obtain ⟨z, rfl, ys, hy, hyi, _⟩ := given_intsD (hp 1 _ p1 rfl rfl)
      obtain ⟨p, a, rfl, _⟩ := id hx.open
      obtain ⟨q, c, rfl, _⟩ := id hy.open
      refine ⟨xs, ys, p, q, a, c, ?_, hx, hy, hxi, hyi⟩
      rw [show cs = cs.toList.toArray from rfl, hc]; rfl
end Go.Proofs
