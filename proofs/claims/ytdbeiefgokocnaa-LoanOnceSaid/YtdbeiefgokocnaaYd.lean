/- Loans: what is given; act by act; lists that are made longer. -/
import Derived.Test.YtdbeiefgokocnaaYc
import Derived.Test.YtdbeiefgokocnaaNb
import Derived.Test.YtdbeiefgokocnaaTd
import Derived.Test.YtdbeiefgokocnaaTa
import Derived.Test.YtdbeiefgokocnaaYa
import Derived.Test.YtdbeiefgokocnaaKb
set_option linter.unusedVariables false
set_option linter.unusedSimpArgs false
/- Deals, acts and numbers: what is given; a ring. -/
namespace Go.Proofs
open Go Go.RowKit Go.Sim
set_option maxRecDepth 100000
theorem Try.und3 : Try.prog.underlying 3 = some (.int .i64) := Try.un3
theorem Try.und23 : Try.prog.underlying 23 = some (.slice 3) := by kernel_rfl
theorem Try.und52 : Try.prog.underlying 52 = some (.struct #[{ name := "Rate", type := 3, offset := 0, embedded := false, tag := "", pkgPath := "", byteOffset := 0 }, { name := "Cap", type := 3, offset := 1, embedded := false, tag := "", pkgPath := "", byteOffset := 8 }]) := by kernel_rfl
theorem Try.und54 : Try.prog.underlying 54 = some (.struct #[{ name := "Rate", type := 3, offset := 0, embedded := false, tag := "", pkgPath := "", byteOffset := 0 }, { name := "Free", type := 3, offset := 1, embedded := false, tag := "", pkgPath := "", byteOffset := 8 }, { name := "Fee", type := 3, offset := 2, embedded := false, tag := "", pkgPath := "", byteOffset := 16 }, { name := "Term", type := 3, offset := 3, embedded := false, tag := "", pkgPath := "", byteOffset := 24 }, { name := "Grace", type := 3, offset := 4, embedded := false, tag := "", pkgPath := "", byteOffset := 32 }]) := by kernel_rfl
theorem Try.und56 : Try.prog.underlying 56 = some (.struct #[{ name := "Law", type := 52, offset := 0, embedded := false, tag := "", pkgPath := "", byteOffset := 0 }, { name := "Tariff", type := 54, offset := 2, embedded := false, tag := "", pkgPath := "", byteOffset := 16 }, { name := "Closed", type := 23, offset := 7, embedded := false, tag := "", pkgPath := "", byteOffset := 56 }, { name := "Start", type := 3, offset := 8, embedded := false, tag := "", pkgPath := "", byteOffset := 80 }, { name := "Sum", type := 3, offset := 9, embedded := false, tag := "", pkgPath := "", byteOffset := 88 }]) := by kernel_rfl
theorem Try.cells3 : Try.prog.cellsOf 3 = 1 := by kernel_rfl
theorem given_int {w : AW} {n : Nat} {cs : List Value} (h : Hd Try.prog w n 3 cs) : ∃ x : Int, cs = icells x := by
  cases n with
  | zero => exact h.elim
  | succ n =>
    simp only [Hd, Try.und3] at h
    obtain ⟨i, rfl, _⟩ := h
    exact ⟨i, rfl⟩
theorem given_ints {w : AW} {n : Nat} {cs : List Value} (h : Hd Try.prog w n 23 cs) : ∃ v, cs = [v] ∧ ∃ xs, ArrOf w 1 icells v xs := by
  cases n with
  | zero => exact h.elim
  | succ n =>
    simp only [Hd, Try.und23, Try.cells3] at h
    obtain ⟨v, rows, rfl, ha, hr, hgv⟩ := h
    obtain ⟨xs, rfl⟩ := rows_of fun r hq => given_int (hr r hq)
    exact ⟨v, rfl, xs, ha⟩
theorem given_law {w : AW} {n : Nat} {cs : List Value} (h : Hd Try.prog w n 52 cs) : ∃ r c : Int, cs = [.int .i64 r, .int .i64 c] := by
  cases n with
  | zero => exact h.elim
  | succ n =>
    simp only [Hd, Try.und52] at h
    obtain ⟨parts, rfl, hl, hp⟩ := h
    match parts, hl with
    | [a, b], _ =>
      obtain ⟨x, rfl⟩ := given_int (hp 0 _ a rfl rfl)
      obtain ⟨y, rfl⟩ := given_int (hp 1 _ b rfl rfl)
      exact ⟨x, y, rfl⟩
theorem given_tariff {w : AW} {n : Nat} {cs : List Value} (h : Hd Try.prog w n 54 cs) : ∃ a b c d e : Int, cs = [.int .i64 a, .int .i64 b, .int .i64 c, .int .i64 d, .int .i64 e] := by
  cases n with
  | zero => exact h.elim
  | succ n =>
    simp only [Hd, Try.und54] at h
    obtain ⟨parts, rfl, hl, hp⟩ := h
    match parts, hl with
    | [p0, p1, p2, p3, p4], _ =>
      obtain ⟨x0, rfl⟩ := given_int (hp 0 _ p0 rfl rfl)
      obtain ⟨x1, rfl⟩ := given_int (hp 1 _ p1 rfl rfl)
      obtain ⟨x2, rfl⟩ := given_int (hp 2 _ p2 rfl rfl)
      obtain ⟨x3, rfl⟩ := given_int (hp 3 _ p3 rfl rfl)
      obtain ⟨x4, rfl⟩ := given_int (hp 4 _ p4 rfl rfl)
      exact ⟨x0, x1, x2, x3, x4, rfl⟩
theorem given_deal {w : AW} {n : Nat} {v : Value} (h : HdV Try.prog w n 56 v) : ∃ (d : DealN) (u : Value) (cl : List Int), v = .agg #[.int .i64 d.r, .int .i64 d.c, .int .i64 d.a, .int .i64 d.fr, .int .i64 d.fe, .int .i64 d.tm, .int .i64 d.gr, u, .int .i64 d.st, .int .i64 d.sm] ∧ ArrOf w 1 icells u cl := by
  simp only [HdV, Try.und56] at h
  obtain ⟨cs, rfl, h⟩ := h
  cases n with
  | zero => exact h.elim
  | succ n =>
    simp only [Hd, Try.und56] at h
    obtain ⟨parts, e, hl, hp⟩ := h
    match parts, hl with
    | [p0, p1, p2, p3, p4], _ =>
      obtain ⟨r, c, rfl⟩ := given_law (hp 0 _ p0 rfl rfl)
      obtain ⟨a, fr, fe, tm, gr, rfl⟩ := given_tariff (hp 1 _ p1 rfl rfl)
      obtain ⟨u, rfl, cl, hc⟩ := given_ints (hp 2 _ p2 rfl rfl)
      obtain ⟨st, rfl⟩ := given_int (hp 3 _ p3 rfl rfl)
      obtain ⟨sm, rfl⟩ := given_int (hp 4 _ p4 rfl rfl)
      refine ⟨⟨r, c, a, fr, fe, tm, gr, st, sm⟩, u, cl, ?_, hc⟩
      rw [show cs = cs.toList.toArray from rfl, e]; rfl
theorem given_num {w : AW} {n : Nat} {v : Value} (h : HdV Try.prog w n 3 v) : ∃ x : Int, v = .int .i64 x := by
  simp only [HdV, Try.und3] at h
  obtain ⟨x, e⟩ := given_int h
  injection e with e
  exact ⟨x, e⟩
theorem Try.und68 : Try.prog.underlying 68 = some (.slice 79) := by kernel_rfl
theorem Try.und79 : Try.prog.underlying 79 = some (.struct #[{ name := "Day", type := 3, offset := 0, embedded := false, tag := "", pkgPath := "", byteOffset := 0 }, { name := "Kind", type := 3, offset := 1, embedded := false, tag := "", pkgPath := "", byteOffset := 8 }, { name := "N", type := 3, offset := 2, embedded := false, tag := "", pkgPath := "", byteOffset := 16 }]) := by kernel_rfl
theorem Try.cells79 : Try.prog.cellsOf 79 = 3 := by kernel_rfl
theorem given_act {w : AW} {n : Nat} {cs : List Value} (h : Hd Try.prog w n 79 cs) : ∃ a : ActN, cs = acells a := by
  cases n with
  | zero => exact h.elim
  | succ n =>
    simp only [Hd, Try.und79] at h
    obtain ⟨parts, rfl, hl, hp⟩ := h
    match parts, hl with
    | [p0, p1, p2], _ =>
      obtain ⟨x0, rfl⟩ := given_int (hp 0 _ p0 rfl rfl)
      obtain ⟨x1, rfl⟩ := given_int (hp 1 _ p1 rfl rfl)
      obtain ⟨x2, rfl⟩ := given_int (hp 2 _ p2 rfl rfl)
      exact ⟨⟨x0, x1, x2⟩, rfl⟩
theorem given_acts {w : AW} {n : Nat} {v : Value} (h : HdV Try.prog w n 68 v) : ∃ l : List ActN, ArrOf w 3 acells v l := by
  simp only [HdV, Try.und68] at h
  cases n with
  | zero => exact h.elim
  | succ n =>
    simp only [Hd, Try.und68, Try.cells79] at h
    obtain ⟨v', rows, e, ha, hr, hgv⟩ := h
    injection e with e
    subst e
    obtain ⟨xs, rfl⟩ := rows_of fun r hq => given_act (hr r hq)
    exact ⟨xs, ha⟩
theorem given_list {w : AW} {n : Nat} {v : Value} (h : HdV Try.prog w n 23 v) : ∃ l : List Int, ArrOf w 1 icells v l := by
  simp only [HdV, Try.und23] at h
  obtain ⟨v', e, xs, ha⟩ := given_ints h
  injection e with e
  subst e
  exact ⟨xs, ha⟩
theorem Try.und87 : Try.prog.underlying 87 = some (.array 2 3) := by kernel_rfl
theorem Try.und84 : Try.prog.underlying 84 = some (.array 4 3) := by kernel_rfl
theorem Try.und2 : Try.prog.underlying 2 = some (.int .i64) := by kernel_rfl
theorem given_two {w : AW} {n : Nat} {v : Value} (h : HdV Try.prog w n 87 v) : ∃ a b : Int, v = .agg #[.int .i64 a, .int .i64 b] := by
  simp only [HdV, Try.und87] at h
  obtain ⟨cs, rfl, h⟩ := h
  cases n with
  | zero => exact h.elim
  | succ n =>
    simp only [Hd, Try.und87] at h
    obtain ⟨parts, e, hl, hp⟩ := h
    match parts, hl with
    | [p0, p1], _ =>
      obtain ⟨x0, rfl⟩ := given_int (hp p0 (by simp))
      obtain ⟨x1, rfl⟩ := given_int (hp p1 (by simp))
      exact ⟨x0, x1, by rw [show cs = cs.toList.toArray from rfl, e]; rfl⟩
theorem given_four {w : AW} {n : Nat} {v : Value} (h : HdV Try.prog w n 84 v) : ∃ a b c e : Int, v = .agg #[.int .i64 a, .int .i64 b, .int .i64 c, .int .i64 e] := by
  simp only [HdV, Try.und84] at h
  obtain ⟨cs, rfl, h⟩ := h
  cases n with
  | zero => exact h.elim
  | succ n =>
    simp only [Hd, Try.und84] at h
    obtain ⟨parts, e, hl, hp⟩ := h
    match parts, hl with
    | [p0, p1, p2, p3], _ =>
      obtain ⟨x0, rfl⟩ := given_int (hp p0 (by simp))
      obtain ⟨x1, rfl⟩ := given_int (hp p1 (by simp))
      obtain ⟨x2, rfl⟩ := given_int (hp p2 (by simp))
      obtain ⟨x3, rfl⟩ := given_int (hp p3 (by simp))
      exact ⟨x0, x1, x2, x3, by rw [show cs = cs.toList.toArray from rfl, e]; rfl⟩
theorem Try.ia87 (t : Tmps) (w : AW) (x y : Operand) : fast (prg Try.prog) t w (.indexAddr 87 x y) = indexA 1 2 (ev t x) (ev t y) := fast_indexAddrA Try.ty87 Try.ty3
theorem Try.ia84 (t : Tmps) (w : AW) (x y : Operand) : fast (prg Try.prog) t w (.indexAddr 84 x y) = indexA 1 4 (ev t x) (ev t y) := fast_indexAddrA Try.ty84 Try.ty3
theorem ix2_0 (b o : Nat) : indexA 1 2 (.pointer (some ⟨b, o, none⟩)) (.int .i64 0) = some (.pointer (some ⟨b, o, none⟩)) := indexA_eq (i := 0) (by decide)
theorem ix2_1 (b o : Nat) : indexA 1 2 (.pointer (some ⟨b, o, none⟩)) (.int .i64 1) = some (.pointer (some ⟨b, o + 1, none⟩)) := indexA_eq (i := 1) (by decide)
theorem ix4_0 (b o : Nat) : indexA 1 4 (.pointer (some ⟨b, o, none⟩)) (.int .i64 0) = some (.pointer (some ⟨b, o, none⟩)) := indexA_eq (i := 0) (by decide)
theorem ix4_1 (b o : Nat) : indexA 1 4 (.pointer (some ⟨b, o, none⟩)) (.int .i64 1) = some (.pointer (some ⟨b, o + 1, none⟩)) := indexA_eq (i := 1) (by decide)
theorem ix4_2 (b o : Nat) : indexA 1 4 (.pointer (some ⟨b, o, none⟩)) (.int .i64 2) = some (.pointer (some ⟨b, o + 2, none⟩)) := indexA_eq (i := 2) (by decide)
theorem ix4_3 (b o : Nat) : indexA 1 4 (.pointer (some ⟨b, o, none⟩)) (.int .i64 3) = some (.pointer (some ⟨b, o + 3, none⟩)) := indexA_eq (i := 3) (by decide)
attribute [go_sem] Try.ia87 Try.ia84 ix2_0 ix2_1 ix4_0 ix4_1 ix4_2 ix4_3
theorem bsQ_13 {e : TypeId} {z0 z1 z2 : Value} (a b c : Int) : bsQ e 1 3 [z0, z1, z2] [(0, .agg #[.int .i64 a, .int .i64 b, .int .i64 c])] = some ([.int .i64 a, .int .i64 b, .int .i64 c], e, fun n => .slice (some ⟨n, 0, none⟩) 1 1) := by
  simp [bsQ, Instr.fill, Value.cells]
theorem Try.bs68 (t : Tmps) (l : List (Nat × Operand)) : makes (prg Try.prog) t (.buildSlice 68 1 ⟨l⟩) = bsQ 79 1 3 [.int .i64 0, .int .i64 0, .int .i64 0] (l.map fun p => (p.1, ev t p.2)) := makes_bs Try.ty68 Try.ty79 rfl (by kernel_rfl)
theorem bld79 (a b c : Int) : bldQ [(0, 1), (1, 1), (2, 1)] [.int .i64 0, .int .i64 0, .int .i64 0] [(0, .int .i64 a), (1, .int .i64 b), (2, .int .i64 c)] = some (.agg #[.int .i64 a, .int .i64 b, .int .i64 c]) := by kernel_rfl
theorem bld79b (a b : Int) : bldQ [(0, 1), (1, 1), (2, 1)] [.int .i64 0, .int .i64 0, .int .i64 0] [(0, .int .i64 a), (1, .int .i64 b)] = some (.agg #[.int .i64 a, .int .i64 b, .int .i64 0]) := by kernel_rfl
attribute [go_sem] bsQ_13 Try.bs68 bld79 bld79b
/-- One act, in a new block. -/
theorem one_act {w : AW} (f : Fresh w) (D K N : Int) : ArrOf (w.push (.cells [.int .i64 D, .int .i64 K, .int .i64 N] 79 w.next 0 0)) 3 acells (.slice (some ⟨w.next, 0, none⟩) 1 1) [⟨D, K, N⟩] := by
  have hO := Own.new f 79 [.int .i64 D, .int .i64 K, .int .i64 N]
  refine ⟨_, _, _, rfl, rfl, by simp, by omega, fun _ => ⟨w.next, 0, rfl, by rw [AW.next_push]; omega, fun i j r x hi hx => ?_⟩⟩
  cases i with
  | zero =>
    simp only [List.map_cons, List.map_nil, List.getElem?_cons_zero, Option.some.injEq] at hi
    subst hi
    simp only [acells] at hx
    rw [Nat.zero_mul, Nat.zero_add]
    try rw [Nat.zero_add]
    refine hO.cell hx ?_
    have := List.mem_of_getElem? hx
    simp at this
    rcases this with h | h | h <;> subst h <;> rfl
  | succ i => simp at hi
theorem Ring_ok (n many : Int) (h1 : 1 ≤ many) (h2 : many ≤ 4611686018427387000) (w : AW) : CallT Try.prog Try.T1 (.fn (.func 33) #[]) #[.int .i64 n, .int .i64 many] w (fun r w' => ∃ k : Int, r = .int .i64 k ∧ 0 ≤ k ∧ k < many ∧ w = w') := by
  have a1 : n.tmod many < many := Int.tmod_lt_of_pos n (by omega)
  have a2 : -many < n.tmod many := by
    have := Int.tmod_lt_of_pos (-n) (show 0 < many by omega)
    rw [Int.neg_tmod] at this; omega
  have a3 : 0 ≤ (n.tmod many + many).tmod many := Int.tmod_nonneg _ (by omega)
  have a4 : (n.tmod many + many).tmod many < many := Int.tmod_lt_of_pos _ (by omega)
  have h0 : ¬ many ≤ 0 := by omega
  have hn0 : ¬ many = 0 := by omega
  refine callT_code rfl Try.func33 rfl Try.s33_eq rfl ?_
  unfold Try.s33
  simp -dsimp -implicitDefEqProofs (maxSteps := 2000000) (disch := first | assumption | omega | (simp only [AW.next_push, AW.next_put]; omega) | ((repeat refine Fresh.push ?_ _); assumption) | (simp only [same_int, same_bool, same_ptr, same_slice, same_sliceP, same_nil, same_agg2, same_string]; done) | (simp [oneCell, AW.next_push]; done) | fail) only [go_sem, Nat.reduceEqDiff, reduceIte, Nat.reduceAdd, Int.toNat_natCast, Nat.add_zero, Owes_true, Try.results33, h0, hn0]
  exact ⟨_, rfl, a3, a4, trivial⟩
end Go.Proofs

/- Renewals as seldom as may be: late or not, day by day. -/
namespace Go.Proofs
open Go Go.RowKit Go.Sim
set_option maxRecDepth 100000
theorem odTo_clC (c : Nat → Int) (a b : Int) : ∀ n : Nat, odTo c a b n = max 0 (b - a) - clC c a b n
  | 0 => by simp [odTo, clC]
  | n + 1 => by
    rw [odTo, clC, odTo_clC c a b n]
    split <;> omega
theorem clC_self (c : Nat → Int) (a : Int) : ∀ n : Nat, clC c a a n = 0
  | 0 => rfl
  | n + 1 => by rw [clC, clC_self c a n, if_neg (by omega)]; rfl
theorem memC {cl : List Int} {x : Int} : x ∈ cl ↔ Mem (cAt cl) cl.length x := by
  constructor
  · intro h
    obtain ⟨k, hk, e⟩ := List.getElem_of_mem h
    exact ⟨k, hk, by rw [cAt, getD_at hk]; exact e⟩
  · rintro ⟨k, hk, e⟩
    rw [cAt, getD_at hk] at e
    rw [← e]; exact List.getElem_mem hk
/-- One day more. -/
theorem oD_day {d : DealN} {cl : List Int} (hd : dealB d cl = true) (a : Int) : oD cl a (a + 1) = if a + 1 ∈ cl then 0 else 1 := by
  have hv := valid_of hd
  have h1 := clC_step (a := a) (b := a) (Int.le_refl a) hv.inc
  rw [clC_self] at h1
  rw [oD, odTo_clC]
  by_cases q : a + 1 ∈ cl
  · rw [if_pos q, h1.1 (memC.1 q)]; omega
  · rw [if_neg q, h1.2 (fun z => q (memC.2 z))]; omega
theorem oD_mono {d : DealN} {cl : List Int} (hd : dealB d cl = true) {a b c : Int} (h : b ≤ c) : oD cl a b ≤ oD cl a c := by
  rcases Int.le_total a b with q | q
  · rw [oD_add cl q h]; have := oD_in hd b c; omega
  · rw [oD_flat cl q]; exact (oD_in hd a c).1
theorem oD_anti {d : DealN} {cl : List Int} (hd : dealB d cl = true) {a b c : Int} (h : a ≤ b) : oD cl b c ≤ oD cl a c := by
  rcases Int.le_total b c with q | q
  · rw [oD_add cl h q]; have := oD_in hd a b; omega
  · rw [oD_flat cl q]; exact (oD_in hd a c).1
theorem oD_last {d : DealN} {cl : List Int} (hd : dealB d cl = true) (a : Int) : oD cl a (lastZ d cl a) = d.tm + d.gr ∧ oD cl a (lastZ d cl a + 1) = d.tm + d.gr + 1 := by
  have hv := valid_of hd
  have h1 := last_facts (A := d.tm + d.gr) (a := a) (by have := hv.age; omega) hv.inc
  have h2 := lastZ_in hv a
  have h3 : lastTo (cAt cl) (d.tm + d.gr) a cl.length = lastZ d cl a := rfl
  rw [h3] at h1
  have h4 : oD cl a (lastZ d cl a) = d.tm + d.gr := by rw [oD, odTo_clC]; omega
  refine ⟨h4, ?_⟩
  rw [oD_add cl (show a ≤ lastZ d cl a by omega) (show lastZ d cl a ≤ lastZ d cl a + 1 by omega), h4, oD_day hd, if_neg (fun q => h1.2 (memC.1 q))]
/-- The day of the last renewal before day st + i. -/
def rsD (days : List Int) (st : Int) : Nat → Int
  | 0 => st
  | i + 1 => if st + i ∈ days then st + i else rsD days st i
theorem rsD_in (days : List Int) (st : Int) : ∀ i : Nat, st ≤ rsD days st i ∧ rsD days st i ≤ max st (st + i - 1) ∧ (rsD days st i = st ∨ rsD days st i ∈ days)
  | 0 => ⟨Int.le_refl _, by rw [rsD]; omega, .inl rfl⟩
  | i + 1 => by
    have := rsD_in days st i
    rw [rsD]
    split
    · rename_i q; exact ⟨by omega, by omega, .inr q⟩
    · exact ⟨this.1, by omega, this.2.2⟩
theorem rsD_up (days : List Int) (st : Int) : ∀ i : Nat, st + i - 1 < st ∨ rsD days st i ≤ st + i - 1
  | 0 => .inl (by omega)
  | i + 1 => by have := (rsD_in days st (i + 1)).2.1; exact .inr (by omega)
theorem itZ_step {d : DealN} {cl : List Int} (hv : Valid d cl) (k : Nat) : itZ d cl k + 1 ≤ itZ d cl (k + 1) := by
  have := lastZ_in hv (itZ d cl k); rw [itZ]; omega
theorem itZ_inj {d : DealN} {cl : List Int} (hv : Valid d cl) {j k : Nat} (h : j < k) : itZ d cl j + 1 ≤ itZ d cl k := by
  have h1 := itZ_step hv j
  have h2 := itZ_lt hv (j + 1) k h
  omega
theorem its_mem {d : DealN} {cl : List Int} {m : Nat} {x : Int} : x ∈ its d cl m ↔ ∃ j, j < m ∧ itZ d cl (j + 1) = x := by
  simp [its]
theorem rs_its {d : DealN} {cl : List Int} (hv : Valid d cl) (m : Nat) : ∀ i : Nat, ∃ k, k ≤ m ∧ rsD (its d cl m) d.st i = itZ d cl k ∧ itZ d cl k ≤ d.st + i ∧ (k = m ∨ d.st + i ≤ itZ d cl (k + 1))
  | 0 => ⟨0, by omega, by rw [rsD, itZ], by rw [itZ]; omega, .inr (by have := itZ_step hv 0; rw [itZ] at this; omega)⟩
  | i + 1 => by
    obtain ⟨k, h1, h2, h3, h4⟩ := rs_its hv m i
    rw [rsD]
    by_cases q : d.st + (i : Int) ∈ its d cl m
    · rw [if_pos q]
      obtain ⟨j, hj, e⟩ := its_mem.1 q
      have hjk : j + 1 = k ∨ j + 1 = k + 1 := by
        rcases Nat.lt_or_ge (j + 1) k with z | z
        · have := itZ_inj hv z; omega
        · rcases Nat.lt_or_ge (k + 1) (j + 1) with y | y
          · have := itZ_inj hv y; omega
          · omega
      refine ⟨j + 1, by omega, e.symm, by omega, .inr ?_⟩
      have := itZ_step hv (j + 1); omega
    · rw [if_neg q]
      refine ⟨k, h1, h2, by omega, ?_⟩
      rcases h4 with e | e
      · exact .inl e
      · by_cases z : k = m
        · exact .inl z
        · right
          have : itZ d cl (k + 1) ≠ d.st + i := fun y => q (its_mem.2 ⟨k, by omega, y⟩)
          omega
/-- With the renewals of Keep a loan is never late. -/
theorem keep_good {d : DealN} {cl : List Int} (hd : dealB d cl = true) {m : Nat} {un : Int} (hun : un ≤ itZ d cl (m + 1)) (i : Nat) (hi : d.st + i ≤ un) : oD cl (rsD (its d cl m) d.st i) (d.st + i) ≤ d.tm + d.gr := by
  have hv := valid_of hd
  obtain ⟨k, h1, h2, h3, h4⟩ := rs_its hv m i
  rw [h2]
  have h5 : d.st + (i : Int) ≤ itZ d cl (k + 1) := by
    rcases h4 with e | e
    · rw [e]; omega
    · exact e
  have h6 := oD_mono (a := itZ d cl k) hd h5
  have h7 := (oD_last hd (itZ d cl k)).1
  have h8 : lastZ d cl (itZ d cl k) = itZ d cl (k + 1) := by rw [itZ]
  rw [h8] at h7; omega
theorem countP_lt {l : List Int} {a b : Int} (hab : a ≤ b) {x : Int} (hx : x ∈ l) (h1 : a < x) (h2 : x ≤ b) : l.countP (fun y => decide (y ≤ a)) + 1 ≤ l.countP (fun y => decide (y ≤ b)) := by
  induction l with
  | nil => simp at hx
  | cons y l ih =>
    have hmono : l.countP (fun y => decide (y ≤ a)) ≤ l.countP (fun y => decide (y ≤ b)) := by
      apply List.countP_mono_left
      intro z _ hz
      simp only [decide_eq_true_eq] at hz ⊢; omega
    rw [List.countP_cons, List.countP_cons]
    rcases List.mem_cons.mp hx with e | e
    · subst e
      have p1 : decide (x ≤ a) = false := decide_eq_false (by omega)
      have p2 : decide (x ≤ b) = true := decide_eq_true h2
      simp only [p1, p2]
      simp; omega
    · have := ih e
      by_cases q : y ≤ a
      · have p1 : decide (y ≤ a) = true := decide_eq_true q
        have p2 : decide (y ≤ b) = true := decide_eq_true (by omega)
        simp only [p1, p2]; simp; omega
      · have p1 : decide (y ≤ a) = false := decide_eq_false q
        by_cases z : y ≤ b
        · have p2 : decide (y ≤ b) = true := decide_eq_true z
          simp only [p1, p2]; simp; omega
        · have p2 : decide (y ≤ b) = false := decide_eq_false z
          simp only [p1, p2]; simp; omega
/-- With fewer renewals it is late. -/
theorem few_late {d : DealN} {cl : List Int} (hd : dealB d cl = true) {un : Int} {other : List Int} (hgood : ∀ i : Nat, d.st + i ≤ un → oD cl (rsD other d.st i) (d.st + i) ≤ d.tm + d.gr) :
    ∀ j : Nat, itZ d cl j < un → j ≤ other.countP (fun y => decide (y ≤ itZ d cl j))
  | 0, _ => by omega
  | j + 1, h => by
    have hv := valid_of hd
    have hs := itZ_step hv j
    have ih := few_late hd hgood j (by omega)
    have hge := itZ_ge hv (j + 1)
    obtain ⟨i, hi⟩ : ∃ i : Nat, d.st + (i : Int) = itZ d cl (j + 1) + 1 := ⟨(itZ d cl (j + 1) + 1 - d.st).toNat, by omega⟩
    have h1 := hgood i (by omega)
    rw [hi] at h1
    have h2 := (oD_last hd (itZ d cl j)).2
    have h8 : lastZ d cl (itZ d cl j) = itZ d cl (j + 1) := by rw [itZ]
    rw [h8] at h2
    obtain ⟨r1, r2, r3⟩ := rsD_in other d.st i
    have h3 : itZ d cl j < rsD other d.st i := by
      rcases Int.lt_or_le (itZ d cl j) (rsD other d.st i) with q | q
      · exact q
      · have := oD_anti (c := itZ d cl (j + 1) + 1) hd q; omega
    have h4 : rsD other d.st i ∈ other := by
      rcases r3 with e | e
      · have := itZ_ge hv j; omega
      · exact e
    have := countP_lt (show itZ d cl j ≤ itZ d cl (j + 1) by omega) h4 h3 (by omega)
    omega
theorem few_len {d : DealN} {cl : List Int} (hd : dealB d cl = true) {un : Int} {other : List Int} (hgood : ∀ i : Nat, d.st + i ≤ un → oD cl (rsD other d.st i) (d.st + i) ≤ d.tm + d.gr) {j : Nat} (hj : itZ d cl j < un) : j ≤ other.length :=
  Nat.le_trans (few_late hd hgood j hj) List.countP_le_length
/- The run of Keep's renewals. -/
def rAct (x : Int) : ActN := ⟨x, 2, 0⟩
theorem lastD_app : ∀ (l : List ActN) (a : ActN) (day : Int), lastD day (l ++ [a]) = a.D
  | [], a, day => rfl
  | b :: l, a, day => by rw [List.cons_append, lastD]; exact lastD_app l a b.D
theorem keep_go {d : DealN} {cl : List Int} (hd : dealB d cl = true) : ∀ m : Nat, (∀ j, j < m → itZ d cl (j + 1) ≤ 36500) →
    actsTo d.st ((its d cl m).map rAct) = true ∧ lastD d.st ((its d cl m).map rAct) = itZ d cl m ∧ (goL d cl (beginL d) ((its d cl m).map rAct)).2.2 = 0 ∧
    (goL d cl (beginL d) ((its d cl m).map rAct)).1.op = true ∧ (goL d cl (beginL d) ((its d cl m).map rAct)).1.he = d.st ∧ (goL d cl (beginL d) ((its d cl m).map rAct)).1.dy = itZ d cl m ∧ (goL d cl (beginL d) ((its d cl m).map rAct)).1.A = 0
  | 0, _ => ⟨rfl, rfl, rfl, rfl, rfl, rfl, rfl⟩
  | m + 1, hm => by
    obtain ⟨h1, h2, h3, h4, h5, h6, h7⟩ := keep_go hd m fun j hj => hm j (by omega)
    have hv := valid_of hd
    have hs := itZ_step hv m
    have hge := itZ_ge hv m
    have hle := hm m (by omega)
    have e : (its d cl (m + 1)).map rAct = (its d cl m).map rAct ++ [rAct (itZ d cl (m + 1))] := by rw [its_succ]; simp
    rw [e]
    have hall : ∀ a ∈ (its d cl m).map rAct, a.K = 1 ∨ a.K = 2 ∨ a.K = 3 := by
      intro a ha
      obtain ⟨x, _, rfl⟩ := List.mem_map.mp ha
      exact .inr (.inl rfl)
    rw [actsTo_cut hall (by simp), h1, h2, lastD_app, go_app _ _ _ h3]
    generalize (goL d cl (beginL d) ((its d cl m).map rAct)).1 = x at *
    have hk : passN cl x (itZ d cl (m + 1)) = d.tm + d.gr := by
      unfold passN
      rw [h6, h5, show max (itZ d cl m) d.st = itZ d cl m by omega]
      have := (oD_last hd (itZ d cl m)).1
      rw [itZ]; exact this
    have hA : (passL d cl x (itZ d cl (m + 1))).A = d.tm + d.gr := by
      unfold passL; rw [h4]; show x.A + passN cl x _ = _; rw [hk, h7]; omega
    have hact : actE d (passL d cl x (itZ d cl (m + 1))) (rAct (itZ d cl (m + 1))) = 0 := by
      unfold actE; rw [hA, if_neg (by omega)]; rfl
    have hgo : goL d cl x [rAct (itZ d cl (m + 1))] = (renewL d (passL d cl x (itZ d cl (m + 1))), [renewL d (passL d cl x (itZ d cl (m + 1)))], 0) := by
      rw [goL_ok (a := rAct (itZ d cl (m + 1))) (l := []) hact]; rfl
    rw [hgo]
    have hin : inR (itZ d cl m) (itZ d cl (m + 1)) 36500 = true := (inR_iff _ _ _).2 ⟨by omega, hle⟩
    refine ⟨?_, rfl, rfl, ?_, ?_, ?_, rfl⟩
    · show (true && (inR (itZ d cl m) (itZ d cl (m + 1)) 36500 && fitB (rAct (itZ d cl (m + 1))) true && true)) = true
      rw [hin]; rfl
    · show (passL d cl x (itZ d cl (m + 1))).op = true
      unfold passL; rw [h4]
    · show (passL d cl x (itZ d cl (m + 1))).he = d.st
      unfold passL; rw [h4]; exact h5
    · show (passL d cl x (itZ d cl (m + 1))).dy = _
      exact pass_day
theorem keep_owe {d : DealN} {cl : List Int} (hd : dealB d cl = true) {m : Nat} {un : Int} (hm : m ≤ 32) (h1 : ∀ j, j < m → itZ d cl (j + 1) < un) (h2 : un ≤ itZ d cl (m + 1)) (h3 : d.st ≤ un) (h4 : un ≤ 36500) :
    oweE d cl ((its d cl m).map rAct) un = 0 ∧ (oweX d cl ((its d cl m).map rAct) un).A ≤ d.tm + d.gr := by
  obtain ⟨q1, q2, q3, q4, q5, q6, q7⟩ := keep_go hd m fun j hj => by have := h1 j hj; omega
  have hv := valid_of hd
  have hge := itZ_ge hv m
  have hdy : itZ d cl m ≤ un := by
    cases m with
    | zero => rw [itZ]; exact h3
    | succ m => have := h1 m (by omega); omega
  refine ⟨owe_ran.2 ⟨hd, by rw [List.length_map, its_len]; exact hm, q1, q3, by rw [q6]; exact hdy, h4⟩, ?_⟩
  unfold oweX
  generalize (goL d cl (beginL d) ((its d cl m).map rAct)).1 = x at *
  unfold passL
  rw [q4]
  show x.A + passN cl x un ≤ _
  unfold passN
  rw [q5, q6, q7, show max (itZ d cl m) d.st = itZ d cl m by omega]
  have := oD_mono (a := itZ d cl m) hd h2
  have h7 := (oD_last hd (itZ d cl m)).1
  have h8 : lastZ d cl (itZ d cl m) = itZ d cl (m + 1) := by rw [itZ]
  rw [h8] at h7; omega
end Go.Proofs

/- Loans, act by act: what the law allows, day by day. -/
namespace Go.Proofs
open Go Go.RowKit Go.Sim
set_option maxRecDepth 100000
def stA (d : DealN) (cl : List Int) (l : List ActN) (a : Nat) : LN := (goL d cl (beginL d) (l.take a)).1
def holds (l : List ActN) (a : Nat) (t : Int) : Prop := ∃ k, ∃ h : k < l.length, k < a ∧ l[k].K = 3 ∧ l[k].D < t ∧ t - l[k].D ≤ l[k].N
/-- What is lawful up to a day. -/
def lwAt (cl : List Int) (x : LN) (t : Int) : Int := if x.op = true then x.lw + oD cl (max x.dy x.he) t * x.P else x.lw
structure AtA (d : DealN) (cl : List Int) (l : List ActN) (a : Nat) (x : LN) : Prop where
  ok : LOk d a x
  dy : x.dy = if a = 0 then d.st else (l.getD (a - 1) ⟨0, 0, 0⟩).D
  op : a < l.length → x.op = true
  hold : ∀ t, x.dy < t → (holds l a t ↔ t ≤ x.he)
structure Step (d : DealN) (cl : List Int) (x x' : LN) (D : Int) : Prop where
  day : x.dy ≤ D ∧ D ≤ 36500
  dy : x'.dy = D
  C : x.C ≤ x'.C
  Q : x.Q ≤ x'.Q ∧ x'.Q ≤ x'.C
  P : 0 ≤ x'.P ∧ x'.P ≤ x.P
  lw : x'.lw = lwAt cl x D
  law : x'.C ≤ lwF d x'.lw
theorem chF_law (d : DealN) (l c f : Int) : chF d l c f ≤ lwF d l := by unfold chF; omega
theorem pass_C {d : DealN} {cl : List Int} (hd : dealB d cl = true) {j : Nat} {x : LN} (h : LOk d j x) {D : Int} (h1 : x.dy ≤ D) : x.C ≤ (passL d cl x D).C := by
  have hi := (dealB_in hd).1
  have hk := passN_in hd h h1
  unfold passL
  cases x.op with
  | false => exact Int.le_refl _
  | true =>
    have a1 : 0 ≤ passN cl x D * x.P := mul_nonneg' hk.1 h.P.1
    have a2 : 0 ≤ max 0 (passN cl x D - max 0 (d.fr - x.n)) * x.P := mul_nonneg' (by omega) h.P.1
    show x.C ≤ chF d _ _ _
    rw [h.C]
    exact chF_mono hi (by omega) (by omega) (Int.le_refl _)
theorem pass_lw {d : DealN} {cl : List Int} {x : LN} {D : Int} : (passL d cl x D).lw = lwAt cl x D := by
  unfold passL lwAt passN
  cases x.op <;> rfl
theorem pass_P {d : DealN} {cl : List Int} {x : LN} {D : Int} : (passL d cl x D).P = x.P ∧ (passL d cl x D).Q = x.Q ∧ (passL d cl x D).he = x.he ∧ (passL d cl x D).op = x.op := by
  unfold passL
  cases h : x.op
  · exact ⟨rfl, rfl, rfl, rfl⟩
  · exact ⟨rfl, rfl, rfl, rfl⟩
theorem actL_lw {d : DealN} {x : LN} {a : ActN} : (actL d x a).lw = x.lw := by
  unfold actL; repeat' split
  all_goals rfl
theorem step_of {d : DealN} {cl : List Int} (hd : dealB d cl = true) {j : Nat} {x : LN} (h : LOk d j x) (a : ActN) {last : Bool} (hf : fitB a last = true) (h1 : x.dy ≤ a.D) (h2 : a.D ≤ 36500) (he : actE d (passL d cl x a.D) a = 0) : Step d cl x (actL d (passL d cl x a.D) a) a.D := by
  have hi := (dealB_in hd).1
  have hp := pass_keeps hd h h1 h2
  have hk := act_keeps hd hp a (fit_pay hf).1 (fit_pay hf).2 he
  have hC := pass_C hd h h1
  have hl := pass_lw (d := d) (cl := cl) (x := x) (D := a.D)
  obtain ⟨eP, eQ, eh, eo⟩ := pass_P (d := d) (cl := cl) (x := x) (D := a.D)
  have hdy : (actL d (passL d cl x a.D) a).dy = a.D := by rw [act_day, pass_day]
  have hpQ := hp.Q; have hpP := hp.P
  have hlaw : (actL d (passL d cl x a.D) a).C ≤ lwF d (actL d (passL d cl x a.D) a).lw := by rw [hk.C]; exact chF_law _ _ _ _
  have hlw : (actL d (passL d cl x a.D) a).lw = (passL d cl x a.D).lw := actL_lw
  have hpC := hp.C
  have hfit := fit_pay hf
  generalize passL d cl x a.D = y at *
  have key : y.C ≤ (actL d y a).C ∧ y.Q ≤ (actL d y a).Q ∧ (actL d y a).P ≤ y.P := by
    unfold actL
    by_cases k1 : a.K = 1
    · rw [if_pos k1]
      have := hfit.1 k1
      exact ⟨Int.le_refl _, by show y.Q ≤ y.Q + min a.N (y.C - y.Q); omega, by show y.P - max 0 (a.N - (y.C - y.Q)) ≤ y.P; omega⟩
    rw [if_neg k1]
    by_cases k2 : a.K = 2
    · rw [if_pos k2]
      have hfe := hi.fe
      have : y.C ≤ chF d y.lw y.cs (y.fe + d.fe) := by rw [hpC]; exact chF_mono hi (Int.le_refl _) (Int.le_refl _) (by omega)
      exact ⟨this, by show y.Q ≤ chF d y.lw y.cs (y.fe + d.fe); omega, Int.le_refl _⟩
    rw [if_neg k2]
    by_cases k3 : a.K = 3
    · rw [if_pos k3]; exact ⟨Int.le_refl _, Int.le_refl _, Int.le_refl _⟩
    rw [if_neg k3]
    exact ⟨Int.le_refl _, hpQ.2, hpP.1⟩
  exact ⟨⟨h1, h2⟩, hdy, by omega, ⟨by omega, hk.Q.2⟩, ⟨hk.P.1, by omega⟩, by rw [hlw]; exact hl, hlaw⟩
theorem take_err {d : DealN} {cl : List Int} {l : List ActN} (h : (goL d cl (beginL d) l).2.2 = 0) (a : Nat) : (goL d cl (beginL d) (l.take a)).2.2 = 0 := by
  by_cases q : (goL d cl (beginL d) (l.take a)).2.2 = 0
  · exact q
  · have := go_app_bad (l.take a) (l.drop a) (beginL d) q
    rw [List.take_append_drop] at this
    rw [this] at h; exact absurd h q
theorem acts_drop {s : Int} {l : List ActN} (h : actsTo s l = true) : ∀ a : Nat, a ≤ l.length → actsTo (dayAt s l a) (l.drop a) = true
  | 0, _ => by rw [dayAt, if_pos rfl]; exact h
  | a + 1, ha => by
    have ih := acts_drop h a (by omega)
    rw [actsTo_drop (show a < l.length by omega), Bool.and_eq_true, Bool.and_eq_true] at ih
    exact ih.2
theorem acts_at {s : Int} {l : List ActN} (h : actsTo s l = true) {a : Nat} (ha : a < l.length) : dayAt s l a ≤ l[a].D ∧ l[a].D ≤ 36500 ∧ fitB l[a] (decide (a + 1 = l.length)) = true := by
  have ih := acts_drop h a (by omega)
  rw [actsTo_drop ha, Bool.and_eq_true, Bool.and_eq_true, inR_iff] at ih
  exact ⟨ih.1.1.1, ih.1.1.2, ih.1.2⟩
theorem dayAt_mono {s : Int} {l : List ActN} (h : actsTo s l = true) (k : Nat) : ∀ m : Nat, k ≤ m → m ≤ l.length → dayAt s l k ≤ dayAt s l m
  | 0, hk, _ => by obtain rfl : k = 0 := by omega
                   exact Int.le_refl _
  | m + 1, hk, hm => by
    by_cases q : k = m + 1
    · rw [q]; exact Int.le_refl _
    · have h1 := dayAt_mono h k m (by omega) (by omega)
      have h2 := (acts_at h (show m < l.length by omega)).1
      have h3 : dayAt s l (m + 1) = l[m].D := by rw [dayAt, if_neg (by omega), Nat.add_sub_cancel, getD_at (show m < l.length by omega)]
      omega
theorem go_len {d : DealN} {cl : List Int} : ∀ {l : List ActN} {x : LN}, (goL d cl x l).2.2 = 0 → (goL d cl x l).2.1.length = l.length
  | [], x, _ => rfl
  | a :: l, x, h => by
    by_cases ha : actE d (passL d cl x a.D) a = 0
    · rw [goL_ok ha] at h ⊢
      simp only [List.length_cons]
      have := go_len h
      omega
    · rw [goL_bad ha] at h; exact absurd h ha
theorem stA_succ {d : DealN} {cl : List Int} {l : List ActN} (h : (goL d cl (beginL d) l).2.2 = 0) {a : Nat} (ha : a < l.length) :
    actE d (passL d cl (stA d cl l a) l[a].D) l[a] = 0 ∧ stA d cl l (a + 1) = actL d (passL d cl (stA d cl l a) l[a].D) l[a] ∧ (goL d cl (beginL d) (l.take (a + 1))).2.1 = (goL d cl (beginL d) (l.take a)).2.1 ++ [stA d cl l (a + 1)] := by
  have h1 := take_err h a
  have h2 := take_err h (a + 1)
  have e : l.take (a + 1) = l.take a ++ [l[a]] := List.take_succ_eq_append_getElem ha
  have h3 := go_app (l.take a) [l[a]] (beginL d) h1
  rw [e, h3] at h2
  have hact : actE d (passL d cl (stA d cl l a) l[a].D) l[a] = 0 := by
    by_cases q : actE d (passL d cl (stA d cl l a) l[a].D) l[a] = 0
    · exact q
    · have h4 := goL_bad (a := l[a]) (l := []) q
      have h2' : (goL d cl (stA d cl l a) [l[a]]).2.2 = 0 := h2
      rw [h4] at h2'; exact h2'
  have h4 := goL_ok (a := l[a]) (l := []) hact
  have h5 : goL d cl (goL d cl (beginL d) (l.take a)).1 [l[a]] = (actL d (passL d cl (stA d cl l a) l[a].D) l[a], [actL d (passL d cl (stA d cl l a) l[a].D) l[a]], 0) := h4
  have h6 : stA d cl l (a + 1) = actL d (passL d cl (stA d cl l a) l[a].D) l[a] := by
    show (goL d cl (beginL d) (l.take (a + 1))).1 = _
    rw [e, h3, h5]
  refine ⟨hact, h6, ?_⟩
  rw [e, h3, h5, h6]
theorem ys_at {d : DealN} {cl : List Int} {l : List ActN} (h : (goL d cl (beginL d) l).2.2 = 0) {a : Nat} (ha : a < l.length) : (goL d cl (beginL d) l).2.1[a]? = some (stA d cl l (a + 1)) := by
  have h1 := take_err h (a + 1)
  have h2 := go_app (l.take (a + 1)) (l.drop (a + 1)) (beginL d) h1
  rw [List.take_append_drop] at h2
  rw [h2]
  have h3 := (stA_succ h ha).2.2
  have h4 : (goL d cl (beginL d) (l.take a)).2.1.length = a := by rw [go_len (take_err h a), List.length_take]; omega
  show ((goL d cl (beginL d) (l.take (a + 1))).2.1 ++ _)[a]? = _
  rw [h3, List.append_assoc, List.getElem?_append_right (by omega), h4, Nat.sub_self]
  rfl
theorem actL_he {d : DealN} {x : LN} {a : ActN} : (actL d x a).he = if a.K = 3 then x.dy + a.N else x.he := by
  unfold actL
  by_cases k1 : a.K = 1
  · rw [if_pos k1, if_neg (by omega)]; rfl
  rw [if_neg k1]
  by_cases k2 : a.K = 2
  · rw [if_pos k2, if_neg (by omega)]; rfl
  rw [if_neg k2]
  by_cases k3 : a.K = 3
  · rw [if_pos k3, if_pos k3]; rfl
  · rw [if_neg k3, if_neg k3]; rfl
theorem actL_op {d : DealN} {x : LN} {a : ActN} {last : Bool} (hf : fitB a last = true) (hl : last = false) (h : x.op = true) : (actL d x a).op = true := by
  unfold fitB at hf
  unfold actL
  by_cases k1 : a.K = 1
  · rw [if_pos k1]; exact h
  rw [if_neg k1] at hf ⊢
  by_cases k2 : a.K = 2
  · rw [if_pos k2]; exact h
  rw [if_neg k2] at hf ⊢
  by_cases k3 : a.K = 3
  · rw [if_pos k3]; exact h
  rw [if_neg k3, hl] at hf
  split at hf <;> simp at hf
theorem actE_hold0 {d : DealN} {x : LN} {a : ActN} (h : actE d x a = 0) (k : a.K = 3) : x.he ≤ x.dy := by
  unfold actE at h
  by_cases q : d.tm + d.gr < x.A
  · rw [if_pos q] at h; omega
  rw [if_neg q, if_neg (by omega), if_pos k] at h
  by_cases z : x.dy < x.he
  · rw [if_pos z] at h; omega
  · omega
theorem holds_succ {l : List ActN} {a : Nat} (ha : a < l.length) (t : Int) : holds l (a + 1) t ↔ holds l a t ∨ (l[a].K = 3 ∧ l[a].D < t ∧ t - l[a].D ≤ l[a].N) := by
  constructor
  · rintro ⟨k, hk, h1, h2⟩
    by_cases q : k = a
    · subst q; exact .inr h2
    · exact .inl ⟨k, hk, by omega, h2⟩
  · rintro (⟨k, hk, h1, h2⟩ | h2)
    · exact ⟨k, hk, by omega, h2⟩
    · exact ⟨a, ha, by omega, h2⟩
theorem at_ok {d : DealN} {cl : List Int} {l : List ActN} (hd : dealB d cl = true) (hacts : actsTo d.st l = true) (h : (goL d cl (beginL d) l).2.2 = 0) : ∀ a : Nat, a ≤ l.length → AtA d cl l a (stA d cl l a)
  | 0, _ => ⟨begin_ok' (dealB_in hd).1, rfl, fun _ => rfl, fun t ht => ⟨fun ⟨k, _, hk, _⟩ => by omega, fun q => by
      have e1 : (stA d cl l 0).dy = d.st := rfl
      have e2 : (stA d cl l 0).he = d.st := rfl
      omega⟩⟩
  | a + 1, hle => by
    have ha : a < l.length := by omega
    obtain ⟨ih1, ih2, ih3, ih4⟩ := at_ok hd hacts h a (by omega)
    obtain ⟨q1, q2, _⟩ := stA_succ h ha
    obtain ⟨r1, r2, r3⟩ := acts_at hacts ha
    have hdy : dayAt d.st l a = (stA d cl l a).dy := by rw [ih2]; rfl
    rw [hdy] at r1
    obtain ⟨eP, eQ, eh, eo⟩ := pass_P (d := d) (cl := cl) (x := stA d cl l a) (D := l[a].D)
    have ep : (passL d cl (stA d cl l a) l[a].D).dy = l[a].D := pass_day
    have hp := pass_keeps hd ih1 r1 r2
    have hdy2 : (stA d cl l (a + 1)).dy = l[a].D := by rw [q2, act_day, pass_day]
    refine ⟨?_, ?_, ?_, ?_⟩
    · rw [q2]; exact act_keeps hd hp l[a] (fit_pay r3).1 (fit_pay r3).2 q1
    · rw [hdy2, if_neg (by omega), Nat.add_sub_cancel, getD_at ha]
    · intro ha2
      rw [q2]
      exact actL_op r3 (decide_eq_false (by omega)) (by rw [eo]; exact ih3 ha)
    · intro t ht
      rw [hdy2] at ht
      rw [holds_succ ha, ih4 t (by omega), q2, actL_he]
      by_cases k3 : l[a].K = 3
      · rw [if_pos k3, ep]
        have := actE_hold0 q1 k3
        rw [eh, ep] at this
        constructor
        · rintro (z | z)
          · omega
          · omega
        · intro z; exact .inr ⟨k3, ht, by omega⟩
      · rw [if_neg k3, eh]
        constructor
        · rintro (z | z)
          · exact z
          · exact absurd z.1 k3
        · intro z; exact .inl z
theorem step_at {d : DealN} {cl : List Int} {l : List ActN} (hd : dealB d cl = true) (hacts : actsTo d.st l = true) (h : (goL d cl (beginL d) l).2.2 = 0) {a : Nat} (ha : a < l.length) : Step d cl (stA d cl l a) (stA d cl l (a + 1)) l[a].D := by
  have hA := at_ok hd hacts h a (by omega)
  obtain ⟨q1, q2, _⟩ := stA_succ h ha
  obtain ⟨r1, r2, r3⟩ := acts_at hacts ha
  have hdy : dayAt d.st l a = (stA d cl l a).dy := by rw [hA.dy]; rfl
  rw [hdy] at r1
  rw [q2]
  exact step_of hd hA.ok l[a] r3 r1 r2 q1
theorem act_before {d : DealN} {cl : List Int} {l : List ActN} (hd : dealB d cl = true) (hacts : actsTo d.st l = true) (h : (goL d cl (beginL d) l).2.2 = 0) {a : Nat} (ha : a < l.length) : l[a].D ≤ (stA d cl l l.length).dy := by
  have h1 := (at_ok hd hacts h l.length (Nat.le_refl _)).dy
  have h2 := dayAt_mono hacts (a + 1) l.length (by omega) (Nat.le_refl _)
  have h3 : dayAt d.st l (a + 1) = l[a].D := by rw [dayAt, if_neg (by omega), Nat.add_sub_cancel, getD_at ha]
  rw [h1]
  rw [h3] at h2
  exact h2
/-- A day more. -/
theorem lwAt_day {d : DealN} {cl : List Int} (hd : dealB d cl = true) {x : LN} {t : Int} (ht : x.dy ≤ t) : lwAt cl x (t + 1) = if x.op = true ∧ ¬ (t + 1 ∈ cl) ∧ ¬ (t + 1 ≤ x.he) then lwAt cl x t + x.P else lwAt cl x t := by
  unfold lwAt
  cases hop : x.op with
  | false => simp
  | true =>
    simp only [if_true, true_and]
    by_cases hh : t + 1 ≤ x.he
    · rw [if_neg (fun q => q.2 hh), oD_flat cl (show t + 1 ≤ max x.dy x.he by omega), oD_flat cl (show t ≤ max x.dy x.he by omega)]
    · have e := oD_add cl (show max x.dy x.he ≤ t by omega) (show t ≤ t + 1 by omega)
      rw [e, oD_day hd]
      by_cases hm : t + 1 ∈ cl
      · rw [if_pos hm, if_neg (fun q => q.1 hm), Int.add_zero]
      · rw [if_neg hm, if_pos ⟨hm, hh⟩, Int.add_mul]; omega
/-- On the day of an act, and behind it. -/
theorem lwAt_same {cl : List Int} {x : LN} {t : Int} (ht : t ≤ x.dy) : lwAt cl x t = x.lw := by
  unfold lwAt
  split
  · rw [oD_flat cl (show t ≤ max x.dy x.he by omega)]; omega
  · rfl
theorem lwAt_in {d : DealN} {cl : List Int} (hd : dealB d cl = true) {j : Nat} {x : LN} (h : LOk d j x) {t : Int} (h1 : x.dy ≤ t) (h2 : t ≤ 36500) : 0 ≤ lwAt cl x t ∧ lwAt cl x t ≤ 39191576576000 := by
  have hp := pass_keeps hd h h1 h2
  have hst := (dealB_in hd).1.st; have hsm := (dealB_in hd).1.sm
  have e := pass_lw (d := d) (cl := cl) (x := x) (D := t)
  have hlw := hp.lw; have hn := hp.n; have hdy := hp.dy
  rw [e] at hlw
  have m := mul_mono2 (show (passL d cl x t).n ≤ 36500 by omega) hsm.2 (by omega) (by omega)
  omega
end Go.Proofs

/- Loans: the day of the last act; what is given; what is paid in two parts. -/
namespace Go.Proofs
open Go Go.RowKit Go.Sim
set_option maxRecDepth 100000
theorem acells_len (a : ActN) : (acells a).length = 3 := rfl
theorem acells_one (a : ActN) : ∀ v ∈ acells a, oneCell v = true := by intro v hv; simp [acells] at hv; rcases hv with h | h | h <;> subst h <;> rfl
theorem acells_ones (l : List ActN) : ∀ v ∈ l.flatMap acells, oneCell v = true := by
  intro v hv
  obtain ⟨a, _, h⟩ := List.mem_flatMap.mp hv
  exact acells_one a v h
theorem acells_lens (l : List ActN) : (l.flatMap acells).length = l.length * 3 := by
  induction l with
  | nil => rfl
  | cons x l ih => rw [List.flatMap_cons, List.length_append, acells_len, ih, List.length_cons]; omega
theorem Try.bytes79 : Try.prog.bytesOf 79 = 24 := by kernel_rfl
theorem given_actsR {w : AW} {n : Nat} {v : Value} (h : HdV Try.prog w n 68 v) : ∃ l : List ActN, ArrOf w 3 acells v l ∧ ∀ p n c, v = .slice p n c → c * 24 ≤ 140737488351232 := by
  simp only [HdV, Try.und68] at h
  cases n with
  | zero => exact h.elim
  | succ n =>
    simp only [Hd, Try.und68, Try.cells79] at h
    obtain ⟨v', rows, e, ha, hr, hgv⟩ := h
    injection e with e
    subst e
    obtain ⟨xs, rfl⟩ := rows_of fun r hq => given_act (hr r hq)
    refine ⟨xs, ha, fun p n c e => ?_⟩
    have := hgv.2 p n c e
    rwa [Try.bytes79] at this
theorem Try.und59 : Try.prog.underlying 59 = some (.array 3 3) := by kernel_rfl
theorem given_three {w : AW} {n : Nat} {v : Value} (h : HdV Try.prog w n 59 v) : ∃ a b c : Int, v = .agg #[.int .i64 a, .int .i64 b, .int .i64 c] := by
  simp only [HdV, Try.und59] at h
  obtain ⟨cs, rfl, h⟩ := h
  cases n with
  | zero => exact h.elim
  | succ n =>
    simp only [Hd, Try.und59] at h
    obtain ⟨parts, e, hl, hp⟩ := h
    match parts, hl with
    | [p0, p1, p2], _ =>
      obtain ⟨x0, rfl⟩ := given_int (hp p0 (by simp))
      obtain ⟨x1, rfl⟩ := given_int (hp p1 (by simp))
      obtain ⟨x2, rfl⟩ := given_int (hp p2 (by simp))
      exact ⟨x0, x1, x2, by rw [show cs = cs.toList.toArray from rfl, e]; rfl⟩
theorem Try.ia59 (t : Tmps) (w : AW) (x y : Operand) : fast (prg Try.prog) t w (.indexAddr 59 x y) = indexA 1 3 (ev t x) (ev t y) := fast_indexAddrA Try.ty59 Try.ty3
theorem ix3_0 (b o : Nat) : indexA 1 3 (.pointer (some ⟨b, o, none⟩)) (.int .i64 0) = some (.pointer (some ⟨b, o, none⟩)) := indexA_eq (i := 0) (by decide)
theorem ix3_1 (b o : Nat) : indexA 1 3 (.pointer (some ⟨b, o, none⟩)) (.int .i64 1) = some (.pointer (some ⟨b, o + 1, none⟩)) := indexA_eq (i := 1) (by decide)
theorem ix3_2 (b o : Nat) : indexA 1 3 (.pointer (some ⟨b, o, none⟩)) (.int .i64 2) = some (.pointer (some ⟨b, o + 2, none⟩)) := indexA_eq (i := 2) (by decide)
attribute [go_sem] Try.ia59 ix3_0 ix3_1 ix3_2
theorem bsQ_00' {e : TypeId} {z : Nat} : bsQ e 0 z [] [] = some ([], e, fun n => .slice (some ⟨n, 0, none⟩) 0 0) := rfl
theorem Try.bs68x0 (t : Tmps) (l : List (Nat × Operand)) : makes (prg Try.prog) t (.buildSlice 68 0 ⟨l⟩) = bsQ 79 0 3 [] (l.map fun p => (p.1, ev t p.2)) := makes_bs Try.ty68 Try.ty79 rfl (by kernel_rfl)
theorem Try.bs68x2 (t : Tmps) (l : List (Nat × Operand)) : makes (prg Try.prog) t (.buildSlice 68 2 ⟨l⟩) = bsQ 79 2 3 [.int .i64 0, .int .i64 0, .int .i64 0, .int .i64 0, .int .i64 0, .int .i64 0] (l.map fun p => (p.1, ev t p.2)) := makes_bs Try.ty68 Try.ty79 rfl (by kernel_rfl)
theorem bsQ_23 {e : TypeId} {z0 z1 z2 z3 z4 z5 : Value} (a b c a' b' c' : Int) : bsQ e 2 3 [z0, z1, z2, z3, z4, z5] [(0, .agg #[.int .i64 a, .int .i64 b, .int .i64 c]), (1, .agg #[.int .i64 a', .int .i64 b', .int .i64 c'])] = some ([.int .i64 a, .int .i64 b, .int .i64 c, .int .i64 a', .int .i64 b', .int .i64 c'], e, fun n => .slice (some ⟨n, 0, none⟩) 2 2) := by
  simp [bsQ, Instr.fill, Value.cells]
attribute [go_sem] bsQ_00' Try.bs68x0 Try.bs68x2 bsQ_23
theorem same_acts3 (a b c : Int) : same 12 (.agg #[.int .i64 a, .int .i64 b, .int .i64 c]) (.agg #[.int .i64 a, .int .i64 b, .int .i64 c]) = true := by simp [same, same.all, intEq_eq]
theorem same_deal (d : DealN) (p : Option Addr) (n c : Nat) : same 12 (.agg #[.int .i64 d.r, .int .i64 d.c, .int .i64 d.a, .int .i64 d.fr, .int .i64 d.fe, .int .i64 d.tm, .int .i64 d.gr, (.slice p n c), .int .i64 d.st, .int .i64 d.sm]) (.agg #[.int .i64 d.r, .int .i64 d.c, .int .i64 d.a, .int .i64 d.fr, .int .i64 d.fe, .int .i64 d.tm, .int .i64 d.gr, (.slice p n c), .int .i64 d.st, .int .i64 d.sm]) = true := by
  have h := same_sliceP p n c
  have h2 : same 11 (.slice p n c) (.slice p n c) = true := by
    cases p with
    | none => simp [same]
    | some a => obtain ⟨b, o, s⟩ := a; cases s <;> simp [same]
  simp [same.all, same, intEq_eq] at h2 ⊢
  try exact h2
set_option maxHeartbeats 1000000 in
theorem last_ok (d : DealN) (cl : List Int) (l : List ActN) (v u : Value) (w : AW) (f : Fresh w) (hs : ArrOf w 1 icells v cl) (ht : ArrOf w 3 acells u l) :
    CallT Try.prog Try.T1 (.fn (.func 40) #[]) #[.agg #[.int .i64 d.r, .int .i64 d.c, .int .i64 d.a, .int .i64 d.fr, .int .i64 d.fe, .int .i64 d.tm, .int .i64 d.gr, v, .int .i64 d.st, .int .i64 d.sm], u] w (Ret (.int .i64 (lastD d.st l)) (Grown w)) := by
  obtain ⟨p, cap, rfl, _⟩ := id hs.open
  obtain ⟨q, cap2, rfl, _, _, hat⟩ := id ht.open
  have g := (Grown.refl f).push (.cells [.int .i64 d.r, .int .i64 d.c, .int .i64 d.a, .int .i64 d.fr, .int .i64 d.fe, .int .i64 d.tm, .int .i64 d.gr, (.slice p cl.length cap), .int .i64 d.st, .int .i64 d.sm] 56 w.next 0 0)
  have hO := Own.new f 56 [.int .i64 d.r, .int .i64 d.c, .int .i64 d.a, .int .i64 d.fr, .int .i64 d.fe, .int .i64 d.tm, .int .i64 d.gr, (.slice p cl.length cap), .int .i64 d.st, .int .i64 d.sm]
  have c8 := hO.cell (o := 8) rfl rfl
  refine callT_code rfl Try.func40 rfl Try.s40_eq rfl ?_
  unfold Try.s40
  by_cases h0 : l.length = 0
  · obtain rfl : l = [] := List.length_eq_zero_iff.mp h0
    simp -dsimp -implicitDefEqProofs (maxSteps := 2000000) (disch := first | assumption | omega | (simp only [AW.next_push, AW.next_put]; omega) | ((repeat refine Fresh.push ?_ _); assumption) | (simp only [same_int, same_bool, same_ptr, same_slice, same_sliceP, same_nil, same_agg2, same_string]; done) | (simp [oneCell, AW.next_push]; done) | fail) only [go_sem, Nat.reduceEqDiff, reduceIte, Nat.reduceAdd, Int.toNat_natCast, Nat.add_zero, Owes_true, Try.results40, Nat.zero_add, c8, List.length_nil, Int.natCast_zero]
    exact ⟨rfl, g⟩
  · have h0' : ¬ (l.length : Int) = 0 := by omega
    obtain ⟨b, o, rfl, hb, hc⟩ := hat (l.length - 1) (by omega)
    have a0 := hc _ g.1 0 _ rfl
    rw [Nat.add_zero] at a0
    have hcast : (l.length : Int) - 1 = ((l.length - 1 : Nat) : Int) := by omega
    have hlt : ((l.length - 1 : Nat) : Int) < (l.length : Int) := by omega
    have hl := lastD_at l d.st (by omega)
    simp -dsimp -implicitDefEqProofs (maxSteps := 2000000) (disch := first | assumption | omega | (simp only [AW.next_push, AW.next_put]; omega) | ((repeat refine Fresh.push ?_ _); assumption) | (simp only [same_int, same_bool, same_ptr, same_slice, same_sliceP, same_nil, same_agg2, same_string]; done) | (simp [oneCell, AW.next_push]; done) | fail) only [go_sem, Nat.reduceEqDiff, reduceIte, Nat.reduceAdd, Int.toNat_natCast, Nat.add_zero, Owes_true, Try.results40, Nat.zero_add, h0', hcast, indexV_eq, a0]
    exact ⟨by rw [hl], g⟩
end Go.Proofs

/- Loans: a payment in two parts, behind all acts. -/
namespace Go.Proofs
open Go Go.RowKit Go.Sim
set_option maxRecDepth 100000
theorem runE_ok {d : DealN} {cl : List Int} {l : List ActN} (h : runE d cl l = 0) : dealB d cl = true ∧ actsB d l = true ∧ (goL d cl (beginL d) l).2.2 = 0 := by
  unfold runE at h
  cases h1 : dealB d cl with
  | false => rw [if_pos h1] at h; exact absurd h (by omega)
  | true =>
  rw [if_neg (by rw [h1]; simp)] at h
  cases h2 : actsB d l with
  | false => rw [if_pos h2] at h; exact absurd h (by omega)
  | true =>
  rw [if_neg (by rw [h2]; simp)] at h
  exact ⟨rfl, rfl, h⟩
theorem once_math {d : DealN} {cl : List Int} {l : List ActN} {p q N : Int} (hp : 1 ≤ p) (hq : 1 ≤ q) (hN : N = p + q) (h : runE d cl (l ++ [⟨lastD d.st l, 1, N⟩]) = 0) (hlen : l.length + 2 ≤ 32) :
    runE d cl (l ++ [⟨lastD d.st l, 1, p⟩, ⟨lastD d.st l, 1, q⟩]) = 0 ∧ ∃ X, (goL d cl (beginL d) (l ++ [⟨lastD d.st l, 1, N⟩])).2.1[l.length]? = some X ∧ (goL d cl (beginL d) (l ++ [⟨lastD d.st l, 1, p⟩, ⟨lastD d.st l, 1, q⟩])).2.1[l.length + 1]? = some X := by
  subst hN
  obtain ⟨hd, hacts, hgo⟩ := runE_ok h
  rw [actsB, Bool.and_eq_true] at hacts
  have hA := hacts.2
  have hK := actsTo_app (m := [⟨lastD d.st l, 1, p + q⟩]) (by simp) hA
  rw [actsTo_cut hK (by simp), Bool.and_eq_true] at hA
  have hgl : (goL d cl (beginL d) l).2.2 = 0 := by
    by_cases z : (goL d cl (beginL d) l).2.2 = 0
    · exact z
    · rw [go_app_bad _ _ _ z] at hgo; exact absurd hgo z
  have hat := at_ok hd hacts.2 hgo l.length (by simp)
  have hst : stA d cl (l ++ [⟨lastD d.st l, 1, p + q⟩]) l.length = (goL d cl (beginL d) l).1 := by
    unfold stA; rw [List.take_left']; rfl
  rw [hst] at hat
  have e1 := go_app l [⟨lastD d.st l, 1, p + q⟩] (beginL d) hgl
  have e2 := go_app l [⟨lastD d.st l, 1, p⟩, ⟨lastD d.st l, 1, q⟩] (beginL d) hgl
  have hyl := go_len hgl
  have hdy : (goL d cl (beginL d) l).1.dy = lastD d.st l := by
    rw [hat.dy]
    by_cases z : l.length = 0
    · obtain rfl : l = [] := List.length_eq_zero_iff.mp z
      rfl
    · rw [if_neg z, getD_at (show l.length - 1 < (l ++ ([⟨lastD d.st l, 1, p + q⟩] : List ActN)).length by simp; omega), List.getElem_append_left (by omega), lastD_at l d.st (by omega)]
  have hop := hat.op (by simp)
  rw [e1] at hgo
  have ht := two_parts (d := d) (cl := cl) (x := (goL d cl (beginL d) l).1) (D := lastD d.st l) (p := p) (q := q) hat.ok.C hop hat.ok.Q.2 hat.ok.P.1 hdy hp hq hgo
  generalize (goL d cl (beginL d) l).1 = x at *
  generalize (goL d cl (beginL d) l).2.1 = ys at *
  refine ⟨?_, (goL d cl x [⟨lastD d.st l, 1, p + q⟩]).1, ?_, ?_⟩
  · have hB : actsB d (l ++ [⟨lastD d.st l, 1, p⟩, ⟨lastD d.st l, 1, q⟩]) = true := by
      rw [actsB, Bool.and_eq_true, actsTo_cut hK (by simp), hA.1]
      have hin := hA.2
      simp only [actsTo, Bool.and_eq_true, inR_iff] at hin
      have hN2 : p + q ≤ 1073741824 := by have := hin.1.2; rw [fitB_pay, inR_iff] at this; exact this.2
      have f1 : ∀ (n : Int) (b : Bool), 1 ≤ n → n ≤ 1073741824 → fitB ⟨lastD d.st l, 1, n⟩ b = true := fun n b h1 h2 => by rw [fitB_pay, inR_iff]; exact ⟨h1, h2⟩
      have hin2 : inR (lastD d.st l) (lastD d.st l) 36500 = true := (inR_iff _ _ _).2 hin.1.1
      refine ⟨decide_eq_true (by simp; omega), ?_⟩
      simp only [actsTo, hin2, f1 p _ hp (by omega), f1 q _ hq (by omega)]
      rfl
    rw [runE, if_neg (by rw [hd]; simp), if_neg (by rw [hB]; simp), e2]
    exact ht.1
  · rw [e1]
    show (ys ++ _)[l.length]? = _
    rw [List.getElem?_append_right (by omega), hyl, Nat.sub_self, ht.2.2.2]
    rfl
  · rw [e2]
    show (ys ++ _)[l.length + 1]? = _
    rw [List.getElem?_append_right (by omega), hyl, Nat.add_sub_cancel_left, ht.2.2.1]
    rfl
end Go.Proofs
