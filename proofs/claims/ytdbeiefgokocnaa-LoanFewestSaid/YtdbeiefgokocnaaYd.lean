/- Loans: what is given; renewals as seldom as may be; the law on the machine. -/
import Derived.Test.YtdbeiefgokocnaaYc
import Derived.Test.YtdbeiefgokocnaaNb
import Derived.Test.YtdbeiefgokocnaaTd
import Derived.Test.YtdbeiefgokocnaaTa
import Derived.Test.YtdbeiefgokocnaaYa
import Derived.Test.YtdbeiefgokocnaaKb
set_option linter.unusedVariables false
set_option linter.unusedSimpArgs false
/- Deals, acts and numbers: what is given; a ring. -/
namespace Go.Proofs
open Go Go.RowKit Go.Sim
set_option maxRecDepth 100000
theorem Try.und3 : Try.prog.underlying 3 = some (.int .i64) := Try.un3
theorem Try.und23 : Try.prog.underlying 23 = some (.slice 3) := by kernel_rfl
theorem Try.und52 : Try.prog.underlying 52 = some (.struct #[{ name := "Rate", type := 3, offset := 0, embedded := false, tag := "", pkgPath := "", byteOffset := 0 }, { name := "Cap", type := 3, offset := 1, embedded := false, tag := "", pkgPath := "", byteOffset := 8 }]) := by kernel_rfl
theorem Try.und54 : Try.prog.underlying 54 = some (.struct #[{ name := "Rate", type := 3, offset := 0, embedded := false, tag := "", pkgPath := "", byteOffset := 0 }, { name := "Free", type := 3, offset := 1, embedded := false, tag := "", pkgPath := "", byteOffset := 8 }, { name := "Fee", type := 3, offset := 2, embedded := false, tag := "", pkgPath := "", byteOffset := 16 }, { name := "Term", type := 3, offset := 3, embedded := false, tag := "", pkgPath := "", byteOffset := 24 }, { name := "Grace", type := 3, offset := 4, embedded := false, tag := "", pkgPath := "", byteOffset := 32 }]) := by kernel_rfl
theorem Try.und56 : Try.prog.underlying 56 = some (.struct #[{ name := "Law", type := 52, offset := 0, embedded := false, tag := "", pkgPath := "", byteOffset := 0 }, { name := "Tariff", type := 54, offset := 2, embedded := false, tag := "", pkgPath := "", byteOffset := 16 }, { name := "Closed", type := 23, offset := 7, embedded := false, tag := "", pkgPath := "", byteOffset := 56 }, { name := "Start", type := 3, offset := 8, embedded := false, tag := "", pkgPath := "", byteOffset := 80 }, { name := "Sum", type := 3, offset := 9, embedded := false, tag := "", pkgPath := "", byteOffset := 88 }]) := by kernel_rfl
theorem Try.cells3 : Try.prog.cellsOf 3 = 1 := by kernel_rfl
theorem given_int {w : AW} {n : Nat} {cs : List Value} (h : Hd Try.prog w n 3 cs) : ∃ x : Int, cs = icells x := by
  cases n with
  | zero => exact h.elim
  | succ n =>
    simp only [Hd, Try.und3] at h
    obtain ⟨i, rfl, _⟩ := h
    exact ⟨i, rfl⟩
theorem given_ints {w : AW} {n : Nat} {cs : List Value} (h : Hd Try.prog w n 23 cs) : ∃ v, cs = [v] ∧ ∃ xs, ArrOf w 1 icells v xs := by
  cases n with
  | zero => exact h.elim
  | succ n =>
    simp only [Hd, Try.und23, Try.cells3] at h
    obtain ⟨v, rows, rfl, ha, hr, hgv⟩ := h
    obtain ⟨xs, rfl⟩ := rows_of fun r hq => given_int (hr r hq)
    exact ⟨v, rfl, xs, ha⟩
theorem given_law {w : AW} {n : Nat} {cs : List Value} (h : Hd Try.prog w n 52 cs) : ∃ r c : Int, cs = [.int .i64 r, .int .i64 c] := by
  cases n with
  | zero => exact h.elim
  | succ n =>
    simp only [Hd, Try.und52] at h
    obtain ⟨parts, rfl, hl, hp⟩ := h
    match parts, hl with
    | [a, b], _ =>
      obtain ⟨x, rfl⟩ := given_int (hp 0 _ a rfl rfl)
      obtain ⟨y, rfl⟩ := given_int (hp 1 _ b rfl rfl)
      exact ⟨x, y, rfl⟩
theorem given_tariff {w : AW} {n : Nat} {cs : List Value} (h : Hd Try.prog w n 54 cs) : ∃ a b c d e : Int, cs = [.int .i64 a, .int .i64 b, .int .i64 c, .int .i64 d, .int .i64 e] := by
  cases n with
  | zero => exact h.elim
  | succ n =>
    simp only [Hd, Try.und54] at h
    obtain ⟨parts, rfl, hl, hp⟩ := h
    match parts, hl with
    | [p0, p1, p2, p3, p4], _ =>
      obtain ⟨x0, rfl⟩ := given_int (hp 0 _ p0 rfl rfl)
      obtain ⟨x1, rfl⟩ := given_int (hp 1 _ p1 rfl rfl)
      obtain ⟨x2, rfl⟩ := given_int (hp 2 _ p2 rfl rfl)
      obtain ⟨x3, rfl⟩ := given_int (hp 3 _ p3 rfl rfl)
      obtain ⟨x4, rfl⟩ := given_int (hp 4 _ p4 rfl rfl)
      exact ⟨x0, x1, x2, x3, x4, rfl⟩
theorem given_deal {w : AW} {n : Nat} {v : Value} (h : HdV Try.prog w n 56 v) : ∃ (d : DealN) (u : Value) (cl : List Int), v = .agg #[.int .i64 d.r, .int .i64 d.c, .int .i64 d.a, .int .i64 d.fr, .int .i64 d.fe, .int .i64 d.tm, .int .i64 d.gr, u, .int .i64 d.st, .int .i64 d.sm] ∧ ArrOf w 1 icells u cl := by
  simp only [HdV, Try.und56] at h
  obtain ⟨cs, rfl, h⟩ := h
  cases n with
  | zero => exact h.elim
  | succ n =>
    simp only [Hd, Try.und56] at h
    obtain ⟨parts, e, hl, hp⟩ := h
    match parts, hl with
    | [p0, p1, p2, p3, p4], _ =>
      obtain ⟨r, c, rfl⟩ := given_law (hp 0 _ p0 rfl rfl)
      obtain ⟨a, fr, fe, tm, gr, rfl⟩ := given_tariff (hp 1 _ p1 rfl rfl)
      obtain ⟨u, rfl, cl, hc⟩ := given_ints (hp 2 _ p2 rfl rfl)
      obtain ⟨st, rfl⟩ := given_int (hp 3 _ p3 rfl rfl)
      obtain ⟨sm, rfl⟩ := given_int (hp 4 _ p4 rfl rfl)
      refine ⟨⟨r, c, a, fr, fe, tm, gr, st, sm⟩, u, cl, ?_, hc⟩
      rw [show cs = cs.toList.toArray from rfl, e]; rfl
theorem given_num {w : AW} {n : Nat} {v : Value} (h : HdV Try.prog w n 3 v) : ∃ x : Int, v = .int .i64 x := by
  simp only [HdV, Try.und3] at h
  obtain ⟨x, e⟩ := given_int h
  injection e with e
  exact ⟨x, e⟩
theorem Try.und68 : Try.prog.underlying 68 = some (.slice 79) := by kernel_rfl
theorem Try.und79 : Try.prog.underlying 79 = some (.struct #[{ name := "Day", type := 3, offset := 0, embedded := false, tag := "", pkgPath := "", byteOffset := 0 }, { name := "Kind", type := 3, offset := 1, embedded := false, tag := "", pkgPath := "", byteOffset := 8 }, { name := "N", type := 3, offset := 2, embedded := false, tag := "", pkgPath := "", byteOffset := 16 }]) := by kernel_rfl
theorem Try.cells79 : Try.prog.cellsOf 79 = 3 := by kernel_rfl
theorem given_act {w : AW} {n : Nat} {cs : List Value} (h : Hd Try.prog w n 79 cs) : ∃ a : ActN, cs = acells a := by
  cases n with
  | zero => exact h.elim
  | succ n =>
    simp only [Hd, Try.und79] at h
    obtain ⟨parts, rfl, hl, hp⟩ := h
    match parts, hl with
    | [p0, p1, p2], _ =>
      obtain ⟨x0, rfl⟩ := given_int (hp 0 _ p0 rfl rfl)
      obtain ⟨x1, rfl⟩ := given_int (hp 1 _ p1 rfl rfl)
      obtain ⟨x2, rfl⟩ := given_int (hp 2 _ p2 rfl rfl)
      exact ⟨⟨x0, x1, x2⟩, rfl⟩
theorem given_acts {w : AW} {n : Nat} {v : Value} (h : HdV Try.prog w n 68 v) : ∃ l : List ActN, ArrOf w 3 acells v l := by
  simp only [HdV, Try.und68] at h
  cases n with
  | zero => exact h.elim
  | succ n =>
    simp only [Hd, Try.und68, Try.cells79] at h
    obtain ⟨v', rows, e, ha, hr, hgv⟩ := h
    injection e with e
    subst e
    obtain ⟨xs, rfl⟩ := rows_of fun r hq => given_act (hr r hq)
    exact ⟨xs, ha⟩
theorem given_list {w : AW} {n : Nat} {v : Value} (h : HdV Try.prog w n 23 v) : ∃ l : List Int, ArrOf w 1 icells v l := by
  simp only [HdV, Try.und23] at h
  obtain ⟨v', e, xs, ha⟩ := given_ints h
  injection e with e
  subst e
  exact ⟨xs, ha⟩
theorem Try.und87 : Try.prog.underlying 87 = some (.array 2 3) := by kernel_rfl
theorem Try.und84 : Try.prog.underlying 84 = some (.array 4 3) := by kernel_rfl
theorem Try.und2 : Try.prog.underlying 2 = some (.int .i64) := by kernel_rfl
theorem given_two {w : AW} {n : Nat} {v : Value} (h : HdV Try.prog w n 87 v) : ∃ a b : Int, v = .agg #[.int .i64 a, .int .i64 b] := by
  simp only [HdV, Try.und87] at h
  obtain ⟨cs, rfl, h⟩ := h
  cases n with
  | zero => exact h.elim
  | succ n =>
    simp only [Hd, Try.und87] at h
    obtain ⟨parts, e, hl, hp⟩ := h
    match parts, hl with
    | [p0, p1], _ =>
      obtain ⟨x0, rfl⟩ := given_int (hp p0 (by simp))
      obtain ⟨x1, rfl⟩ := given_int (hp p1 (by simp))
      exact ⟨x0, x1, by rw [show cs = cs.toList.toArray from rfl, e]; rfl⟩
theorem given_four {w : AW} {n : Nat} {v : Value} (h : HdV Try.prog w n 84 v) : ∃ a b c e : Int, v = .agg #[.int .i64 a, .int .i64 b, .int .i64 c, .int .i64 e] := by
  simp only [HdV, Try.und84] at h
  obtain ⟨cs, rfl, h⟩ := h
  cases n with
  | zero => exact h.elim
  | succ n =>
    simp only [Hd, Try.und84] at h
    obtain ⟨parts, e, hl, hp⟩ := h
    match parts, hl with
    | [p0, p1, p2, p3], _ =>
      obtain ⟨x0, rfl⟩ := given_int (hp p0 (by simp))
      obtain ⟨x1, rfl⟩ := given_int (hp p1 (by simp))
      obtain ⟨x2, rfl⟩ := given_int (hp p2 (by simp))
      obtain ⟨x3, rfl⟩ := given_int (hp p3 (by simp))
      exact ⟨x0, x1, x2, x3, by rw [show cs = cs.toList.toArray from rfl, e]; rfl⟩
theorem Try.ia87 (t : Tmps) (w : AW) (x y : Operand) : fast (prg Try.prog) t w (.indexAddr 87 x y) = indexA 1 2 (ev t x) (ev t y) := fast_indexAddrA Try.ty87 Try.ty3
theorem Try.ia84 (t : Tmps) (w : AW) (x y : Operand) : fast (prg Try.prog) t w (.indexAddr 84 x y) = indexA 1 4 (ev t x) (ev t y) := fast_indexAddrA Try.ty84 Try.ty3
theorem ix2_0 (b o : Nat) : indexA 1 2 (.pointer (some ⟨b, o, none⟩)) (.int .i64 0) = some (.pointer (some ⟨b, o, none⟩)) := indexA_eq (i := 0) (by decide)
theorem ix2_1 (b o : Nat) : indexA 1 2 (.pointer (some ⟨b, o, none⟩)) (.int .i64 1) = some (.pointer (some ⟨b, o + 1, none⟩)) := indexA_eq (i := 1) (by decide)
theorem ix4_0 (b o : Nat) : indexA 1 4 (.pointer (some ⟨b, o, none⟩)) (.int .i64 0) = some (.pointer (some ⟨b, o, none⟩)) := indexA_eq (i := 0) (by decide)
theorem ix4_1 (b o : Nat) : indexA 1 4 (.pointer (some ⟨b, o, none⟩)) (.int .i64 1) = some (.pointer (some ⟨b, o + 1, none⟩)) := indexA_eq (i := 1) (by decide)
theorem ix4_2 (b o : Nat) : indexA 1 4 (.pointer (some ⟨b, o, none⟩)) (.int .i64 2) = some (.pointer (some ⟨b, o + 2, none⟩)) := indexA_eq (i := 2) (by decide)
theorem ix4_3 (b o : Nat) : indexA 1 4 (.pointer (some ⟨b, o, none⟩)) (.int .i64 3) = some (.pointer (some ⟨b, o + 3, none⟩)) := indexA_eq (i := 3) (by decide)
attribute [go_sem] Try.ia87 Try.ia84 ix2_0 ix2_1 ix4_0 ix4_1 ix4_2 ix4_3
theorem bsQ_13 {e : TypeId} {z0 z1 z2 : Value} (a b c : Int) : bsQ e 1 3 [z0, z1, z2] [(0, .agg #[.int .i64 a, .int .i64 b, .int .i64 c])] = some ([.int .i64 a, .int .i64 b, .int .i64 c], e, fun n => .slice (some ⟨n, 0, none⟩) 1 1) := by
  simp [bsQ, Instr.fill, Value.cells]
theorem Try.bs68 (t : Tmps) (l : List (Nat × Operand)) : makes (prg Try.prog) t (.buildSlice 68 1 ⟨l⟩) = bsQ 79 1 3 [.int .i64 0, .int .i64 0, .int .i64 0] (l.map fun p => (p.1, ev t p.2)) := makes_bs Try.ty68 Try.ty79 rfl (by kernel_rfl)
theorem bld79 (a b c : Int) : bldQ [(0, 1), (1, 1), (2, 1)] [.int .i64 0, .int .i64 0, .int .i64 0] [(0, .int .i64 a), (1, .int .i64 b), (2, .int .i64 c)] = some (.agg #[.int .i64 a, .int .i64 b, .int .i64 c]) := by kernel_rfl
theorem bld79b (a b : Int) : bldQ [(0, 1), (1, 1), (2, 1)] [.int .i64 0, .int .i64 0, .int .i64 0] [(0, .int .i64 a), (1, .int .i64 b)] = some (.agg #[.int .i64 a, .int .i64 b, .int .i64 0]) := by kernel_rfl
attribute [go_sem] bsQ_13 Try.bs68 bld79 bld79b
/-- One act, in a new block. -/
theorem one_act {w : AW} (f : Fresh w) (D K N : Int) : ArrOf (w.push (.cells [.int .i64 D, .int .i64 K, .int .i64 N] 79 w.next 0 0)) 3 acells (.slice (some ⟨w.next, 0, none⟩) 1 1) [⟨D, K, N⟩] := by
  have hO := Own.new f 79 [.int .i64 D, .int .i64 K, .int .i64 N]
  refine ⟨_, _, _, rfl, rfl, by simp, by omega, fun _ => ⟨w.next, 0, rfl, by rw [AW.next_push]; omega, fun i j r x hi hx => ?_⟩⟩
  cases i with
  | zero =>
    simp only [List.map_cons, List.map_nil, List.getElem?_cons_zero, Option.some.injEq] at hi
    subst hi
    simp only [acells] at hx
    rw [Nat.zero_mul, Nat.zero_add]
    try rw [Nat.zero_add]
    refine hO.cell hx ?_
    have := List.mem_of_getElem? hx
    simp at this
    rcases this with h | h | h <;> subst h <;> rfl
  | succ i => simp at hi
theorem Ring_ok (n many : Int) (h1 : 1 ≤ many) (h2 : many ≤ 4611686018427387000) (w : AW) : CallT Try.prog Try.T1 (.fn (.func 33) #[]) #[.int .i64 n, .int .i64 many] w (fun r w' => ∃ k : Int, r = .int .i64 k ∧ 0 ≤ k ∧ k < many ∧ w = w') := by
  have a1 : n.tmod many < many := Int.tmod_lt_of_pos n (by omega)
  have a2 : -many < n.tmod many := by
    have := Int.tmod_lt_of_pos (-n) (show 0 < many by omega)
    rw [Int.neg_tmod] at this; omega
  have a3 : 0 ≤ (n.tmod many + many).tmod many := Int.tmod_nonneg _ (by omega)
  have a4 : (n.tmod many + many).tmod many < many := Int.tmod_lt_of_pos _ (by omega)
  have h0 : ¬ many ≤ 0 := by omega
  have hn0 : ¬ many = 0 := by omega
  refine callT_code rfl Try.func33 rfl Try.s33_eq rfl ?_
  unfold Try.s33
  simp -dsimp -implicitDefEqProofs (maxSteps := 2000000) (disch := first | assumption | omega | (simp only [AW.next_push, AW.next_put]; omega) | ((repeat refine Fresh.push ?_ _); assumption) | (simp only [same_int, same_bool, same_ptr, same_slice, same_sliceP, same_nil, same_agg2, same_string]; done) | (simp [oneCell, AW.next_push]; done) | fail) only [go_sem, Nat.reduceEqDiff, reduceIte, Nat.reduceAdd, Int.toNat_natCast, Nat.add_zero, Owes_true, Try.results33, h0, hn0]
  exact ⟨_, rfl, a3, a4, trivial⟩
end Go.Proofs

/- Renewals as seldom as may be: late or not, day by day. -/
namespace Go.Proofs
open Go Go.RowKit Go.Sim
set_option maxRecDepth 100000
theorem odTo_clC (c : Nat → Int) (a b : Int) : ∀ n : Nat, odTo c a b n = max 0 (b - a) - clC c a b n
  | 0 => by simp [odTo, clC]
  | n + 1 => by
    rw [odTo, clC, odTo_clC c a b n]
    split <;> omega
theorem clC_self (c : Nat → Int) (a : Int) : ∀ n : Nat, clC c a a n = 0
  | 0 => rfl
  | n + 1 => by rw [clC, clC_self c a n, if_neg (by omega)]; rfl
theorem memC {cl : List Int} {x : Int} : x ∈ cl ↔ Mem (cAt cl) cl.length x := by
  constructor
  · intro h
    obtain ⟨k, hk, e⟩ := List.getElem_of_mem h
    exact ⟨k, hk, by rw [cAt, getD_at hk]; exact e⟩
  · rintro ⟨k, hk, e⟩
    rw [cAt, getD_at hk] at e
    rw [← e]; exact List.getElem_mem hk
/-- One day more. -/
theorem oD_day {d : DealN} {cl : List Int} (hd : dealB d cl = true) (a : Int) : oD cl a (a + 1) = if a + 1 ∈ cl then 0 else 1 := by
  have hv := valid_of hd
  have h1 := clC_step (a := a) (b := a) (Int.le_refl a) hv.inc
  rw [clC_self] at h1
  rw [oD, odTo_clC]
  by_cases q : a + 1 ∈ cl
  · rw [if_pos q, h1.1 (memC.1 q)]; omega
  · rw [if_neg q, h1.2 (fun z => q (memC.2 z))]; omega
theorem oD_mono {d : DealN} {cl : List Int} (hd : dealB d cl = true) {a b c : Int} (h : b ≤ c) : oD cl a b ≤ oD cl a c := by
  rcases Int.le_total a b with q | q
  · rw [oD_add cl q h]; have := oD_in hd b c; omega
  · rw [oD_flat cl q]; exact (oD_in hd a c).1
theorem oD_anti {d : DealN} {cl : List Int} (hd : dealB d cl = true) {a b c : Int} (h : a ≤ b) : oD cl b c ≤ oD cl a c := by
  rcases Int.le_total b c with q | q
  · rw [oD_add cl h q]; have := oD_in hd a b; omega
  · rw [oD_flat cl q]; exact (oD_in hd a c).1
theorem oD_last {d : DealN} {cl : List Int} (hd : dealB d cl = true) (a : Int) : oD cl a (lastZ d cl a) = d.tm + d.gr ∧ oD cl a (lastZ d cl a + 1) = d.tm + d.gr + 1 := by
  have hv := valid_of hd
  have h1 := last_facts (A := d.tm + d.gr) (a := a) (by have := hv.age; omega) hv.inc
  have h2 := lastZ_in hv a
  have h3 : lastTo (cAt cl) (d.tm + d.gr) a cl.length = lastZ d cl a := rfl
  rw [h3] at h1
  have h4 : oD cl a (lastZ d cl a) = d.tm + d.gr := by rw [oD, odTo_clC]; omega
  refine ⟨h4, ?_⟩
  rw [oD_add cl (show a ≤ lastZ d cl a by omega) (show lastZ d cl a ≤ lastZ d cl a + 1 by omega), h4, oD_day hd, if_neg (fun q => h1.2 (memC.1 q))]
/-- The day of the last renewal before day st + i. -/
def rsD (days : List Int) (st : Int) : Nat → Int
  | 0 => st
  | i + 1 => if st + i ∈ days then st + i else rsD days st i
theorem rsD_in (days : List Int) (st : Int) : ∀ i : Nat, st ≤ rsD days st i ∧ rsD days st i ≤ max st (st + i - 1) ∧ (rsD days st i = st ∨ rsD days st i ∈ days)
  | 0 => ⟨Int.le_refl _, by rw [rsD]; omega, .inl rfl⟩
  | i + 1 => by
    have := rsD_in days st i
    rw [rsD]
    split
    · rename_i q; exact ⟨by omega, by omega, .inr q⟩
    · exact ⟨this.1, by omega, this.2.2⟩
theorem rsD_up (days : List Int) (st : Int) : ∀ i : Nat, st + i - 1 < st ∨ rsD days st i ≤ st + i - 1
  | 0 => .inl (by omega)
  | i + 1 => by have := (rsD_in days st (i + 1)).2.1; exact .inr (by omega)
theorem itZ_step {d : DealN} {cl : List Int} (hv : Valid d cl) (k : Nat) : itZ d cl k + 1 ≤ itZ d cl (k + 1) := by
  have := lastZ_in hv (itZ d cl k); rw [itZ]; omega
theorem itZ_inj {d : DealN} {cl : List Int} (hv : Valid d cl) {j k : Nat} (h : j < k) : itZ d cl j + 1 ≤ itZ d cl k := by
  have h1 := itZ_step hv j
  have h2 := itZ_lt hv (j + 1) k h
  omega
theorem its_mem {d : DealN} {cl : List Int} {m : Nat} {x : Int} : x ∈ its d cl m ↔ ∃ j, j < m ∧ itZ d cl (j + 1) = x := by
  simp [its]
theorem rs_its {d : DealN} {cl : List Int} (hv : Valid d cl) (m : Nat) : ∀ i : Nat, ∃ k, k ≤ m ∧ rsD (its d cl m) d.st i = itZ d cl k ∧ itZ d cl k ≤ d.st + i ∧ (k = m ∨ d.st + i ≤ itZ d cl (k + 1))
  | 0 => ⟨0, by omega, by rw [rsD, itZ], by rw [itZ]; omega, .inr (by have := itZ_step hv 0; rw [itZ] at this; omega)⟩
  | i + 1 => by
    obtain ⟨k, h1, h2, h3, h4⟩ := rs_its hv m i
    rw [rsD]
    by_cases q : d.st + (i : Int) ∈ its d cl m
    · rw [if_pos q]
      obtain ⟨j, hj, e⟩ := its_mem.1 q
      have hjk : j + 1 = k ∨ j + 1 = k + 1 := by
        rcases Nat.lt_or_ge (j + 1) k with z | z
        · have := itZ_inj hv z; omega
        · rcases Nat.lt_or_ge (k + 1) (j + 1) with y | y
          · have := itZ_inj hv y; omega
          · omega
      refine ⟨j + 1, by omega, e.symm, by omega, .inr ?_⟩
      have := itZ_step hv (j + 1); omega
    · rw [if_neg q]
      refine ⟨k, h1, h2, by omega, ?_⟩
      rcases h4 with e | e
      · exact .inl e
      · by_cases z : k = m
        · exact .inl z
        · right
          have : itZ d cl (k + 1) ≠ d.st + i := fun y => q (its_mem.2 ⟨k, by omega, y⟩)
          omega
/-- With the renewals of Keep a loan is never late. -/
theorem keep_good {d : DealN} {cl : List Int} (hd : dealB d cl = true) {m : Nat} {un : Int} (hun : un ≤ itZ d cl (m + 1)) (i : Nat) (hi : d.st + i ≤ un) : oD cl (rsD (its d cl m) d.st i) (d.st + i) ≤ d.tm + d.gr := by
  have hv := valid_of hd
  obtain ⟨k, h1, h2, h3, h4⟩ := rs_its hv m i
  rw [h2]
  have h5 : d.st + (i : Int) ≤ itZ d cl (k + 1) := by
    rcases h4 with e | e
    · rw [e]; omega
    · exact e
  have h6 := oD_mono (a := itZ d cl k) hd h5
  have h7 := (oD_last hd (itZ d cl k)).1
  have h8 : lastZ d cl (itZ d cl k) = itZ d cl (k + 1) := by rw [itZ]
  rw [h8] at h7; omega
theorem countP_lt {l : List Int} {a b : Int} (hab : a ≤ b) {x : Int} (hx : x ∈ l) (h1 : a < x) (h2 : x ≤ b) : l.countP (fun y => decide (y ≤ a)) + 1 ≤ l.countP (fun y => decide (y ≤ b)) := by
  induction l with
  | nil => simp at hx
  | cons y l ih =>
    have hmono : l.countP (fun y => decide (y ≤ a)) ≤ l.countP (fun y => decide (y ≤ b)) := by
      apply List.countP_mono_left
      intro z _ hz
      simp only [decide_eq_true_eq] at hz ⊢; omega
    rw [List.countP_cons, List.countP_cons]
    rcases List.mem_cons.mp hx with e | e
    · subst e
      have p1 : decide (x ≤ a) = false := decide_eq_false (by omega)
      have p2 : decide (x ≤ b) = true := decide_eq_true h2
      simp only [p1, p2]
      simp; omega
    · have := ih e
      by_cases q : y ≤ a
      · have p1 : decide (y ≤ a) = true := decide_eq_true q
        have p2 : decide (y ≤ b) = true := decide_eq_true (by omega)
        simp only [p1, p2]; simp; omega
      · have p1 : decide (y ≤ a) = false := decide_eq_false q
        by_cases z : y ≤ b
        · have p2 : decide (y ≤ b) = true := decide_eq_true z
          simp only [p1, p2]; simp; omega
        · have p2 : decide (y ≤ b) = false := decide_eq_false z
          simp only [p1, p2]; simp; omega
/-- With fewer renewals it is late. -/
theorem few_late {d : DealN} {cl : List Int} (hd : dealB d cl = true) {un : Int} {other : List Int} (hgood : ∀ i : Nat, d.st + i ≤ un → oD cl (rsD other d.st i) (d.st + i) ≤ d.tm + d.gr) :
    ∀ j : Nat, itZ d cl j < un → j ≤ other.countP (fun y => decide (y ≤ itZ d cl j))
  | 0, _ => by omega
  | j + 1, h => by
    have hv := valid_of hd
    have hs := itZ_step hv j
    have ih := few_late hd hgood j (by omega)
    have hge := itZ_ge hv (j + 1)
    obtain ⟨i, hi⟩ : ∃ i : Nat, d.st + (i : Int) = itZ d cl (j + 1) + 1 := ⟨(itZ d cl (j + 1) + 1 - d.st).toNat, by omega⟩
    have h1 := hgood i (by omega)
    rw [hi] at h1
    have h2 := (oD_last hd (itZ d cl j)).2
    have h8 : lastZ d cl (itZ d cl j) = itZ d cl (j + 1) := by rw [itZ]
    rw [h8] at h2
    obtain ⟨r1, r2, r3⟩ := rsD_in other d.st i
    have h3 : itZ d cl j < rsD other d.st i := by
      rcases Int.lt_or_le (itZ d cl j) (rsD other d.st i) with q | q
      · exact q
      · have := oD_anti (c := itZ d cl (j + 1) + 1) hd q; omega
    have h4 : rsD other d.st i ∈ other := by
      rcases r3 with e | e
      · have := itZ_ge hv j; omega
      · exact e
    have := countP_lt (show itZ d cl j ≤ itZ d cl (j + 1) by omega) h4 h3 (by omega)
    omega
theorem few_len {d : DealN} {cl : List Int} (hd : dealB d cl = true) {un : Int} {other : List Int} (hgood : ∀ i : Nat, d.st + i ≤ un → oD cl (rsD other d.st i) (d.st + i) ≤ d.tm + d.gr) {j : Nat} (hj : itZ d cl j < un) : j ≤ other.length :=
  Nat.le_trans (few_late hd hgood j hj) List.countP_le_length
/- The run of Keep's renewals. -/
def rAct (x : Int) : ActN := ⟨x, 2, 0⟩
theorem lastD_app : ∀ (l : List ActN) (a : ActN) (day : Int), lastD day (l ++ [a]) = a.D
  | [], a, day => rfl
  | b :: l, a, day => by rw [List.cons_append, lastD]; exact lastD_app l a b.D
theorem keep_go {d : DealN} {cl : List Int} (hd : dealB d cl = true) : ∀ m : Nat, (∀ j, j < m → itZ d cl (j + 1) ≤ 36500) →
    actsTo d.st ((its d cl m).map rAct) = true ∧ lastD d.st ((its d cl m).map rAct) = itZ d cl m ∧ (goL d cl (beginL d) ((its d cl m).map rAct)).2.2 = 0 ∧
    (goL d cl (beginL d) ((its d cl m).map rAct)).1.op = true ∧ (goL d cl (beginL d) ((its d cl m).map rAct)).1.he = d.st ∧ (goL d cl (beginL d) ((its d cl m).map rAct)).1.dy = itZ d cl m ∧ (goL d cl (beginL d) ((its d cl m).map rAct)).1.A = 0
  | 0, _ => ⟨rfl, rfl, rfl, rfl, rfl, rfl, rfl⟩
  | m + 1, hm => by
    obtain ⟨h1, h2, h3, h4, h5, h6, h7⟩ := keep_go hd m fun j hj => hm j (by omega)
    have hv := valid_of hd
    have hs := itZ_step hv m
    have hge := itZ_ge hv m
    have hle := hm m (by omega)
    have e : (its d cl (m + 1)).map rAct = (its d cl m).map rAct ++ [rAct (itZ d cl (m + 1))] := by rw [its_succ]; simp
    rw [e]
    have hall : ∀ a ∈ (its d cl m).map rAct, a.K = 1 ∨ a.K = 2 ∨ a.K = 3 := by
      intro a ha
      obtain ⟨x, _, rfl⟩ := List.mem_map.mp ha
      exact .inr (.inl rfl)
    rw [actsTo_cut hall (by simp), h1, h2, lastD_app, go_app _ _ _ h3]
    generalize (goL d cl (beginL d) ((its d cl m).map rAct)).1 = x at *
    have hk : passN cl x (itZ d cl (m + 1)) = d.tm + d.gr := by
      unfold passN
      rw [h6, h5, show max (itZ d cl m) d.st = itZ d cl m by omega]
      have := (oD_last hd (itZ d cl m)).1
      rw [itZ]; exact this
    have hA : (passL d cl x (itZ d cl (m + 1))).A = d.tm + d.gr := by
      unfold passL; rw [h4]; show x.A + passN cl x _ = _; rw [hk, h7]; omega
    have hact : actE d (passL d cl x (itZ d cl (m + 1))) (rAct (itZ d cl (m + 1))) = 0 := by
      unfold actE; rw [hA, if_neg (by omega)]; rfl
    have hgo : goL d cl x [rAct (itZ d cl (m + 1))] = (renewL d (passL d cl x (itZ d cl (m + 1))), [renewL d (passL d cl x (itZ d cl (m + 1)))], 0) := by
      rw [goL_ok (a := rAct (itZ d cl (m + 1))) (l := []) hact]; rfl
    rw [hgo]
    have hin : inR (itZ d cl m) (itZ d cl (m + 1)) 36500 = true := (inR_iff _ _ _).2 ⟨by omega, hle⟩
    refine ⟨?_, rfl, rfl, ?_, ?_, ?_, rfl⟩
    · show (true && (inR (itZ d cl m) (itZ d cl (m + 1)) 36500 && fitB (rAct (itZ d cl (m + 1))) true && true)) = true
      rw [hin]; rfl
    · show (passL d cl x (itZ d cl (m + 1))).op = true
      unfold passL; rw [h4]
    · show (passL d cl x (itZ d cl (m + 1))).he = d.st
      unfold passL; rw [h4]; exact h5
    · show (passL d cl x (itZ d cl (m + 1))).dy = _
      exact pass_day
theorem keep_owe {d : DealN} {cl : List Int} (hd : dealB d cl = true) {m : Nat} {un : Int} (hm : m ≤ 32) (h1 : ∀ j, j < m → itZ d cl (j + 1) < un) (h2 : un ≤ itZ d cl (m + 1)) (h3 : d.st ≤ un) (h4 : un ≤ 36500) :
    oweE d cl ((its d cl m).map rAct) un = 0 ∧ (oweX d cl ((its d cl m).map rAct) un).A ≤ d.tm + d.gr := by
  obtain ⟨q1, q2, q3, q4, q5, q6, q7⟩ := keep_go hd m fun j hj => by have := h1 j hj; omega
  have hv := valid_of hd
  have hge := itZ_ge hv m
  have hdy : itZ d cl m ≤ un := by
    cases m with
    | zero => rw [itZ]; exact h3
    | succ m => have := h1 m (by omega); omega
  refine ⟨owe_ran.2 ⟨hd, by rw [List.length_map, its_len]; exact hm, q1, q3, by rw [q6]; exact hdy, h4⟩, ?_⟩
  unfold oweX
  generalize (goL d cl (beginL d) ((its d cl m).map rAct)).1 = x at *
  unfold passL
  rw [q4]
  show x.A + passN cl x un ≤ _
  unfold passN
  rw [q5, q6, q7, show max (itZ d cl m) d.st = itZ d cl m by omega]
  have := oD_mono (a := itZ d cl m) hd h2
  have h7 := (oD_last hd (itZ d cl m)).1
  have h8 : lastZ d cl (itZ d cl m) = itZ d cl (m + 1) := by rw [itZ]
  rw [h8] at h7; omega
end Go.Proofs

/- Loans: the law of the fewest renewals. -/
namespace Go.Proofs
open Go Go.RowKit Go.Sim
set_option maxRecDepth 100000
set_option maxHeartbeats 2000000 in
theorem tardy_ok (d : DealN) (cl other : List Int) (un : Int) (v u : Value) (w : AW) (f : Fresh w) (hs : ArrOf w 1 icells v cl) (ht : ArrOf w 1 icells u other) (hd : dealB d cl = true) (h1 : d.st ≤ un) (h2 : un ≤ 36500) :
    CallT Try.prog Try.T1 (.fn (.func 42) #[]) #[.agg #[.int .i64 d.r, .int .i64 d.c, .int .i64 d.a, .int .i64 d.fr, .int .i64 d.fe, .int .i64 d.tm, .int .i64 d.gr, v, .int .i64 d.st, .int .i64 d.sm], .int .i64 un, u] w (fun r w' => ∃ T, r = .bool T ∧ Grown w w' ∧ (T = false → ∀ i : Nat, d.st + i ≤ un → oD cl (rsD other d.st i) (d.st + i) ≤ d.tm + d.gr) ∧ (T = true → ∃ i : Nat, d.st + i ≤ un ∧ d.tm + d.gr < oD cl (rsD other d.st i) (d.st + i))) := by
  obtain ⟨p, cap, rfl, _⟩ := id hs.open
  obtain ⟨q, cap2, rfl, _⟩ := id ht.open
  have hi := (dealB_in hd).1
  have htm := hi.tm; have hgr := hi.gr; have hst := hi.st
  have g := (Grown.refl f).push (.cells [.int .i64 d.r, .int .i64 d.c, .int .i64 d.a, .int .i64 d.fr, .int .i64 d.fe, .int .i64 d.tm, .int .i64 d.gr, (.slice p cl.length cap), .int .i64 d.st, .int .i64 d.sm] 56 w.next 0 0)
  have hO := Own.new f 56 [.int .i64 d.r, .int .i64 d.c, .int .i64 d.a, .int .i64 d.fr, .int .i64 d.fe, .int .i64 d.tm, .int .i64 d.gr, (.slice p cl.length cap), .int .i64 d.st, .int .i64 d.sm]
  have c0 := (hO).cell (o := 0) rfl rfl
  have c1 := (hO).cell (o := 1) rfl rfl
  have c2 := (hO).cell (o := 2) rfl rfl
  have c3 := (hO).cell (o := 3) rfl rfl
  have c4 := (hO).cell (o := 4) rfl rfl
  have c5 := (hO).cell (o := 5) rfl rfl
  have c6 := (hO).cell (o := 6) rfl rfl
  have c7 := (hO).cell (o := 7) rfl rfl
  have c8 := (hO).cell (o := 8) rfl rfl
  have c9 := (hO).cell (o := 9) rfl rfl
  have z1 : oD cl (rsD other d.st 0) (d.st + ((0 : Nat) : Int) - 1) = 0 := oD_flat cl (by rw [rsD]; omega)
  have z3 : oD cl (rsD other d.st 0) (d.st - 1) = 0 := oD_flat cl (by rw [rsD]; omega)
  have z2 : d.st + ((0 : Nat) : Int) = d.st := by omega
  refine callT_code rfl Try.func42 rfl Try.s42_eq rfl ?_
  unfold Try.s42
  simp -dsimp -implicitDefEqProofs (maxSteps := 2000000) (disch := first | assumption | omega | (simp only [AW.next_push, AW.next_put]; omega) | ((repeat refine Fresh.push ?_ _); assumption) | (simp only [same_int, same_bool, same_ptr, same_slice, same_sliceP, same_nil, same_agg2, same_string]; done) | (simp [oneCell, AW.next_push]; done) | fail) only [go_sem, Nat.reduceEqDiff, reduceIte, Nat.reduceAdd, Int.toNat_natCast, Nat.add_zero, Owes_true, Try.results42, Nat.zero_add, c8]
  refine loopR (fun k t ds w2 => ∃ i : Nat, i ≤ (un - d.st + 1).toNat ∧ k = (un - d.st + 1).toNat - i ∧ ds = [] ∧ ev t (.tmp 1) = .int .i64 un ∧ ev t (.tmp 2) = .slice q other.length cap2 ∧ ev t (.tmp 3) = .pointer (some ⟨w.next, 0, none⟩) ∧ ev t (.tmp 7) = .int .i64 (oD cl (rsD other d.st i) (d.st + (i : Int) - 1)) ∧ ev t (.tmp 8) = .int .i64 (d.st + (i : Int)) ∧ Own w2 w.next 56 [.int .i64 d.r, .int .i64 d.c, .int .i64 d.a, .int .i64 d.fr, .int .i64 d.fe, .int .i64 d.tm, .int .i64 d.gr, (.slice p cl.length cap), .int .i64 d.st, .int .i64 d.sm] ∧ Grown w w2 ∧ (∀ j : Nat, j < i → oD cl (rsD other d.st j) (d.st + j) ≤ d.tm + d.gr)) ((un - d.st + 1).toNat) ?_ ?_
  · refine ⟨0, by omega, by omega, rfl, ?_, ?_, ?_, ?_, ?_, hO, g, fun j hj => by omega⟩ <;> simp -dsimp -implicitDefEqProofs (maxSteps := 2000000) (disch := first | assumption | omega | (simp only [AW.next_push, AW.next_put]; omega) | ((repeat refine Fresh.push ?_ _); assumption) | (simp only [same_int, same_bool, same_ptr, same_slice, same_sliceP, same_nil, same_agg2, same_string]; done) | (simp [oneCell, AW.next_push]; done) | fail) only [go_sem, Nat.reduceEqDiff, reduceIte, Nat.reduceAdd, Int.toNat_natCast, Nat.add_zero, Owes_true, z1, z2, z3] <;> rfl
  rintro k t ds w2 ⟨i, hii, rfl, rfl, e1, e2, e3, e7, e8, hO2, g2, hno⟩
  have hup := rsD_in other d.st i
  by_cases hlt : d.st + (i : Int) ≤ un
  case neg =>
    simp -dsimp -implicitDefEqProofs (maxSteps := 2000000) (disch := first | assumption | omega | (simp only [AW.next_push, AW.next_put]; omega) | ((repeat refine Fresh.push ?_ _); assumption) | (simp only [same_int, same_bool, same_ptr, same_slice, same_sliceP, same_nil, same_agg2, same_string]; done) | (simp [oneCell, AW.next_push]; done) | fail) only [go_sem, Nat.reduceEqDiff, reduceIte, Nat.reduceAdd, Int.toNat_natCast, Nat.add_zero, Owes_true, Try.results42, e1, e2, e3, e7, e8, hlt]
    exact ⟨_, rfl, g2, fun _ j hj => hno j (by omega), (fun h => by cases h)⟩
  have c0 := (hO2).cell (o := 0) rfl rfl
  have c1 := (hO2).cell (o := 1) rfl rfl
  have c2 := (hO2).cell (o := 2) rfl rfl
  have c3 := (hO2).cell (o := 3) rfl rfl
  have c4 := (hO2).cell (o := 4) rfl rfl
  have c5 := (hO2).cell (o := 5) rfl rfl
  have c6 := (hO2).cell (o := 6) rfl rfl
  have c7 := (hO2).cell (o := 7) rfl rfl
  have c8 := (hO2).cell (o := 8) rfl rfl
  have c9 := (hO2).cell (o := 9) rfl rfl
  have hb0 := oD_in hd (rsD other d.st i) (d.st + (i : Int) - 1)
  have hb1 := oD_in hd (rsD other d.st i) (d.st + (i : Int))
  have hn1 : d.st + ((i + 1 : Nat) : Int) - 1 = d.st + (i : Int) := by omega
  have hn2 : d.st + (i : Int) + 1 = d.st + ((i + 1 : Nat) : Int) := by omega
  have hrs : rsD other d.st (i + 1) = if d.st + (i : Int) ∈ other then d.st + (i : Int) else rsD other d.st i := by rw [rsD]
  have hself : oD cl (d.st + (i : Int)) (d.st + (i : Int)) = 0 := oD_flat cl (Int.le_refl _)
  by_cases hi0 : i = 0
  · have hgt : ¬ d.st < d.st + (i : Int) := by omega
    have hage0 : oD cl (rsD other d.st i) (d.st + (i : Int) - 1) = 0 := oD_flat cl (by omega)
    have hage1 : oD cl (rsD other d.st i) (d.st + (i : Int)) = 0 := oD_flat cl (by omega)
    have hA : ¬ d.tm + d.gr < 0 := by omega
    simp -dsimp -implicitDefEqProofs (maxSteps := 2000000) (disch := first | assumption | omega | (simp only [AW.next_push, AW.next_put]; omega) | ((repeat refine Fresh.push ?_ _); assumption) | (simp only [same_int, same_bool, same_ptr, same_slice, same_sliceP, same_nil, same_agg2, same_string]; done) | (simp [oneCell, AW.next_push]; done) | fail) only [go_sem, Nat.reduceEqDiff, reduceIte, Nat.reduceAdd, Int.toNat_natCast, Nat.add_zero, Owes_true, Try.results42, Nat.zero_add, e1, e2, e3, e7, e8, hlt, hgt, hage0, c0, c1, c2, c3, c4, c5, c6, c7, c8, c9, hA]
    apply callV_of (e := rfl)
    · exact seek_ok other (d.st + (i : Int)) _ w2 (ht.grown g2)
    rintro _ _ ⟨n, rfl, hn, rfl⟩
    by_cases hm : d.st + (i : Int) ∈ other
    · rw [if_pos hm] at hrs
      rw [decide_eq_true hm] at hn
      have hge0 : decide (n ≥ 0) = true := hn
      have hage2 : oD cl (rsD other d.st (i + 1)) (d.st + ((i + 1 : Nat) : Int) - 1) = 0 := by rw [hrs, hn1]; exact hself
      have hn' : 0 ≤ n := of_decide_eq_true hn
      simp -dsimp -implicitDefEqProofs (maxSteps := 2000000) (disch := first | assumption | omega | (simp only [AW.next_push, AW.next_put]; omega) | ((repeat refine Fresh.push ?_ _); assumption) | (simp only [same_int, same_bool, same_ptr, same_slice, same_sliceP, same_nil, same_agg2, same_string]; done) | (simp [oneCell, AW.next_push]; done) | fail) only [go_sem, Nat.reduceEqDiff, reduceIte, Nat.reduceAdd, Int.toNat_natCast, Nat.add_zero, Owes_true, Try.results42, e1, e2, e3, e7, e8, hn', hge0]
      refine ⟨_, by omega, i + 1, by omega, rfl, rfl, by (simp -dsimp -implicitDefEqProofs (maxSteps := 2000000) (disch := first | assumption | omega | (simp only [AW.next_push, AW.next_put]; omega) | ((repeat refine Fresh.push ?_ _); assumption) | (simp only [same_int, same_bool, same_ptr, same_slice, same_sliceP, same_nil, same_agg2, same_string]; done) | (simp [oneCell, AW.next_push]; done) | fail) only [go_sem, Nat.reduceEqDiff, reduceIte, Nat.reduceAdd, Int.toNat_natCast, Nat.add_zero, Owes_true, e1, hn2, hage2, hage0]; try rfl), by (simp -dsimp -implicitDefEqProofs (maxSteps := 2000000) (disch := first | assumption | omega | (simp only [AW.next_push, AW.next_put]; omega) | ((repeat refine Fresh.push ?_ _); assumption) | (simp only [same_int, same_bool, same_ptr, same_slice, same_sliceP, same_nil, same_agg2, same_string]; done) | (simp [oneCell, AW.next_push]; done) | fail) only [go_sem, Nat.reduceEqDiff, reduceIte, Nat.reduceAdd, Int.toNat_natCast, Nat.add_zero, Owes_true, e2, hn2, hage2, hage0]; try rfl), by (simp -dsimp -implicitDefEqProofs (maxSteps := 2000000) (disch := first | assumption | omega | (simp only [AW.next_push, AW.next_put]; omega) | ((repeat refine Fresh.push ?_ _); assumption) | (simp only [same_int, same_bool, same_ptr, same_slice, same_sliceP, same_nil, same_agg2, same_string]; done) | (simp [oneCell, AW.next_push]; done) | fail) only [go_sem, Nat.reduceEqDiff, reduceIte, Nat.reduceAdd, Int.toNat_natCast, Nat.add_zero, Owes_true, e3, hn2, hage2, hage0]; try rfl), by (simp -dsimp -implicitDefEqProofs (maxSteps := 2000000) (disch := first | assumption | omega | (simp only [AW.next_push, AW.next_put]; omega) | ((repeat refine Fresh.push ?_ _); assumption) | (simp only [same_int, same_bool, same_ptr, same_slice, same_sliceP, same_nil, same_agg2, same_string]; done) | (simp [oneCell, AW.next_push]; done) | fail) only [go_sem, Nat.reduceEqDiff, reduceIte, Nat.reduceAdd, Int.toNat_natCast, Nat.add_zero, Owes_true, e7, hn2, hage2, hage0]; try rfl), by (simp -dsimp -implicitDefEqProofs (maxSteps := 2000000) (disch := first | assumption | omega | (simp only [AW.next_push, AW.next_put]; omega) | ((repeat refine Fresh.push ?_ _); assumption) | (simp only [same_int, same_bool, same_ptr, same_slice, same_sliceP, same_nil, same_agg2, same_string]; done) | (simp [oneCell, AW.next_push]; done) | fail) only [go_sem, Nat.reduceEqDiff, reduceIte, Nat.reduceAdd, Int.toNat_natCast, Nat.add_zero, Owes_true, e8, hn2, hage2, hage0]; try rfl), hO2, g2, fun j hj => by by_cases y : j = i; (rw [y, hage1]; omega); exact hno j (by omega)⟩
    · rw [if_neg hm] at hrs
      rw [decide_eq_false hm] at hn
      have hge0 : decide (n ≥ 0) = false := hn
      have hage2 : oD cl (rsD other d.st (i + 1)) (d.st + ((i + 1 : Nat) : Int) - 1) = 0 := by rw [hrs, hn1]; exact hage1
      have hn' : ¬ 0 ≤ n := of_decide_eq_false hn
      simp -dsimp -implicitDefEqProofs (maxSteps := 2000000) (disch := first | assumption | omega | (simp only [AW.next_push, AW.next_put]; omega) | ((repeat refine Fresh.push ?_ _); assumption) | (simp only [same_int, same_bool, same_ptr, same_slice, same_sliceP, same_nil, same_agg2, same_string]; done) | (simp [oneCell, AW.next_push]; done) | fail) only [go_sem, Nat.reduceEqDiff, reduceIte, Nat.reduceAdd, Int.toNat_natCast, Nat.add_zero, Owes_true, Try.results42, e1, e2, e3, e7, e8, hn', hge0]
      refine ⟨_, by omega, i + 1, by omega, rfl, rfl, by (simp -dsimp -implicitDefEqProofs (maxSteps := 2000000) (disch := first | assumption | omega | (simp only [AW.next_push, AW.next_put]; omega) | ((repeat refine Fresh.push ?_ _); assumption) | (simp only [same_int, same_bool, same_ptr, same_slice, same_sliceP, same_nil, same_agg2, same_string]; done) | (simp [oneCell, AW.next_push]; done) | fail) only [go_sem, Nat.reduceEqDiff, reduceIte, Nat.reduceAdd, Int.toNat_natCast, Nat.add_zero, Owes_true, e1, hn2, hage2, hage0]; try rfl), by (simp -dsimp -implicitDefEqProofs (maxSteps := 2000000) (disch := first | assumption | omega | (simp only [AW.next_push, AW.next_put]; omega) | ((repeat refine Fresh.push ?_ _); assumption) | (simp only [same_int, same_bool, same_ptr, same_slice, same_sliceP, same_nil, same_agg2, same_string]; done) | (simp [oneCell, AW.next_push]; done) | fail) only [go_sem, Nat.reduceEqDiff, reduceIte, Nat.reduceAdd, Int.toNat_natCast, Nat.add_zero, Owes_true, e2, hn2, hage2, hage0]; try rfl), by (simp -dsimp -implicitDefEqProofs (maxSteps := 2000000) (disch := first | assumption | omega | (simp only [AW.next_push, AW.next_put]; omega) | ((repeat refine Fresh.push ?_ _); assumption) | (simp only [same_int, same_bool, same_ptr, same_slice, same_sliceP, same_nil, same_agg2, same_string]; done) | (simp [oneCell, AW.next_push]; done) | fail) only [go_sem, Nat.reduceEqDiff, reduceIte, Nat.reduceAdd, Int.toNat_natCast, Nat.add_zero, Owes_true, e3, hn2, hage2, hage0]; try rfl), by (simp -dsimp -implicitDefEqProofs (maxSteps := 2000000) (disch := first | assumption | omega | (simp only [AW.next_push, AW.next_put]; omega) | ((repeat refine Fresh.push ?_ _); assumption) | (simp only [same_int, same_bool, same_ptr, same_slice, same_sliceP, same_nil, same_agg2, same_string]; done) | (simp [oneCell, AW.next_push]; done) | fail) only [go_sem, Nat.reduceEqDiff, reduceIte, Nat.reduceAdd, Int.toNat_natCast, Nat.add_zero, Owes_true, e7, hn2, hage2, hage0]; try rfl), by (simp -dsimp -implicitDefEqProofs (maxSteps := 2000000) (disch := first | assumption | omega | (simp only [AW.next_push, AW.next_put]; omega) | ((repeat refine Fresh.push ?_ _); assumption) | (simp only [same_int, same_bool, same_ptr, same_slice, same_sliceP, same_nil, same_agg2, same_string]; done) | (simp [oneCell, AW.next_push]; done) | fail) only [go_sem, Nat.reduceEqDiff, reduceIte, Nat.reduceAdd, Int.toNat_natCast, Nat.add_zero, Owes_true, e8, hn2, hage2, hage0]; try rfl), hO2, g2, fun j hj => by by_cases y : j = i; (rw [y, hage1]; omega); exact hno j (by omega)⟩
  have hgt : d.st < d.st + (i : Int) := by omega
  have hstep : oD cl (rsD other d.st i) (d.st + (i : Int)) = oD cl (rsD other d.st i) (d.st + (i : Int) - 1) + if d.st + (i : Int) ∈ cl then 0 else 1 := by
    rw [oD_add cl (show rsD other d.st i ≤ d.st + (i : Int) - 1 by omega) (show d.st + (i : Int) - 1 ≤ d.st + (i : Int) by omega)]
    have := oD_day hd (d.st + (i : Int) - 1)
    rw [show d.st + (i : Int) - 1 + 1 = d.st + (i : Int) by omega] at this
    rw [this]
  simp -dsimp -implicitDefEqProofs (maxSteps := 2000000) (disch := first | assumption | omega | (simp only [AW.next_push, AW.next_put]; omega) | ((repeat refine Fresh.push ?_ _); assumption) | (simp only [same_int, same_bool, same_ptr, same_slice, same_sliceP, same_nil, same_agg2, same_string]; done) | (simp [oneCell, AW.next_push]; done) | fail) only [go_sem, Nat.reduceEqDiff, reduceIte, Nat.reduceAdd, Int.toNat_natCast, Nat.add_zero, Owes_true, Try.results42, Nat.zero_add, e1, e2, e3, e7, e8, hlt, hgt, c7, c8]
  apply callV_of (e := rfl)
  · exact seek_ok cl (d.st + (i : Int)) _ w2 (hs.grown g2)
  rintro _ _ ⟨n, rfl, hn, rfl⟩
  by_cases hm : d.st + (i : Int) ∈ cl
  · rw [if_pos hm, Int.add_zero] at hstep
    rw [decide_eq_true hm] at hn
    have hn' : ¬ n < 0 := by have := of_decide_eq_true hn; omega
    rw [← hstep] at e7
    by_cases hl : d.tm + d.gr < oD cl (rsD other d.st i) (d.st + (i : Int))
    · simp -dsimp -implicitDefEqProofs (maxSteps := 2000000) (disch := first | assumption | omega | (simp only [AW.next_push, AW.next_put]; omega) | ((repeat refine Fresh.push ?_ _); assumption) | (simp only [same_int, same_bool, same_ptr, same_slice, same_sliceP, same_nil, same_agg2, same_string]; done) | (simp [oneCell, AW.next_push]; done) | fail) only [go_sem, Nat.reduceEqDiff, reduceIte, Nat.reduceAdd, Int.toNat_natCast, Nat.add_zero, Owes_true, Try.results42, Nat.zero_add, e1, e2, e3, e7, e8, hn', c0, c1, c2, c3, c4, c5, c6, c7, c8, c9, hl]
      exact ⟨_, rfl, g2, (fun h => by cases h), fun _ => ⟨i, hlt, hl⟩⟩
    simp -dsimp -implicitDefEqProofs (maxSteps := 2000000) (disch := first | assumption | omega | (simp only [AW.next_push, AW.next_put]; omega) | ((repeat refine Fresh.push ?_ _); assumption) | (simp only [same_int, same_bool, same_ptr, same_slice, same_sliceP, same_nil, same_agg2, same_string]; done) | (simp [oneCell, AW.next_push]; done) | fail) only [go_sem, Nat.reduceEqDiff, reduceIte, Nat.reduceAdd, Int.toNat_natCast, Nat.add_zero, Owes_true, Try.results42, Nat.zero_add, e1, e2, e3, e7, e8, hn', c0, c1, c2, c3, c4, c5, c6, c7, c8, c9, hl]
    apply callV_of (e := rfl)
    · exact seek_ok other (d.st + (i : Int)) _ w2 (ht.grown g2)
    rintro _ _ ⟨n2, rfl, hn2', rfl⟩
    by_cases hm2 : d.st + (i : Int) ∈ other
    · rw [if_pos hm2] at hrs
      rw [decide_eq_true hm2] at hn2'
      have hge0 : decide (n2 ≥ 0) = true := hn2'
      have hage2 : oD cl (rsD other d.st (i + 1)) (d.st + ((i + 1 : Nat) : Int) - 1) = 0 := by rw [hrs, hn1]; exact hself
      have hn3 : 0 ≤ n2 := of_decide_eq_true hn2'
      simp -dsimp -implicitDefEqProofs (maxSteps := 2000000) (disch := first | assumption | omega | (simp only [AW.next_push, AW.next_put]; omega) | ((repeat refine Fresh.push ?_ _); assumption) | (simp only [same_int, same_bool, same_ptr, same_slice, same_sliceP, same_nil, same_agg2, same_string]; done) | (simp [oneCell, AW.next_push]; done) | fail) only [go_sem, Nat.reduceEqDiff, reduceIte, Nat.reduceAdd, Int.toNat_natCast, Nat.add_zero, Owes_true, Try.results42, e1, e2, e3, e7, e8, hn3, hge0]
      refine ⟨_, by omega, i + 1, by omega, rfl, rfl, by (simp -dsimp -implicitDefEqProofs (maxSteps := 2000000) (disch := first | assumption | omega | (simp only [AW.next_push, AW.next_put]; omega) | ((repeat refine Fresh.push ?_ _); assumption) | (simp only [same_int, same_bool, same_ptr, same_slice, same_sliceP, same_nil, same_agg2, same_string]; done) | (simp [oneCell, AW.next_push]; done) | fail) only [go_sem, Nat.reduceEqDiff, reduceIte, Nat.reduceAdd, Int.toNat_natCast, Nat.add_zero, Owes_true, e1, hn2, hage2]; try rfl), by (simp -dsimp -implicitDefEqProofs (maxSteps := 2000000) (disch := first | assumption | omega | (simp only [AW.next_push, AW.next_put]; omega) | ((repeat refine Fresh.push ?_ _); assumption) | (simp only [same_int, same_bool, same_ptr, same_slice, same_sliceP, same_nil, same_agg2, same_string]; done) | (simp [oneCell, AW.next_push]; done) | fail) only [go_sem, Nat.reduceEqDiff, reduceIte, Nat.reduceAdd, Int.toNat_natCast, Nat.add_zero, Owes_true, e2, hn2, hage2]; try rfl), by (simp -dsimp -implicitDefEqProofs (maxSteps := 2000000) (disch := first | assumption | omega | (simp only [AW.next_push, AW.next_put]; omega) | ((repeat refine Fresh.push ?_ _); assumption) | (simp only [same_int, same_bool, same_ptr, same_slice, same_sliceP, same_nil, same_agg2, same_string]; done) | (simp [oneCell, AW.next_push]; done) | fail) only [go_sem, Nat.reduceEqDiff, reduceIte, Nat.reduceAdd, Int.toNat_natCast, Nat.add_zero, Owes_true, e3, hn2, hage2]; try rfl), by (simp -dsimp -implicitDefEqProofs (maxSteps := 2000000) (disch := first | assumption | omega | (simp only [AW.next_push, AW.next_put]; omega) | ((repeat refine Fresh.push ?_ _); assumption) | (simp only [same_int, same_bool, same_ptr, same_slice, same_sliceP, same_nil, same_agg2, same_string]; done) | (simp [oneCell, AW.next_push]; done) | fail) only [go_sem, Nat.reduceEqDiff, reduceIte, Nat.reduceAdd, Int.toNat_natCast, Nat.add_zero, Owes_true, e7, hn2, hage2]; try rfl), by (simp -dsimp -implicitDefEqProofs (maxSteps := 2000000) (disch := first | assumption | omega | (simp only [AW.next_push, AW.next_put]; omega) | ((repeat refine Fresh.push ?_ _); assumption) | (simp only [same_int, same_bool, same_ptr, same_slice, same_sliceP, same_nil, same_agg2, same_string]; done) | (simp [oneCell, AW.next_push]; done) | fail) only [go_sem, Nat.reduceEqDiff, reduceIte, Nat.reduceAdd, Int.toNat_natCast, Nat.add_zero, Owes_true, e8, hn2, hage2]; try rfl), hO2, g2, fun j hj => by by_cases y : j = i; (rw [y]; omega); exact hno j (by omega)⟩
    · rw [if_neg hm2] at hrs
      rw [decide_eq_false hm2] at hn2'
      have hge0 : decide (n2 ≥ 0) = false := hn2'
      have hage2 : oD cl (rsD other d.st (i + 1)) (d.st + ((i + 1 : Nat) : Int) - 1) = oD cl (rsD other d.st i) (d.st + (i : Int)) := by rw [hrs, hn1]
      have hn3 : ¬ 0 ≤ n2 := of_decide_eq_false hn2'
      simp -dsimp -implicitDefEqProofs (maxSteps := 2000000) (disch := first | assumption | omega | (simp only [AW.next_push, AW.next_put]; omega) | ((repeat refine Fresh.push ?_ _); assumption) | (simp only [same_int, same_bool, same_ptr, same_slice, same_sliceP, same_nil, same_agg2, same_string]; done) | (simp [oneCell, AW.next_push]; done) | fail) only [go_sem, Nat.reduceEqDiff, reduceIte, Nat.reduceAdd, Int.toNat_natCast, Nat.add_zero, Owes_true, Try.results42, e1, e2, e3, e7, e8, hn3, hge0]
      refine ⟨_, by omega, i + 1, by omega, rfl, rfl, by (simp -dsimp -implicitDefEqProofs (maxSteps := 2000000) (disch := first | assumption | omega | (simp only [AW.next_push, AW.next_put]; omega) | ((repeat refine Fresh.push ?_ _); assumption) | (simp only [same_int, same_bool, same_ptr, same_slice, same_sliceP, same_nil, same_agg2, same_string]; done) | (simp [oneCell, AW.next_push]; done) | fail) only [go_sem, Nat.reduceEqDiff, reduceIte, Nat.reduceAdd, Int.toNat_natCast, Nat.add_zero, Owes_true, e1, hn2, hage2]; try rfl), by (simp -dsimp -implicitDefEqProofs (maxSteps := 2000000) (disch := first | assumption | omega | (simp only [AW.next_push, AW.next_put]; omega) | ((repeat refine Fresh.push ?_ _); assumption) | (simp only [same_int, same_bool, same_ptr, same_slice, same_sliceP, same_nil, same_agg2, same_string]; done) | (simp [oneCell, AW.next_push]; done) | fail) only [go_sem, Nat.reduceEqDiff, reduceIte, Nat.reduceAdd, Int.toNat_natCast, Nat.add_zero, Owes_true, e2, hn2, hage2]; try rfl), by (simp -dsimp -implicitDefEqProofs (maxSteps := 2000000) (disch := first | assumption | omega | (simp only [AW.next_push, AW.next_put]; omega) | ((repeat refine Fresh.push ?_ _); assumption) | (simp only [same_int, same_bool, same_ptr, same_slice, same_sliceP, same_nil, same_agg2, same_string]; done) | (simp [oneCell, AW.next_push]; done) | fail) only [go_sem, Nat.reduceEqDiff, reduceIte, Nat.reduceAdd, Int.toNat_natCast, Nat.add_zero, Owes_true, e3, hn2, hage2]; try rfl), by (simp -dsimp -implicitDefEqProofs (maxSteps := 2000000) (disch := first | assumption | omega | (simp only [AW.next_push, AW.next_put]; omega) | ((repeat refine Fresh.push ?_ _); assumption) | (simp only [same_int, same_bool, same_ptr, same_slice, same_sliceP, same_nil, same_agg2, same_string]; done) | (simp [oneCell, AW.next_push]; done) | fail) only [go_sem, Nat.reduceEqDiff, reduceIte, Nat.reduceAdd, Int.toNat_natCast, Nat.add_zero, Owes_true, e7, hn2, hage2]; try rfl), by (simp -dsimp -implicitDefEqProofs (maxSteps := 2000000) (disch := first | assumption | omega | (simp only [AW.next_push, AW.next_put]; omega) | ((repeat refine Fresh.push ?_ _); assumption) | (simp only [same_int, same_bool, same_ptr, same_slice, same_sliceP, same_nil, same_agg2, same_string]; done) | (simp [oneCell, AW.next_push]; done) | fail) only [go_sem, Nat.reduceEqDiff, reduceIte, Nat.reduceAdd, Int.toNat_natCast, Nat.add_zero, Owes_true, e8, hn2, hage2]; try rfl), hO2, g2, fun j hj => by by_cases y : j = i; (rw [y]; omega); exact hno j (by omega)⟩
  · rw [if_neg hm] at hstep
    rw [decide_eq_false hm] at hn
    have hn' : n < 0 := by have := of_decide_eq_false hn; omega
    by_cases hl : d.tm + d.gr < oD cl (rsD other d.st i) (d.st + (i : Int))
    · have hl' : d.tm + d.gr < oD cl (rsD other d.st i) (d.st + (i : Int) - 1) + 1 := by rw [← hstep]; exact hl
      simp -dsimp -implicitDefEqProofs (maxSteps := 2000000) (disch := first | assumption | omega | (simp only [AW.next_push, AW.next_put]; omega) | ((repeat refine Fresh.push ?_ _); assumption) | (simp only [same_int, same_bool, same_ptr, same_slice, same_sliceP, same_nil, same_agg2, same_string]; done) | (simp [oneCell, AW.next_push]; done) | fail) only [go_sem, Nat.reduceEqDiff, reduceIte, Nat.reduceAdd, Int.toNat_natCast, Nat.add_zero, Owes_true, Try.results42, Nat.zero_add, e1, e2, e3, e7, e8, hn', c0, c1, c2, c3, c4, c5, c6, c7, c8, c9, hl']
      exact ⟨_, rfl, g2, (fun h => by cases h), fun _ => ⟨i, hlt, hl⟩⟩
    have hl' : ¬ d.tm + d.gr < oD cl (rsD other d.st i) (d.st + (i : Int) - 1) + 1 := by rw [← hstep]; exact hl
    simp -dsimp -implicitDefEqProofs (maxSteps := 2000000) (disch := first | assumption | omega | (simp only [AW.next_push, AW.next_put]; omega) | ((repeat refine Fresh.push ?_ _); assumption) | (simp only [same_int, same_bool, same_ptr, same_slice, same_sliceP, same_nil, same_agg2, same_string]; done) | (simp [oneCell, AW.next_push]; done) | fail) only [go_sem, Nat.reduceEqDiff, reduceIte, Nat.reduceAdd, Int.toNat_natCast, Nat.add_zero, Owes_true, Try.results42, Nat.zero_add, e1, e2, e3, e7, e8, hn', c0, c1, c2, c3, c4, c5, c6, c7, c8, c9, hl']
    apply callV_of (e := rfl)
    · exact seek_ok other (d.st + (i : Int)) _ w2 (ht.grown g2)
    rintro _ _ ⟨n2, rfl, hn2', rfl⟩
    by_cases hm2 : d.st + (i : Int) ∈ other
    · rw [if_pos hm2] at hrs
      rw [decide_eq_true hm2] at hn2'
      have hge0 : decide (n2 ≥ 0) = true := hn2'
      have hage2 : oD cl (rsD other d.st (i + 1)) (d.st + ((i + 1 : Nat) : Int) - 1) = 0 := by rw [hrs, hn1]; exact hself
      have hn3 : 0 ≤ n2 := of_decide_eq_true hn2'
      simp -dsimp -implicitDefEqProofs (maxSteps := 2000000) (disch := first | assumption | omega | (simp only [AW.next_push, AW.next_put]; omega) | ((repeat refine Fresh.push ?_ _); assumption) | (simp only [same_int, same_bool, same_ptr, same_slice, same_sliceP, same_nil, same_agg2, same_string]; done) | (simp [oneCell, AW.next_push]; done) | fail) only [go_sem, Nat.reduceEqDiff, reduceIte, Nat.reduceAdd, Int.toNat_natCast, Nat.add_zero, Owes_true, Try.results42, e1, e2, e3, e7, e8, hn3, hge0]
      refine ⟨_, by omega, i + 1, by omega, rfl, rfl, by (simp -dsimp -implicitDefEqProofs (maxSteps := 2000000) (disch := first | assumption | omega | (simp only [AW.next_push, AW.next_put]; omega) | ((repeat refine Fresh.push ?_ _); assumption) | (simp only [same_int, same_bool, same_ptr, same_slice, same_sliceP, same_nil, same_agg2, same_string]; done) | (simp [oneCell, AW.next_push]; done) | fail) only [go_sem, Nat.reduceEqDiff, reduceIte, Nat.reduceAdd, Int.toNat_natCast, Nat.add_zero, Owes_true, e1, hn2, hage2]; try rfl), by (simp -dsimp -implicitDefEqProofs (maxSteps := 2000000) (disch := first | assumption | omega | (simp only [AW.next_push, AW.next_put]; omega) | ((repeat refine Fresh.push ?_ _); assumption) | (simp only [same_int, same_bool, same_ptr, same_slice, same_sliceP, same_nil, same_agg2, same_string]; done) | (simp [oneCell, AW.next_push]; done) | fail) only [go_sem, Nat.reduceEqDiff, reduceIte, Nat.reduceAdd, Int.toNat_natCast, Nat.add_zero, Owes_true, e2, hn2, hage2]; try rfl), by (simp -dsimp -implicitDefEqProofs (maxSteps := 2000000) (disch := first | assumption | omega | (simp only [AW.next_push, AW.next_put]; omega) | ((repeat refine Fresh.push ?_ _); assumption) | (simp only [same_int, same_bool, same_ptr, same_slice, same_sliceP, same_nil, same_agg2, same_string]; done) | (simp [oneCell, AW.next_push]; done) | fail) only [go_sem, Nat.reduceEqDiff, reduceIte, Nat.reduceAdd, Int.toNat_natCast, Nat.add_zero, Owes_true, e3, hn2, hage2]; try rfl), by (simp -dsimp -implicitDefEqProofs (maxSteps := 2000000) (disch := first | assumption | omega | (simp only [AW.next_push, AW.next_put]; omega) | ((repeat refine Fresh.push ?_ _); assumption) | (simp only [same_int, same_bool, same_ptr, same_slice, same_sliceP, same_nil, same_agg2, same_string]; done) | (simp [oneCell, AW.next_push]; done) | fail) only [go_sem, Nat.reduceEqDiff, reduceIte, Nat.reduceAdd, Int.toNat_natCast, Nat.add_zero, Owes_true, e7, hn2, hage2]; try rfl), by (simp -dsimp -implicitDefEqProofs (maxSteps := 2000000) (disch := first | assumption | omega | (simp only [AW.next_push, AW.next_put]; omega) | ((repeat refine Fresh.push ?_ _); assumption) | (simp only [same_int, same_bool, same_ptr, same_slice, same_sliceP, same_nil, same_agg2, same_string]; done) | (simp [oneCell, AW.next_push]; done) | fail) only [go_sem, Nat.reduceEqDiff, reduceIte, Nat.reduceAdd, Int.toNat_natCast, Nat.add_zero, Owes_true, e8, hn2, hage2]; try rfl), hO2, g2, fun j hj => by by_cases y : j = i; (rw [y]; omega); exact hno j (by omega)⟩
    · rw [if_neg hm2] at hrs
      rw [decide_eq_false hm2] at hn2'
      have hge0 : decide (n2 ≥ 0) = false := hn2'
      have hage2 : oD cl (rsD other d.st (i + 1)) (d.st + ((i + 1 : Nat) : Int) - 1) = oD cl (rsD other d.st i) (d.st + (i : Int) - 1) + 1 := by rw [hrs, hn1, hstep]
      have hn3 : ¬ 0 ≤ n2 := of_decide_eq_false hn2'
      simp -dsimp -implicitDefEqProofs (maxSteps := 2000000) (disch := first | assumption | omega | (simp only [AW.next_push, AW.next_put]; omega) | ((repeat refine Fresh.push ?_ _); assumption) | (simp only [same_int, same_bool, same_ptr, same_slice, same_sliceP, same_nil, same_agg2, same_string]; done) | (simp [oneCell, AW.next_push]; done) | fail) only [go_sem, Nat.reduceEqDiff, reduceIte, Nat.reduceAdd, Int.toNat_natCast, Nat.add_zero, Owes_true, Try.results42, e1, e2, e3, e7, e8, hn3, hge0]
      refine ⟨_, by omega, i + 1, by omega, rfl, rfl, by (simp -dsimp -implicitDefEqProofs (maxSteps := 2000000) (disch := first | assumption | omega | (simp only [AW.next_push, AW.next_put]; omega) | ((repeat refine Fresh.push ?_ _); assumption) | (simp only [same_int, same_bool, same_ptr, same_slice, same_sliceP, same_nil, same_agg2, same_string]; done) | (simp [oneCell, AW.next_push]; done) | fail) only [go_sem, Nat.reduceEqDiff, reduceIte, Nat.reduceAdd, Int.toNat_natCast, Nat.add_zero, Owes_true, e1, hn2, hage2]; try rfl), by (simp -dsimp -implicitDefEqProofs (maxSteps := 2000000) (disch := first | assumption | omega | (simp only [AW.next_push, AW.next_put]; omega) | ((repeat refine Fresh.push ?_ _); assumption) | (simp only [same_int, same_bool, same_ptr, same_slice, same_sliceP, same_nil, same_agg2, same_string]; done) | (simp [oneCell, AW.next_push]; done) | fail) only [go_sem, Nat.reduceEqDiff, reduceIte, Nat.reduceAdd, Int.toNat_natCast, Nat.add_zero, Owes_true, e2, hn2, hage2]; try rfl), by (simp -dsimp -implicitDefEqProofs (maxSteps := 2000000) (disch := first | assumption | omega | (simp only [AW.next_push, AW.next_put]; omega) | ((repeat refine Fresh.push ?_ _); assumption) | (simp only [same_int, same_bool, same_ptr, same_slice, same_sliceP, same_nil, same_agg2, same_string]; done) | (simp [oneCell, AW.next_push]; done) | fail) only [go_sem, Nat.reduceEqDiff, reduceIte, Nat.reduceAdd, Int.toNat_natCast, Nat.add_zero, Owes_true, e3, hn2, hage2]; try rfl), by (simp -dsimp -implicitDefEqProofs (maxSteps := 2000000) (disch := first | assumption | omega | (simp only [AW.next_push, AW.next_put]; omega) | ((repeat refine Fresh.push ?_ _); assumption) | (simp only [same_int, same_bool, same_ptr, same_slice, same_sliceP, same_nil, same_agg2, same_string]; done) | (simp [oneCell, AW.next_push]; done) | fail) only [go_sem, Nat.reduceEqDiff, reduceIte, Nat.reduceAdd, Int.toNat_natCast, Nat.add_zero, Owes_true, e7, hn2, hage2]; try rfl), by (simp -dsimp -implicitDefEqProofs (maxSteps := 2000000) (disch := first | assumption | omega | (simp only [AW.next_push, AW.next_put]; omega) | ((repeat refine Fresh.push ?_ _); assumption) | (simp only [same_int, same_bool, same_ptr, same_slice, same_sliceP, same_nil, same_agg2, same_string]; done) | (simp [oneCell, AW.next_push]; done) | fail) only [go_sem, Nat.reduceEqDiff, reduceIte, Nat.reduceAdd, Int.toNat_natCast, Nat.add_zero, Owes_true, e8, hn2, hage2]; try rfl), hO2, g2, fun j hj => by by_cases y : j = i; (rw [y]; omega); exact hno j (by omega)⟩
end Go.Proofs

/- Loans: the law of the fewest renewals, on the machine. -/
namespace Go.Proofs
open Go Go.RowKit Go.Sim
set_option maxRecDepth 100000
theorem acells_len (a : ActN) : (acells a).length = 3 := rfl
theorem acells_one (a : ActN) : ∀ v ∈ acells a, oneCell v = true := by intro v hv; simp [acells] at hv; rcases hv with h | h | h <;> subst h <;> rfl
set_option maxHeartbeats 8000000 in
theorem fewest_law (w : AW) (xs : List Value) (f : Fresh w) (h : HdAll Try.prog w [56, 3, 23] xs) : CallT Try.prog Try.T1 (.fn (.func 12) #[]) xs.toArray w fun v _ => v = .bool true := by
  cases h with
  | cons n1 h1 h =>
  cases h with
  | cons n2 h2 h =>
  cases h with
  | cons n3 h3 h =>
  cases h
  obtain ⟨d, u, cl, rfl, hs⟩ := given_deal h1
  obtain ⟨un, rfl⟩ := given_num h2
  obtain ⟨other, ho⟩ := given_list h3
  rename_i uo
  clear h1 h2 h3
  show CallT Try.prog Try.T1 (.fn (.func 12) #[]) #[.agg #[.int .i64 d.r, .int .i64 d.c, .int .i64 d.a, .int .i64 d.fr, .int .i64 d.fe, .int .i64 d.tm, .int .i64 d.gr, u, .int .i64 d.st, .int .i64 d.sm], .int .i64 un, uo] w _
  obtain ⟨p, cap, rfl, _⟩ := id hs.open
  obtain ⟨q2, cap2, rfl, _⟩ := id ho.open
  have g := (Grown.refl f).push (.cells [.int .i64 d.r, .int .i64 d.c, .int .i64 d.a, .int .i64 d.fr, .int .i64 d.fe, .int .i64 d.tm, .int .i64 d.gr, (.slice p cl.length cap), .int .i64 d.st, .int .i64 d.sm] 56 w.next 0 0)
  have hO := Own.new f 56 [.int .i64 d.r, .int .i64 d.c, .int .i64 d.a, .int .i64 d.fr, .int .i64 d.fe, .int .i64 d.tm, .int .i64 d.gr, (.slice p cl.length cap), .int .i64 d.st, .int .i64 d.sm]
  have c0 := (hO).cell (o := 0) rfl rfl
  have c1 := (hO).cell (o := 1) rfl rfl
  have c2 := (hO).cell (o := 2) rfl rfl
  have c3 := (hO).cell (o := 3) rfl rfl
  have c4 := (hO).cell (o := 4) rfl rfl
  have c5 := (hO).cell (o := 5) rfl rfl
  have c6 := (hO).cell (o := 6) rfl rfl
  have c7 := (hO).cell (o := 7) rfl rfl
  have c8 := (hO).cell (o := 8) rfl rfl
  have c9 := (hO).cell (o := 9) rfl rfl
  refine callT_code rfl Try.func12 rfl Try.s12_eq rfl ?_
  unfold Try.s12
  simp -dsimp -implicitDefEqProofs (maxSteps := 2000000) (disch := first | assumption | omega | (simp only [AW.next_push, AW.next_put]; omega) | ((repeat refine Fresh.push ?_ _); assumption) | (simp only [same_int, same_bool, same_ptr, same_slice, same_sliceP, same_nil, same_agg2, same_string]; done) | (simp [oneCell, AW.next_push]; done) | fail) only [go_sem, Nat.reduceEqDiff, reduceIte, Nat.reduceAdd, Int.toNat_natCast, Nat.add_zero, Owes_true, Try.results12, Nat.zero_add, c0, c1, c2, c3, c4, c5, c6, c7, c8, c9]
  apply callV_of (e := rfl)
  · exact Keep_ok d cl un _ _ g.2 (hs.grown g)
  rintro _ w1 ⟨s1, E, L, rfl, hKC, a1, hg1⟩
  have g1 := g.trans hg1
  have hO1 := hO.keep hg1.1
  obtain ⟨q1, cap1, rfl, _⟩ := id a1.open
  have l1 : ¬ (23 : Int) = 0 := by decide
  have l2 : ¬ (7 : Int) = 0 := by decide
  have l3 : ¬ (23 : Int) = 3 := by decide
  have l4 : ¬ (7 : Int) = 3 := by decide
  have l5 : ¬ (3 : Int) = 0 := by decide
  have l6 : ¬ (0 : Int) = 3 := by decide
  rcases hKC with ⟨hd, rfl, rfl⟩ | ⟨hd, hr, rfl, rfl⟩ | ⟨hd, hr, hE, hlim, hL⟩ | ⟨hd, hr, hE, m, hm, hlo, hhi, hL⟩
  · simp -dsimp -implicitDefEqProofs (maxSteps := 2000000) (disch := first | assumption | omega | (simp only [AW.next_push, AW.next_put]; omega) | ((repeat refine Fresh.push ?_ _); assumption) | (simp only [same_int, same_bool, same_ptr, same_slice, same_sliceP, same_nil, same_agg2, same_string]; done) | (simp [oneCell, AW.next_push]; done) | fail) only [go_sem, Nat.reduceEqDiff, reduceIte, Nat.reduceAdd, Int.toNat_natCast, Nat.add_zero, Owes_true, Try.results12, List.length_nil, Int.natCast_zero, l1, l3]
    apply callV_of (e := rfl)
    · exact callT_told (Q := fun v w' => v = .bool true ∧ w1 = w') (v := .bool true) (w' := w1) rfl ⟨rfl, rfl⟩
    rintro _ w8 ⟨rfl, rfl⟩
    simp -dsimp -implicitDefEqProofs (maxSteps := 2000000) (disch := first | assumption | omega | (simp only [AW.next_push, AW.next_put]; omega) | ((repeat refine Fresh.push ?_ _); assumption) | (simp only [same_int, same_bool, same_ptr, same_slice, same_sliceP, same_nil, same_agg2, same_string]; done) | (simp [oneCell, AW.next_push]; done) | fail) only [go_sem, Nat.reduceEqDiff, reduceIte, Nat.reduceAdd, Int.toNat_natCast, Nat.add_zero, Owes_true, Try.results12]
  · simp -dsimp -implicitDefEqProofs (maxSteps := 2000000) (disch := first | assumption | omega | (simp only [AW.next_push, AW.next_put]; omega) | ((repeat refine Fresh.push ?_ _); assumption) | (simp only [same_int, same_bool, same_ptr, same_slice, same_sliceP, same_nil, same_agg2, same_string]; done) | (simp [oneCell, AW.next_push]; done) | fail) only [go_sem, Nat.reduceEqDiff, reduceIte, Nat.reduceAdd, Int.toNat_natCast, Nat.add_zero, Owes_true, Try.results12, List.length_nil, Int.natCast_zero, l2, l4]
    apply callV_of (e := rfl)
    · exact callT_told (Q := fun v w' => v = .bool true ∧ w1 = w') (v := .bool true) (w' := w1) rfl ⟨rfl, rfl⟩
    rintro _ w8 ⟨rfl, rfl⟩
    simp -dsimp -implicitDefEqProofs (maxSteps := 2000000) (disch := first | assumption | omega | (simp only [AW.next_push, AW.next_put]; omega) | ((repeat refine Fresh.push ?_ _); assumption) | (simp only [same_int, same_bool, same_ptr, same_slice, same_sliceP, same_nil, same_agg2, same_string]; done) | (simp [oneCell, AW.next_push]; done) | fail) only [go_sem, Nat.reduceEqDiff, reduceIte, Nat.reduceAdd, Int.toNat_natCast, Nat.add_zero, Owes_true, Try.results12]
  · subst hE
    have hi := (dealB_in hd).1
    have hun := (inR_iff _ _ _).1 hr
    have hin : inR 0 d.st 36500 = true := (inR_iff _ _ _).2 hi.st
    have hL0 : L.length = 0 := by rw [hL]; rfl
    have c0 := (hO1).cell (o := 0) rfl rfl
    have c1 := (hO1).cell (o := 1) rfl rfl
    have c2 := (hO1).cell (o := 2) rfl rfl
    have c3 := (hO1).cell (o := 3) rfl rfl
    have c4 := (hO1).cell (o := 4) rfl rfl
    have c5 := (hO1).cell (o := 5) rfl rfl
    have c6 := (hO1).cell (o := 6) rfl rfl
    have c7 := (hO1).cell (o := 7) rfl rfl
    have c8 := (hO1).cell (o := 8) rfl rfl
    have c9 := (hO1).cell (o := 9) rfl rfl
    simp -dsimp -implicitDefEqProofs (maxSteps := 2000000) (disch := first | assumption | omega | (simp only [AW.next_push, AW.next_put]; omega) | ((repeat refine Fresh.push ?_ _); assumption) | (simp only [same_int, same_bool, same_ptr, same_slice, same_sliceP, same_nil, same_agg2, same_string]; done) | (simp [oneCell, AW.next_push]; done) | fail) only [go_sem, Nat.reduceEqDiff, reduceIte, Nat.reduceAdd, Int.toNat_natCast, Nat.add_zero, Owes_true, Try.results12, Nat.zero_add, ne_eq, not_true, c0, c1, c2, c3, c4, c5, c6, c7, c8, c9, l5]
    apply callV_of (e := rfl)
    · exact From_ok _ _ _ _
    rintro _ _ ⟨rfl, rfl⟩
    simp -dsimp -implicitDefEqProofs (maxSteps := 2000000) (disch := first | assumption | omega | (simp only [AW.next_push, AW.next_put]; omega) | ((repeat refine Fresh.push ?_ _); assumption) | (simp only [same_int, same_bool, same_ptr, same_slice, same_sliceP, same_nil, same_agg2, same_string]; done) | (simp [oneCell, AW.next_push]; done) | fail) only [go_sem, Nat.reduceEqDiff, reduceIte, Nat.reduceAdd, Int.toNat_natCast, Nat.add_zero, Owes_true, Try.results12, Nat.zero_add, hin, c8]
    apply callV_of (e := rfl)
    · exact From_ok _ _ _ _
    rintro _ _ ⟨rfl, rfl⟩
    simp -dsimp -implicitDefEqProofs (maxSteps := 2000000) (disch := first | assumption | omega | (simp only [AW.next_push, AW.next_put]; omega) | ((repeat refine Fresh.push ?_ _); assumption) | (simp only [same_int, same_bool, same_ptr, same_slice, same_sliceP, same_nil, same_agg2, same_string]; done) | (simp [oneCell, AW.next_push]; done) | fail) only [go_sem, Nat.reduceEqDiff, reduceIte, Nat.reduceAdd, Int.toNat_natCast, Nat.add_zero, Owes_true, Try.results12, Nat.zero_add, hr, l5]
    refine loopR (fun k t ds w3 => ∃ i : Nat, i ≤ L.length ∧ k = L.length - i ∧ ds = [] ∧ ev t (.tmp 1) = .int .i64 un ∧ ev t (.tmp 2) = .slice q2 other.length cap2 ∧ ev t (.tmp 3) = .pointer (some ⟨w.next, 0, none⟩) ∧ ev t (.tmp 7) = .slice q1 L.length cap1 ∧ ev t (.tmp 8) = .int .i64 3 ∧ ev t (.tmp 10) = .int .i64 (i : Int) ∧ (∃ s, ev t (.tmp 9) = s ∧ AOwn w1.next w3 79 3 s i (((L.take i).map rAct).flatMap acells)) ∧ Grown w1 w3) (L.length) ?_ ?_
    · refine ⟨0, by omega, by omega, rfl, ?_, ?_, ?_, ?_, ?_, ?_, ⟨.slice none 0 0, by simp -dsimp -implicitDefEqProofs (maxSteps := 2000000) (disch := first | assumption | omega | (simp only [AW.next_push, AW.next_put]; omega) | ((repeat refine Fresh.push ?_ _); assumption) | (simp only [same_int, same_bool, same_ptr, same_slice, same_sliceP, same_nil, same_agg2, same_string]; done) | (simp [oneCell, AW.next_push]; done) | fail) only [go_sem, Nat.reduceEqDiff, reduceIte, Nat.reduceAdd, Int.toNat_natCast, Nat.add_zero, Owes_true], .inl ⟨rfl, rfl, rfl⟩⟩, .refl g1.2⟩ <;> simp -dsimp -implicitDefEqProofs (maxSteps := 2000000) (disch := first | assumption | omega | (simp only [AW.next_push, AW.next_put]; omega) | ((repeat refine Fresh.push ?_ _); assumption) | (simp only [same_int, same_bool, same_ptr, same_slice, same_sliceP, same_nil, same_agg2, same_string]; done) | (simp [oneCell, AW.next_push]; done) | fail) only [go_sem, Nat.reduceEqDiff, reduceIte, Nat.reduceAdd, Int.toNat_natCast, Nat.add_zero, Owes_true] <;> rfl
    rintro k t ds w3 ⟨i, hii, rfl, rfl, e1, e2, e3, e7, e8, e10, hlist, g3⟩
    obtain ⟨s, e9, hA⟩ := hlist
    obtain ⟨sp, sn, sc, hsl⟩ : ∃ x y z, s = .slice x y z := by rcases hA with ⟨rfl, _⟩ | ⟨_, _, rfl, _⟩ <;> exact ⟨_, _, _, rfl⟩
    subst hsl
    have f3 := g3.2
    by_cases hlt : (i : Int) < (L.length : Int)
    case pos => omega
    obtain rfl : i = L.length := by omega
    rw [List.take_length] at hA
    have hlen2 : (L.map rAct).length = L.length := List.length_map ..
    have hA2 : AOwn w1.next w3 79 3 (.slice sp sn sc) (L.map rAct).length ((L.map rAct).flatMap acells) := by rw [hlen2]; exact hA
    have hArr := hA2.arr acells_len (by omega)
    have g3w := g1.trans g3
    have hO3 := hO1.keep g3.1
    have c0 := (hO3).cell (o := 0) rfl rfl
    have c1 := (hO3).cell (o := 1) rfl rfl
    have c2 := (hO3).cell (o := 2) rfl rfl
    have c3 := (hO3).cell (o := 3) rfl rfl
    have c4 := (hO3).cell (o := 4) rfl rfl
    have c5 := (hO3).cell (o := 5) rfl rfl
    have c6 := (hO3).cell (o := 6) rfl rfl
    have c7 := (hO3).cell (o := 7) rfl rfl
    have c8 := (hO3).cell (o := 8) rfl rfl
    have c9 := (hO3).cell (o := 9) rfl rfl
    simp -dsimp -implicitDefEqProofs (maxSteps := 2000000) (disch := first | assumption | omega | (simp only [AW.next_push, AW.next_put]; omega) | ((repeat refine Fresh.push ?_ _); assumption) | (simp only [same_int, same_bool, same_ptr, same_slice, same_sliceP, same_nil, same_agg2, same_string]; done) | (simp [oneCell, AW.next_push]; done) | fail) only [go_sem, Nat.reduceEqDiff, reduceIte, Nat.reduceAdd, Int.toNat_natCast, Nat.add_zero, Owes_true, Try.results12, e1, e2, e3, e7, e8, e9, e10, hlt, Nat.zero_add, c0, c1, c2, c3, c4, c5, c6, c7, c8, c9]
    apply callV_of (e := rfl)
    · exact Owe_ok d cl (L.map rAct) un _ _ w3 f3 (hs.grown g3w) hArr
    rintro _ w4 ⟨rfl, hg4⟩
    have g4 := g3w.trans hg4
    have f4 := g4.2
    have hO4 := hO3.keep hg4.1
    generalize oweA d cl (L.map rAct) un = X at *
    generalize oweE d cl (L.map rAct) un = E2 at *
    have hO5 := hO4.push (.cells (accells X) 70 w4.next 0 0)
    have g5 := g4.push (.cells (accells X) 70 w4.next 0 0)
    unfold accells at hO5 g5
    have c0 := (hO5).cell (o := 0) rfl rfl
    have c1 := (hO5).cell (o := 1) rfl rfl
    have c2 := (hO5).cell (o := 2) rfl rfl
    have c3 := (hO5).cell (o := 3) rfl rfl
    have c4 := (hO5).cell (o := 4) rfl rfl
    have c5 := (hO5).cell (o := 5) rfl rfl
    have c6 := (hO5).cell (o := 6) rfl rfl
    have c7 := (hO5).cell (o := 7) rfl rfl
    have c8 := (hO5).cell (o := 8) rfl rfl
    have c9 := (hO5).cell (o := 9) rfl rfl
    by_cases hfew : (other.length : Int) ≤ 32
    · simp -dsimp -implicitDefEqProofs (maxSteps := 2000000) (disch := first | assumption | omega | (simp only [AW.next_push, AW.next_put]; omega) | ((repeat refine Fresh.push ?_ _); assumption) | (simp only [same_int, same_bool, same_ptr, same_slice, same_sliceP, same_nil, same_agg2, same_string]; done) | (simp [oneCell, AW.next_push]; done) | fail) only [go_sem, Nat.reduceEqDiff, reduceIte, Nat.reduceAdd, Int.toNat_natCast, Nat.add_zero, Owes_true, Try.results12, accV, Nat.zero_add, e1, e2, e3, e7, e8, c0, c1, c2, c3, c4, c5, c6, c7, c8, c9, hfew, l5]
      apply callV_of (e := rfl)
      · exact tardy_ok d cl other un _ _ _ g5.2 (hs.grown g5) (ho.grown g5) hd hun.1 hun.2
      rintro _ w6 ⟨T, rfl, hg6, hF6, hT6⟩
      cases T with
      | false =>
        exfalso
        have := few_len hd (hF6 rfl) (j := 33) hlim
        omega
      | true =>
      simp -dsimp -implicitDefEqProofs (maxSteps := 2000000) (disch := first | assumption | omega | (simp only [AW.next_push, AW.next_put]; omega) | ((repeat refine Fresh.push ?_ _); assumption) | (simp only [same_int, same_bool, same_ptr, same_slice, same_sliceP, same_nil, same_agg2, same_string]; done) | (simp [oneCell, AW.next_push]; done) | fail) only [go_sem, Nat.reduceEqDiff, reduceIte, Nat.reduceAdd, Int.toNat_natCast, Nat.add_zero, Owes_true, Try.results12]
      apply callV_of (e := rfl)
      · exact callT_told (Q := fun v w' => v = .bool true ∧ w6 = w') (v := .bool true) (w' := w6) rfl ⟨rfl, rfl⟩
      rintro _ w8 ⟨rfl, rfl⟩
      simp -dsimp -implicitDefEqProofs (maxSteps := 2000000) (disch := first | assumption | omega | (simp only [AW.next_push, AW.next_put]; omega) | ((repeat refine Fresh.push ?_ _); assumption) | (simp only [same_int, same_bool, same_ptr, same_slice, same_sliceP, same_nil, same_agg2, same_string]; done) | (simp [oneCell, AW.next_push]; done) | fail) only [go_sem, Nat.reduceEqDiff, reduceIte, Nat.reduceAdd, Int.toNat_natCast, Nat.add_zero, Owes_true, Try.results12]
    · simp -dsimp -implicitDefEqProofs (maxSteps := 2000000) (disch := first | assumption | omega | (simp only [AW.next_push, AW.next_put]; omega) | ((repeat refine Fresh.push ?_ _); assumption) | (simp only [same_int, same_bool, same_ptr, same_slice, same_sliceP, same_nil, same_agg2, same_string]; done) | (simp [oneCell, AW.next_push]; done) | fail) only [go_sem, Nat.reduceEqDiff, reduceIte, Nat.reduceAdd, Int.toNat_natCast, Nat.add_zero, Owes_true, Try.results12, accV, Nat.zero_add, e1, e2, e3, e7, e8, c0, c1, c2, c3, c4, c5, c6, c7, c8, c9, hfew, l5]
      apply callV_of (e := rfl)
      · exact callT_told (Q := fun v w' => v = .bool true ∧ _ = w') (v := .bool true) (w' := _) rfl ⟨rfl, rfl⟩
      rintro _ w8 ⟨rfl, rfl⟩
      simp -dsimp -implicitDefEqProofs (maxSteps := 2000000) (disch := first | assumption | omega | (simp only [AW.next_push, AW.next_put]; omega) | ((repeat refine Fresh.push ?_ _); assumption) | (simp only [same_int, same_bool, same_ptr, same_slice, same_sliceP, same_nil, same_agg2, same_string]; done) | (simp [oneCell, AW.next_push]; done) | fail) only [go_sem, Nat.reduceEqDiff, reduceIte, Nat.reduceAdd, Int.toNat_natCast, Nat.add_zero, Owes_true, Try.results12]
  · subst hE
    have hi := (dealB_in hd).1
    have hun := (inR_iff _ _ _).1 hr
    have hin : inR 0 d.st 36500 = true := (inR_iff _ _ _).2 hi.st
    have htm := hi.tm
    have hgr := hi.gr
    have hLm : L.length = m := by rw [hL]; exact its_len d cl m
    have c0 := (hO1).cell (o := 0) rfl rfl
    have c1 := (hO1).cell (o := 1) rfl rfl
    have c2 := (hO1).cell (o := 2) rfl rfl
    have c3 := (hO1).cell (o := 3) rfl rfl
    have c4 := (hO1).cell (o := 4) rfl rfl
    have c5 := (hO1).cell (o := 5) rfl rfl
    have c6 := (hO1).cell (o := 6) rfl rfl
    have c7 := (hO1).cell (o := 7) rfl rfl
    have c8 := (hO1).cell (o := 8) rfl rfl
    have c9 := (hO1).cell (o := 9) rfl rfl
    simp -dsimp -implicitDefEqProofs (maxSteps := 2000000) (disch := first | assumption | omega | (simp only [AW.next_push, AW.next_put]; omega) | ((repeat refine Fresh.push ?_ _); assumption) | (simp only [same_int, same_bool, same_ptr, same_slice, same_sliceP, same_nil, same_agg2, same_string]; done) | (simp [oneCell, AW.next_push]; done) | fail) only [go_sem, Nat.reduceEqDiff, reduceIte, Nat.reduceAdd, Int.toNat_natCast, Nat.add_zero, Owes_true, Try.results12, Nat.zero_add, ne_eq, not_true, c0, c1, c2, c3, c4, c5, c6, c7, c8, c9]
    apply callV_of (e := rfl)
    · exact From_ok _ _ _ _
    rintro _ _ ⟨rfl, rfl⟩
    simp -dsimp -implicitDefEqProofs (maxSteps := 2000000) (disch := first | assumption | omega | (simp only [AW.next_push, AW.next_put]; omega) | ((repeat refine Fresh.push ?_ _); assumption) | (simp only [same_int, same_bool, same_ptr, same_slice, same_sliceP, same_nil, same_agg2, same_string]; done) | (simp [oneCell, AW.next_push]; done) | fail) only [go_sem, Nat.reduceEqDiff, reduceIte, Nat.reduceAdd, Int.toNat_natCast, Nat.add_zero, Owes_true, Try.results12, Nat.zero_add, hin, c8]
    apply callV_of (e := rfl)
    · exact From_ok _ _ _ _
    rintro _ _ ⟨rfl, rfl⟩
    simp -dsimp -implicitDefEqProofs (maxSteps := 2000000) (disch := first | assumption | omega | (simp only [AW.next_push, AW.next_put]; omega) | ((repeat refine Fresh.push ?_ _); assumption) | (simp only [same_int, same_bool, same_ptr, same_slice, same_sliceP, same_nil, same_agg2, same_string]; done) | (simp [oneCell, AW.next_push]; done) | fail) only [go_sem, Nat.reduceEqDiff, reduceIte, Nat.reduceAdd, Int.toNat_natCast, Nat.add_zero, Owes_true, Try.results12, Nat.zero_add, hr, c0, c1, c2, c3, c4, c5, c6, c7, c8, c9]
    apply callV_of (e := rfl)
    · exact tardy_ok d cl L un _ _ w1 g1.2 (hs.grown g1) a1 hd hun.1 hun.2
    rintro _ w2 ⟨T, rfl, hg2, hF, hT⟩
    have g2 := g1.trans hg2
    have hO2 := hO1.keep hg2.1
    have a2 := a1.grown hg2
    cases T with
    | true =>
      obtain ⟨i, hi1, hi2⟩ := hT rfl
      rw [hL] at hi2
      have := keep_good hd hhi i hi1
      omega
    | false =>
    simp -dsimp -implicitDefEqProofs (maxSteps := 2000000) (disch := first | assumption | omega | (simp only [AW.next_push, AW.next_put]; omega) | ((repeat refine Fresh.push ?_ _); assumption) | (simp only [same_int, same_bool, same_ptr, same_slice, same_sliceP, same_nil, same_agg2, same_string]; done) | (simp [oneCell, AW.next_push]; done) | fail) only [go_sem, Nat.reduceEqDiff, reduceIte, Nat.reduceAdd, Int.toNat_natCast, Nat.add_zero, Owes_true, Try.results12]
    refine loopR (fun k t ds w3 => ∃ i : Nat, i ≤ L.length ∧ k = L.length - i ∧ ds = [] ∧ ev t (.tmp 1) = .int .i64 un ∧ ev t (.tmp 2) = .slice q2 other.length cap2 ∧ ev t (.tmp 3) = .pointer (some ⟨w.next, 0, none⟩) ∧ ev t (.tmp 7) = .slice q1 L.length cap1 ∧ ev t (.tmp 8) = .int .i64 0 ∧ ev t (.tmp 10) = .int .i64 (i : Int) ∧ (∃ s, ev t (.tmp 9) = s ∧ AOwn w2.next w3 79 3 s i (((L.take i).map rAct).flatMap acells)) ∧ Grown w2 w3) (L.length) ?_ ?_
    · refine ⟨0, by omega, by omega, rfl, ?_, ?_, ?_, ?_, ?_, ?_, ⟨.slice none 0 0, by simp -dsimp -implicitDefEqProofs (maxSteps := 2000000) (disch := first | assumption | omega | (simp only [AW.next_push, AW.next_put]; omega) | ((repeat refine Fresh.push ?_ _); assumption) | (simp only [same_int, same_bool, same_ptr, same_slice, same_sliceP, same_nil, same_agg2, same_string]; done) | (simp [oneCell, AW.next_push]; done) | fail) only [go_sem, Nat.reduceEqDiff, reduceIte, Nat.reduceAdd, Int.toNat_natCast, Nat.add_zero, Owes_true], .inl ⟨rfl, rfl, rfl⟩⟩, .refl g2.2⟩ <;> simp -dsimp -implicitDefEqProofs (maxSteps := 2000000) (disch := first | assumption | omega | (simp only [AW.next_push, AW.next_put]; omega) | ((repeat refine Fresh.push ?_ _); assumption) | (simp only [same_int, same_bool, same_ptr, same_slice, same_sliceP, same_nil, same_agg2, same_string]; done) | (simp [oneCell, AW.next_push]; done) | fail) only [go_sem, Nat.reduceEqDiff, reduceIte, Nat.reduceAdd, Int.toNat_natCast, Nat.add_zero, Owes_true] <;> rfl
    rintro k t ds w3 ⟨i, hii, rfl, rfl, e1, e2, e3, e7, e8, e10, hlist, g3⟩
    obtain ⟨s, e9, hA⟩ := hlist
    obtain ⟨sp, sn, sc, hsl⟩ : ∃ x y z, s = .slice x y z := by rcases hA with ⟨rfl, _⟩ | ⟨_, _, rfl, _⟩ <;> exact ⟨_, _, _, rfl⟩
    subst hsl
    have f3 := g3.2
    by_cases hlt : (i : Int) < (L.length : Int)
    case pos =>
      have hlt' : i < L.length := by omega
      obtain ⟨pp, cc, hpe, _, _, hat⟩ := id (a2).open
      injection hpe with hp1 hp2 hp3
      subst hp1 hp3
      obtain ⟨b1, o1, rfl, hb1, hcell⟩ := hat i hlt'
      have a0 := hcell _ g3.1 0 _ rfl
      rw [Nat.add_zero] at a0
      obtain ⟨s', w7, happ, hA7, hk7, f7, hn7, hap7⟩ := append_one (e' := 79) Try.ty68 Try.ty79 rfl (by decide) (by decide) hA f3 g3.1.next (acells_len (rAct L[i])) (acells_one (rAct L[i])) (by omega)
      have hT : ((L.take (i + 1)).map rAct).flatMap acells = ((L.take i).map rAct).flatMap acells ++ acells (rAct L[i]) := by
        rw [List.take_succ_eq_append_getElem hlt', List.map_append, List.flatMap_append]; simp
      unfold acells rAct at happ
      simp -dsimp -implicitDefEqProofs (maxSteps := 2000000) (disch := first | assumption | omega | (simp only [AW.next_push, AW.next_put]; omega) | ((repeat refine Fresh.push ?_ _); assumption) | (simp only [same_int, same_bool, same_ptr, same_slice, same_sliceP, same_nil, same_agg2, same_string]; done) | (simp [oneCell, AW.next_push]; done) | fail) only [go_sem, Nat.reduceEqDiff, reduceIte, Nat.reduceAdd, Int.toNat_natCast, Nat.add_zero, Owes_true, Try.results12, e1, e2, e3, e7, e8, e9, e10, hlt, indexV_eq, a0, Nat.zero_add, happ]
      refine ⟨_, by omega, i + 1, by omega, rfl, rfl, by (simp -dsimp -implicitDefEqProofs (maxSteps := 2000000) (disch := first | assumption | omega | (simp only [AW.next_push, AW.next_put]; omega) | ((repeat refine Fresh.push ?_ _); assumption) | (simp only [same_int, same_bool, same_ptr, same_slice, same_sliceP, same_nil, same_agg2, same_string]; done) | (simp [oneCell, AW.next_push]; done) | fail) only [go_sem, Nat.reduceEqDiff, reduceIte, Nat.reduceAdd, Int.toNat_natCast, Nat.add_zero, Owes_true, e1]; try rfl), by (simp -dsimp -implicitDefEqProofs (maxSteps := 2000000) (disch := first | assumption | omega | (simp only [AW.next_push, AW.next_put]; omega) | ((repeat refine Fresh.push ?_ _); assumption) | (simp only [same_int, same_bool, same_ptr, same_slice, same_sliceP, same_nil, same_agg2, same_string]; done) | (simp [oneCell, AW.next_push]; done) | fail) only [go_sem, Nat.reduceEqDiff, reduceIte, Nat.reduceAdd, Int.toNat_natCast, Nat.add_zero, Owes_true, e2]; try rfl), by (simp -dsimp -implicitDefEqProofs (maxSteps := 2000000) (disch := first | assumption | omega | (simp only [AW.next_push, AW.next_put]; omega) | ((repeat refine Fresh.push ?_ _); assumption) | (simp only [same_int, same_bool, same_ptr, same_slice, same_sliceP, same_nil, same_agg2, same_string]; done) | (simp [oneCell, AW.next_push]; done) | fail) only [go_sem, Nat.reduceEqDiff, reduceIte, Nat.reduceAdd, Int.toNat_natCast, Nat.add_zero, Owes_true, e3]; try rfl), by (simp -dsimp -implicitDefEqProofs (maxSteps := 2000000) (disch := first | assumption | omega | (simp only [AW.next_push, AW.next_put]; omega) | ((repeat refine Fresh.push ?_ _); assumption) | (simp only [same_int, same_bool, same_ptr, same_slice, same_sliceP, same_nil, same_agg2, same_string]; done) | (simp [oneCell, AW.next_push]; done) | fail) only [go_sem, Nat.reduceEqDiff, reduceIte, Nat.reduceAdd, Int.toNat_natCast, Nat.add_zero, Owes_true, e7]; try rfl), by (simp -dsimp -implicitDefEqProofs (maxSteps := 2000000) (disch := first | assumption | omega | (simp only [AW.next_push, AW.next_put]; omega) | ((repeat refine Fresh.push ?_ _); assumption) | (simp only [same_int, same_bool, same_ptr, same_slice, same_sliceP, same_nil, same_agg2, same_string]; done) | (simp [oneCell, AW.next_push]; done) | fail) only [go_sem, Nat.reduceEqDiff, reduceIte, Nat.reduceAdd, Int.toNat_natCast, Nat.add_zero, Owes_true, e8]; try rfl), by (simp -dsimp -implicitDefEqProofs (maxSteps := 2000000) (disch := first | assumption | omega | (simp only [AW.next_push, AW.next_put]; omega) | ((repeat refine Fresh.push ?_ _); assumption) | (simp only [same_int, same_bool, same_ptr, same_slice, same_sliceP, same_nil, same_agg2, same_string]; done) | (simp [oneCell, AW.next_push]; done) | fail) only [go_sem, Nat.reduceEqDiff, reduceIte, Nat.reduceAdd, Int.toNat_natCast, Nat.add_zero, Owes_true, e10]; try rfl), ⟨s', by simp -dsimp -implicitDefEqProofs (maxSteps := 2000000) (disch := first | assumption | omega | (simp only [AW.next_push, AW.next_put]; omega) | ((repeat refine Fresh.push ?_ _); assumption) | (simp only [same_int, same_bool, same_ptr, same_slice, same_sliceP, same_nil, same_agg2, same_string]; done) | (simp [oneCell, AW.next_push]; done) | fail) only [go_sem, Nat.reduceEqDiff, reduceIte, Nat.reduceAdd, Int.toNat_natCast, Nat.add_zero, Owes_true], by rw [hT]; exact hA7⟩, ⟨g3.1.trans hk7, f7⟩⟩
    obtain rfl : i = L.length := by omega
    rw [List.take_length] at hA
    have hlen2 : (L.map rAct).length = L.length := List.length_map ..
    have hA2 : AOwn w2.next w3 79 3 (.slice sp sn sc) (L.map rAct).length ((L.map rAct).flatMap acells) := by rw [hlen2]; exact hA
    have hArr := hA2.arr acells_len (by omega)
    have g3w := g2.trans g3
    have hO3 := hO2.keep g3.1
    have c0 := (hO3).cell (o := 0) rfl rfl
    have c1 := (hO3).cell (o := 1) rfl rfl
    have c2 := (hO3).cell (o := 2) rfl rfl
    have c3 := (hO3).cell (o := 3) rfl rfl
    have c4 := (hO3).cell (o := 4) rfl rfl
    have c5 := (hO3).cell (o := 5) rfl rfl
    have c6 := (hO3).cell (o := 6) rfl rfl
    have c7 := (hO3).cell (o := 7) rfl rfl
    have c8 := (hO3).cell (o := 8) rfl rfl
    have c9 := (hO3).cell (o := 9) rfl rfl
    simp -dsimp -implicitDefEqProofs (maxSteps := 2000000) (disch := first | assumption | omega | (simp only [AW.next_push, AW.next_put]; omega) | ((repeat refine Fresh.push ?_ _); assumption) | (simp only [same_int, same_bool, same_ptr, same_slice, same_sliceP, same_nil, same_agg2, same_string]; done) | (simp [oneCell, AW.next_push]; done) | fail) only [go_sem, Nat.reduceEqDiff, reduceIte, Nat.reduceAdd, Int.toNat_natCast, Nat.add_zero, Owes_true, Try.results12, e1, e2, e3, e7, e8, e9, e10, hlt, Nat.zero_add, c0, c1, c2, c3, c4, c5, c6, c7, c8, c9]
    apply callV_of (e := rfl)
    · exact Owe_ok d cl (L.map rAct) un _ _ w3 f3 (hs.grown g3w) hArr
    rintro _ w4 ⟨rfl, hg4⟩
    have g4 := g3w.trans hg4
    have f4 := g4.2
    have hO4 := hO3.keep hg4.1
    have hk := keep_owe hd hm hlo hhi hun.1 hun.2
    rw [← hL] at hk
    have hk1 := hk.1
    have hk2 := hk.2
    rw [← oweA_ok hk1] at hk2
    rw [hk1]
    generalize oweA d cl (L.map rAct) un = X at *
    have hA5 := Own.new f4 70 (accells X)
    have hO5 := hO4.push (.cells (accells X) 70 w4.next 0 0)
    have g5 := g4.push (.cells (accells X) 70 w4.next 0 0)
    unfold accells at hA5 hO5 g5
    have v3 := hA5.cell (o := 3) rfl rfl
    have hage : ¬ d.tm + d.gr < X.A := by omega
    have c0 := (hO5).cell (o := 0) rfl rfl
    have c1 := (hO5).cell (o := 1) rfl rfl
    have c2 := (hO5).cell (o := 2) rfl rfl
    have c3 := (hO5).cell (o := 3) rfl rfl
    have c4 := (hO5).cell (o := 4) rfl rfl
    have c5 := (hO5).cell (o := 5) rfl rfl
    have c6 := (hO5).cell (o := 6) rfl rfl
    have c7 := (hO5).cell (o := 7) rfl rfl
    have c8 := (hO5).cell (o := 8) rfl rfl
    have c9 := (hO5).cell (o := 9) rfl rfl
    by_cases hfew : (other.length : Int) < (L.length : Int)
    · simp -dsimp -implicitDefEqProofs (maxSteps := 2000000) (disch := first | assumption | omega | (simp only [AW.next_push, AW.next_put]; omega) | ((repeat refine Fresh.push ?_ _); assumption) | (simp only [same_int, same_bool, same_ptr, same_slice, same_sliceP, same_nil, same_agg2, same_string]; done) | (simp [oneCell, AW.next_push]; done) | fail) only [go_sem, Nat.reduceEqDiff, reduceIte, Nat.reduceAdd, Int.toNat_natCast, Nat.add_zero, Owes_true, Try.results12, accV, Nat.zero_add, ne_eq, not_true, e1, e2, e3, e7, e8, v3, c0, c1, c2, c3, c4, c5, c6, c7, c8, c9, hage, hfew]
      apply callV_of (e := rfl)
      · exact tardy_ok d cl other un _ _ _ g5.2 (hs.grown g5) (ho.grown g5) hd hun.1 hun.2
      rintro _ w6 ⟨T, rfl, hg6, hF6, hT6⟩
      cases T with
      | false =>
        exfalso
        have hgood := hF6 rfl
        cases m with
        | zero => omega
        | succ k =>
          have := few_len hd hgood (j := k + 1) (hlo k (by omega))
          omega
      | true =>
      simp -dsimp -implicitDefEqProofs (maxSteps := 2000000) (disch := first | assumption | omega | (simp only [AW.next_push, AW.next_put]; omega) | ((repeat refine Fresh.push ?_ _); assumption) | (simp only [same_int, same_bool, same_ptr, same_slice, same_sliceP, same_nil, same_agg2, same_string]; done) | (simp [oneCell, AW.next_push]; done) | fail) only [go_sem, Nat.reduceEqDiff, reduceIte, Nat.reduceAdd, Int.toNat_natCast, Nat.add_zero, Owes_true, Try.results12]
      apply callV_of (e := rfl)
      · exact callT_told (Q := fun v w' => v = .bool true ∧ w6 = w') (v := .bool true) (w' := w6) rfl ⟨rfl, rfl⟩
      rintro _ w8 ⟨rfl, rfl⟩
      simp -dsimp -implicitDefEqProofs (maxSteps := 2000000) (disch := first | assumption | omega | (simp only [AW.next_push, AW.next_put]; omega) | ((repeat refine Fresh.push ?_ _); assumption) | (simp only [same_int, same_bool, same_ptr, same_slice, same_sliceP, same_nil, same_agg2, same_string]; done) | (simp [oneCell, AW.next_push]; done) | fail) only [go_sem, Nat.reduceEqDiff, reduceIte, Nat.reduceAdd, Int.toNat_natCast, Nat.add_zero, Owes_true, Try.results12]
    · simp -dsimp -implicitDefEqProofs (maxSteps := 2000000) (disch := first | assumption | omega | (simp only [AW.next_push, AW.next_put]; omega) | ((repeat refine Fresh.push ?_ _); assumption) | (simp only [same_int, same_bool, same_ptr, same_slice, same_sliceP, same_nil, same_agg2, same_string]; done) | (simp [oneCell, AW.next_push]; done) | fail) only [go_sem, Nat.reduceEqDiff, reduceIte, Nat.reduceAdd, Int.toNat_natCast, Nat.add_zero, Owes_true, Try.results12, accV, Nat.zero_add, ne_eq, not_true, e1, e2, e3, e7, e8, v3, c0, c1, c2, c3, c4, c5, c6, c7, c8, c9, hage, hfew, l6]
      apply callV_of (e := rfl)
      · exact callT_told (Q := fun v w' => v = .bool true ∧ _ = w') (v := .bool true) (w' := _) rfl ⟨rfl, rfl⟩
      rintro _ w8 ⟨rfl, rfl⟩
      simp -dsimp -implicitDefEqProofs (maxSteps := 2000000) (disch := first | assumption | omega | (simp only [AW.next_push, AW.next_put]; omega) | ((repeat refine Fresh.push ?_ _); assumption) | (simp only [same_int, same_bool, same_ptr, same_slice, same_sliceP, same_nil, same_agg2, same_string]; done) | (simp [oneCell, AW.next_push]; done) | fail) only [go_sem, Nat.reduceEqDiff, reduceIte, Nat.reduceAdd, Int.toNat_natCast, Nat.add_zero, Owes_true, Try.results12]
end Go.Proofs
