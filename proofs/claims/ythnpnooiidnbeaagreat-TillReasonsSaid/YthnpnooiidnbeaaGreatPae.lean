/- This program: its code, contracts, numbers, part 5. -/
import Derived.Test.YthnpnooiidnbeaaGreatPad
import Derived.Test.YthnpnooiidnbeaaGreatNc
import Derived.Test.YthnpnooiidnbeaaGreatPaa
import Derived.Test.YthnpnooiidnbeaaGreatNa
set_option linter.unusedVariables false
set_option linter.unusedSimpArgs false
namespace Go.Proofs
open Go Go.RowKit Go.Sim
set_option maxRecDepth 100000
theorem icells_len (x : Int) : (icells x).length = 1 := rfl
theorem icells_one (x : Int) : ∀ v ∈ icells x, oneCell v = true := by intro v hv; simp [icells] at hv; subst hv; rfl
structure DIn (C H : List Int) : Prop where
  len : H.length = C.length
  c : ∀ c ∈ C, 1 ≤ c ∧ c ≤ 50000
  h : ∀ x ∈ H, 0 ≤ x ∧ x ≤ 100
theorem DIn.at {C H : List Int} (d : DIn C H) {i : Nat} (hi : i < C.length) : (C.zip H).drop i = (C[i], H[i]'(by rw [d.len]; exact hi)) :: (C.zip H).drop (i + 1) ∧ (C.zip H).getD i (0, 0) = (C[i], H[i]'(by rw [d.len]; exact hi)) ∧ 1 ≤ C[i] ∧ C[i] ≤ 50000 ∧ 0 ≤ H[i]'(by rw [d.len]; exact hi) ∧ H[i]'(by rw [d.len]; exact hi) ≤ 100 := by
  have h1 := d.c _ (List.getElem_mem hi)
  have h2 := d.h _ (List.getElem_mem (show i < H.length by rw [d.len]; exact hi))
  refine ⟨drop_zip hi d.len, ?_, h1.1, h1.2, h2.1, h2.2⟩
  rw [List.getD_eq_getElem?_getD, List.getElem?_eq_getElem (by rw [List.length_zip, d.len, Nat.min_self]; exact hi)]
  simp [List.getElem_zip]
end Go.Proofs

namespace Go.Proofs
open Go Go.RowKit Go.Sim
set_option maxRecDepth 100000
theorem AOwn.slice {B : Nat} {w : AW} {e : TypeId} {size n : Nat} {v : Value} {cells : List Value} (h : AOwn B w e size v n cells) : ∃ p m c, v = .slice p m c := by
  rcases h with ⟨rfl, _⟩ | ⟨b, r, rfl, _⟩
  · exact ⟨_, _, _, rfl⟩
  · exact ⟨_, _, _, rfl⟩
def worth (C L : List Int) (n : Nat) : Int := ((List.range n).map fun i => L.getD i 0 * C.getD i 0).sum
end Go.Proofs

namespace Go.Proofs
open Go Go.RowKit Go.Sim
set_option maxRecDepth 100000
def aheadB : List Int → List Int → Bool
  | x :: a, y :: b => if x = y then aheadB a b else decide (x < y)
  | a, b => decide (a.length < b.length)
theorem aheadB_pre : ∀ (i : Nat) (a b : List Int), i ≤ a.length → i ≤ b.length → a.take i = b.take i → aheadB a b = aheadB (a.drop i) (b.drop i)
  | 0, a, b, _, _, _ => by simp
  | i + 1, [], b, h, _, _ => by simp at h
  | i + 1, _ :: _, [], _, h, _ => by simp at h
  | i + 1, x :: a, y :: b, h1, h2, h => by
    rw [List.take_succ_cons, List.take_succ_cons, List.cons.injEq] at h
    rw [aheadB, if_pos h.1, List.drop_succ_cons, List.drop_succ_cons]
    exact aheadB_pre i a b (by simpa using h1) (by simpa using h2) h.2
theorem aheadB_end {a b : List Int} (h : a = [] ∨ b = []) : aheadB a b = decide (a.length < b.length) := by
  rcases h with rfl | rfl
  · cases b <;> rfl
  · cases a <;> rfl
theorem Ahead_ok (a b : List Int) (u v : Value) (w : AW) (hu : ArrOf w 1 icells u a) (hv : ArrOf w 1 icells v b) : CallT Tryz.prog Tryz.T1 (.fn (.func 42) #[]) #[u, v] w (Ret (.bool (aheadB a b)) fun w' => w = w') := by
  obtain ⟨p, c, rfl, _, _, hat⟩ := hu.open
  obtain ⟨q, d, rfl, _, _, hat2⟩ := hv.open
  refine callT_code rfl Tryz.func42 rfl Tryz.s42_eq rfl ?_
  unfold Tryz.s42
  simp -dsimp -implicitDefEqProofs (maxSteps := 2000000) (disch := first | assumption | omega | (simp only [nx]; omega) | ((repeat refine Fresh.push ?_ _); assumption) | (simp only [smA]; done) | (simp [oneCell, AW.next_push]; done) | fail) only [go_sem, Nat.reduceEqDiff, reduceIte, Nat.reduceAdd, Int.toNat_natCast, Nat.add_zero, Owes_true, Tryz.results42]
  refine loopR (fun k t ds w1 => ∃ i : Nat, i ≤ min a.length b.length ∧ k = min a.length b.length - i ∧ ds = [] ∧ ev t (.tmp 0) = .slice p a.length c ∧ ev t (.tmp 1) = .slice q b.length d ∧ ev t (.tmp 5) = .int .i64 (i : Int) ∧ w = w1 ∧ a.take i = b.take i) (min a.length b.length) ?_ ?_
  · refine ⟨0, by omega, by omega, rfl, ?_, ?_, ?_, rfl, rfl⟩ <;> simp -dsimp -implicitDefEqProofs (maxSteps := 2000000) (disch := first | assumption | omega | (simp only [nx]; omega) | ((repeat refine Fresh.push ?_ _); assumption) | (simp only [smA]; done) | (simp [oneCell, AW.next_push]; done) | fail) only [go_sem, Nat.reduceEqDiff, reduceIte, Nat.reduceAdd, Int.toNat_natCast, Nat.add_zero, Owes_true] <;> rfl
  rintro k t ds w1 ⟨i, hii, rfl, rfl, e0, e1, e5, hw, hp⟩
  subst hw
  have hpre := aheadB_pre i a b (by omega) (by omega) hp
  by_cases hlt : i < min a.length b.length
  case neg =>
    have hE : aheadB a b = decide ((a.length : Int) < (b.length : Int)) := by
      rw [hpre, aheadB_end (by rcases Nat.le_total a.length b.length with z | z; exact .inl (List.drop_of_length_le (by omega)); exact .inr (List.drop_of_length_le (by omega)))]
      simp only [List.length_drop]
      exact decide_eq_decide.2 (by omega)
    by_cases h1 : (i : Int) < (a.length : Int)
    · have h2 : ¬ (i : Int) < (b.length : Int) := by omega
      simp -dsimp -implicitDefEqProofs (maxSteps := 2000000) (disch := first | assumption | omega | (simp only [nx]; omega) | ((repeat refine Fresh.push ?_ _); assumption) | (simp only [smA]; done) | (simp [oneCell, AW.next_push]; done) | fail) only [go_sem, Nat.reduceEqDiff, reduceIte, Nat.reduceAdd, Int.toNat_natCast, Nat.add_zero, Owes_true, Tryz.results42, e0, e1, e5, h1, h2]
      exact ⟨by rw [hE], rfl⟩
    · simp -dsimp -implicitDefEqProofs (maxSteps := 2000000) (disch := first | assumption | omega | (simp only [nx]; omega) | ((repeat refine Fresh.push ?_ _); assumption) | (simp only [smA]; done) | (simp [oneCell, AW.next_push]; done) | fail) only [go_sem, Nat.reduceEqDiff, reduceIte, Nat.reduceAdd, Int.toNat_natCast, Nat.add_zero, Owes_true, Tryz.results42, e0, e1, e5, h1]
      exact ⟨by rw [hE], rfl⟩
  have h1 : (i : Int) < (a.length : Int) := by omega
  have h2 : (i : Int) < (b.length : Int) := by omega
  have h1' : i < a.length := by omega
  have h2' : i < b.length := by omega
  obtain ⟨b1, o1, rfl, hb1, hcell⟩ := hat i h1'
  obtain ⟨b2, o2, rfl, hb2, hcell2⟩ := hat2 i h2'
  have a0 := hcell w (.refl _ _) 0 _ rfl
  have a1 := hcell2 w (.refl _ _) 0 _ rfl
  rw [Nat.add_zero] at a0 a1
  rw [List.drop_eq_getElem_cons h1', List.drop_eq_getElem_cons h2'] at hpre
  by_cases hx : a[i] = b[i]
  · have hd : decide (a[i] = b[i]) = true := decide_eq_true hx
    simp -dsimp -implicitDefEqProofs (maxSteps := 2000000) (disch := first | assumption | omega | (simp only [nx]; omega) | ((repeat refine Fresh.push ?_ _); assumption) | (simp only [smA]; done) | (simp [oneCell, AW.next_push]; done) | fail) only [go_sem, Nat.reduceEqDiff, reduceIte, Nat.reduceAdd, Int.toNat_natCast, Nat.add_zero, Owes_true, Tryz.results42, e0, e1, e5, h1, h2, indexV_eq, a0, a1, hd]
    refine ⟨_, by omega, i + 1, by omega, rfl, rfl, by (simp -dsimp -implicitDefEqProofs (maxSteps := 2000000) (disch := first | assumption | omega | (simp only [nx]; omega) | ((repeat refine Fresh.push ?_ _); assumption) | (simp only [smA]; done) | (simp [oneCell, AW.next_push]; done) | fail) only [go_sem, Nat.reduceEqDiff, reduceIte, Nat.reduceAdd, Int.toNat_natCast, Nat.add_zero, Owes_true, e0]; try rfl), by (simp -dsimp -implicitDefEqProofs (maxSteps := 2000000) (disch := first | assumption | omega | (simp only [nx]; omega) | ((repeat refine Fresh.push ?_ _); assumption) | (simp only [smA]; done) | (simp [oneCell, AW.next_push]; done) | fail) only [go_sem, Nat.reduceEqDiff, reduceIte, Nat.reduceAdd, Int.toNat_natCast, Nat.add_zero, Owes_true, e1]; try rfl), by (simp -dsimp -implicitDefEqProofs (maxSteps := 2000000) (disch := first | assumption | omega | (simp only [nx]; omega) | ((repeat refine Fresh.push ?_ _); assumption) | (simp only [smA]; done) | (simp [oneCell, AW.next_push]; done) | fail) only [go_sem, Nat.reduceEqDiff, reduceIte, Nat.reduceAdd, Int.toNat_natCast, Nat.add_zero, Owes_true, e5]; try rfl), rfl, (by rw [List.take_succ_eq_append_getElem h1', List.take_succ_eq_append_getElem h2', hp, hx])⟩
  · have hd : decide (a[i] = b[i]) = false := decide_eq_false hx
    rw [aheadB, if_neg hx] at hpre
    simp -dsimp -implicitDefEqProofs (maxSteps := 2000000) (disch := first | assumption | omega | (simp only [nx]; omega) | ((repeat refine Fresh.push ?_ _); assumption) | (simp only [smA]; done) | (simp [oneCell, AW.next_push]; done) | fail) only [go_sem, Nat.reduceEqDiff, reduceIte, Nat.reduceAdd, Int.toNat_natCast, Nat.add_zero, Owes_true, Tryz.results42, e0, e1, e5, h1, h2, indexV_eq, a0, a1, hd]
    exact ⟨by rw [hpre], rfl⟩
def okAt (C L H : List Int) (i : Nat) : Bool := decide (i < C.length) && decide (i < H.length) && inR 0 (L.getD i 0) (H.getD i 0) && inR 1 (C.getD i 0) 50000 && decide (L.getD i 0 ≤ 100)
end Go.Proofs

namespace Go.Proofs
open Go Go.RowKit Go.Sim
set_option maxRecDepth 100000
def PayOf : List (Int × Int) → List Int → Int → Prop
  | [], [], s => s = 0
  | (c, h) :: D, n :: L, s => 0 ≤ n ∧ n ≤ h ∧ PayOf D L (s - n * c)
  | _, _, _ => False
def Fine (D : List (Int × Int)) : Prop := ∀ d ∈ D, 1 ≤ d.1 ∧ 0 ≤ d.2
theorem PayOf.nn : ∀ {D : List (Int × Int)} {L : List Int} {s : Int}, PayOf D L s → Fine D → 0 ≤ s ∧ 0 ≤ L.sum
  | [], [], s, h, _ => by simp only [PayOf] at h; subst h; simp
  | (c, x) :: D, n :: L, s, h, hf => by
    simp only [PayOf] at h
    have ih := PayOf.nn h.2.2 fun d hd => hf d (List.mem_cons_of_mem _ hd)
    have := hf _ List.mem_cons_self
    have : 0 ≤ n * c := Int.mul_nonneg h.1 (by simp only at this; omega)
    rw [List.sum_cons]; omega
  | [], _ :: _, _, h, _ => h.elim
  | _ :: _, [], _, h, _ => h.elim
theorem worth_cons (c n : Int) (C L : List Int) (k : Nat) : worth (c :: C) (n :: L) (k + 1) = n * c + worth C L k := by
  unfold worth
  rw [List.range_succ_eq_map, List.map_cons, List.map_map, List.sum_cons]
  simp [Function.comp_def]
theorem PayOf.out : ∀ {C H L : List Int} {s : Int}, PayOf (C.zip H) L s → H.length = C.length → L.length = C.length ∧ s = worth C L L.length ∧ ∀ i, i < L.length → 0 ≤ L.getD i 0 ∧ L.getD i 0 ≤ H.getD i 0
  | [], [], [], s, h, _ => by simp only [List.zip_nil_left, PayOf] at h; subst h; simp [worth]
  | c :: C, h :: H, n :: L, s, hp, hl => by
    simp only [List.zip_cons_cons, PayOf] at hp
    have ih := PayOf.out hp.2.2 (by simpa using hl)
    refine ⟨by simp [ih.1], ?_, fun i hi => ?_⟩
    · rw [List.length_cons, worth_cons]; omega
    · cases i with
      | zero => simp only [List.getD_cons_zero]; omega
      | succ i => have := ih.2.2 i (by simpa using hi); simpa using this
  | [], [], _ :: _, _, h, _ => h.elim
  | c :: C, x :: H, [], _, h, _ => h.elim
  | [], _ :: _, _, _, _, h => by simp at h
  | _ :: _, [], _, _, _, h => by simp at h
end Go.Proofs

namespace Go.Proofs
open Go Go.RowKit Go.Sim
set_option maxRecDepth 100000
theorem Tryz.und3 : Tryz.prog.underlying 3 = some (.int .i64) := by kernel_rfl
theorem Tryz.und4 : Tryz.prog.underlying 4 = some .bool := by kernel_rfl
theorem Tryz.und22 : Tryz.prog.underlying 22 = some (.slice 3) := by kernel_rfl
theorem Tryz.cells3 : Tryz.prog.cellsOf 3 = 1 := by kernel_rfl
theorem given_int {w : AW} {n : Nat} {cs : List Value} (h : Hd Tryz.prog w n 3 cs) : ∃ x : Int, cs = icells x ∧ -9223372036854775808 ≤ x ∧ x ≤ 9223372036854775807 := by
  cases n with
  | zero => exact h.elim
  | succ n =>
    simp only [Hd, Tryz.und3] at h
    obtain ⟨i, rfl, h1, h2⟩ := h
    exact ⟨i, rfl, h1, h2⟩
theorem given_num {w : AW} {n : Nat} {v : Value} (h : HdV Tryz.prog w n 3 v) : ∃ x : Int, v = .int .i64 x ∧ -9223372036854775808 ≤ x ∧ x ≤ 9223372036854775807 := by
  simp only [HdV, Tryz.und3] at h
  obtain ⟨x, e, h1⟩ := given_int h
  injection e with e
  exact ⟨x, e, h1⟩
theorem rows_of {rows : List (List Value)} (h : ∀ r ∈ rows, ∃ x : Int, r = icells x) : ∃ xs : List Int, rows = xs.map icells := by
  induction rows with
  | nil => exact ⟨[], rfl⟩
  | cons r rows ih =>
    obtain ⟨x, hx⟩ := h r List.mem_cons_self
    obtain ⟨xs, hxs⟩ := ih fun q hq => h q (List.mem_cons_of_mem _ hq)
    exact ⟨x :: xs, by rw [hx, hxs]; rfl⟩
theorem given_ints {w : AW} {n : Nat} {cs : List Value} (h : Hd Tryz.prog w n 22 cs) : ∃ v, cs = [v] ∧ ∃ xs, ArrOf w 1 icells v xs := by
  cases n with
  | zero => exact h.elim
  | succ n =>
    simp only [Hd, Tryz.und22, Tryz.cells3] at h
    obtain ⟨v, rows, rfl, ha, hr, hgv⟩ := h
    obtain ⟨xs, rfl⟩ := rows_of fun r hq => by obtain ⟨x, hx, _⟩ := given_int (hr r hq); exact ⟨x, hx⟩
    exact ⟨v, rfl, xs, ha⟩
theorem given_intsV {w : AW} {n : Nat} {v : Value} (h : HdV Tryz.prog w n 22 v) : ∃ xs, ArrOf w 1 icells v xs := by
  simp only [HdV, Tryz.und22] at h
  obtain ⟨u, e, xs, hx⟩ := given_ints h
  injection e with e
  subst e
  exact ⟨xs, hx⟩
end Go.Proofs

namespace Go.Proofs
open Go Go.RowKit Go.Sim
set_option maxRecDepth 100000
theorem Tryz.und25 : Tryz.prog.underlying 25 = some (.array 2 3) := by kernel_rfl
theorem Tryz.und43 : Tryz.prog.underlying 43 = some (.slice 76) := by kernel_rfl
theorem Tryz.und44 : Tryz.prog.underlying 44 = some (.slice 25) := by kernel_rfl
theorem Tryz.cells76 : Tryz.prog.cellsOf 76 = 3 := by kernel_rfl
theorem Tryz.cells25 : Tryz.prog.cellsOf 25 = 2 := by kernel_rfl
theorem given_link {w : AW} {n : Nat} {cs : List Value} (h : Hd Tryz.prog w n 25 cs) : ∃ x : Int × Int, cs = lcells x := by
  cases n with
  | zero => exact h.elim
  | succ n =>
    simp only [Hd, Tryz.und25] at h
    obtain ⟨parts, rfl, hl, hp⟩ := h
    match parts, hl with
    | [p0, p1], _ =>
      obtain ⟨a, rfl, _⟩ := given_int (hp p0 List.mem_cons_self)
      obtain ⟨b, rfl, _⟩ := given_int (hp p1 (List.mem_cons_of_mem _ List.mem_cons_self))
      exact ⟨(a, b), rfl⟩
theorem given_deal {w : AW} {n : Nat} {cs : List Value} (h : Hd Tryz.prog w n 76 cs) : ∃ d : DealN, cs = dcells d := by
  cases n with
  | zero => exact h.elim
  | succ n =>
    simp only [Hd, Tryz.underlying76] at h
    obtain ⟨parts, rfl, hl, hp⟩ := h
    match parts, hl with
    | [p0, p1, p2], _ =>
      obtain ⟨a, rfl, _⟩ := given_int (hp 0 _ p0 rfl rfl)
      obtain ⟨b, rfl, _⟩ := given_int (hp 1 _ p1 rfl rfl)
      obtain ⟨c, rfl, _⟩ := given_int (hp 2 _ p2 rfl rfl)
      exact ⟨⟨a, b, c⟩, rfl⟩
theorem given_watch {w : AW} {n : Nat} {cs : List Value} (h : Hd Tryz.prog w n 46 cs) : ∃ W : WatchN, cs = [.int .i64 W.days, .int .i64 W.sum, .int .i64 W.small, .int .i64 W.more] := by
  cases n with
  | zero => exact h.elim
  | succ n =>
    simp only [Hd, Tryz.underlying46] at h
    obtain ⟨parts, rfl, hl, hp⟩ := h
    match parts, hl with
    | [p0, p1, p2, p3], _ =>
      obtain ⟨a, rfl, _⟩ := given_int (hp 0 _ p0 rfl rfl)
      obtain ⟨b, rfl, _⟩ := given_int (hp 1 _ p1 rfl rfl)
      obtain ⟨c, rfl, _⟩ := given_int (hp 2 _ p2 rfl rfl)
      obtain ⟨d, rfl, _⟩ := given_int (hp 3 _ p3 rfl rfl)
      exact ⟨⟨a, b, c, d⟩, rfl⟩
theorem given_deals {w : AW} {n : Nat} {cs : List Value} (h : Hd Tryz.prog w n 43 cs) : ∃ v, cs = [v] ∧ ∃ l : List DealN, ArrOf w 3 dcells v l := by
  cases n with
  | zero => exact h.elim
  | succ n =>
    simp only [Hd, Tryz.und43, Tryz.cells76] at h
    obtain ⟨v, rows, rfl, ha, hr, _⟩ := h
    obtain ⟨xs, rfl⟩ := Go.Sim.rows_of (enc := dcells) fun r hq => given_deal (hr r hq)
    exact ⟨v, rfl, xs, ha⟩
theorem given_links {w : AW} {n : Nat} {cs : List Value} (h : Hd Tryz.prog w n 44 cs) : ∃ v, cs = [v] ∧ ∃ L : List (Int × Int), ArrOf w 2 lcells v L := by
  cases n with
  | zero => exact h.elim
  | succ n =>
    simp only [Hd, Tryz.und44, Tryz.cells25] at h
    obtain ⟨v, rows, rfl, ha, hr, _⟩ := h
    obtain ⟨xs, rfl⟩ := Go.Sim.rows_of (enc := lcells) fun r hq => given_link (hr r hq)
    exact ⟨v, rfl, xs, ha⟩
theorem given_report {w : AW} {n : Nat} {v : Value} (h : HdV Tryz.prog w n 48 v) : ∃ (v0 v1 : Value) (W : WatchN), v = .agg #[v0, v1, .int .i64 W.days, .int .i64 W.sum, .int .i64 W.small, .int .i64 W.more] ∧ (∃ l, ArrOf w 3 dcells v0 l) ∧ ∃ L, ArrOf w 2 lcells v1 L := by
  simp only [HdV, Tryz.underlying48] at h
  obtain ⟨cs, rfl, h⟩ := h
  cases n with
  | zero => exact h.elim
  | succ n =>
    simp only [Hd, Tryz.underlying48] at h
    obtain ⟨parts, hc, hl, hp⟩ := h
    match parts, hl with
    | [p0, p1, p2], _ =>
      obtain ⟨v0, rfl, h0⟩ := given_deals (hp 0 _ p0 rfl rfl)
      obtain ⟨v1, rfl, h1⟩ := given_links (hp 1 _ p1 rfl rfl)
      obtain ⟨W, rfl⟩ := given_watch (hp 2 _ p2 rfl rfl)
      refine ⟨v0, v1, W, ?_, h0, h1⟩
      rw [show cs = cs.toList.toArray from rfl, hc]; rfl
theorem FromV_ok (a b c : Int) (w : AW) : CallT Tryz.prog Tryz.T1 (.fn (.func 40) #[]) #[.int .i64 a, .int .i64 b, .int .i64 c] w (Ret (.bool (inR a b c)) fun w' => w = w') := by
  unfold inR
  refine callT_code rfl Tryz.func40 rfl Tryz.s40_eq rfl ?_
  unfold Tryz.s40
  by_cases h1 : a ≤ b
  · simp -dsimp -implicitDefEqProofs (maxSteps := 2000000) (disch := first | assumption | omega | (simp only [nx]; omega) | ((repeat refine Fresh.push ?_ _); assumption) | (simp only [smA]; done) | (simp [oneCell, AW.next_push]; done) | fail) only [go_sem, Nat.reduceEqDiff, reduceIte, Nat.reduceAdd, Int.toNat_natCast, Nat.add_zero, Owes_true, Tryz.results40, h1]
    exact ⟨by simp, rfl⟩
  · simp -dsimp -implicitDefEqProofs (maxSteps := 2000000) (disch := first | assumption | omega | (simp only [nx]; omega) | ((repeat refine Fresh.push ?_ _); assumption) | (simp only [smA]; done) | (simp [oneCell, AW.next_push]; done) | fail) only [go_sem, Nat.reduceEqDiff, reduceIte, Nat.reduceAdd, Int.toNat_natCast, Nat.add_zero, Owes_true, Tryz.results40, h1]
    exact ⟨by simp, rfl⟩
end Go.Proofs

namespace Go.Proofs
open Go Go.RowKit Go.Sim
set_option maxRecDepth 100000
theorem subl_of {U V : List Nat} : U.Pairwise (· < ·) → V.Pairwise (· < ·) → (∀ x ∈ U, x ∈ V) → U.Sublist V := by
  induction V generalizing U with
  | nil =>
    intro _ _ h
    cases U with
    | nil => exact .slnil
    | cons u U => exact absurd (h u List.mem_cons_self) (by simp)
  | cons v V ih =>
    intro hU hV h
    cases U with
    | nil => exact List.nil_sublist _
    | cons u U =>
      rw [List.pairwise_cons] at hU hV
      by_cases e : u = v
      · subst e
        refine List.Sublist.cons_cons _ (ih hU.2 hV.2 fun x hx => ?_)
        rcases List.mem_cons.mp (h x (List.mem_cons_of_mem _ hx)) with q | q
        · have := hU.1 x hx; omega
        · exact q
      · have hu : u ∈ V := by
          rcases List.mem_cons.mp (h u List.mem_cons_self) with q | q
          · exact absurd q e
          · exact q
        refine List.Sublist.cons _ (ih (List.pairwise_cons.mpr hU) hV.2 fun x hx => ?_)
        rcases List.mem_cons.mp (h x hx) with q | q
        · have hv := hV.1 u hu
          rcases List.mem_cons.mp hx with z | z
          · omega
          · have := hU.1 x z; omega
        · exact q
theorem winOf_pw (W : WatchN) (A : List Int) (l : List DealN) (k : Nat) : (winOf W A l k).Pairwise (· < ·) := by
  unfold winOf winTo
  exact List.Pairwise.filter _ List.pairwise_lt_range
theorem mem_win {W : WatchN} {A : List Int} {l : List DealN} {k i : Nat} : i ∈ winOf W A l k ↔ i ≤ k ∧ dayAt l i > dayAt l k - W.days ∧ leadAt A l i = leadAt A l k := by
  unfold winOf winTo
  rw [List.mem_filter, List.mem_range]
  simp only [inWin, Bool.and_eq_true, decide_eq_true_eq]
  omega
theorem winOf_len (W : WatchN) (A : List Int) (l : List DealN) (k : Nat) : (winOf W A l k).length ≤ k + 1 := winTo_len W A l k (k + 1)
theorem toI_take {L : List Nat} {X : List Int} (h : X = toI L) (i : Nat) (hi : i < X.length) : X[i] = (L[i]'(by rw [h, toI_len] at hi; exact hi) : Int) := by
  subst h; exact toI_at _
set_option maxHeartbeats 32000000 in
theorem inside_ok (l : List DealN) (W : WatchN) (A : List Int) (v0 : Value) (p1 : Option Addr) (n1 c1 : Nat) (kd : Nat) (X : List Int) (v3 : Value) (bA : Nat) (w : AW) (f : Fresh w) (hs : ArrOf w 3 dcells v0 l) (hX : ArrOf w 1 icells v3 X) (hA : A.length = 24) (oA : Own w bA 115 (icl A)) (hkd : kd < l.length) (hl : l.length ≤ 64) (hd : ∀ d ∈ l, dealB d = true) (hW : watchB W = true) :
    CallT Tryz.prog Tryz.T1 (.fn (.func 45) #[]) #[.agg #[v0, .slice p1 n1 c1, .int .i64 W.days, .int .i64 W.sum, .int .i64 W.small, .int .i64 W.more], .slice (some ⟨bA, 0, none⟩) 24 24, .int .i64 (kd : Int), v3] w (fun r w' => (∃ (s : Int) (b : Bool), r = .tuple #[.int .i64 s, .bool b] ∧ (b = true → ∃ U, X = toI U ∧ U.Sublist (winOf W A l kd) ∧ s = sumW l U) ∧ (∀ U, X = toI U → U.Sublist (winOf W A l kd) → b = true)) ∧ Grown w w') := by
  obtain ⟨p0, c0, rfl, _, _, hat⟩ := id hs.open
  obtain ⟨p3, c3, rfl, _, _, hat3⟩ := id hX.open
  have hW' := hW
  simp only [watchB, Bool.and_eq_true, inR_iff] at hW'
  have gD := (Grown.refl f).push (.cells [.slice p0 l.length c0, .slice p1 n1 c1, .int .i64 W.days, .int .i64 W.sum, .int .i64 W.small, .int .i64 W.more] 48 w.next 0 0)
  have oD := Own.new f 48 [.slice p0 l.length c0, .slice p1 n1 c1, .int .i64 W.days, .int .i64 W.sum, .int .i64 W.small, .int .i64 W.more]
  have oA2 := oA.keep gD.1
  refine callT_code rfl Tryz.func45 rfl Tryz.s45_eq rfl ?_
  unfold Tryz.s45
  simp -dsimp -implicitDefEqProofs (maxSteps := 2000000) (disch := first | assumption | omega | (simp only [nx]; omega) | ((repeat refine Fresh.push ?_ _); assumption) | (simp only [smA]; done) | (simp [oneCell, AW.next_push]; done) | fail) only [go_sem, Nat.reduceEqDiff, reduceIte, Nat.reduceAdd, Int.toNat_natCast, Nat.add_zero, Owes_true, Tryz.results45]
  generalize hw2 : w.push (.cells [.slice p0 l.length c0, .slice p1 n1 c1, .int .i64 W.days, .int .i64 W.sum, .int .i64 W.small, .int .i64 W.more] 48 w.next 0 0) = w2 at *
  have d0 := oD.cell (o := 0) rfl rfl
  have d2 := oD.cell (o := 2) rfl rfl
  refine loopR (fun k t ds w1 => ∃ i : Nat, i ≤ X.length ∧ k = X.length - i ∧ ds = [] ∧ ev t (.tmp 1) = .slice (some ⟨bA, 0, none⟩) 24 24 ∧ ev t (.tmp 2) = .int .i64 (kd : Int) ∧ ev t (.tmp 3) = .slice p3 X.length c3 ∧ ev t (.tmp 4) = .pointer (some ⟨w.next, 0, none⟩) ∧ ev t (.tmp 11) = .int .i64 (i : Int) ∧ ∃ U, X.take i = toI U ∧ U.Pairwise (· < ·) ∧ (∀ x ∈ U, x ∈ winOf W A l kd) ∧ ev t (.tmp 10) = .int .i64 (sumW l U) ∧ w1 = w2) (X.length) ?_ ?_
  · refine ⟨0, by omega, by omega, rfl, ?_, ?_, ?_, ?_, ?_, [], rfl, .nil, (fun _ h => by simp at h), (by simp -dsimp -implicitDefEqProofs (maxSteps := 2000000) (disch := first | assumption | omega | (simp only [nx]; omega) | ((repeat refine Fresh.push ?_ _); assumption) | (simp only [smA]; done) | (simp [oneCell, AW.next_push]; done) | fail) only [go_sem, Nat.reduceEqDiff, reduceIte, Nat.reduceAdd, Int.toNat_natCast, Nat.add_zero, Owes_true]; try rfl), rfl⟩ <;> simp -dsimp -implicitDefEqProofs (maxSteps := 2000000) (disch := first | assumption | omega | (simp only [nx]; omega) | ((repeat refine Fresh.push ?_ _); assumption) | (simp only [smA]; done) | (simp [oneCell, AW.next_push]; done) | fail) only [go_sem, Nat.reduceEqDiff, reduceIte, Nat.reduceAdd, Int.toNat_natCast, Nat.add_zero, Owes_true] <;> rfl
  rintro k t ds w1 ⟨i, hii, rfl, rfl, e1, e2, e3, e4, e11, U, hU, hpw, hmem, e10, hww⟩
  subst hww
  have hsl := subl_of hpw (winOf_pw W A l kd) hmem
  by_cases hlt : (i : Int) < (X.length : Int)
  case neg =>
    obtain rfl : i = X.length := by omega
    rw [List.take_of_length_le (Nat.le_refl _)] at hU
    simp -dsimp -implicitDefEqProofs (maxSteps := 2000000) (disch := first | assumption | omega | (simp only [nx]; omega) | ((repeat refine Fresh.push ?_ _); assumption) | (simp only [smA]; done) | (simp [oneCell, AW.next_push]; done) | fail) only [go_sem, Nat.reduceEqDiff, reduceIte, Nat.reduceAdd, Int.toNat_natCast, Nat.add_zero, Owes_true, Tryz.results45, e1, e2, e3, e4, e10, e11, hlt]
    exact ⟨⟨sumW l U, true, rfl, fun _ => ⟨U, hU, hsl, rfl⟩, fun _ _ _ => rfl⟩, gD⟩
  have hlt' : i < X.length := by omega
  have hUl : U.length = i := by
    have := congrArg List.length hU
    rw [toI_len, List.length_take] at this; omega
  obtain ⟨b3, o3, rfl, hb3, hcell3⟩ := hat3 i hlt'
  have x0 := hcell3 w1 gD.1 0 _ rfl
  rw [Nat.add_zero] at x0
  obtain ⟨bk, ok, rfl, hbk, hcellk⟩ := hat kd hkd
  have k0 := hcellk w1 gD.1 0 _ rfl
  have k1 := hcellk w1 gD.1 1 _ rfl
  rw [Nat.add_zero] at k0
  have hkl : (kd : Int) < (l.length : Int) := by omega
  have hdk := (dealB_iff _).1 (hd _ (List.getElem_mem hkd))
  -- a list inside the window goes on
  have look : ∀ V, X = toI V → V.Sublist (winOf W A l kd) → ∃ u : Nat, X[i] = (u : Int) ∧ u ∈ winOf W A l kd ∧ (∀ (m : Nat) (hm : m + 1 = i), X[m]'(by omega) < X[i]) := fun V hV hs => by
    have hVl : i < V.length := by rw [hV, toI_len] at hlt'; exact hlt'
    refine ⟨V[i], toI_take hV i hlt', hs.subset (List.getElem_mem hVl), fun m hm => ?_⟩
    rw [toI_take hV i hlt', toI_take hV m (by omega)]
    have hp : V.Pairwise (· < ·) := (winOf_pw W A l kd).sublist hs
    have := List.pairwise_iff_getElem.mp hp m i (by omega) hVl (by omega)
    omega
  have stop : (∀ V, X = toI V → V.Sublist (winOf W A l kd) → False) → (∃ (s : Int) (b : Bool), (Value.tuple #[.int .i64 0, .bool false]) = .tuple #[.int .i64 s, .bool b] ∧ (b = true → ∃ U, X = toI U ∧ U.Sublist (winOf W A l kd) ∧ s = sumW l U) ∧ (∀ U, X = toI U → U.Sublist (winOf W A l kd) → b = true)) := fun h => ⟨0, false, rfl, (fun h => by cases h), fun V h1 h2 => (h V h1 h2).elim⟩
  generalize hx : X[i] = x at *
  simp -dsimp -implicitDefEqProofs (maxSteps := 2000000) (disch := first | assumption | omega | (simp only [nx]; omega) | ((repeat refine Fresh.push ?_ _); assumption) | (simp only [smA]; done) | (simp [oneCell, AW.next_push]; done) | fail) only [go_sem, Nat.reduceEqDiff, reduceIte, Nat.reduceAdd, Int.toNat_natCast, Nat.add_zero, Owes_true, Tryz.results45, e1, e2, e3, e4, e10, e11, hlt, indexV_eq, x0]
  apply callV_of (e := rfl)
  · exact FromV_ok _ _ _ _
  rintro _ _ ⟨rfl, rfl⟩
  cases hin : inR 0 x (kd : Int) with
  | false =>
    simp -dsimp -implicitDefEqProofs (maxSteps := 2000000) (disch := first | assumption | omega | (simp only [nx]; omega) | ((repeat refine Fresh.push ?_ _); assumption) | (simp only [smA]; done) | (simp [oneCell, AW.next_push]; done) | fail) only [go_sem, Nat.reduceEqDiff, reduceIte, Nat.reduceAdd, Int.toNat_natCast, Nat.add_zero, Owes_true, Tryz.results45, e1, e2, e3, e4, e10, e11]
    refine ⟨stop fun V h1 h2 => ?_, gD⟩
    obtain ⟨u, rfl, hu, _⟩ := look V h1 h2
    have := (mem_win.mp hu).1
    rw [(inR_iff _ _ _).2 ⟨by omega, by omega⟩] at hin; cases hin
  | true =>
  have hin' := (inR_iff _ _ _).1 hin
  obtain ⟨u, rfl⟩ := Int.eq_ofNat_of_zero_le hin'.1
  have hul : u < l.length := by omega
  have hul2 : (u : Int) < (l.length : Int) := by omega
  obtain ⟨bu, ou, eu, hbu, hcellu⟩ := hat u hul
  injection eu with eu
  injection eu with eu1 eu2
  subst eu1 eu2
  have u0 := hcellu w1 gD.1 0 _ rfl
  have u1 := hcellu w1 gD.1 1 _ rfl
  have u2 := hcellu w1 gD.1 2 _ rfl
  rw [Nat.add_zero] at u0
  have hdu := (dealB_iff _).1 (hd _ (List.getElem_mem hul))
  have hsu := sumAt_in hd hul
  have hdayu := dayAt_eq hul
  have hdayk := dayAt_eq hkd
  have hleu := leadAt_eq (A := A) hul
  have hlek := leadAt_eq (A := A) hkd
  have hsmu := sumAt_eq hul
  generalize l[u].day = du at *
  generalize l[u].who = pu at *
  generalize l[u].sum = su at *
  generalize l[kd].day = dk at *
  generalize l[kd].who = pk at *
  obtain ⟨PU, rfl⟩ : ∃ PU : Nat, pu = (PU : Int) := ⟨pu.toNat, by omega⟩
  obtain ⟨PK, rfl⟩ : ∃ PK : Nat, pk = (PK : Int) := ⟨pk.toNat, by omega⟩
  rw [Int.toNat_natCast] at hleu hlek
  have aU := oA2.cell (o := PU) (icl_at (by omega)) rfl
  have aK := oA2.cell (o := PK) (icl_at (by omega)) rfl
  have iU : indexV 1 (.slice (some ⟨bA, 0, none⟩) 24 24) (.int .i64 (PU : Int)) = some (.pointer (some ⟨bA, PU, none⟩)) := by rw [indexV_eq (by omega) (by omega)]; simp
  have iK : indexV 1 (.slice (some ⟨bA, 0, none⟩) 24 24) (.int .i64 (PK : Int)) = some (.pointer (some ⟨bA, PK, none⟩)) := by rw [indexV_eq (by omega) (by omega)]; simp
  have hb1 := sums_in hd (L := U) (fun n hn => by have := (mem_win.mp (hmem n hn)).1; omega) U.length (Nat.le_refl _)
  rw [List.take_of_length_le (Nat.le_refl _)] at hb1
  have hsumU : (U.map (sumAt l)).sum = sumW l U := rfl
  rw [hsumU] at hb1
  have hUle := hsl.length_le
  have hwl := winOf_len W A l kd
  have hPU : inR 0 (PU : Int) 23 = true := (inR_iff _ _ _).2 ⟨by omega, by omega⟩
  have hPK : inR 0 (PK : Int) 23 = true := (inR_iff _ _ _).2 ⟨by omega, by omega⟩
  have next : (∀ (m : Nat) (hm : m + 1 = i), X[m]'(by omega) < (u : Int)) → u ∈ winOf W A l kd → (X.take (i + 1) = toI (U ++ [u]) ∧ (U ++ [u]).Pairwise (· < ·) ∧ (∀ x ∈ U ++ [u], x ∈ winOf W A l kd) ∧ sumW l (U ++ [u]) = sumW l U + su) := fun hm hu => by
    refine ⟨by rw [List.take_succ_eq_append_getElem hlt', hU, toI_add, hx], ?_, fun y hy => ?_, ?_⟩
    · rw [List.pairwise_append]
      refine ⟨hpw, List.pairwise_singleton _ _, fun a ha b hb => ?_⟩
      simp at hb
      subst hb
      obtain ⟨j, hj, rfl⟩ := List.mem_iff_getElem.mp ha
      have hlast := hm (i - 1) (by omega)
      have e1 : X[i - 1]'(by omega) = (U[i - 1]'(by omega) : Int) := by
        have h2 : (X.take i)[i - 1]'(by rw [List.length_take]; omega) = (toI U)[i - 1]'(by rw [toI_len]; omega) := by congr 1
        rw [List.getElem_take] at h2
        rw [h2, toI_at]
      rw [e1] at hlast
      rcases Nat.lt_or_ge j (i - 1) with q | q
      · have := List.pairwise_iff_getElem.mp hpw j (i - 1) hj (by omega) q
        omega
      · have : j = i - 1 := by omega
        subst this
        omega
    · rcases List.mem_append.mp hy with q | q
      · exact hmem y q
      · simp at q; subst q; exact hu
    · unfold sumW
      rw [List.map_append, List.sum_append]
      simp [hsmu]
  by_cases hi0 : i = 0
  · have hd0 : decide ((i : Int) > 0) = false := decide_eq_false (by omega)
    simp -dsimp -implicitDefEqProofs (maxSteps := 2000000) (disch := first | assumption | omega | (simp only [nx]; omega) | ((repeat refine Fresh.push ?_ _); assumption) | (simp only [smA]; done) | (simp [oneCell, AW.next_push]; done) | fail) only [go_sem, Nat.reduceEqDiff, reduceIte, Nat.reduceAdd, Int.toNat_natCast, Nat.add_zero, Owes_true, e1, e2, e3, e4, e10, e11, indexV_eq, x0, d0, d2, hul2, hkl, u0, u1, u2, k0, k1, Nat.zero_add, hd0]
    apply callV_of (e := rfl)
    · exact FromV_ok _ _ _ _
    rintro _ _ ⟨rfl, rfl⟩
    simp -dsimp -implicitDefEqProofs (maxSteps := 2000000) (disch := first | assumption | omega | (simp only [nx]; omega) | ((repeat refine Fresh.push ?_ _); assumption) | (simp only [smA]; done) | (simp [oneCell, AW.next_push]; done) | fail) only [go_sem, Nat.reduceEqDiff, reduceIte, Nat.reduceAdd, Int.toNat_natCast, Nat.add_zero, Owes_true, e1, e2, e3, e4, e10, e11, hPU, indexV_eq, x0, d0, d2, hul2, hkl, u0, u1, u2, k0, k1, Nat.zero_add]
    apply callV_of (e := rfl)
    · exact FromV_ok _ _ _ _
    rintro _ _ ⟨rfl, rfl⟩
    by_cases hl1 : lb A PU = lb A PK
    case neg =>
      simp -dsimp -implicitDefEqProofs (maxSteps := 2000000) (disch := first | assumption | omega | (simp only [nx]; omega) | ((repeat refine Fresh.push ?_ _); assumption) | (simp only [smA]; done) | (simp [oneCell, AW.next_push]; done) | fail) only [go_sem, Nat.reduceEqDiff, reduceIte, Nat.reduceAdd, Int.toNat_natCast, Nat.add_zero, Owes_true, Tryz.results45, e1, e2, e3, e4, e10, e11, hPK, indexV_eq, x0, d0, d2, hul2, hkl, u0, u1, u2, k0, k1, Nat.zero_add, iU, iK, aU, aK, hl1]
      refine ⟨stop fun V h1 h2 => ?_, gD⟩
      obtain ⟨u', hu', hu, _⟩ := look V h1 h2
      obtain rfl : u = u' := by omega
      have := (mem_win.mp hu).2.2
      rw [hleu, hlek] at this
      exact hl1 this
    have hl2 : decide (lb A PU = lb A PK) = true := decide_eq_true hl1
    by_cases hday : du ≤ dk - W.days
    · have hday' : decide (du ≤ dk - W.days) = true := decide_eq_true hday
      simp -dsimp -implicitDefEqProofs (maxSteps := 2000000) (disch := first | assumption | omega | (simp only [nx]; omega) | ((repeat refine Fresh.push ?_ _); assumption) | (simp only [smA]; done) | (simp [oneCell, AW.next_push]; done) | fail) only [go_sem, Nat.reduceEqDiff, reduceIte, Nat.reduceAdd, Int.toNat_natCast, Nat.add_zero, Owes_true, Tryz.results45, e1, e2, e3, e4, e10, e11, hPK, indexV_eq, x0, d0, d2, hul2, hkl, u0, u1, u2, k0, k1, Nat.zero_add, iU, iK, aU, aK, hl2, hday']
      refine ⟨stop fun V h1 h2 => ?_, gD⟩
      obtain ⟨u', hu', hu, _⟩ := look V h1 h2
      obtain rfl : u = u' := by omega
      have := (mem_win.mp hu).2.1
      rw [hdayu, hdayk] at this
      omega
    · have hday' : decide (du ≤ dk - W.days) = false := decide_eq_false hday
      have hmw : u ∈ winOf W A l kd := mem_win.mpr ⟨by omega, by rw [hdayu, hdayk]; omega, by rw [hleu, hlek]; exact hl1⟩
      obtain ⟨n1', n2', n3', n4'⟩ := next (fun m hm => absurd hm (by omega)) hmw
      simp -dsimp -implicitDefEqProofs (maxSteps := 2000000) (disch := first | assumption | omega | (simp only [nx]; omega) | ((repeat refine Fresh.push ?_ _); assumption) | (simp only [smA]; done) | (simp [oneCell, AW.next_push]; done) | fail) only [go_sem, Nat.reduceEqDiff, reduceIte, Nat.reduceAdd, Int.toNat_natCast, Nat.add_zero, Owes_true, Tryz.results45, e1, e2, e3, e4, e10, e11, hPK, indexV_eq, x0, d0, d2, hul2, hkl, u0, u1, u2, k0, k1, Nat.zero_add, iU, iK, aU, aK, hl2, hday']
      refine ⟨_, by omega, i + 1, by omega, rfl, rfl, by (simp -dsimp -implicitDefEqProofs (maxSteps := 2000000) (disch := first | assumption | omega | (simp only [nx]; omega) | ((repeat refine Fresh.push ?_ _); assumption) | (simp only [smA]; done) | (simp [oneCell, AW.next_push]; done) | fail) only [go_sem, Nat.reduceEqDiff, reduceIte, Nat.reduceAdd, Int.toNat_natCast, Nat.add_zero, Owes_true, e1]; try rfl), by (simp -dsimp -implicitDefEqProofs (maxSteps := 2000000) (disch := first | assumption | omega | (simp only [nx]; omega) | ((repeat refine Fresh.push ?_ _); assumption) | (simp only [smA]; done) | (simp [oneCell, AW.next_push]; done) | fail) only [go_sem, Nat.reduceEqDiff, reduceIte, Nat.reduceAdd, Int.toNat_natCast, Nat.add_zero, Owes_true, e2]; try rfl), by (simp -dsimp -implicitDefEqProofs (maxSteps := 2000000) (disch := first | assumption | omega | (simp only [nx]; omega) | ((repeat refine Fresh.push ?_ _); assumption) | (simp only [smA]; done) | (simp [oneCell, AW.next_push]; done) | fail) only [go_sem, Nat.reduceEqDiff, reduceIte, Nat.reduceAdd, Int.toNat_natCast, Nat.add_zero, Owes_true, e3]; try rfl), by (simp -dsimp -implicitDefEqProofs (maxSteps := 2000000) (disch := first | assumption | omega | (simp only [nx]; omega) | ((repeat refine Fresh.push ?_ _); assumption) | (simp only [smA]; done) | (simp [oneCell, AW.next_push]; done) | fail) only [go_sem, Nat.reduceEqDiff, reduceIte, Nat.reduceAdd, Int.toNat_natCast, Nat.add_zero, Owes_true, e4]; try rfl), by (simp -dsimp -implicitDefEqProofs (maxSteps := 2000000) (disch := first | assumption | omega | (simp only [nx]; omega) | ((repeat refine Fresh.push ?_ _); assumption) | (simp only [smA]; done) | (simp [oneCell, AW.next_push]; done) | fail) only [go_sem, Nat.reduceEqDiff, reduceIte, Nat.reduceAdd, Int.toNat_natCast, Nat.add_zero, Owes_true, e11]; try rfl), U ++ [u], n1', n2', n3', (by rw [n4']; simp -dsimp -implicitDefEqProofs (maxSteps := 2000000) (disch := first | assumption | omega | (simp only [nx]; omega) | ((repeat refine Fresh.push ?_ _); assumption) | (simp only [smA]; done) | (simp [oneCell, AW.next_push]; done) | fail) only [go_sem, Nat.reduceEqDiff, reduceIte, Nat.reduceAdd, Int.toNat_natCast, Nat.add_zero, Owes_true]; try rfl), rfl⟩
  · obtain ⟨m, hm⟩ : ∃ m, m + 1 = i := ⟨i - 1, by omega⟩
    have hd0 : decide ((i : Int) > 0) = true := decide_eq_true (by omega)
    have him : (i : Int) - 1 = (m : Int) := by omega
    obtain ⟨b4, o4, e4', hb4, hcell4⟩ := hat3 m (by omega)
    injection e4' with e4'
    injection e4' with e41 e42
    subst e41 e42
    have xm := hcell4 w1 gD.1 0 _ rfl
    rw [Nat.add_zero] at xm
    generalize hxm : X[m]'(by omega) = y at *
    by_cases hord : y ≥ (u : Int)
    · have hord' : decide (y ≥ (u : Int)) = true := decide_eq_true hord
      simp -dsimp -implicitDefEqProofs (maxSteps := 2000000) (disch := first | assumption | omega | (simp only [nx]; omega) | ((repeat refine Fresh.push ?_ _); assumption) | (simp only [smA]; done) | (simp [oneCell, AW.next_push]; done) | fail) only [go_sem, Nat.reduceEqDiff, reduceIte, Nat.reduceAdd, Int.toNat_natCast, Nat.add_zero, Owes_true, Tryz.results45, e1, e2, e3, e4, e10, e11, indexV_eq, x0, xm, him, hd0, hord']
      refine ⟨stop fun V h1 h2 => ?_, gD⟩
      obtain ⟨u', hu', hu, hlt2⟩ := look V h1 h2
      have := hlt2 m hm
      omega
    · have hord' : decide (y ≥ (u : Int)) = false := decide_eq_false hord
      have hm' : ∀ (m' : Nat) (hm' : m' + 1 = i), X[m']'(by omega) < (u : Int) := fun m' hm' => by
        obtain rfl : m' = m := by omega
        omega
      simp -dsimp -implicitDefEqProofs (maxSteps := 2000000) (disch := first | assumption | omega | (simp only [nx]; omega) | ((repeat refine Fresh.push ?_ _); assumption) | (simp only [smA]; done) | (simp [oneCell, AW.next_push]; done) | fail) only [go_sem, Nat.reduceEqDiff, reduceIte, Nat.reduceAdd, Int.toNat_natCast, Nat.add_zero, Owes_true, e1, e2, e3, e4, e10, e11, indexV_eq, x0, d0, d2, hul2, hkl, u0, u1, u2, k0, k1, Nat.zero_add, xm, him, hd0, hord']
      apply callV_of (e := rfl)
      · exact FromV_ok _ _ _ _
      rintro _ _ ⟨rfl, rfl⟩
      simp -dsimp -implicitDefEqProofs (maxSteps := 2000000) (disch := first | assumption | omega | (simp only [nx]; omega) | ((repeat refine Fresh.push ?_ _); assumption) | (simp only [smA]; done) | (simp [oneCell, AW.next_push]; done) | fail) only [go_sem, Nat.reduceEqDiff, reduceIte, Nat.reduceAdd, Int.toNat_natCast, Nat.add_zero, Owes_true, e1, e2, e3, e4, e10, e11, hPU, indexV_eq, x0, d0, d2, hul2, hkl, u0, u1, u2, k0, k1, Nat.zero_add]
      apply callV_of (e := rfl)
      · exact FromV_ok _ _ _ _
      rintro _ _ ⟨rfl, rfl⟩
      by_cases hl1 : lb A PU = lb A PK
      case neg =>
        simp -dsimp -implicitDefEqProofs (maxSteps := 2000000) (disch := first | assumption | omega | (simp only [nx]; omega) | ((repeat refine Fresh.push ?_ _); assumption) | (simp only [smA]; done) | (simp [oneCell, AW.next_push]; done) | fail) only [go_sem, Nat.reduceEqDiff, reduceIte, Nat.reduceAdd, Int.toNat_natCast, Nat.add_zero, Owes_true, Tryz.results45, e1, e2, e3, e4, e10, e11, hPK, indexV_eq, x0, d0, d2, hul2, hkl, u0, u1, u2, k0, k1, Nat.zero_add, iU, iK, aU, aK, hl1]
        refine ⟨stop fun V h1 h2 => ?_, gD⟩
        obtain ⟨u', hu', hu, _⟩ := look V h1 h2
        obtain rfl : u = u' := by omega
        have := (mem_win.mp hu).2.2
        rw [hleu, hlek] at this
        exact hl1 this
      have hl2 : decide (lb A PU = lb A PK) = true := decide_eq_true hl1
      by_cases hday : du ≤ dk - W.days
      · have hday' : decide (du ≤ dk - W.days) = true := decide_eq_true hday
        simp -dsimp -implicitDefEqProofs (maxSteps := 2000000) (disch := first | assumption | omega | (simp only [nx]; omega) | ((repeat refine Fresh.push ?_ _); assumption) | (simp only [smA]; done) | (simp [oneCell, AW.next_push]; done) | fail) only [go_sem, Nat.reduceEqDiff, reduceIte, Nat.reduceAdd, Int.toNat_natCast, Nat.add_zero, Owes_true, Tryz.results45, e1, e2, e3, e4, e10, e11, hPK, indexV_eq, x0, d0, d2, hul2, hkl, u0, u1, u2, k0, k1, Nat.zero_add, iU, iK, aU, aK, hl2, hday']
        refine ⟨stop fun V h1 h2 => ?_, gD⟩
        obtain ⟨u', hu', hu, _⟩ := look V h1 h2
        obtain rfl : u = u' := by omega
        have := (mem_win.mp hu).2.1
        rw [hdayu, hdayk] at this
        omega
      · have hday' : decide (du ≤ dk - W.days) = false := decide_eq_false hday
        have hmw : u ∈ winOf W A l kd := mem_win.mpr ⟨by omega, by rw [hdayu, hdayk]; omega, by rw [hleu, hlek]; exact hl1⟩
        obtain ⟨n1', n2', n3', n4'⟩ := next hm' hmw
        simp -dsimp -implicitDefEqProofs (maxSteps := 2000000) (disch := first | assumption | omega | (simp only [nx]; omega) | ((repeat refine Fresh.push ?_ _); assumption) | (simp only [smA]; done) | (simp [oneCell, AW.next_push]; done) | fail) only [go_sem, Nat.reduceEqDiff, reduceIte, Nat.reduceAdd, Int.toNat_natCast, Nat.add_zero, Owes_true, Tryz.results45, e1, e2, e3, e4, e10, e11, hPK, indexV_eq, x0, d0, d2, hul2, hkl, u0, u1, u2, k0, k1, Nat.zero_add, iU, iK, aU, aK, hl2, hday']
        refine ⟨_, by omega, i + 1, by omega, rfl, rfl, by (simp -dsimp -implicitDefEqProofs (maxSteps := 2000000) (disch := first | assumption | omega | (simp only [nx]; omega) | ((repeat refine Fresh.push ?_ _); assumption) | (simp only [smA]; done) | (simp [oneCell, AW.next_push]; done) | fail) only [go_sem, Nat.reduceEqDiff, reduceIte, Nat.reduceAdd, Int.toNat_natCast, Nat.add_zero, Owes_true, e1]; try rfl), by (simp -dsimp -implicitDefEqProofs (maxSteps := 2000000) (disch := first | assumption | omega | (simp only [nx]; omega) | ((repeat refine Fresh.push ?_ _); assumption) | (simp only [smA]; done) | (simp [oneCell, AW.next_push]; done) | fail) only [go_sem, Nat.reduceEqDiff, reduceIte, Nat.reduceAdd, Int.toNat_natCast, Nat.add_zero, Owes_true, e2]; try rfl), by (simp -dsimp -implicitDefEqProofs (maxSteps := 2000000) (disch := first | assumption | omega | (simp only [nx]; omega) | ((repeat refine Fresh.push ?_ _); assumption) | (simp only [smA]; done) | (simp [oneCell, AW.next_push]; done) | fail) only [go_sem, Nat.reduceEqDiff, reduceIte, Nat.reduceAdd, Int.toNat_natCast, Nat.add_zero, Owes_true, e3]; try rfl), by (simp -dsimp -implicitDefEqProofs (maxSteps := 2000000) (disch := first | assumption | omega | (simp only [nx]; omega) | ((repeat refine Fresh.push ?_ _); assumption) | (simp only [smA]; done) | (simp [oneCell, AW.next_push]; done) | fail) only [go_sem, Nat.reduceEqDiff, reduceIte, Nat.reduceAdd, Int.toNat_natCast, Nat.add_zero, Owes_true, e4]; try rfl), by (simp -dsimp -implicitDefEqProofs (maxSteps := 2000000) (disch := first | assumption | omega | (simp only [nx]; omega) | ((repeat refine Fresh.push ?_ _); assumption) | (simp only [smA]; done) | (simp [oneCell, AW.next_push]; done) | fail) only [go_sem, Nat.reduceEqDiff, reduceIte, Nat.reduceAdd, Int.toNat_natCast, Nat.add_zero, Owes_true, e11]; try rfl), U ++ [u], n1', n2', n3', (by rw [n4']; simp -dsimp -implicitDefEqProofs (maxSteps := 2000000) (disch := first | assumption | omega | (simp only [nx]; omega) | ((repeat refine Fresh.push ?_ _); assumption) | (simp only [smA]; done) | (simp [oneCell, AW.next_push]; done) | fail) only [go_sem, Nat.reduceEqDiff, reduceIte, Nat.reduceAdd, Int.toNat_natCast, Nat.add_zero, Owes_true]; try rfl), rfl⟩
end Go.Proofs

namespace Go.Proofs
open Go Go.RowKit Go.Sim
theorem sortedD_pw (S : List Int) : (sortedD S).Pairwise fun x y => y ≤ x := by
  have h := List.pairwise_mergeSort (le := fun x y : Int => decide (y ≤ x)) (fun a b c h1 h2 => by simp at *; omega) (fun a b => by simp; omega) S
  exact h.imp fun h => by simpa using h
theorem top_le : ∀ (D T R : List Int), D.Pairwise (fun x y => y ≤ x) → (T ++ R).Perm D → T.sum ≤ (D.take T.length).sum
  | [], T, R, _, h => by
    have := h.length_eq
    simp at this
    have hT : T = [] := this.1
    subst hT; simp
  | d :: D, T, R, hD, h => by
    rw [List.pairwise_cons] at hD
    cases T with
    | nil => simp
    | cons t T =>
      have hmem : d ∈ (t :: T) ++ R := h.mem_iff.mpr List.mem_cons_self
      rcases List.mem_append.mp hmem with q | q
      · have hp := List.perm_cons_erase q
        have h2 : (((t :: T).erase d) ++ R).Perm D := by
          have : (d :: (((t :: T).erase d) ++ R)).Perm (d :: D) := ((hp.symm.append_right R).trans h)
          exact this.cons_inv
        have ih := top_le D _ R hD.2 h2
        have hl : ((t :: T).erase d).length = T.length := by rw [List.length_erase_of_mem q]; rfl
        rw [hl] at ih
        have hs : (t :: T).sum = d + ((t :: T).erase d).sum := by rw [perm_sum hp, List.sum_cons]
        have hr : ((d :: D).take (t :: T).length).sum = d + (D.take T.length).sum := by rw [List.length_cons, List.take_succ_cons, List.sum_cons]
        omega
      · have hp := List.perm_cons_erase q
        have h2 : (T ++ (t :: R.erase d)).Perm D := by
          have h3 : (d :: (T ++ (t :: R.erase d))).Perm (d :: D) := by
            refine List.Perm.trans ?_ h
            have a1 : ((t :: T) ++ R).Perm ((t :: T) ++ (d :: R.erase d)) := hp.append_left _
            refine List.Perm.trans ?_ a1.symm
            have a2 : ((t :: T) ++ (d :: R.erase d)).Perm (d :: ((t :: T) ++ R.erase d)) := List.perm_middle
            refine List.Perm.trans ?_ a2.symm
            exact List.Perm.cons _ (List.perm_middle)
          exact h3.cons_inv
        have ih := top_le D T _ hD.2 h2
        have ht : t ≤ d := by
          have : t ∈ d :: D := h.mem_iff.mp (List.mem_append_left _ List.mem_cons_self)
          rcases List.mem_cons.mp this with z | z
          · omega
          · exact hD.1 t z
        rw [List.length_cons, List.take_succ_cons, List.sum_cons, List.sum_cons]
        omega
theorem part_le {s : Nat → Int} {T L : List Nat} (h : T.Sublist L) : (T.map s).sum ≤ greatN (L.map s) T.length := by
  obtain ⟨R, hR⟩ := (h.map s).exists_perm_append
  have := top_le (sortedD (L.map s)) (T.map s) R (sortedD_pw _) (hR.symm.trans (sortedD_perm _).symm)
  rw [List.length_map] at this
  exact this
theorem part_is {s : Nat → Int} {L : List Nat} {j : Nat} (hj : j ≤ L.length) : ∃ T : List Nat, T.Sublist L ∧ T.length = j ∧ (T.map s).sum = greatN (L.map s) j := by
  obtain ⟨V, h1, h2⟩ := List.exists_perm_sublist (List.take_sublist j (sortedD (L.map s))) (sortedD_perm (L.map s))
  obtain ⟨T, h3, rfl⟩ := List.sublist_map_iff.mp h2
  refine ⟨T, h3, ?_, perm_sum h1⟩
  have := h1.length_eq
  rw [List.length_map, List.length_take, sortedD_len, List.length_map] at this
  omega
theorem aheadB_refl : ∀ a : List Int, aheadB a a = false
  | [] => by simp [aheadB]
  | x :: a => by rw [aheadB, if_pos rfl]; exact aheadB_refl a
theorem choose_ok {l : List DealN} {sum : Int} {L : List Nat} {m : Nat} (hmin : ∀ U : List Nat, U.Sublist L → sum ≤ sumW l U → m ≤ U.length) :
    ∀ (rest ch : List Nat), (ch ++ rest).Sublist L → rest.Pairwise (· < ·) → (∃ T : List Nat, T.Sublist rest ∧ ch.length + T.length = m ∧ sum ≤ sumW l ch + sumW l T) →
      ∃ G : List Nat, chooseR l sum m ch rest = ch ++ G ∧ G.Sublist rest ∧ ch.length + G.length = m ∧ sum ≤ sumW l ch + sumW l G ∧ ∀ T : List Nat, T.Sublist rest → ch.length + T.length = m → sum ≤ sumW l ch + sumW l T → aheadB (toI T) (toI G) = false
  | [], ch, _, _, ⟨T, hT, h1, h2⟩ => by
    obtain rfl := List.sublist_nil.mp hT
    refine ⟨[], by simp [chooseR], .slnil, h1, h2, fun T hT _ _ => ?_⟩
    obtain rfl := List.sublist_nil.mp hT
    exact aheadB_refl _
  | x :: rest, ch, hL, hp, ⟨T, hT, h1, h2⟩ => by
    rw [List.pairwise_cons] at hp
    by_cases hm : m ≤ ch.length
    · have hT0 : T = [] := List.length_eq_zero_iff.mp (by omega)
      subst hT0
      refine ⟨[], by rw [chooseR, if_pos hm, List.append_nil], List.nil_sublist _, h1, h2, fun T hT h3 _ => ?_⟩
      have : T = [] := List.length_eq_zero_iff.mp (by omega)
      subst this
      exact aheadB_refl _
    · have hs2 : ∀ a b : List Nat, sumW l (a ++ b) = sumW l a + sumW l b := fun a b => by simp [sumW]
      have hs1 : sumW l [x] = sumAt l x := by simp [sumW]
      have hsc : ∀ a : List Nat, sumW l (x :: a) = sumAt l x + sumW l a := fun a => by simp [sumW]
      by_cases hc : sum ≤ (ch.map (sumAt l)).sum + sumAt l x + greatN (rest.map (sumAt l)) (m - ch.length - 1)
      · have hex : ∃ T' : List Nat, T'.Sublist rest ∧ (ch ++ [x]).length + T'.length = m ∧ sum ≤ sumW l (ch ++ [x]) + sumW l T' := by
          by_cases hj : m - ch.length - 1 ≤ rest.length
          · obtain ⟨T', a1, a2, a3⟩ := part_is (s := sumAt l) hj
            refine ⟨T', a1, by rw [List.length_append, List.length_singleton]; omega, ?_⟩
            have : sumW l T' = greatN (rest.map (sumAt l)) (m - ch.length - 1) := a3
            rw [this, hs2, hs1]
            exact hc
          · exfalso
            have hg : greatN (rest.map (sumAt l)) (m - ch.length - 1) = sumW l rest := by
              unfold greatN sumW
              rw [List.take_of_length_le (by rw [sortedD_len, List.length_map]; omega)]
              exact perm_sum (sortedD_perm _)
            have := hmin (ch ++ x :: rest) hL (by rw [hs2, hsc, ← hg]; have : sumW l ch = (ch.map (sumAt l)).sum := rfl; omega)
            rw [List.length_append, List.length_cons] at this
            omega
        obtain ⟨G, g1, g2, g3, g4, g5⟩ := choose_ok hmin rest (ch ++ [x]) (by simpa using hL) hp.2 hex
        rw [List.length_append, List.length_singleton] at g3 g5
        refine ⟨x :: G, by rw [chooseR, if_neg hm, if_pos hc, g1]; simp, g2.cons_cons x, by rw [List.length_cons]; omega, by rw [hs2, hs1] at g4; rw [hsc]; omega, fun T hT h3 h4 => ?_⟩
        cases hT with
        | cons _ hT' =>
          cases T with
          | nil => simp at h3; omega
          | cons y T =>
            have hy : y ∈ rest := hT'.subset List.mem_cons_self
            have := hp.1 y hy
            show aheadB ((y : Int) :: toI T) ((x : Int) :: toI G) = false
            rw [aheadB, if_neg (by omega)]
            exact decide_eq_false (by omega)
        | cons_cons _ hT' =>
          rename_i T'
          show aheadB ((x : Int) :: toI T') ((x : Int) :: toI G) = false
          rw [aheadB, if_pos rfl]
          refine g5 T' hT' (by rw [List.length_cons] at h3; omega) ?_
          rw [hsc] at h4
          rw [hs2, hs1]; omega
      · have hno : ∀ T : List Nat, T.Sublist (x :: rest) → ch.length + T.length = m → sum ≤ sumW l ch + sumW l T → T.Sublist rest := fun T hT h3 h4 => by
          cases hT with
          | cons _ hT' => exact hT'
          | cons_cons _ hT' =>
            rename_i T'
            exfalso
            have hle := part_le (s := sumAt l) hT'
            rw [List.length_cons] at h3
            rw [hsc] at h4
            have e : T'.length = m - ch.length - 1 := by omega
            rw [e] at hle
            have a1 : sumW l T' = (T'.map (sumAt l)).sum := rfl
            have a2 : sumW l ch = (ch.map (sumAt l)).sum := rfl
            omega
        have hL2 : (ch ++ rest).Sublist L := (List.Sublist.append_left (List.sublist_cons_self x rest) ch).trans hL
        obtain ⟨G, g1, g2, g3, g4, g5⟩ := choose_ok hmin rest ch hL2 hp.2 ⟨T, hno T hT h1 h2, h1, h2⟩
        exact ⟨G, by rw [chooseR, if_neg hm, if_neg hc, g1], g2.cons x, g3, g4, fun T hT h3 h4 => g5 T (hno T hT h3 h4) h3 h4⟩
theorem chosen_is {l : List DealN} {sum : Int} {L : List Nat} {m : Nat} (hL : L.Pairwise (· < ·)) (hs : 1 ≤ sum) (hF : FewM (L.map (sumAt l)) sum m) :
    (chooseR l sum m [] L).Sublist L ∧ (chooseR l sum m [] L).length = m ∧ sum ≤ sumW l (chooseR l sum m [] L) ∧ (∀ U : List Nat, U.Sublist L → sum ≤ sumW l U → m ≤ U.length) ∧
      ∀ T : List Nat, T.Sublist L → T.length = m → sum ≤ sumW l T → aheadB (toI T) (toI (chooseR l sum m [] L)) = false := by
  have hmin : ∀ U : List Nat, U.Sublist L → sum ≤ sumW l U → m ≤ U.length := fun U hU h => by
    have h1 := part_le (s := sumAt l) hU
    have a1 : sumW l U = (U.map (sumAt l)).sum := rfl
    rcases Nat.eq_zero_or_pos U.length with q | q
    · rw [List.length_eq_zero_iff.mp q] at h; simp [sumW] at h; omega
    · rcases Nat.lt_or_ge U.length m with z | z
      · have := hF.not U.length q z; omega
      · exact z
  have hle := hF.le
  rw [List.length_map] at hle
  obtain ⟨T, t1, t2, t3⟩ := part_is (s := sumAt l) hle
  have hok := hF.ok
  obtain ⟨G, g1, g2, g3, g4, g5⟩ := choose_ok hmin L [] (by simp) hL ⟨T, t1, by simpa using t2, by have : sumW l T = greatN (L.map (sumAt l)) m := t3; simp [sumW] at this ⊢; omega⟩
  rw [List.nil_append] at g1
  rw [g1]
  simp only [List.length_nil, Nat.zero_add] at g3 g5
  have z : sumW l [] = 0 := rfl
  exact ⟨g2, g3, by omega, hmin, fun T h1 h2 h3 => g5 T h1 h2 (by omega)⟩
end Go.Proofs

namespace Go.Proofs
open Go Go.RowKit Go.Sim
set_option maxRecDepth 100000
theorem filter_sum_mono {p q : Nat → Bool} {f : Nat → Int} : ∀ (L : List Nat), (∀ x ∈ L, p x = true → q x = true) → (∀ x ∈ L, 0 ≤ f x) → ((L.filter p).map f).sum ≤ ((L.filter q).map f).sum
  | [], _, _ => Int.le_refl _
  | a :: L, h, k => by
    have ih := filter_sum_mono L (fun x hx => h x (List.mem_cons_of_mem _ hx)) (fun x hx => k x (List.mem_cons_of_mem _ hx))
    have ha := h a List.mem_cons_self
    have ka := k a List.mem_cons_self
    cases hp : p a with
    | true =>
      have hq := ha hp
      simp only [List.filter_cons_of_pos hp, List.filter_cons_of_pos hq, List.map_cons, List.sum_cons]; omega
    | false =>
      rw [List.filter_cons_of_neg (by rw [hp]; simp)]
      cases hq : q a with
      | true => simp only [List.filter_cons_of_pos hq, List.map_cons, List.sum_cons]; omega
      | false => rw [List.filter_cons_of_neg (by rw [hq]; simp)]; exact ih
theorem filter_len_mono {p q : Nat → Bool} : ∀ (L : List Nat), (∀ x ∈ L, p x = true → q x = true) → (L.filter p).length ≤ (L.filter q).length
  | [], _ => Nat.le_refl _
  | a :: L, h => by
    have ih := filter_len_mono L fun x hx => h x (List.mem_cons_of_mem _ hx)
    have ha := h a List.mem_cons_self
    cases hp : p a with
    | true =>
      have hq := ha hp
      simp only [List.filter_cons_of_pos hp, List.filter_cons_of_pos hq, List.length_cons]; omega
    | false =>
      rw [List.filter_cons_of_neg (by rw [hp]; simp)]
      cases hq : q a with
      | true => simp only [List.filter_cons_of_pos hq, List.length_cons]; omega
      | false => rw [List.filter_cons_of_neg (by rw [hq]; simp)]; exact ih
def RepP (l : List DealN) (W : WatchN) (A : List Int) (n : Nat) : Prop := W.sum ≤ sumW l (winOf W A l n) ∨ W.more ≤ ((smalls W l (winOf W A l n)).length : Int)
theorem RepP.mono {l : List DealN} {W : WatchN} {A B : List Int} {n : Nat} (hd : ∀ d ∈ l, dealB d = true) (hn : n < l.length) (hm : ∀ i, i ≤ n → leadAt A l i = leadAt A l n → leadAt B l i = leadAt B l n) (h : RepP l W A n) : RepP l W B n := by
  have hw : ∀ x ∈ List.range (n + 1), inWin W A l n x = true → inWin W B l n x = true := fun x hx hi => by
    rw [List.mem_range] at hx
    simp only [inWin, Bool.and_eq_true, decide_eq_true_eq] at hi ⊢
    exact ⟨hi.1, hm x (by omega) hi.2⟩
  rcases h with h | h
  · left
    refine Int.le_trans h ?_
    exact filter_sum_mono _ hw fun x hx => by
      rw [List.mem_range] at hx
      have := sumAt_in hd (show x < l.length by omega); omega
  · right
    refine Int.le_trans h ?_
    unfold smalls winOf winTo
    rw [List.filter_filter, List.filter_filter]
    have := filter_len_mono (p := fun a => smallB W l a && inWin W A l n a) (q := fun a => smallB W l a && inWin W B l n a) (List.range (n + 1)) fun x hx hi => by
      simp only [Bool.and_eq_true] at hi ⊢
      exact ⟨hi.1, hw x hx hi.2⟩
    omega
theorem reportB_iff {l : List DealN} {L : List (Int × Int)} {W : WatchN} (h : reportB l L W = true) : l.length ≤ 64 ∧ (∀ d ∈ l, dealB d = true) ∧ L.length ≤ 64 ∧ (∀ x ∈ L, linkB x = true) := by
  simp only [reportB, Bool.and_eq_true, dealsB, linksB, decide_eq_true_eq] at h
  exact ⟨h.1.1.1.1, fun d hd => List.all_eq_true.mp h.1.1.1.2 d hd, h.1.2.1, fun x hx => List.all_eq_true.mp h.1.2.2 x hx⟩
end Go.Proofs

namespace Go.Proofs
open Go Go.RowKit Go.Sim
set_option maxRecDepth 100000
def Tryz.s11_c145 : SC := (.seq (.ops false [⟨⟨(some 145),.fieldAddr 48 (.tmp 3) 0,0,"",⟨[]⟩,none⟩,none,false⟩,⟨⟨(some 146),.load 43 (.tmp 145),43,"",⟨[]⟩,none⟩,none,false⟩,⟨⟨(some 147),.fieldAddr 48 (.tmp 3) 1,0,"",⟨[]⟩,none⟩,none,false⟩,⟨⟨(some 148),.load 44 (.tmp 147),44,"",⟨[]⟩,none⟩,none,false⟩,⟨⟨(some 149),.fieldAddr 48 (.tmp 3) 2,0,"",⟨[]⟩,none⟩,none,false⟩,⟨⟨(some 150),.load 46 (.tmp 149),46,"",⟨[]⟩,none⟩,none,false⟩,⟨⟨(some 151),.call ⟨.value (.func 30),⟨[(.tmp 146),(.tmp 148),(.tmp 150)]⟩,⟨[43,44,46]⟩⟩,51,"",⟨[]⟩,none⟩,none,false⟩,⟨⟨(some 144),.move (.tmp 151),51,"",⟨[]⟩,none⟩,none,false⟩,⟨⟨(some 152),.extract (.tmp 144) 0,50,"",⟨[]⟩,none⟩,none,false⟩,⟨⟨(some 153),.extract (.tmp 144) 1,26,"",⟨[]⟩,none⟩,none,false⟩,⟨⟨(some 16),.assign (.tmp 152),50,"",⟨[]⟩,none⟩,none,false⟩,⟨⟨(some 10),.assign (.tmp 153),26,"",⟨[]⟩,none⟩,none,false⟩]) (.seq (.seq (.ops false [⟨⟨(some 154),.move (.tmp 10),26,"",⟨[]⟩,none⟩,none,false⟩,⟨⟨(some 155),.binOp .neq 26 (.tmp 154) (.const (.int .i64 0)) 26,4,"",⟨[]⟩,none⟩,none,false⟩]) (.cond (.tmp 155) (.seq (.ops false [⟨⟨(some 6),.assign (.const (.bool false)),4,"",⟨[]⟩,none⟩,none,false⟩]) .ret) .skip)) (.seq (.seq (.ops false [⟨⟨(some 17),.assign (.const (.int .i64 0)),3,"",⟨[]⟩,none⟩,none,false⟩]) (.block 2 (.loop (.seq (.seq (.ops false [⟨⟨(some 156),.move (.tmp 17),3,"",⟨[]⟩,none⟩,none,false⟩,⟨⟨(some 157),.move (.tmp 16),50,"",⟨[]⟩,none⟩,none,false⟩,⟨⟨(some 158),.call ⟨.builtin .len,⟨[(.tmp 157)]⟩,⟨[50]⟩⟩,3,"",⟨[]⟩,none⟩,none,false⟩,⟨⟨(some 159),.binOp .lss 3 (.tmp 156) (.tmp 158) 3,4,"",⟨[]⟩,none⟩,none,false⟩]) (.cond (.tmp 159) .skip (.exit 2))) (.seq (.block 3 (.seq (.ops true [⟨⟨(some 162),.move (.tmp 16),50,"",⟨[]⟩,none⟩,none,true⟩,⟨⟨(some 163),.move (.tmp 17),3,"",⟨[]⟩,none⟩,none,true⟩,⟨⟨(some 164),.indexAddr 50 (.tmp 162) (.tmp 163),0,"",⟨[]⟩,none⟩,none,true⟩,⟨⟨(some 165),.fieldAddr 54 (.tmp 164) 0,0,"",⟨[]⟩,none⟩,none,true⟩,⟨⟨(some 166),.load 3 (.tmp 165),3,"",⟨[]⟩,none⟩,none,true⟩,⟨⟨(some 167),.move (.tmp 9),22,"",⟨[]⟩,none⟩,none,true⟩,⟨⟨(some 168),.fieldAddr 48 (.tmp 3) 0,0,"",⟨[]⟩,none⟩,none,true⟩,⟨⟨(some 169),.load 43 (.tmp 168),43,"",⟨[]⟩,none⟩,none,true⟩,⟨⟨(some 170),.move (.tmp 1),3,"",⟨[]⟩,none⟩,none,true⟩,⟨⟨(some 171),.indexAddr 43 (.tmp 169) (.tmp 170),0,"",⟨[]⟩,none⟩,none,true⟩,⟨⟨(some 172),.fieldAddr 76 (.tmp 171) 1,0,"",⟨[]⟩,none⟩,none,true⟩,⟨⟨(some 173),.load 3 (.tmp 172),3,"",⟨[]⟩,none⟩,none,true⟩,⟨⟨(some 174),.indexAddr 22 (.tmp 167) (.tmp 173),0,"",⟨[]⟩,none⟩,none,true⟩,⟨⟨(some 175),.load 3 (.tmp 174),3,"",⟨[]⟩,none⟩,none,true⟩,⟨⟨(some 176),.binOp .eql 3 (.tmp 166) (.tmp 175) 3,4,"",⟨[]⟩,none⟩,none,true⟩]) (.cond (.tmp 176) (.seq (.ops false [⟨⟨(some 177),.move (.tmp 16),50,"",⟨[]⟩,none⟩,none,false⟩,⟨⟨(some 178),.move (.tmp 17),3,"",⟨[]⟩,none⟩,none,false⟩,⟨⟨(some 179),.indexAddr 50 (.tmp 177) (.tmp 178),0,"",⟨[]⟩,none⟩,none,false⟩,⟨⟨(some 180),.fieldAddr 54 (.tmp 179) 1,0,"",⟨[]⟩,none⟩,none,false⟩,⟨⟨(some 181),.load 3 (.tmp 180),3,"",⟨[]⟩,none⟩,none,false⟩,⟨⟨(some 182),.move (.tmp 1),3,"",⟨[]⟩,none⟩,none,false⟩,⟨⟨(some 183),.binOp .leq 3 (.tmp 181) (.tmp 182) 3,4,"",⟨[]⟩,none⟩,none,false⟩,⟨⟨(some 184),.move (.tmp 183),4,"",⟨[]⟩,none⟩,none,false⟩,⟨⟨(some 185),.call ⟨.value (.func 21),⟨[]⟩,⟨[]⟩⟩,4,"",⟨[]⟩,none⟩,some ((some 184),true),false⟩,⟨⟨(some 186),.pick (.tmp 184) (.tmp 185) (.const (.bool false)),4,"",⟨[]⟩,none⟩,none,false⟩,⟨⟨(some 6),.assign (.tmp 186),4,"",⟨[]⟩,none⟩,none,false⟩]) .ret) .skip))) (.ops false [⟨⟨(some 160),.move (.tmp 17),3,"",⟨[]⟩,none⟩,none,false⟩,⟨⟨(some 161),.binOp .add 3 (.tmp 160) (.const (.int .i64 1)) 3,3,"",⟨[]⟩,none⟩,none,false⟩,⟨⟨(some 17),.assign (.tmp 161),3,"",⟨[]⟩,none⟩,none,false⟩])))))) (.seq (.ops false [⟨⟨(some 6),.assign (.const (.bool false)),4,"",⟨[]⟩,none⟩,none,false⟩]) .ret))))
def Tryz.s11L : SC := (.seq (.ops false [⟨⟨(some 3),.box 48 (.tmp 0),0,"",⟨[]⟩,none⟩,none,false⟩,⟨⟨(some 6),.assign (.const (.bool false)),4,"",⟨[]⟩,none⟩,none,false⟩]) (.seq (.ops false [⟨⟨(some 19),.fieldAddr 48 (.tmp 3) 0,0,"",⟨[]⟩,none⟩,none,false⟩,⟨⟨(some 20),.load 43 (.tmp 19),43,"",⟨[]⟩,none⟩,none,false⟩,⟨⟨(some 21),.fieldAddr 48 (.tmp 3) 1,0,"",⟨[]⟩,none⟩,none,false⟩,⟨⟨(some 22),.load 44 (.tmp 21),44,"",⟨[]⟩,none⟩,none,false⟩,⟨⟨(some 23),.fieldAddr 48 (.tmp 3) 2,0,"",⟨[]⟩,none⟩,none,false⟩,⟨⟨(some 24),.load 46 (.tmp 23),46,"",⟨[]⟩,none⟩,none,false⟩,⟨⟨(some 25),.move (.tmp 1),3,"",⟨[]⟩,none⟩,none,false⟩,⟨⟨(some 26),.call ⟨.value (.func 32),⟨[(.tmp 20),(.tmp 22),(.tmp 24),(.tmp 25)]⟩,⟨[43,44,46,3]⟩⟩,27,"",⟨[]⟩,none⟩,none,false⟩,⟨⟨(some 18),.move (.tmp 26),27,"",⟨[]⟩,none⟩,none,false⟩,⟨⟨(some 27),.extract (.tmp 18) 0,22,"",⟨[]⟩,none⟩,none,false⟩,⟨⟨(some 28),.extract (.tmp 18) 1,26,"",⟨[]⟩,none⟩,none,false⟩,⟨⟨(some 7),.assign (.tmp 27),22,"",⟨[]⟩,none⟩,none,false⟩,⟨⟨(some 8),.assign (.tmp 28),26,"",⟨[]⟩,none⟩,none,false⟩]) (.seq (.seq (.ops false [⟨⟨(some 29),.move (.tmp 8),26,"",⟨[]⟩,none⟩,none,false⟩,⟨⟨(some 30),.binOp .neq 26 (.tmp 29) (.const (.int .i64 0)) 26,4,"",⟨[]⟩,none⟩,none,false⟩]) (.cond (.tmp 30) (.seq (.ops false [⟨⟨(some 31),.move (.tmp 7),22,"",⟨[]⟩,none⟩,none,false⟩,⟨⟨(some 32),.call ⟨.builtin .len,⟨[(.tmp 31)]⟩,⟨[22]⟩⟩,3,"",⟨[]⟩,none⟩,none,false⟩,⟨⟨(some 33),.binOp .eql 3 (.tmp 32) (.const (.int .i64 0)) 3,4,"",⟨[]⟩,none⟩,none,false⟩,⟨⟨(some 34),.move (.tmp 33),4,"",⟨[]⟩,none⟩,none,false⟩,⟨⟨(some 35),.call ⟨.value (.func 21),⟨[]⟩,⟨[]⟩⟩,4,"",⟨[]⟩,none⟩,some ((some 34),true),false⟩,⟨⟨(some 36),.pick (.tmp 34) (.tmp 35) (.const (.bool false)),4,"",⟨[]⟩,none⟩,none,false⟩,⟨⟨(some 6),.assign (.tmp 36),4,"",⟨[]⟩,none⟩,none,false⟩]) .ret) .skip)) (.seq (.ops false [⟨⟨(some 38),.fieldAddr 48 (.tmp 3) 1,0,"",⟨[]⟩,none⟩,none,false⟩,⟨⟨(some 39),.load 44 (.tmp 38),44,"",⟨[]⟩,none⟩,none,false⟩,⟨⟨(some 40),.call ⟨.value (.func 28),⟨[(.tmp 39)]⟩,⟨[44]⟩⟩,27,"",⟨[]⟩,none⟩,none,false⟩,⟨⟨(some 37),.move (.tmp 40),27,"",⟨[]⟩,none⟩,none,false⟩,⟨⟨(some 41),.extract (.tmp 37) 0,22,"",⟨[]⟩,none⟩,none,false⟩,⟨⟨(some 42),.extract (.tmp 37) 1,26,"",⟨[]⟩,none⟩,none,false⟩,⟨⟨(some 9),.assign (.tmp 41),22,"",⟨[]⟩,none⟩,none,false⟩,⟨⟨(some 10),.assign (.tmp 42),26,"",⟨[]⟩,none⟩,none,false⟩]) (.seq (.seq (.ops false [⟨⟨(some 43),.move (.tmp 10),26,"",⟨[]⟩,none⟩,none,false⟩,⟨⟨(some 44),.binOp .neq 26 (.tmp 43) (.const (.int .i64 0)) 26,4,"",⟨[]⟩,none⟩,none,false⟩,⟨⟨(some 45),.move (.tmp 44),4,"",⟨[]⟩,none⟩,none,false⟩,⟨⟨(some 46),.move (.tmp 9),22,"",⟨[]⟩,none⟩,some ((some 45),false),false⟩,⟨⟨(some 47),.call ⟨.builtin .len,⟨[(.tmp 46)]⟩,⟨[22]⟩⟩,3,"",⟨[]⟩,none⟩,some ((some 45),false),false⟩,⟨⟨(some 48),.binOp .neq 3 (.tmp 47) (.const (.int .i64 24)) 3,4,"",⟨[]⟩,none⟩,some ((some 45),false),false⟩,⟨⟨(some 49),.pick (.tmp 45) (.const (.bool true)) (.tmp 48),4,"",⟨[]⟩,none⟩,none,false⟩,⟨⟨(some 50),.move (.tmp 49),4,"",⟨[]⟩,none⟩,none,false⟩,⟨⟨(some 51),.move (.tmp 1),3,"",⟨[]⟩,none⟩,some ((some 50),false),false⟩,⟨⟨(some 52),.fieldAddr 48 (.tmp 3) 0,0,"",⟨[]⟩,none⟩,some ((some 50),false),false⟩,⟨⟨(some 53),.load 43 (.tmp 52),43,"",⟨[]⟩,none⟩,some ((some 50),false),false⟩,⟨⟨(some 54),.call ⟨.builtin .len,⟨[(.tmp 53)]⟩,⟨[43]⟩⟩,3,"",⟨[]⟩,none⟩,some ((some 50),false),false⟩,⟨⟨(some 55),.binOp .sub 3 (.tmp 54) (.const (.int .i64 1)) 3,3,"",⟨[]⟩,none⟩,some ((some 50),false),false⟩,⟨⟨(some 56),.call ⟨.value (.func 40),⟨[(.const (.int .i64 0)),(.tmp 51),(.tmp 55)]⟩,⟨[3,3,3]⟩⟩,4,"",⟨[]⟩,none⟩,some ((some 50),false),false⟩,⟨⟨(some 57),.unOp .not 4 (.tmp 56),4,"",⟨[]⟩,none⟩,some ((some 50),false),false⟩,⟨⟨(some 58),.pick (.tmp 50) (.const (.bool true)) (.tmp 57),4,"",⟨[]⟩,none⟩,none,false⟩]) (.cond (.tmp 58) (.seq (.ops false [⟨⟨(some 6),.assign (.const (.bool false)),4,"",⟨[]⟩,none⟩,none,false⟩]) .ret) .skip)) (.seq (.ops false [⟨⟨(some 60),.load 48 (.tmp 3),48,"",⟨[]⟩,none⟩,none,false⟩,⟨⟨(some 61),.move (.tmp 9),22,"",⟨[]⟩,none⟩,none,false⟩,⟨⟨(some 62),.move (.tmp 1),3,"",⟨[]⟩,none⟩,none,false⟩,⟨⟨(some 63),.move (.tmp 7),22,"",⟨[]⟩,none⟩,none,false⟩,⟨⟨(some 64),.call ⟨.value (.func 45),⟨[(.tmp 60),(.tmp 61),(.tmp 62),(.tmp 63)]⟩,⟨[48,22,3,22]⟩⟩,66,"",⟨[]⟩,none⟩,none,false⟩,⟨⟨(some 59),.move (.tmp 64),66,"",⟨[]⟩,none⟩,none,false⟩,⟨⟨(some 65),.extract (.tmp 59) 0,3,"",⟨[]⟩,none⟩,none,false⟩,⟨⟨(some 66),.extract (.tmp 59) 1,4,"",⟨[]⟩,none⟩,none,false⟩,⟨⟨(some 11),.assign (.tmp 65),3,"",⟨[]⟩,none⟩,none,false⟩,⟨⟨(some 12),.assign (.tmp 66),4,"",⟨[]⟩,none⟩,none,false⟩]) (.seq (.seq (.ops false [⟨⟨(some 67),.move (.tmp 12),4,"",⟨[]⟩,none⟩,none,false⟩,⟨⟨(some 68),.unOp .not 4 (.tmp 67),4,"",⟨[]⟩,none⟩,none,false⟩,⟨⟨(some 69),.move (.tmp 68),4,"",⟨[]⟩,none⟩,none,false⟩,⟨⟨(some 70),.move (.tmp 7),22,"",⟨[]⟩,none⟩,some ((some 69),false),false⟩,⟨⟨(some 71),.call ⟨.builtin .len,⟨[(.tmp 70)]⟩,⟨[22]⟩⟩,3,"",⟨[]⟩,none⟩,some ((some 69),false),false⟩,⟨⟨(some 72),.binOp .eql 3 (.tmp 71) (.const (.int .i64 0)) 3,4,"",⟨[]⟩,none⟩,some ((some 69),false),false⟩,⟨⟨(some 73),.pick (.tmp 69) (.const (.bool true)) (.tmp 72),4,"",⟨[]⟩,none⟩,none,false⟩]) (.cond (.tmp 73) (.seq (.ops false [⟨⟨(some 6),.assign (.const (.bool false)),4,"",⟨[]⟩,none⟩,none,false⟩]) .ret) .skip)) (.seq (.seq (.ops false [⟨⟨(some 74),.move (.tmp 11),3,"",⟨[]⟩,none⟩,none,false⟩,⟨⟨(some 75),.fieldAddr 48 (.tmp 3) 2,0,"",⟨[]⟩,none⟩,none,false⟩,⟨⟨(some 76),.fieldAddr 46 (.tmp 75) 1,0,"",⟨[]⟩,none⟩,none,false⟩,⟨⟨(some 77),.load 3 (.tmp 76),3,"",⟨[]⟩,none⟩,none,false⟩,⟨⟨(some 78),.binOp .geq 3 (.tmp 74) (.tmp 77) 3,4,"",⟨[]⟩,none⟩,none,false⟩]) (.cond (.tmp 78) (.seq (.ops false [⟨⟨(some 80),.load 48 (.tmp 3),48,"",⟨[]⟩,none⟩,none,false⟩,⟨⟨(some 81),.move (.tmp 9),22,"",⟨[]⟩,none⟩,none,false⟩,⟨⟨(some 82),.move (.tmp 1),3,"",⟨[]⟩,none⟩,none,false⟩,⟨⟨(some 83),.move (.tmp 2),22,"",⟨[]⟩,none⟩,none,false⟩,⟨⟨(some 84),.call ⟨.value (.func 45),⟨[(.tmp 80),(.tmp 81),(.tmp 82),(.tmp 83)]⟩,⟨[48,22,3,22]⟩⟩,66,"",⟨[]⟩,none⟩,none,false⟩,⟨⟨(some 79),.move (.tmp 84),66,"",⟨[]⟩,none⟩,none,false⟩,⟨⟨(some 85),.extract (.tmp 79) 0,3,"",⟨[]⟩,none⟩,none,false⟩,⟨⟨(some 86),.extract (.tmp 79) 1,4,"",⟨[]⟩,none⟩,none,false⟩,⟨⟨(some 13),.assign (.tmp 85),3,"",⟨[]⟩,none⟩,none,false⟩,⟨⟨(some 14),.assign (.tmp 86),4,"",⟨[]⟩,none⟩,none,false⟩]) (.seq (.ops false [⟨⟨(some 87),.move (.tmp 14),4,"",⟨[]⟩,none⟩,none,false⟩,⟨⟨(some 88),.move (.tmp 87),4,"",⟨[]⟩,none⟩,none,false⟩,⟨⟨(some 89),.move (.tmp 13),3,"",⟨[]⟩,none⟩,some ((some 88),true),false⟩,⟨⟨(some 90),.fieldAddr 48 (.tmp 3) 2,0,"",⟨[]⟩,none⟩,some ((some 88),true),false⟩,⟨⟨(some 91),.fieldAddr 46 (.tmp 90) 1,0,"",⟨[]⟩,none⟩,some ((some 88),true),false⟩,⟨⟨(some 92),.load 3 (.tmp 91),3,"",⟨[]⟩,none⟩,some ((some 88),true),false⟩,⟨⟨(some 93),.binOp .geq 3 (.tmp 89) (.tmp 92) 3,4,"",⟨[]⟩,none⟩,some ((some 88),true),false⟩,⟨⟨(some 94),.pick (.tmp 88) (.tmp 93) (.const (.bool false)),4,"",⟨[]⟩,none⟩,none,false⟩,⟨⟨(some 95),.move (.tmp 94),4,"",⟨[]⟩,none⟩,none,false⟩,⟨⟨(some 96),.move (.tmp 2),22,"",⟨[]⟩,none⟩,some ((some 95),true),false⟩,⟨⟨(some 97),.call ⟨.builtin .len,⟨[(.tmp 96)]⟩,⟨[22]⟩⟩,3,"",⟨[]⟩,none⟩,some ((some 95),true),false⟩,⟨⟨(some 98),.move (.tmp 7),22,"",⟨[]⟩,none⟩,some ((some 95),true),false⟩,⟨⟨(some 99),.call ⟨.builtin .len,⟨[(.tmp 98)]⟩,⟨[22]⟩⟩,3,"",⟨[]⟩,none⟩,some ((some 95),true),false⟩,⟨⟨(some 100),.binOp .lss 3 (.tmp 97) (.tmp 99) 3,4,"",⟨[]⟩,none⟩,some ((some 95),true),false⟩,⟨⟨(some 101),.move (.tmp 100),4,"",⟨[]⟩,none⟩,some ((some 95),true),false⟩,⟨⟨(some 102),.move (.tmp 2),22,"",⟨[]⟩,none⟩,some ((some 101),false),false⟩,⟨⟨(some 103),.call ⟨.builtin .len,⟨[(.tmp 102)]⟩,⟨[22]⟩⟩,3,"",⟨[]⟩,none⟩,some ((some 101),false),false⟩,⟨⟨(some 104),.move (.tmp 7),22,"",⟨[]⟩,none⟩,some ((some 101),false),false⟩,⟨⟨(some 105),.call ⟨.builtin .len,⟨[(.tmp 104)]⟩,⟨[22]⟩⟩,3,"",⟨[]⟩,none⟩,some ((some 101),false),false⟩,⟨⟨(some 106),.binOp .eql 3 (.tmp 103) (.tmp 105) 3,4,"",⟨[]⟩,none⟩,some ((some 101),false),false⟩,⟨⟨(some 107),.move (.tmp 106),4,"",⟨[]⟩,none⟩,some ((some 101),false),false⟩,⟨⟨(some 108),.move (.tmp 2),22,"",⟨[]⟩,none⟩,some ((some 107),true),false⟩,⟨⟨(some 109),.move (.tmp 7),22,"",⟨[]⟩,none⟩,some ((some 107),true),false⟩,⟨⟨(some 110),.call ⟨.value (.func 42),⟨[(.tmp 108),(.tmp 109)]⟩,⟨[22,22]⟩⟩,4,"",⟨[]⟩,none⟩,some ((some 107),true),false⟩,⟨⟨(some 111),.pick (.tmp 107) (.tmp 110) (.const (.bool false)),4,"",⟨[]⟩,none⟩,some ((some 101),false),false⟩,⟨⟨(some 112),.pick (.tmp 101) (.const (.bool true)) (.tmp 111),4,"",⟨[]⟩,none⟩,some ((some 95),true),false⟩,⟨⟨(some 113),.pick (.tmp 95) (.tmp 112) (.const (.bool false)),4,"",⟨[]⟩,none⟩,none,false⟩]) (.cond (.tmp 113) (.seq (.ops false [⟨⟨(some 6),.assign (.const (.bool false)),4,"",⟨[]⟩,none⟩,none,false⟩]) .ret) .skip))) (.seq (.seq (.ops false [⟨⟨(some 15),.assign (.const (.int .i64 0)),3,"",⟨[]⟩,none⟩,none,false⟩]) (.block 0 (.loop (.seq (.seq (.ops false [⟨⟨(some 114),.move (.tmp 15),3,"",⟨[]⟩,none⟩,none,false⟩,⟨⟨(some 115),.move (.tmp 7),22,"",⟨[]⟩,none⟩,none,false⟩,⟨⟨(some 116),.call ⟨.builtin .len,⟨[(.tmp 115)]⟩,⟨[22]⟩⟩,3,"",⟨[]⟩,none⟩,none,false⟩,⟨⟨(some 117),.binOp .lss 3 (.tmp 114) (.tmp 116) 3,4,"",⟨[]⟩,none⟩,none,false⟩]) (.cond (.tmp 117) .skip (.exit 0))) (.seq (.block 1 (.seq (.ops true [⟨⟨(some 120),.fieldAddr 48 (.tmp 3) 2,0,"",⟨[]⟩,none⟩,none,true⟩,⟨⟨(some 121),.fieldAddr 46 (.tmp 120) 2,0,"",⟨[]⟩,none⟩,none,true⟩,⟨⟨(some 122),.load 3 (.tmp 121),3,"",⟨[]⟩,none⟩,none,true⟩,⟨⟨(some 123),.fieldAddr 48 (.tmp 3) 0,0,"",⟨[]⟩,none⟩,none,true⟩,⟨⟨(some 124),.load 43 (.tmp 123),43,"",⟨[]⟩,none⟩,none,true⟩,⟨⟨(some 125),.move (.tmp 7),22,"",⟨[]⟩,none⟩,none,true⟩,⟨⟨(some 126),.move (.tmp 15),3,"",⟨[]⟩,none⟩,none,true⟩,⟨⟨(some 127),.indexAddr 22 (.tmp 125) (.tmp 126),0,"",⟨[]⟩,none⟩,none,true⟩,⟨⟨(some 128),.load 3 (.tmp 127),3,"",⟨[]⟩,none⟩,none,true⟩,⟨⟨(some 129),.indexAddr 43 (.tmp 124) (.tmp 128),0,"",⟨[]⟩,none⟩,none,true⟩,⟨⟨(some 130),.fieldAddr 76 (.tmp 129) 2,0,"",⟨[]⟩,none⟩,none,true⟩,⟨⟨(some 131),.load 3 (.tmp 130),3,"",⟨[]⟩,none⟩,none,true⟩,⟨⟨(some 132),.fieldAddr 48 (.tmp 3) 2,0,"",⟨[]⟩,none⟩,none,true⟩,⟨⟨(some 133),.fieldAddr 46 (.tmp 132) 1,0,"",⟨[]⟩,none⟩,none,true⟩,⟨⟨(some 134),.load 3 (.tmp 133),3,"",⟨[]⟩,none⟩,none,true⟩,⟨⟨(some 135),.binOp .sub 3 (.tmp 134) (.const (.int .i64 1)) 3,3,"",⟨[]⟩,none⟩,none,true⟩,⟨⟨(some 136),.call ⟨.value (.func 40),⟨[(.tmp 122),(.tmp 131),(.tmp 135)]⟩,⟨[3,3,3]⟩⟩,4,"",⟨[]⟩,none⟩,none,false⟩,⟨⟨(some 137),.unOp .not 4 (.tmp 136),4,"",⟨[]⟩,none⟩,none,true⟩]) (.cond (.tmp 137) (.seq (.ops false [⟨⟨(some 6),.assign (.const (.bool false)),4,"",⟨[]⟩,none⟩,none,false⟩]) .ret) .skip))) (.ops false [⟨⟨(some 118),.move (.tmp 15),3,"",⟨[]⟩,none⟩,none,false⟩,⟨⟨(some 119),.binOp .add 3 (.tmp 118) (.const (.int .i64 1)) 3,3,"",⟨[]⟩,none⟩,none,false⟩,⟨⟨(some 15),.assign (.tmp 119),3,"",⟨[]⟩,none⟩,none,false⟩])))))) (.seq (.ops false [⟨⟨(some 138),.move (.tmp 7),22,"",⟨[]⟩,none⟩,none,false⟩,⟨⟨(some 139),.call ⟨.builtin .len,⟨[(.tmp 138)]⟩,⟨[22]⟩⟩,3,"",⟨[]⟩,none⟩,none,false⟩,⟨⟨(some 140),.fieldAddr 48 (.tmp 3) 2,0,"",⟨[]⟩,none⟩,none,false⟩,⟨⟨(some 141),.fieldAddr 46 (.tmp 140) 3,0,"",⟨[]⟩,none⟩,none,false⟩,⟨⟨(some 142),.load 3 (.tmp 141),3,"",⟨[]⟩,none⟩,none,false⟩,⟨⟨(some 143),.binOp .neq 3 (.tmp 139) (.tmp 142) 3,4,"",⟨[]⟩,none⟩,none,false⟩]) (.cond (.tmp 143) (.seq (.ops false [⟨⟨(some 6),.assign (.const (.bool false)),4,"",⟨[]⟩,none⟩,none,false⟩]) .ret) .skip))))) Tryz.s11_c145))))))))
theorem Tryz.s11L_eq : Tryz.f11.body.map sOf = some Tryz.s11L := by kernel_rfl
end Go.Proofs

namespace Go.Proofs
open Go Go.RowKit Go.Sim
set_option maxRecDepth 100000
theorem repB_of {l : List DealN} {W : WatchN} {A : List Int} {n : Nat} (h : RepP l W A n) : repB l W A n = true := by
  unfold repB
  rcases h with h | h
  · rw [decide_eq_true h]; rfl
  · rw [decide_eq_true h, Bool.or_true]
theorem alarms_le {l : List DealN} {W : WatchN} {A : List Int} {n : Nat} (hR : RepP l W A n) {a : AlN} (ha : a ∈ alarmsTo l W A 24) (hw : a.who = leadAt A l n) : a.deal ≤ (n : Int) := by
  unfold alarmsTo at ha
  obtain ⟨p, _, hp⟩ := List.mem_filterMap.mp ha
  unfold alarmOf at hp
  obtain ⟨k, hk, rfl⟩ := Option.map_eq_some_iff.mp hp
  unfold firstAl at hk
  rw [List.find?_range_eq_some] at hk
  obtain ⟨h1, h2, h3⟩ := hk
  show (k : Int) ≤ (n : Int)
  rcases Nat.lt_or_ge n k with q | q
  · have := h3 n q
    have hh : hitB l W A (p : Int) n = true := by
      unfold hitB
      rw [repB_of hR, decide_eq_true (show leadAt A l n = (p : Int) from hw.symm)]; rfl
    rw [hh] at this; cases this
  · omega
theorem alarms_ex {l : List DealN} {W : WatchN} {A : List Int} {n : Nat} (hn : n < l.length) (hR : RepP l W A n) {q : Nat} (hq : q < 24) (hw : leadAt A l n = (q : Int)) : ∃ a ∈ alarmsTo l W A 24, a.who = leadAt A l n := by
  have hh : hitB l W A (q : Int) n = true := by
    unfold hitB
    rw [repB_of hR, decide_eq_true hw]; rfl
  have hs : (firstAl l W A (q : Int)).isSome = true := by
    unfold firstAl
    rw [List.find?_isSome]
    exact ⟨n, List.mem_range.mpr hn, hh⟩
  obtain ⟨k, hk⟩ := Option.isSome_iff_exists.mp hs
  refine ⟨⟨(q : Int), (k : Int), sumW l (winOf W A l k)⟩, ?_, hw.symm⟩
  unfold alarmsTo
  exact List.mem_filterMap.mpr ⟨q, List.mem_range.mpr hq, by unfold alarmOf; rw [hk]; rfl⟩
set_option maxHeartbeats 16000000 in
theorem restR_ok (l : List DealN) (L : List (Int × Int)) (W : WatchN) (p0 p1 : Option Addr) (cp0 cp1 : Nat) (kd : Nat) (A : List Int) (w : AW) (hs : ArrOf w 3 dcells (.slice p0 l.length cp0) l) (hL : ArrOf w 2 lcells (.slice p1 L.length cp1) L) (hb : reportB l L W = true) (hA : Labs L A) (hn : kd < l.length) (hR : RepP l W A kd) (b bA : Nat) (t : Tmps) (w2 : AW) (g2 : Grown w w2)
    (O2 : Own w2 b 48 [.slice p0 l.length cp0, .slice p1 L.length cp1, .int .i64 W.days, .int .i64 W.sum, .int .i64 W.small, .int .i64 W.more]) (oA : Own w2 bA 115 (icl A)) (e1 : ev t (.tmp 1) = .int .i64 (kd : Int)) (e3 : ev t (.tmp 3) = .pointer (some ⟨b, 0, none⟩)) (e9 : ev t (.tmp 9) = .slice (some ⟨bA, 0, none⟩) 24 24) :
    CodeR Tryz.prog Tryz.T1 { fn := 11, round := none } Tryz.s11_c145 t [] w2 (fun e t ds w' => Sim.Left (P := Tryz.prog) Tryz.f11.results.toList e t ds w' fun v _ => v = .bool true) .mk := by
  obtain ⟨hl64, hdd, hL64, hla⟩ := reportB_iff hb
  have hAl := hA.len
  have c0 := (O2).cell (o := 0) rfl rfl
  have c1 := (O2).cell (o := 1) rfl rfl
  have c2 := (O2).cell (o := 2) rfl rfl
  have c3 := (O2).cell (o := 3) rfl rfl
  have c4 := (O2).cell (o := 4) rfl rfl
  have c5 := (O2).cell (o := 5) rfl rfl
  unfold Tryz.s11_c145
  simp -dsimp -implicitDefEqProofs (maxSteps := 2000000) (disch := first | assumption | omega | (simp only [nx]; omega) | ((repeat refine Fresh.push ?_ _); assumption) | (simp only [smA]; done) | (simp [oneCell, AW.next_push]; done) | fail) only [go_sem, Nat.reduceEqDiff, reduceIte, Nat.reduceAdd, Int.toNat_natCast, Nat.add_zero, Owes_true, e1, e3, e9, Nat.zero_add, c0, c1, c2, c3, c4, c5]
  apply callV_of (e := rfl)
  · exact Alarms_ok l L W _ _ w2 g2.2 (hs.grown g2) (hL.grown g2)
  rintro _ w3 ⟨hal, g3⟩
  rcases hal with ⟨q, _⟩ | ⟨_, A', p, n, c, hA', rfl, hArr⟩
  · rw [hb] at q; cases q
  obtain rfl := hA.one hA'
  have gw3 := g2.trans g3
  have O3 := O2.keep g3.1
  have oA3 := oA.keep g3.1
  obtain ⟨pa, ca, ea, _, _, hatA⟩ := hArr.open
  injection ea with ea1 ea2 ea3
  subst ea1 ea2 ea3
  obtain ⟨_, _, epd, _, _, hat⟩ := (hs.grown gw3).open
  injection epd with epd1 epd2 epd3
  subst epd1 epd3
  obtain ⟨bd, od, rfl, _, hcd⟩ := hat kd hn
  have k1 := hcd w3 (.refl _ _) 1 _ rfl
  have hdk := (dealB_iff _).1 (hdd _ (List.getElem_mem hn))
  have hle := leadAt_eq (A := A) hn
  generalize l[kd].who = pk at *
  obtain ⟨PK, rfl⟩ : ∃ PK : Nat, pk = (PK : Int) := ⟨pk.toNat, by omega⟩
  rw [Int.toNat_natCast] at hle
  have aK := oA3.cell (o := PK) (icl_at (by omega)) rfl
  have iK : indexV 1 (.slice (some ⟨bA, 0, none⟩) 24 24) (.int .i64 (PK : Int)) = some (.pointer (some ⟨bA, PK, none⟩)) := by rw [indexV_eq (by omega) (by omega)]; simp
  have hself := hA.self PK (by omega)
  obtain ⟨Q, hQ⟩ : ∃ Q : Nat, lb A PK = (Q : Int) := by rw [lb_at (by omega)]; exact ⟨(A[PK]'(by omega)).toNat, by omega⟩
  have hQ24 : Q < 24 := by rw [lb_at (by omega)] at hQ; omega
  have hkl : (kd : Int) < (l.length : Int) := by omega
  have d0 := O3.cell (o := 0) rfl rfl
  simp -dsimp -implicitDefEqProofs (maxSteps := 2000000) (disch := first | assumption | omega | (simp only [nx]; omega) | ((repeat refine Fresh.push ?_ _); assumption) | (simp only [smA]; done) | (simp [oneCell, AW.next_push]; done) | fail) only [go_sem, Nat.reduceEqDiff, reduceIte, Nat.reduceAdd, Int.toNat_natCast, Nat.add_zero, Owes_true, e1, e3, e9]
  refine loopR (fun k t ds w4 => ∃ i : Nat, i ≤ (alarmsTo l W A 24).length ∧ k = (alarmsTo l W A 24).length - i ∧ ds = [] ∧ ev t (.tmp 1) = .int .i64 (kd : Int) ∧ ev t (.tmp 3) = .pointer (some ⟨b, 0, none⟩) ∧ ev t (.tmp 9) = .slice (some ⟨bA, 0, none⟩) 24 24 ∧ ev t (.tmp 16) = .slice p (alarmsTo l W A 24).length c ∧ ev t (.tmp 17) = .int .i64 (i : Int) ∧ (∀ (j : Nat) (hj : j < (alarmsTo l W A 24).length), j < i → ((alarmsTo l W A 24)[j]).who ≠ leadAt A l kd) ∧ w4 = w3) ((alarmsTo l W A 24).length) ?_ ?_
  · refine ⟨0, by omega, by omega, rfl, ?_, ?_, ?_, ?_, ?_, (fun j _ h => absurd h (by omega)), rfl⟩ <;> simp -dsimp -implicitDefEqProofs (maxSteps := 2000000) (disch := first | assumption | omega | (simp only [nx]; omega) | ((repeat refine Fresh.push ?_ _); assumption) | (simp only [smA]; done) | (simp [oneCell, AW.next_push]; done) | fail) only [go_sem, Nat.reduceEqDiff, reduceIte, Nat.reduceAdd, Int.toNat_natCast, Nat.add_zero, Owes_true, e1, e3, e9] <;> rfl
  rintro k t ds w4 ⟨i, hii, rfl, rfl, e1, e3, e9, e16, e17, hno, hw4⟩
  subst hw4
  by_cases hlt : (i : Int) < ((alarmsTo l W A 24).length : Int)
  case neg =>
    exfalso
    obtain ⟨a, ha, hwho⟩ := alarms_ex hn hR hQ24 (hle.trans hQ)
    obtain ⟨j, hj, rfl⟩ := List.mem_iff_getElem.mp ha
    exact hno j hj (by omega) hwho
  have hlt' : i < (alarmsTo l W A 24).length := by omega
  obtain ⟨ba, oa, rfl, _, hca⟩ := hatA i hlt'
  have x0 := hca w4 (.refl _ _) 0 _ rfl
  have x1 := hca w4 (.refl _ _) 1 _ rfl
  rw [Nat.add_zero] at x0
  have hale := alarms_le hR (List.getElem_mem hlt')
  have hnoi : ∀ h : ((alarmsTo l W A 24)[i]).who ≠ leadAt A l kd, ∀ (j : Nat) (hj : j < (alarmsTo l W A 24).length), j < i + 1 → ((alarmsTo l W A 24)[j]).who ≠ leadAt A l kd := fun h j hj hji => by
    rcases Nat.lt_or_ge j i with z | z
    · exact hno j hj z
    · obtain rfl : j = i := by omega
      exact h
  generalize ((alarmsTo l W A 24)[i]).who = aw at *
  generalize ((alarmsTo l W A 24)[i]).deal = ad at *
  by_cases hq : aw = lb A PK
  · have hqd : decide (aw = lb A PK) = true := decide_eq_true hq
    have hadl : ad ≤ (kd : Int) := hale (by rw [hq, hle])
    have hadd : decide (ad ≤ (kd : Int)) = true := decide_eq_true hadl
    simp -dsimp -implicitDefEqProofs (maxSteps := 2000000) (disch := first | assumption | omega | (simp only [nx]; omega) | ((repeat refine Fresh.push ?_ _); assumption) | (simp only [smA]; done) | (simp [oneCell, AW.next_push]; done) | fail) only [go_sem, Nat.reduceEqDiff, reduceIte, Nat.reduceAdd, Int.toNat_natCast, Nat.add_zero, Owes_true, e1, e3, e9, e16, e17, hlt, indexV_eq, Nat.zero_add, x0, x1, d0, hkl, k1, iK, aK, hqd, hadd]
    apply callV_of (e := rfl)
    · exact callT_told (Q := fun v w' => v = .bool true ∧ w4 = w') (v := .bool true) (w' := w4) rfl ⟨rfl, rfl⟩
    rintro _ _ ⟨rfl, rfl⟩
    simp -dsimp -implicitDefEqProofs (maxSteps := 2000000) (disch := first | assumption | omega | (simp only [nx]; omega) | ((repeat refine Fresh.push ?_ _); assumption) | (simp only [smA]; done) | (simp [oneCell, AW.next_push]; done) | fail) only [go_sem, Nat.reduceEqDiff, reduceIte, Nat.reduceAdd, Int.toNat_natCast, Nat.add_zero, Owes_true, Tryz.results11]
  · simp -dsimp -implicitDefEqProofs (maxSteps := 2000000) (disch := first | assumption | omega | (simp only [nx]; omega) | ((repeat refine Fresh.push ?_ _); assumption) | (simp only [smA]; done) | (simp [oneCell, AW.next_push]; done) | fail) only [go_sem, Nat.reduceEqDiff, reduceIte, Nat.reduceAdd, Int.toNat_natCast, Nat.add_zero, Owes_true, e1, e3, e9, e16, e17, hlt, indexV_eq, Nat.zero_add, x0, x1, d0, hkl, k1, iK, aK, hq]
    refine ⟨_, by omega, i + 1, by omega, rfl, rfl, by (simp -dsimp -implicitDefEqProofs (maxSteps := 2000000) (disch := first | assumption | omega | (simp only [nx]; omega) | ((repeat refine Fresh.push ?_ _); assumption) | (simp only [smA]; done) | (simp [oneCell, AW.next_push]; done) | fail) only [go_sem, Nat.reduceEqDiff, reduceIte, Nat.reduceAdd, Int.toNat_natCast, Nat.add_zero, Owes_true, e1]; try rfl), by (simp -dsimp -implicitDefEqProofs (maxSteps := 2000000) (disch := first | assumption | omega | (simp only [nx]; omega) | ((repeat refine Fresh.push ?_ _); assumption) | (simp only [smA]; done) | (simp [oneCell, AW.next_push]; done) | fail) only [go_sem, Nat.reduceEqDiff, reduceIte, Nat.reduceAdd, Int.toNat_natCast, Nat.add_zero, Owes_true, e3]; try rfl), by (simp -dsimp -implicitDefEqProofs (maxSteps := 2000000) (disch := first | assumption | omega | (simp only [nx]; omega) | ((repeat refine Fresh.push ?_ _); assumption) | (simp only [smA]; done) | (simp [oneCell, AW.next_push]; done) | fail) only [go_sem, Nat.reduceEqDiff, reduceIte, Nat.reduceAdd, Int.toNat_natCast, Nat.add_zero, Owes_true, e9]; try rfl), by (simp -dsimp -implicitDefEqProofs (maxSteps := 2000000) (disch := first | assumption | omega | (simp only [nx]; omega) | ((repeat refine Fresh.push ?_ _); assumption) | (simp only [smA]; done) | (simp [oneCell, AW.next_push]; done) | fail) only [go_sem, Nat.reduceEqDiff, reduceIte, Nat.reduceAdd, Int.toNat_natCast, Nat.add_zero, Owes_true, e16]; try rfl), by (simp -dsimp -implicitDefEqProofs (maxSteps := 2000000) (disch := first | assumption | omega | (simp only [nx]; omega) | ((repeat refine Fresh.push ?_ _); assumption) | (simp only [smA]; done) | (simp [oneCell, AW.next_push]; done) | fail) only [go_sem, Nat.reduceEqDiff, reduceIte, Nat.reduceAdd, Int.toNat_natCast, Nat.add_zero, Owes_true, e17]; try rfl), hnoi (by rw [hle]; exact hq), rfl⟩
end Go.Proofs
