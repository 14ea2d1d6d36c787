/- This program: its code, contracts, numbers, part 6. -/
import Derived.Test.YtlilncofnckgdaaPae
import Derived.Test.YtlilncofnckgdaaCz
import Derived.Test.YtlilncofnckgdaaPac
import Derived.Test.YtlilncofnckgdaaPaa
import Derived.Test.YtlilncofnckgdaaNc
set_option linter.unusedVariables false
set_option linter.unusedSimpArgs false
namespace Go.Proofs
open Go Go.RowKit Go.Sim
set_option maxRecDepth 100000
end Go.Proofs

namespace Go.Proofs
open Go Go.RowKit Go.Sim
set_option maxRecDepth 100000
abbrev ptr (b : Nat) : Value := .pointer (some ⟨b, 0, none⟩)
def fillV (bs bY bc bf : Nat) : Value := .func (.func 112) #[] #[ptr bs, ptr bY, ptr bc, ptr bf]
structure SeaEnv (W0 : AW) (b : Nat) (p q : Option Addr) (a c : Nat) (A : AudN) (JS : Nat → Prop) (N0 : Nat) (Kp : AW → Prop) : Prop where
  keep : ∀ w, Kp w → Keep W0.next W0 w
  sea : ∀ w, Kp w → SearchAt w b p q a c A
  chg : ∀ w w' (T : Nat → Prop), Kp w → MutS T w w' → (∀ j, T j → JS j ∨ N0 ≤ j) → Kp w'
structure FillEnv (Kp : AW → Prop) (N0 : Nat) (w : AW) (b bs bY bc bf : Nat) (yv : Value) (C : List Int) : Prop where
  keep : Kp w
  fresh : Fresh w
  s : Own w bs 70 [ptr b]
  y : Own w bY 86 [yv]
  f : Own w bf 55 [fillV bs bY bc bf]
  c : Own w bc 73 (C.flatMap icells)
  len : C.length = 4
  bnd : N0 ≤ bs ∧ N0 ≤ bY ∧ N0 ≤ bf ∧ N0 ≤ bc
  ne : bs ≠ bc ∧ bY ≠ bc ∧ bf ≠ bc
section
variable {W0 : AW} {b0 : Nat} {p q : Option Addr} {a c : Nat} {A : AudN} {JS : Nat → Prop} {N0 : Nat} {Kp : AW → Prop} (hK : SeaEnv W0 b0 p q a c A JS N0 Kp)
include hK
theorem FillEnv.set {w : AW} {b bs bY bc bf : Nat} {yv : Value} {C : List Int} (h : FillEnv Kp N0 w b bs bY bc bf yv C) {i : Nat} (hi : i < 4) (x : Int) :
    ∃ w', storeV w false 1 (.pointer (some ⟨bc, i, none⟩)) (.int .i64 x) = some w' ∧ FillEnv Kp N0 w' b bs bY bc bf yv (C.set i x) ∧ MutS (fun j => j = bc) w w' := by
  have st := storeV_own1 (o := i) (v := .int .i64 x) h.c (by rw [icells_flat_len, h.len]; exact hi) rfl
  have O := h.c.put (setL (C.flatMap icells) i (.int .i64 x))
  have m := MutS.put (S := fun j => j = bc) h.fresh rfl h.c.lt (.cells (setL (C.flatMap icells) i (.int .i64 x)) 73 bc 0 0)
  rw [setL_ic] at st O m
  exact ⟨_, st, ⟨hK.chg _ _ _ h.keep m (fun j q => .inr (by rw [q]; exact h.bnd.2.2.2)), m.fresh, m.own h.s h.ne.1, m.own h.y h.ne.2.1, m.own h.f h.ne.2.2, O, by rw [List.length_set]; exact h.len, h.bnd, h.ne⟩, m⟩
end
structure Yields (Kp : AW → Prop) (S : List Int) (lp bc : Nat) (JS : Nat → Prop) (J : List (List Int) → AW → Prop) : Prop where
  mutC : ∀ Q w w', J Q w → MutS (fun j => j = bc) w w' → J Q w'
  grow : ∀ Q w w', J Q w → Grown w w' → J Q w'
  yield : ∀ Q t w, J Q w → t.length = S.length → FitS S t → Fresh w → Kp w → bc < w.next → CallT Try.prog Try.T1 (.fn (.yield lp) #[]) #[aV (padI t)] w (fun v w' => v = .bool true ∧ J (Q ++ [t]) w' ∧ MutS JS w w')
section
variable {W0 : AW} {A : AudN} (hS : okS A.st) {b : Nat} {p q : Option Addr} {a c : Nat} {JS : Nat → Prop} {N0 : Nat} {Kp : AW → Prop} (hK : SeaEnv W0 b p q a c A JS N0 Kp) (hs : ArrOf W0 1 icells (.slice p A.st.length a) A.st) (hcut : Cutt W0 (.slice p A.st.length a) A.st.length)
  {bs bY bc bf lp : Nat} {J : List (List Int) → AW → Prop} (hJ : Yields Kp A.st lp bc JS J) (hd : ¬ JS bs ∧ ¬ JS bY ∧ ¬ JS bc ∧ ¬ JS bf)
include hS hK hs hcut hJ hd
end
end Go.Proofs

namespace Go.Proofs
open Go Go.RowKit Go.Sim
set_option maxRecDepth 100000
end Go.Proofs

namespace Go.Proofs
open Go Go.RowKit Go.Sim
set_option maxRecDepth 100000
end Go.Proofs

namespace Go.Proofs
open Go Go.RowKit Go.Sim
set_option maxRecDepth 100000
end Go.Proofs

namespace Go.Proofs
open Go Go.RowKit Go.Sim
def aheadB : List Int → List Int → Bool
  | x :: a, y :: b => if x = y then aheadB a b else decide (x < y)
  | a, b => decide (a.length < b.length)
theorem aheadB_pre : ∀ (i : Nat) (a b : List Int), i ≤ a.length → i ≤ b.length → a.take i = b.take i → aheadB a b = aheadB (a.drop i) (b.drop i)
  | 0, a, b, _, _, _ => by simp
  | i + 1, [], b, h, _, _ => by simp at h
  | i + 1, _ :: _, [], _, h, _ => by simp at h
  | i + 1, x :: a, y :: b, h1, h2, h => by
    rw [List.take_succ_cons, List.take_succ_cons, List.cons.injEq] at h
    rw [aheadB, if_pos h.1, List.drop_succ_cons, List.drop_succ_cons]
    exact aheadB_pre i a b (by simpa using h1) (by simpa using h2) h.2
theorem aheadB_end {a b : List Int} (h : a = [] ∨ b = []) : aheadB a b = decide (a.length < b.length) := by
  rcases h with rfl | rfl
  · cases b <;> rfl
  · cases a <;> rfl
end Go.Proofs

namespace Go.Proofs
open Go Go.RowKit Go.Sim
set_option maxRecDepth 100000
set_option maxHeartbeats 4000000 in
theorem Ahead_ok (a b : List Int) (u v : Value) (w : AW) (hu : ArrOf w 1 icells u a) (hv : ArrOf w 1 icells v b) : CallT Try.prog Try.T1 (.fn (.func 52) #[]) #[u, v] w (Ret (.bool (aheadB a b)) fun w' => w = w') := by
  obtain ⟨p, c, rfl, _, _, hat⟩ := hu.open
  obtain ⟨q, d, rfl, _, _, hat2⟩ := hv.open
  refine callT_code rfl Try.func52 rfl Try.s52_eq rfl ?_
  unfold Try.s52
  simp -dsimp -implicitDefEqProofs (maxSteps := 2000000) (disch := first | assumption | omega | (simp only [nx]; omega) | ((repeat refine Fresh.push ?_ _); assumption) | (simp only [smA]; done) | (simp [oneCell, AW.next_push]; done) | fail) only [go_sem, Nat.reduceEqDiff, reduceIte, Nat.reduceAdd, Int.toNat_natCast, Nat.add_zero, Owes_true, Try.results52]
  refine loopR (fun k t ds w1 => ∃ i : Nat, i ≤ min a.length b.length ∧ k = min a.length b.length - i ∧ ds = [] ∧ ev t (.tmp 0) = .slice p a.length c ∧ ev t (.tmp 1) = .slice q b.length d ∧ ev t (.tmp 5) = .int .i64 (i : Int) ∧ w = w1 ∧ a.take i = b.take i) (min a.length b.length) ?_ ?_
  · refine ⟨0, by omega, by omega, rfl, ?_, ?_, ?_, rfl, rfl⟩ <;> simp -dsimp -implicitDefEqProofs (maxSteps := 2000000) (disch := first | assumption | omega | (simp only [nx]; omega) | ((repeat refine Fresh.push ?_ _); assumption) | (simp only [smA]; done) | (simp [oneCell, AW.next_push]; done) | fail) only [go_sem, Nat.reduceEqDiff, reduceIte, Nat.reduceAdd, Int.toNat_natCast, Nat.add_zero, Owes_true] <;> rfl
  rintro k t ds w1 ⟨i, hii, rfl, rfl, e0, e1, e5, hw, hp⟩
  subst hw
  have hpre := aheadB_pre i a b (by omega) (by omega) hp
  by_cases hlt : i < min a.length b.length
  case neg =>
    have hE : aheadB a b = decide ((a.length : Int) < (b.length : Int)) := by
      rw [hpre, aheadB_end (by rcases Nat.le_total a.length b.length with z | z; exact .inl (List.drop_of_length_le (by omega)); exact .inr (List.drop_of_length_le (by omega)))]
      simp only [List.length_drop]
      exact decide_eq_decide.2 (by omega)
    by_cases h1 : (i : Int) < (a.length : Int)
    · have h2 : ¬ (i : Int) < (b.length : Int) := by omega
      simp -dsimp -implicitDefEqProofs (maxSteps := 2000000) (disch := first | assumption | omega | (simp only [nx]; omega) | ((repeat refine Fresh.push ?_ _); assumption) | (simp only [smA]; done) | (simp [oneCell, AW.next_push]; done) | fail) only [go_sem, Nat.reduceEqDiff, reduceIte, Nat.reduceAdd, Int.toNat_natCast, Nat.add_zero, Owes_true, Try.results52, e0, e1, e5, h1, h2]
      exact ⟨by rw [hE], rfl⟩
    · simp -dsimp -implicitDefEqProofs (maxSteps := 2000000) (disch := first | assumption | omega | (simp only [nx]; omega) | ((repeat refine Fresh.push ?_ _); assumption) | (simp only [smA]; done) | (simp [oneCell, AW.next_push]; done) | fail) only [go_sem, Nat.reduceEqDiff, reduceIte, Nat.reduceAdd, Int.toNat_natCast, Nat.add_zero, Owes_true, Try.results52, e0, e1, e5, h1]
      exact ⟨by rw [hE], rfl⟩
  have h1 : (i : Int) < (a.length : Int) := by omega
  have h2 : (i : Int) < (b.length : Int) := by omega
  have h1' : i < a.length := by omega
  have h2' : i < b.length := by omega
  obtain ⟨b1, o1, rfl, hb1, hcell⟩ := hat i h1'
  obtain ⟨b2, o2, rfl, hb2, hcell2⟩ := hat2 i h2'
  have a0 := hcell w (.refl _ _) 0 _ rfl
  have a1 := hcell2 w (.refl _ _) 0 _ rfl
  rw [Nat.add_zero] at a0 a1
  rw [List.drop_eq_getElem_cons h1', List.drop_eq_getElem_cons h2'] at hpre
  by_cases hx : a[i] = b[i]
  · have hd : decide (a[i] = b[i]) = true := decide_eq_true hx
    simp -dsimp -implicitDefEqProofs (maxSteps := 2000000) (disch := first | assumption | omega | (simp only [nx]; omega) | ((repeat refine Fresh.push ?_ _); assumption) | (simp only [smA]; done) | (simp [oneCell, AW.next_push]; done) | fail) only [go_sem, Nat.reduceEqDiff, reduceIte, Nat.reduceAdd, Int.toNat_natCast, Nat.add_zero, Owes_true, Try.results52, e0, e1, e5, h1, h2, indexV_eq, a0, a1, hd]
    refine ⟨_, by omega, i + 1, by omega, rfl, rfl, by (simp -dsimp -implicitDefEqProofs (maxSteps := 2000000) (disch := first | assumption | omega | (simp only [nx]; omega) | ((repeat refine Fresh.push ?_ _); assumption) | (simp only [smA]; done) | (simp [oneCell, AW.next_push]; done) | fail) only [go_sem, Nat.reduceEqDiff, reduceIte, Nat.reduceAdd, Int.toNat_natCast, Nat.add_zero, Owes_true, e0]; try rfl), by (simp -dsimp -implicitDefEqProofs (maxSteps := 2000000) (disch := first | assumption | omega | (simp only [nx]; omega) | ((repeat refine Fresh.push ?_ _); assumption) | (simp only [smA]; done) | (simp [oneCell, AW.next_push]; done) | fail) only [go_sem, Nat.reduceEqDiff, reduceIte, Nat.reduceAdd, Int.toNat_natCast, Nat.add_zero, Owes_true, e1]; try rfl), by (simp -dsimp -implicitDefEqProofs (maxSteps := 2000000) (disch := first | assumption | omega | (simp only [nx]; omega) | ((repeat refine Fresh.push ?_ _); assumption) | (simp only [smA]; done) | (simp [oneCell, AW.next_push]; done) | fail) only [go_sem, Nat.reduceEqDiff, reduceIte, Nat.reduceAdd, Int.toNat_natCast, Nat.add_zero, Owes_true, e5]; try rfl), rfl, (by rw [List.take_succ_eq_append_getElem h1', List.take_succ_eq_append_getElem h2', hp, hx])⟩
  · have hd : decide (a[i] = b[i]) = false := decide_eq_false hx
    rw [aheadB, if_neg hx] at hpre
    simp -dsimp -implicitDefEqProofs (maxSteps := 2000000) (disch := first | assumption | omega | (simp only [nx]; omega) | ((repeat refine Fresh.push ?_ _); assumption) | (simp only [smA]; done) | (simp [oneCell, AW.next_push]; done) | fail) only [go_sem, Nat.reduceEqDiff, reduceIte, Nat.reduceAdd, Int.toNat_natCast, Nat.add_zero, Owes_true, Try.results52, e0, e1, e5, h1, h2, indexV_eq, a0, a1, hd]
    exact ⟨by rw [hpre], rfl⟩
end Go.Proofs

namespace Go.Proofs
open Go Go.RowKit Go.Sim
set_option maxRecDepth 100000
theorem first_least {S : List Int} : ∀ {t u a : List Int}, FirstT S a t → runB S a u = true → infP S (endI S a u) → t.length = u.length → aheadB u t = false
  | [], [], _, _, _, _, _ => rfl
  | [], _ :: _, _, _, _, _, h => by simp at h
  | _ :: _, [], _, _, _, _, h => by simp at h
  | r :: t, q :: u, a, h, k, hi, hl => by
    have hk := run_cons.1 k
    have hq : GoodR S a q := ⟨hk.2.1, inf_path hk.2.2 rfl hi⟩
    have hle : r ≤ q := by
      rcases (by omega : q < r ∨ r ≤ q) with z | z
      · exact absurd hq (h.1.2.2 q hk.1.1 z)
      · exact z
    rw [aheadB]
    split
    · rename_i e
      subst e
      exact first_least h.2 hk.2.2 hi (by simpa using hl)
    · exact decide_eq_false (by omega)
def ageF (g : Nat → Int) (i : Int) : Nat → Nat
  | 0 => 0
  | d + 1 => if g d = i then 0 else ageF g i d + 1
theorem age_around {g : Nat → Int} {i : Int} {p : Nat} (hg : ∀ d, g (d + p) = g d) : ∀ d, ageF g i d < d → ageF g i (d + p) = ageF g i d
  | 0, h => by omega
  | d + 1, h => by
    rw [show d + 1 + p = (d + p) + 1 from by omega, ageF, ageF, hg d]
    rw [ageF] at h
    split
    · rfl
    · rename_i hne
      rw [if_neg hne] at h
      rw [age_around hg d (by omega)]
theorem end_age {S : List Int} (g : Nat → Int) : ∀ d, ∀ i, i < S.length → S.length ≤ 5 → W (endI S zero5 ((List.range d).map g)) i = (ageF g (i : Int) d : Int)
  | 0, i, _, _ => by simp [endI, zero5_at, ageF]
  | d + 1, i, hi, h5 => by
    rw [List.range_succ, List.map_append, end_append]
    show W (aftI S _ (g d)) i = _
    rw [aft_at (by omega), if_pos hi, end_age g d i hi h5, ageF]
    by_cases e : (i : Int) = g d
    · rw [if_pos e, if_pos e.symm]; rfl
    · rw [if_neg e, if_neg (fun z => e z.symm)]; push_cast; rfl
theorem around_inf {S : List Int} (hS : perB S = true) {g : Nat → Int} {p : Nat} (h1 : 1 ≤ p) (h16 : p ≤ 16) (hg : ∀ d, g (d + p) = g d) (hr : runB S zero5 ((List.range 64).map g) = true) : infP S (endI S zero5 ((List.range p).map g)) := by
  have h5 := (perB_iff.1 hS).1
  have htk : ∀ d, d ≤ 64 → runB S zero5 ((List.range d).map g) = true := fun d hd => by
    have := run_take hr d
    rw [← List.map_take, List.take_range, Nat.min_eq_left hd] at this
    exact this
  have hsplit : ∀ d e, d + e ≤ 64 → runB S (endI S zero5 ((List.range d).map g)) ((List.range e).map fun x => g (d + x)) = true ∧ endI S (endI S zero5 ((List.range d).map g)) ((List.range e).map fun x => g (d + x)) = endI S zero5 ((List.range (d + e)).map g) := fun d e hde => by
    have e1 : (List.range (d + e)).map g = (List.range d).map g ++ (List.range e).map fun x => g (d + x) := by
      rw [List.range_add, List.map_append, List.map_map]; rfl
    have := htk (d + e) hde
    rw [e1, run_append] at this
    exact ⟨this.2, by rw [e1, end_append]⟩
  obtain ⟨m, hm1, hm8, hm64⟩ : ∃ m : Nat, p ≤ m ∧ 8 ≤ m ∧ m + p ≤ 64 := by
    rcases Nat.lt_or_ge p 8 with q | q
    · exact ⟨8 + p, by omega, by omega, by omega⟩
    · exact ⟨p, Nat.le_refl _, q, by omega⟩
  have hcyc : endI S zero5 ((List.range (m + p)).map g) = endI S zero5 ((List.range m).map g) := by
    have s1 := st_end hS (st_zero hS) (htk (m + p) hm64)
    have s2 := st_end hS (st_zero hS) (htk m (by omega))
    refine ext5 s1.len s2.len fun i hi => ?_
    rcases Nat.lt_or_ge i S.length with q | q
    · rw [end_age g _ i q h5.2, end_age g _ i q h5.2]
      have hf := s2.fit i q
      rw [end_age g _ i q h5.2] at hf
      have hb := (perB_iff.1 hS).2 i q
      rw [age_around hg m (by omega)]
    · rw [s1.out i q, s2.out i q]
  have hinf : infP S (endI S zero5 ((List.range m).map g)) := by
    obtain ⟨a1, a2⟩ := hsplit m p hm64
    exact inf_cycle a1 (by simp; omega) (by rw [a2, hcyc])
  obtain ⟨b1, b2⟩ := hsplit p (m - p) (by omega)
  rw [show p + (m - p) = m from by omega] at b2
  exact inf_path b1 b2 hinf
end Go.Proofs

namespace Go.Proofs
open Go Go.RowKit Go.Sim
set_option maxRecDepth 100000
end Go.Proofs

namespace Go.Proofs
open Go Go.RowKit Go.Sim
set_option maxRecDepth 100000
end Go.Proofs

namespace Go.Proofs
open Go Go.RowKit Go.Sim
set_option maxRecDepth 100000
theorem Try.und22 : Try.prog.underlying 22 = some (.slice 3) := by kernel_rfl
theorem Try.und4 : Try.prog.underlying 4 = some .bool := by kernel_rfl
theorem Try.cells3 : Try.prog.cellsOf 3 = 1 := by kernel_rfl
theorem given_int {w : AW} {n : Nat} {cs : List Value} (h : Hd Try.prog w n 3 cs) : ∃ x : Int, cs = icells x ∧ -9223372036854775808 ≤ x ∧ x ≤ 9223372036854775807 := by
  cases n with
  | zero => exact h.elim
  | succ n =>
    simp only [Hd, Try.und3] at h
    obtain ⟨i, rfl, h1, h2⟩ := h
    exact ⟨i, rfl, h1, h2⟩
theorem rows_ofR {R : Int → Prop} {rows : List (List Value)} (h : ∀ r ∈ rows, ∃ x : Int, r = icells x ∧ R x) : ∃ xs : List Int, rows = xs.map icells ∧ ∀ x ∈ xs, R x := by
  induction rows with
  | nil => exact ⟨[], rfl, fun _ h => by cases h⟩
  | cons r rows ih =>
    obtain ⟨x, hx, hr⟩ := h r List.mem_cons_self
    obtain ⟨xs, hxs, hr2⟩ := ih fun q hq => h q (List.mem_cons_of_mem _ hq)
    exact ⟨x :: xs, by rw [hx, hxs]; rfl, fun y hy => by
      rcases List.mem_cons.1 hy with rfl | hy
      · exact hr
      · exact hr2 y hy⟩
def I64 (x : Int) : Prop := -9223372036854775808 ≤ x ∧ x ≤ 9223372036854775807
theorem given_ints {w : AW} {n : Nat} {cs : List Value} (h : Hd Try.prog w n 22 cs) : ∃ v, cs = [v] ∧ ∃ xs, ArrOf w 1 icells v xs ∧ ∀ x ∈ xs, I64 x := by
  cases n with
  | zero => exact h.elim
  | succ n =>
    simp only [Hd, Try.und22, Try.cells3] at h
    obtain ⟨v, rows, rfl, ha, hr, hgv⟩ := h
    obtain ⟨xs, rfl, hI⟩ := rows_ofR (R := I64) fun r hq => by obtain ⟨x, hx, h1, h2⟩ := given_int (hr r hq); exact ⟨x, hx, h1, h2⟩
    exact ⟨v, rfl, xs, ha, hI⟩
theorem given_intsV {w : AW} {n : Nat} {v : Value} (h : HdV Try.prog w n 22 v) : ∃ xs, ArrOf w 1 icells v xs ∧ ∀ x ∈ xs, I64 x := by
  simp only [HdV, Try.und22] at h
  obtain ⟨u, e, xs, hx⟩ := given_ints h
  injection e with e
  subst e
  exact ⟨xs, hx⟩
end Go.Proofs

namespace Go.Proofs
open Go Go.RowKit Go.Sim
set_option maxRecDepth 100000
end Go.Proofs
