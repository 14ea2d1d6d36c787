/- This program: its code, contracts, numbers, part 5. -/
import Derived.Test.YthnpnooiidnbeaaGreatPad
import Derived.Test.YthnpnooiidnbeaaGreatNc
import Derived.Test.YthnpnooiidnbeaaGreatRows
import Derived.ProofKit
import Derived.SizedLaws
set_option linter.unusedVariables false
set_option linter.unusedSimpArgs false
namespace Go.Proofs
open Go Go.RowKit Go.Sim
set_option maxRecDepth 100000
theorem AOwn.slice {B : Nat} {w : AW} {e : TypeId} {size n : Nat} {v : Value} {cells : List Value} (h : AOwn B w e size v n cells) : ∃ p m c, v = .slice p m c := by
  rcases h with ⟨rfl, _⟩ | ⟨b, r, rfl, _⟩
  · exact ⟨_, _, _, rfl⟩
  · exact ⟨_, _, _, rfl⟩
def worth (C L : List Int) (n : Nat) : Int := ((List.range n).map fun i => L.getD i 0 * C.getD i 0).sum
end Go.Proofs

namespace Go.Proofs
open Go Go.RowKit Go.Sim
set_option maxRecDepth 100000
def okAt (C L H : List Int) (i : Nat) : Bool := decide (i < C.length) && decide (i < H.length) && inR 0 (L.getD i 0) (H.getD i 0) && inR 1 (C.getD i 0) 50000 && decide (L.getD i 0 ≤ 100)
end Go.Proofs

namespace Go.Proofs
open Go Go.RowKit Go.Sim
set_option maxRecDepth 100000
def PayOf : List (Int × Int) → List Int → Int → Prop
  | [], [], s => s = 0
  | (c, h) :: D, n :: L, s => 0 ≤ n ∧ n ≤ h ∧ PayOf D L (s - n * c)
  | _, _, _ => False
def Fine (D : List (Int × Int)) : Prop := ∀ d ∈ D, 1 ≤ d.1 ∧ 0 ≤ d.2
theorem PayOf.nn : ∀ {D : List (Int × Int)} {L : List Int} {s : Int}, PayOf D L s → Fine D → 0 ≤ s ∧ 0 ≤ L.sum
  | [], [], s, h, _ => by simp only [PayOf] at h; subst h; simp
  | (c, x) :: D, n :: L, s, h, hf => by
    simp only [PayOf] at h
    have ih := PayOf.nn h.2.2 fun d hd => hf d (List.mem_cons_of_mem _ hd)
    have := hf _ List.mem_cons_self
    have : 0 ≤ n * c := Int.mul_nonneg h.1 (by simp only at this; omega)
    rw [List.sum_cons]; omega
  | [], _ :: _, _, h, _ => h.elim
  | _ :: _, [], _, h, _ => h.elim
theorem worth_cons (c n : Int) (C L : List Int) (k : Nat) : worth (c :: C) (n :: L) (k + 1) = n * c + worth C L k := by
  unfold worth
  rw [List.range_succ_eq_map, List.map_cons, List.map_map, List.sum_cons]
  simp [Function.comp_def]
theorem PayOf.out : ∀ {C H L : List Int} {s : Int}, PayOf (C.zip H) L s → H.length = C.length → L.length = C.length ∧ s = worth C L L.length ∧ ∀ i, i < L.length → 0 ≤ L.getD i 0 ∧ L.getD i 0 ≤ H.getD i 0
  | [], [], [], s, h, _ => by simp only [List.zip_nil_left, PayOf] at h; subst h; simp [worth]
  | c :: C, h :: H, n :: L, s, hp, hl => by
    simp only [List.zip_cons_cons, PayOf] at hp
    have ih := PayOf.out hp.2.2 (by simpa using hl)
    refine ⟨by simp [ih.1], ?_, fun i hi => ?_⟩
    · rw [List.length_cons, worth_cons]; omega
    · cases i with
      | zero => simp only [List.getD_cons_zero]; omega
      | succ i => have := ih.2.2 i (by simpa using hi); simpa using this
  | [], [], _ :: _, _, h, _ => h.elim
  | c :: C, x :: H, [], _, h, _ => h.elim
  | [], _ :: _, _, _, _, h => by simp at h
  | _ :: _, [], _, _, _, h => by simp at h
end Go.Proofs

namespace Go.Proofs
open Go Go.RowKit Go.Sim
set_option maxRecDepth 100000
theorem Tryz.und3 : Tryz.prog.underlying 3 = some (.int .i64) := by kernel_rfl
theorem Tryz.und4 : Tryz.prog.underlying 4 = some .bool := by kernel_rfl
theorem given_int {w : AW} {n : Nat} {cs : List Value} (h : Hd Tryz.prog w n 3 cs) : ∃ x : Int, cs = icells x ∧ -9223372036854775808 ≤ x ∧ x ≤ 9223372036854775807 := by
  cases n with
  | zero => exact h.elim
  | succ n =>
    simp only [Hd, Tryz.und3] at h
    obtain ⟨i, rfl, h1, h2⟩ := h
    exact ⟨i, rfl, h1, h2⟩
theorem given_num {w : AW} {n : Nat} {v : Value} (h : HdV Tryz.prog w n 3 v) : ∃ x : Int, v = .int .i64 x ∧ -9223372036854775808 ≤ x ∧ x ≤ 9223372036854775807 := by
  simp only [HdV, Tryz.und3] at h
  obtain ⟨x, e, h1⟩ := given_int h
  injection e with e
  exact ⟨x, e, h1⟩
theorem rows_of {rows : List (List Value)} (h : ∀ r ∈ rows, ∃ x : Int, r = icells x) : ∃ xs : List Int, rows = xs.map icells := by
  induction rows with
  | nil => exact ⟨[], rfl⟩
  | cons r rows ih =>
    obtain ⟨x, hx⟩ := h r List.mem_cons_self
    obtain ⟨xs, hxs⟩ := ih fun q hq => h q (List.mem_cons_of_mem _ hq)
    exact ⟨x :: xs, by rw [hx, hxs]; rfl⟩
end Go.Proofs

namespace Go.Proofs
open Go Go.RowKit Go.Sim
set_option maxRecDepth 100000
theorem Tryz.und25 : Tryz.prog.underlying 25 = some (.array 2 3) := by kernel_rfl
theorem Tryz.und43 : Tryz.prog.underlying 43 = some (.slice 76) := by kernel_rfl
theorem Tryz.und44 : Tryz.prog.underlying 44 = some (.slice 25) := by kernel_rfl
theorem Tryz.cells76 : Tryz.prog.cellsOf 76 = 3 := by kernel_rfl
theorem Tryz.cells25 : Tryz.prog.cellsOf 25 = 2 := by kernel_rfl
theorem given_link {w : AW} {n : Nat} {cs : List Value} (h : Hd Tryz.prog w n 25 cs) : ∃ x : Int × Int, cs = lcells x := by
  cases n with
  | zero => exact h.elim
  | succ n =>
    simp only [Hd, Tryz.und25] at h
    obtain ⟨parts, rfl, hl, hp⟩ := h
    match parts, hl with
    | [p0, p1], _ =>
      obtain ⟨a, rfl, _⟩ := given_int (hp p0 List.mem_cons_self)
      obtain ⟨b, rfl, _⟩ := given_int (hp p1 (List.mem_cons_of_mem _ List.mem_cons_self))
      exact ⟨(a, b), rfl⟩
theorem given_pair {w : AW} {n : Nat} {v : Value} (h : HdV Tryz.prog w n 25 v) : ∃ a b : Int, v = .agg #[.int .i64 a, .int .i64 b] := by
  simp only [HdV, Tryz.und25] at h
  obtain ⟨cs, rfl, h⟩ := h
  obtain ⟨x, e⟩ := given_link h
  exact ⟨x.1, x.2, by rw [show cs = cs.toList.toArray from rfl, e]; rfl⟩
theorem given_deal {w : AW} {n : Nat} {cs : List Value} (h : Hd Tryz.prog w n 76 cs) : ∃ d : DealN, cs = dcells d := by
  cases n with
  | zero => exact h.elim
  | succ n =>
    simp only [Hd, Tryz.underlying76] at h
    obtain ⟨parts, rfl, hl, hp⟩ := h
    match parts, hl with
    | [p0, p1, p2], _ =>
      obtain ⟨a, rfl, _⟩ := given_int (hp 0 _ p0 rfl rfl)
      obtain ⟨b, rfl, _⟩ := given_int (hp 1 _ p1 rfl rfl)
      obtain ⟨c, rfl, _⟩ := given_int (hp 2 _ p2 rfl rfl)
      exact ⟨⟨a, b, c⟩, rfl⟩
theorem given_watch {w : AW} {n : Nat} {cs : List Value} (h : Hd Tryz.prog w n 46 cs) : ∃ W : WatchN, cs = [.int .i64 W.days, .int .i64 W.sum, .int .i64 W.small, .int .i64 W.more] := by
  cases n with
  | zero => exact h.elim
  | succ n =>
    simp only [Hd, Tryz.underlying46] at h
    obtain ⟨parts, rfl, hl, hp⟩ := h
    match parts, hl with
    | [p0, p1, p2, p3], _ =>
      obtain ⟨a, rfl, _⟩ := given_int (hp 0 _ p0 rfl rfl)
      obtain ⟨b, rfl, _⟩ := given_int (hp 1 _ p1 rfl rfl)
      obtain ⟨c, rfl, _⟩ := given_int (hp 2 _ p2 rfl rfl)
      obtain ⟨d, rfl, _⟩ := given_int (hp 3 _ p3 rfl rfl)
      exact ⟨⟨a, b, c, d⟩, rfl⟩
theorem given_deals {w : AW} {n : Nat} {cs : List Value} (h : Hd Tryz.prog w n 43 cs) : ∃ v, cs = [v] ∧ ∃ l : List DealN, ArrOf w 3 dcells v l := by
  cases n with
  | zero => exact h.elim
  | succ n =>
    simp only [Hd, Tryz.und43, Tryz.cells76] at h
    obtain ⟨v, rows, rfl, ha, hr, _⟩ := h
    obtain ⟨xs, rfl⟩ := Go.Sim.rows_of (enc := dcells) fun r hq => given_deal (hr r hq)
    exact ⟨v, rfl, xs, ha⟩
theorem given_links {w : AW} {n : Nat} {cs : List Value} (h : Hd Tryz.prog w n 44 cs) : ∃ v, cs = [v] ∧ ∃ L : List (Int × Int), ArrOf w 2 lcells v L := by
  cases n with
  | zero => exact h.elim
  | succ n =>
    simp only [Hd, Tryz.und44, Tryz.cells25] at h
    obtain ⟨v, rows, rfl, ha, hr, _⟩ := h
    obtain ⟨xs, rfl⟩ := Go.Sim.rows_of (enc := lcells) fun r hq => given_link (hr r hq)
    exact ⟨v, rfl, xs, ha⟩
theorem given_report {w : AW} {n : Nat} {v : Value} (h : HdV Tryz.prog w n 48 v) : ∃ (v0 v1 : Value) (W : WatchN), v = .agg #[v0, v1, .int .i64 W.days, .int .i64 W.sum, .int .i64 W.small, .int .i64 W.more] ∧ (∃ l, ArrOf w 3 dcells v0 l) ∧ ∃ L, ArrOf w 2 lcells v1 L := by
  simp only [HdV, Tryz.underlying48] at h
  obtain ⟨cs, rfl, h⟩ := h
  cases n with
  | zero => exact h.elim
  | succ n =>
    simp only [Hd, Tryz.underlying48] at h
    obtain ⟨parts, hc, hl, hp⟩ := h
    match parts, hl with
    | [p0, p1, p2], _ =>
      obtain ⟨v0, rfl, h0⟩ := given_deals (hp 0 _ p0 rfl rfl)
      obtain ⟨v1, rfl, h1⟩ := given_links (hp 1 _ p1 rfl rfl)
      obtain ⟨W, rfl⟩ := given_watch (hp 2 _ p2 rfl rfl)
      refine ⟨v0, v1, W, ?_, h0, h1⟩
      rw [show cs = cs.toList.toArray from rfl, hc]; rfl
theorem FromV_ok (a b c : Int) (w : AW) : CallT Tryz.prog Tryz.T1 (.fn (.func 40) #[]) #[.int .i64 a, .int .i64 b, .int .i64 c] w (Ret (.bool (inR a b c)) fun w' => w = w') := by
  unfold inR
  refine callT_code rfl Tryz.func40 rfl Tryz.s40_eq rfl ?_
  unfold Tryz.s40
  by_cases h1 : a ≤ b
  · simp -dsimp -implicitDefEqProofs (maxSteps := 2000000) (disch := first | assumption | omega | (simp only [nx]; omega) | ((repeat refine Fresh.push ?_ _); assumption) | (simp only [smA]; done) | (simp [oneCell, AW.next_push]; done) | fail) only [go_sem, Nat.reduceEqDiff, reduceIte, Nat.reduceAdd, Int.toNat_natCast, Nat.add_zero, Owes_true, Tryz.results40, h1]
    exact ⟨by simp, rfl⟩
  · simp -dsimp -implicitDefEqProofs (maxSteps := 2000000) (disch := first | assumption | omega | (simp only [nx]; omega) | ((repeat refine Fresh.push ?_ _); assumption) | (simp only [smA]; done) | (simp [oneCell, AW.next_push]; done) | fail) only [go_sem, Nat.reduceEqDiff, reduceIte, Nat.reduceAdd, Int.toNat_natCast, Nat.add_zero, Owes_true, Tryz.results40, h1]
    exact ⟨by simp, rfl⟩
theorem Ring_ok (n many : Int) (h1 : 1 ≤ many) (h2 : many ≤ 4611686018427387000) (w : AW) : CallT Tryz.prog Tryz.T1 (.fn (.func 43) #[]) #[.int .i64 n, .int .i64 many] w (fun r w' => ∃ k : Nat, r = .int .i64 (k : Int) ∧ (k : Int) < many ∧ (k : Int) = (n.tmod many + many).tmod many ∧ w = w') := by
  have a1 : n.tmod many < many := Int.tmod_lt_of_pos n (by omega)
  have a2 : -many < n.tmod many := by
    have := Int.tmod_lt_of_pos (-n) (show 0 < many by omega)
    rw [Int.neg_tmod] at this; omega
  have a3 : 0 ≤ (n.tmod many + many).tmod many := Int.tmod_nonneg _ (by omega)
  have a4 : (n.tmod many + many).tmod many < many := Int.tmod_lt_of_pos _ (by omega)
  obtain ⟨k, hk⟩ := Int.eq_ofNat_of_zero_le a3
  have h0 : ¬ many ≤ 0 := by omega
  have hn0 : ¬ many = 0 := by omega
  refine callT_code rfl Tryz.func43 rfl Tryz.s43_eq rfl ?_
  unfold Tryz.s43
  simp -dsimp -implicitDefEqProofs (maxSteps := 2000000) (disch := first | assumption | omega | (simp only [nx]; omega) | ((repeat refine Fresh.push ?_ _); assumption) | (simp only [smA]; done) | (simp [oneCell, AW.next_push]; done) | fail) only [go_sem, Nat.reduceEqDiff, reduceIte, Nat.reduceAdd, Int.toNat_natCast, Nat.add_zero, Owes_true, Tryz.results43, h0, hn0]
  exact ⟨k, by rw [hk], by omega, hk.symm, trivial⟩
end Go.Proofs

namespace Go.Proofs
open Go Go.RowKit Go.Sim
set_option maxRecDepth 100000
theorem Tryz.bs44 (t : Tmps) (l : List (Nat × Operand)) : makes (prg Tryz.prog) t (.buildSlice 44 1 ⟨l⟩) = bsQ 25 1 2 [.int .i64 0, .int .i64 0] (l.map fun p => (p.1, ev t p.2)) := makes_bs Tryz.ty44 Tryz.ty25 rfl (by kernel_rfl)
theorem Tryz.bs44x0 (t : Tmps) (l : List (Nat × Operand)) : makes (prg Tryz.prog) t (.buildSlice 44 0 ⟨l⟩) = bsQ 25 0 2 [] (l.map fun p => (p.1, ev t p.2)) := makes_bs Tryz.ty44 Tryz.ty25 rfl (by kernel_rfl)
def bldA (l : List (Nat × Value)) : Option Value := match Instr.fill (fun i => some (i * 1, 1)) #[.int .i64 0, .int .i64 0] l with
  | some c => some (.agg c)
  | none => none
theorem bldA_2 (a b : Int) : bldA [(0, .int .i64 a), (1, .int .i64 b)] = some (.agg #[.int .i64 a, .int .i64 b]) := by kernel_rfl
theorem Tryz.bd25 (t : Tmps) (w : AW) (l : List (Nat × Operand)) : fast (prg Tryz.prog) t w (.build 25 ⟨l⟩) = bldA (l.map fun p => (p.1, ev t p.2)) := by
  simp only [fast, Tryz.ty25, Tryz.ty3, bldA]
  have : (Array.mk l).map (fun (i, x) => (i, ev t x)) = (l.map fun p => (p.1, ev t p.2)).toArray := by simp
  rw [this]
  rfl
attribute [go_sem] Tryz.bs44 Tryz.bs44x0 Tryz.bd25 bldA_2
theorem filter_sum_mono {p q : Nat → Bool} {f : Nat → Int} : ∀ (L : List Nat), (∀ x ∈ L, p x = true → q x = true) → (∀ x ∈ L, 0 ≤ f x) → ((L.filter p).map f).sum ≤ ((L.filter q).map f).sum
  | [], _, _ => Int.le_refl _
  | a :: L, h, k => by
    have ih := filter_sum_mono L (fun x hx => h x (List.mem_cons_of_mem _ hx)) (fun x hx => k x (List.mem_cons_of_mem _ hx))
    have ha := h a List.mem_cons_self
    have ka := k a List.mem_cons_self
    cases hp : p a with
    | true =>
      have hq := ha hp
      simp only [List.filter_cons_of_pos hp, List.filter_cons_of_pos hq, List.map_cons, List.sum_cons]; omega
    | false =>
      rw [List.filter_cons_of_neg (by rw [hp]; simp)]
      cases hq : q a with
      | true => simp only [List.filter_cons_of_pos hq, List.map_cons, List.sum_cons]; omega
      | false => rw [List.filter_cons_of_neg (by rw [hq]; simp)]; exact ih
theorem filter_len_mono {p q : Nat → Bool} : ∀ (L : List Nat), (∀ x ∈ L, p x = true → q x = true) → (L.filter p).length ≤ (L.filter q).length
  | [], _ => Nat.le_refl _
  | a :: L, h => by
    have ih := filter_len_mono L fun x hx => h x (List.mem_cons_of_mem _ hx)
    have ha := h a List.mem_cons_self
    cases hp : p a with
    | true =>
      have hq := ha hp
      simp only [List.filter_cons_of_pos hp, List.filter_cons_of_pos hq, List.length_cons]; omega
    | false =>
      rw [List.filter_cons_of_neg (by rw [hp]; simp)]
      cases hq : q a with
      | true => simp only [List.filter_cons_of_pos hq, List.length_cons]; omega
      | false => rw [List.filter_cons_of_neg (by rw [hq]; simp)]; exact ih
def RepP (l : List DealN) (W : WatchN) (A : List Int) (n : Nat) : Prop := W.sum ≤ sumW l (winOf W A l n) ∨ W.more ≤ ((smalls W l (winOf W A l n)).length : Int)
theorem RepP.mono {l : List DealN} {W : WatchN} {A B : List Int} {n : Nat} (hd : ∀ d ∈ l, dealB d = true) (hn : n < l.length) (hm : ∀ i, i ≤ n → leadAt A l i = leadAt A l n → leadAt B l i = leadAt B l n) (h : RepP l W A n) : RepP l W B n := by
  have hw : ∀ x ∈ List.range (n + 1), inWin W A l n x = true → inWin W B l n x = true := fun x hx hi => by
    rw [List.mem_range] at hx
    simp only [inWin, Bool.and_eq_true, decide_eq_true_eq] at hi ⊢
    exact ⟨hi.1, hm x (by omega) hi.2⟩
  rcases h with h | h
  · left
    refine Int.le_trans h ?_
    exact filter_sum_mono _ hw fun x hx => by
      rw [List.mem_range] at hx
      have := sumAt_in hd (show x < l.length by omega); omega
  · right
    refine Int.le_trans h ?_
    unfold smalls winOf winTo
    rw [List.filter_filter, List.filter_filter]
    have := filter_len_mono (p := fun a => smallB W l a && inWin W A l n a) (q := fun a => smallB W l a && inWin W B l n a) (List.range (n + 1)) fun x hx hi => by
      simp only [Bool.and_eq_true] at hi ⊢
      exact ⟨hi.1, hw x hx hi.2⟩
    omega
theorem reas_yes {l : List DealN} {L : List (Int × Int)} {W : WatchN} {k : Int} {r : Value} {w : AW} (h : ReasIs l L W k r w) (hb : reportB l L W = true) {n : Nat} (hk : k = (n : Int)) (hn : n < l.length) (hR : ∀ A, Labs L A → RepP l W A n) : ∃ p a c, r = .tuple #[.slice p a c, .int .i64 0] := by
  rcases h with ⟨h, _⟩ | ⟨_, h, _⟩ | ⟨_, m, B, hkm, hm, hB, h⟩
  · rw [hb] at h; cases h
  · rw [hk] at h
    have : inR 0 (n : Int) ((l.length : Int) - 1) = true := (inR_iff _ _ _).2 ⟨by omega, by omega⟩
    rw [this] at h; cases h
  · obtain rfl : n = m := by omega
    have hR := hR B hB
    rcases h with ⟨_, _, p, a, c, _, rfl, _⟩ | ⟨_, _, p, a, c, rfl, _⟩ | ⟨h1, h2, _⟩
    · exact ⟨p, a, c, rfl⟩
    · exact ⟨p, a, c, rfl⟩
    · rcases hR with q | q <;> omega
theorem reas_cases {l : List DealN} {L : List (Int × Int)} {W : WatchN} {k : Int} {r : Value} {w : AW} (h : ReasIs l L W k r w) :
    (∃ e : Int, e ≠ 0 ∧ r = .tuple #[.slice none 0 0, .int .i64 e] ∧ (reportB l L W = true → inR 0 k ((l.length : Int) - 1) = true → e = 4)) ∨
    (∃ p a c n A, r = .tuple #[.slice p a c, .int .i64 0] ∧ reportB l L W = true ∧ k = ((n : Nat) : Int) ∧ n < l.length ∧ Labs L A ∧ RepP l W A n) := by
  rcases h with ⟨h, rfl⟩ | ⟨_, h, rfl⟩ | ⟨hb, m, B, hkm, hm, hB, h⟩
  · exact .inl ⟨83, by decide, rfl, fun q => by rw [h] at q; cases q⟩
  · exact .inl ⟨7, by decide, rfl, fun _ q => by rw [h] at q; cases q⟩
  · rcases h with ⟨h1, _, p, a, c, _, rfl, _⟩ | ⟨_, h2, p, a, c, rfl, _⟩ | ⟨h1, h2, rfl⟩
    · exact .inr ⟨p, a, c, m, B, rfl, hb, hkm, hm, hB, .inl h1⟩
    · exact .inr ⟨p, a, c, m, B, rfl, hb, hkm, hm, hB, .inr h2⟩
    · exact .inl ⟨4, by decide, rfl, fun _ _ => rfl⟩
theorem reportB_iff {l : List DealN} {L : List (Int × Int)} {W : WatchN} (h : reportB l L W = true) : l.length ≤ 64 ∧ (∀ d ∈ l, dealB d = true) ∧ L.length ≤ 64 ∧ (∀ x ∈ L, linkB x = true) := by
  simp only [reportB, Bool.and_eq_true, dealsB, linksB, decide_eq_true_eq] at h
  exact ⟨h.1.1.1.1, fun d hd => List.all_eq_true.mp h.1.1.1.2 d hd, h.1.2.1, fun x hx => List.all_eq_true.mp h.1.2.2 x hx⟩
theorem leads_more {L L' : List (Int × Int)} {A B : List Int} (h : Labs L A) (k : Labs L' B) (hs : ∀ x ∈ L, x ∈ L') {l : List DealN} (hd : ∀ d ∈ l, dealB d = true) {i n : Nat} (hi : i < l.length) (hn : n < l.length) (e : leadAt A l i = leadAt A l n) : leadAt B l i = leadAt B l n := by
  have h1 := (dealB_iff _).1 (hd _ (List.getElem_mem hi))
  have h2 := (dealB_iff _).1 (hd _ (List.getElem_mem hn))
  have hA := h.len
  have hB := k.len
  rw [leadAt_eq hi, leadAt_eq hn] at e ⊢
  rw [lb_at (by omega), lb_at (by omega)] at e ⊢
  exact h.more_eq k hs _ _ _ _ e
theorem lcells_len (x : Int × Int) : (lcells x).length = 2 := rfl
theorem lcells_ones (L : List (Int × Int)) : ∀ y ∈ L.flatMap lcells, oneCell y = true := by
  intro y hy
  obtain ⟨x, _, hx⟩ := List.mem_flatMap.mp hy
  simp [lcells] at hx
  rcases hx with rfl | rfl <;> rfl
theorem lcells_lens (L : List (Int × Int)) : (L.flatMap lcells).length = L.length * 2 := by
  induction L with
  | nil => rfl
  | cons a L ih => rw [List.flatMap_cons, List.length_append, lcells_len, ih, List.length_cons]; omega
theorem icell {w : AW} {b : Nat} {A : List Int} (h : Own w b 115 (icl A)) {u : Nat} (hu : u < A.length) : w.cell? ⟨b, u, none⟩ = some (.int .i64 (lb A u)) := h.cell (icl_at hu) rfl
set_option maxHeartbeats 32000000 in
theorem links_law (w : AW) (xs : List Value) (f : Fresh w) (h : HdAll Tryz.prog w [48, 3, 25] xs) : CallT Tryz.prog Tryz.T1 (.fn (.func 10) #[]) xs.toArray w fun v _ => v = .bool true := by
  cases h with
  | cons n1 h1 h =>
  cases h with
  | cons n2 h2 h =>
  cases h with
  | cons n3 h3 h =>
  cases h
  rename_i x1 x2 x3
  obtain ⟨v0, v1, W, rfl, ⟨l, hs⟩, L, hL⟩ := given_report h1
  obtain ⟨K, rfl, hK0, hK1⟩ := given_num h2
  obtain ⟨N0, N1, rfl⟩ := given_pair h3
  clear h1 h2 h3
  obtain ⟨p0, cp0, rfl, _⟩ := id hs.open
  obtain ⟨p1, cp1, rfl, hcap1, hmax1, _⟩ := id hL.open
  show CallT Tryz.prog Tryz.T1 (.fn (.func 10) #[]) #[.agg #[.slice p0 l.length cp0, .slice p1 L.length cp1, .int .i64 W.days, .int .i64 W.sum, .int .i64 W.small, .int .i64 W.more], .int .i64 K, .agg #[.int .i64 N0, .int .i64 N1]] w _
  have g1 := (Grown.refl f).push (.cells [.slice p0 l.length cp0, .slice p1 L.length cp1, .int .i64 W.days, .int .i64 W.sum, .int .i64 W.small, .int .i64 W.more] 48 w.next 0 0)
  have O1 := Own.new f 48 [.slice p0 l.length cp0, .slice p1 L.length cp1, .int .i64 W.days, .int .i64 W.sum, .int .i64 W.small, .int .i64 W.more]
  have g2 := g1.push (.cells [.int .i64 N0, .int .i64 N1] 25 (w.next + 1) 0 0)
  have N2 := Own.new g1.2 25 [.int .i64 N0, .int .i64 N1]
  rw [AW.next_push] at N2
  have O2 := O1.push (.cells [.int .i64 N0, .int .i64 N1] 25 (w.next + 1) 0 0)
  have c0 := (O2).cell (o := 0) rfl rfl
  have c1 := (O2).cell (o := 1) rfl rfl
  have c2 := (O2).cell (o := 2) rfl rfl
  have c3 := (O2).cell (o := 3) rfl rfl
  have c4 := (O2).cell (o := 4) rfl rfl
  have c5 := (O2).cell (o := 5) rfl rfl
  refine callT_code rfl Tryz.func10 rfl Tryz.s10_eq rfl ?_
  unfold Tryz.s10
  simp -dsimp -implicitDefEqProofs (maxSteps := 2000000) (disch := first | assumption | omega | (simp only [nx]; omega) | ((repeat refine Fresh.push ?_ _); assumption) | (simp only [smA]; done) | (simp [oneCell, AW.next_push]; done) | fail) only [go_sem, Nat.reduceEqDiff, reduceIte, Nat.reduceAdd, Int.toNat_natCast, Nat.add_zero, Owes_true, Tryz.results10, Nat.zero_add, c0, c1, c2, c3, c4, c5]
  generalize ((w.push (.cells [.slice p0 l.length cp0, .slice p1 L.length cp1, .int .i64 W.days, .int .i64 W.sum, .int .i64 W.small, .int .i64 W.more] 48 w.next 0 0)).push (.cells [.int .i64 N0, .int .i64 N1] 25 (w.next + 1) 0 0)) = w2 at *
  clear c0 c1 c2 c3 c4 c5
  apply callV_of (e := rfl)
  · exact Reasons_ok l L W _ _ K w2 g2.2 (hs.grown g2) (hL.grown g2)
  rintro _ w3 ⟨hR, g3⟩
  rcases reas_cases hR with ⟨e, he, rfl, _⟩ | ⟨p, a, c, n, A, rfl, hb, rfl, hn, hA, hRep⟩
  · simp -dsimp -implicitDefEqProofs (maxSteps := 2000000) (disch := first | assumption | omega | (simp only [nx]; omega) | ((repeat refine Fresh.push ?_ _); assumption) | (simp only [smA]; done) | (simp [oneCell, AW.next_push]; done) | fail) only [go_sem, Nat.reduceEqDiff, reduceIte, Nat.reduceAdd, Int.toNat_natCast, Nat.add_zero, Owes_true, Tryz.results10, he]
    apply callV_of (e := rfl)
    · exact callT_told (Q := fun v w' => v = .bool true ∧ w3 = w') (v := .bool true) (w' := w3) rfl ⟨rfl, rfl⟩
    rintro _ _ ⟨rfl, rfl⟩
    simp -dsimp -implicitDefEqProofs (maxSteps := 2000000) (disch := first | assumption | omega | (simp only [nx]; omega) | ((repeat refine Fresh.push ?_ _); assumption) | (simp only [smA]; done) | (simp [oneCell, AW.next_push]; done) | fail) only [go_sem, Nat.reduceEqDiff, reduceIte, Nat.reduceAdd, Int.toNat_natCast, Nat.add_zero, Owes_true, Tryz.results10]
  have gw3 := g2.trans g3
  have O3 := O2.keep g3.1
  have N3 := N2.keep g3.1
  have c0 := (O3).cell (o := 0) rfl rfl
  have c1 := (O3).cell (o := 1) rfl rfl
  have c2 := (O3).cell (o := 2) rfl rfl
  have c3 := (O3).cell (o := 3) rfl rfl
  have c4 := (O3).cell (o := 4) rfl rfl
  have c5 := (O3).cell (o := 5) rfl rfl
  have m0 := N3.cell (o := 0) rfl rfl
  have m1 := N3.cell (o := 1) rfl rfl
  by_cases hlen : (L.length : Int) ≥ 64
  · have hdl : decide ((L.length : Int) ≥ 64) = true := decide_eq_true hlen
    simp -dsimp -implicitDefEqProofs (maxSteps := 2000000) (disch := first | assumption | omega | (simp only [nx]; omega) | ((repeat refine Fresh.push ?_ _); assumption) | (simp only [smA]; done) | (simp [oneCell, AW.next_push]; done) | fail) only [go_sem, Nat.reduceEqDiff, reduceIte, Nat.reduceAdd, Int.toNat_natCast, Nat.add_zero, Owes_true, Tryz.results10, Nat.zero_add, c1, hdl]
    apply callV_of (e := rfl)
    · exact callT_told (Q := fun v w' => v = .bool true ∧ w3 = w') (v := .bool true) (w' := w3) rfl ⟨rfl, rfl⟩
    rintro _ _ ⟨rfl, rfl⟩
    simp -dsimp -implicitDefEqProofs (maxSteps := 2000000) (disch := first | assumption | omega | (simp only [nx]; omega) | ((repeat refine Fresh.push ?_ _); assumption) | (simp only [smA]; done) | (simp [oneCell, AW.next_push]; done) | fail) only [go_sem, Nat.reduceEqDiff, reduceIte, Nat.reduceAdd, Int.toNat_natCast, Nat.add_zero, Owes_true, Tryz.results10]
  have hdl : decide ((L.length : Int) ≥ 64) = false := decide_eq_false hlen
  have ix0 : indexA 1 2 (.pointer (some ⟨w.next + 1, 0, none⟩)) (.int .i64 0) = some (.pointer (some ⟨w.next + 1, 0, none⟩)) := rfl
  simp -dsimp -implicitDefEqProofs (maxSteps := 2000000) (disch := first | assumption | omega | (simp only [nx]; omega) | ((repeat refine Fresh.push ?_ _); assumption) | (simp only [smA]; done) | (simp [oneCell, AW.next_push]; done) | fail) only [go_sem, Nat.reduceEqDiff, reduceIte, Nat.reduceAdd, Int.toNat_natCast, Nat.add_zero, Owes_true, Tryz.results10, Nat.zero_add, c1, hdl, m0]
  apply callV_of (e := rfl)
  · exact Ring_ok N0 24 (by decide) (by decide) w3
  rintro _ _ ⟨a, rfl, ha, _, rfl⟩
  simp -dsimp -implicitDefEqProofs (maxSteps := 2000000) (disch := first | assumption | omega | (simp only [nx]; omega) | ((repeat refine Fresh.push ?_ _); assumption) | (simp only [smA]; done) | (simp [oneCell, AW.next_push]; done) | fail) only [go_sem, Nat.reduceEqDiff, reduceIte, Nat.reduceAdd, Int.toNat_natCast, Nat.add_zero, Owes_true, Tryz.results10, Nat.zero_add, m1]
  apply callV_of (e := rfl)
  · exact Ring_ok N1 23 (by decide) (by decide) w3
  rintro _ _ ⟨b0, rfl, hb0, _, rfl⟩
  simp -dsimp -implicitDefEqProofs (maxSteps := 2000000) (disch := first | assumption | omega | (simp only [nx]; omega) | ((repeat refine Fresh.push ?_ _); assumption) | (simp only [smA]; done) | (simp [oneCell, AW.next_push]; done) | fail) only [go_sem, Nat.reduceEqDiff, reduceIte, Nat.reduceAdd, Int.toNat_natCast, Nat.add_zero, Owes_true, Tryz.results10]
  apply callV_of (e := rfl)
  · exact Ring_ok ((a : Int) + 1 + (b0 : Int)) 24 (by decide) (by decide) w3
  rintro _ _ ⟨b, rfl, hb1, hbv, rfl⟩
  have hab : a ≠ b := by
    have e1 : ((a : Int) + 1 + (b0 : Int)).tmod 24 = ((a : Int) + 1 + (b0 : Int)) % 24 := Int.tmod_eq_emod_of_nonneg (by omega)
    rw [e1, Int.tmod_eq_emod_of_nonneg (by omega)] at hbv
    omega
  obtain ⟨hl64, hdd, hL64, hla⟩ := reportB_iff hb
  have hf3 := gw3.2
  -- the links, copied and made longer
  have g4 := gw3.push (.cells [] 25 w3.next 0 0)
  have O4 := O3.push (.cells [] 25 w3.next 0 0)
  have hnew := arr_new (hL.grown g4) lcells_len (by decide)
  obtain ⟨v5, w5, happ1, hk5, f5, hcase⟩ := append_empty Tryz.ty44 Tryz.ty25 rfl (by decide) (b := w3.next) (e' := 25) (blk_push_top _ _) (gw3.2.push (.cells [] 25 w3.next 0 0)) rfl hnew (lcells_lens L) (lcells_ones L) (by omega) (by omega)
  have hM5 : Making (w3.next + 1) w5 25 2 v5 L.length (L.flatMap lcells) := by
    rcases hcase with ⟨z, rfl, rfl⟩ | z
    · obtain rfl : L = [] := List.length_eq_zero_iff.mp z
      exact .inl ⟨rfl, rfl, w3.next, 25, rfl, by rw [AW.next_push]; omega, blk_push_top _ _⟩
    · rw [AW.next_push] at z; exact .inr z
  have hn5 := hk5.next
  rw [AW.next_push] at hn5
  have g5 : Grown w w5 := ⟨g4.1.trans (hk5.mono g4.1.next), f5⟩
  have O5 := O4.keepC hk5 (by have := O4.lt; omega)
  have hgn := g2.1.next
  obtain ⟨v6, w6, happ2, hA6, hk6, f6⟩ := hM5.app (e' := 25) (k := 1) (new := lcells ((a : Int), (b : Int))) Tryz.ty44 Tryz.ty25 rfl (by decide) f5 (by omega) (by decide) rfl (by intro y hy; simp [lcells] at hy; rcases hy with rfl | rfl <;> rfl) (by omega) (by omega)
  obtain ⟨p6, c6, rfl⟩ : ∃ p6 c6, v6 = .slice p6 (L.length + 1) c6 := by
    rcases hA6 with ⟨rfl, z, _⟩ | ⟨_, _, rfl, _⟩
    · omega
    · exact ⟨_, _, rfl⟩
  have O3l := O3.lt
  have g6 : Grown w w6 := ⟨g5.1.trans (hk6.mono (by have := gw3.1.next; omega)), f6⟩
  have O6 := O5.keepC hk6 (by omega)
  have hone : AOwn (w3.next + 1) w6 25 2 (.slice p6 (L.length + 1) c6) (L ++ [((a : Int), (b : Int))]).length ((L ++ [((a : Int), (b : Int))]).flatMap lcells) := by
    rw [List.length_append, List.flatMap_append]; exact hA6
  have hLm := hone.arrR lcells_len (by rw [List.length_append]; show L.length + 1 ≤ _; omega)
  generalize hmo : L ++ [((a : Int), (b : Int))] = M at *
  have hMl : M.length = L.length + 1 := by rw [← hmo, List.length_append]; rfl
  have hsub : ∀ x ∈ L, x ∈ M := fun x hx => by rw [← hmo]; exact List.mem_append_left _ hx
  have hMin : ((a : Int), (b : Int)) ∈ M := by rw [← hmo]; simp
  have hMb : linksB M = true := by
    simp only [linksB, Bool.and_eq_true, decide_eq_true_eq]
    refine ⟨by omega, List.all_eq_true.mpr fun x hx => ?_⟩
    rw [← hmo] at hx
    rcases List.mem_append.mp hx with q | q
    · exact hla x q
    · simp at q
      subst q
      simp only [linkB, Bool.and_eq_true, inR_iff, Bool.not_eq_true', decide_eq_false_iff_not]
      exact ⟨⟨⟨by omega, by omega⟩, by omega, by omega⟩, by omega⟩
  have hLb : linksB L = true := by
    simp only [reportB, Bool.and_eq_true] at hb; exact hb.1.2
  have hbM : reportB l M W = true := by
    simp only [reportB, Bool.and_eq_true] at hb ⊢
    exact ⟨⟨hb.1.1, hMb⟩, hb.2⟩
  simp only [lcells] at happ2
  have c0 := (O6).cell (o := 0) rfl rfl
  have c1 := (O6).cell (o := 1) rfl rfl
  have c2 := (O6).cell (o := 2) rfl rfl
  have c3 := (O6).cell (o := 3) rfl rfl
  have c4 := (O6).cell (o := 4) rfl rfl
  have c5 := (O6).cell (o := 5) rfl rfl
  have d1 := O4.cell (o := 1) rfl rfl
  simp -dsimp -implicitDefEqProofs (maxSteps := 2000000) (disch := first | assumption | omega | (simp only [nx]; omega) | ((repeat refine Fresh.push ?_ _); assumption) | (simp only [smA]; done) | (simp [oneCell, AW.next_push]; done) | fail) only [go_sem, Nat.reduceEqDiff, reduceIte, Nat.reduceAdd, Int.toNat_natCast, Nat.add_zero, Owes_true, Tryz.results10, Nat.zero_add, d1, happ1, happ2, c0, c2, c3, c4, c5]
  apply callV_of (e := rfl)
  · exact Reasons_ok l M W _ _ (n : Int) w6 g6.2 (hs.grown g6) (by rw [← hMl] at hLm ⊢; exact hLm)
  rintro _ w7 ⟨hR7, g7⟩
  have hmono : ∀ B, Labs M B → RepP l W B n := fun B hB => hRep.mono hdd hn fun i hi e => leads_more hA hB hsub hdd (by omega) hn e
  obtain ⟨p7, a7, c7, rfl⟩ := reas_yes hR7 hbM rfl hn hmono
  have gw7 := g6.trans g7
  have O7 := O6.keep g7.1
  have c1 := O7.cell (o := 1) rfl rfl
  simp -dsimp -implicitDefEqProofs (maxSteps := 2000000) (disch := first | assumption | omega | (simp only [nx]; omega) | ((repeat refine Fresh.push ?_ _); assumption) | (simp only [smA]; done) | (simp [oneCell, AW.next_push]; done) | fail) only [go_sem, Nat.reduceEqDiff, reduceIte, Nat.reduceAdd, Int.toNat_natCast, Nat.add_zero, Owes_true, Tryz.results10, Nat.zero_add, c1]
  apply callV_of (e := rfl)
  · exact Linked_ok L _ w7 gw7.2 (hL.grown gw7)
  rintro _ w8 ⟨hk8, g8⟩
  rcases hk8 with ⟨q, _⟩ | ⟨_, A8, b8, hA8, rfl, O8⟩
  · rw [hLb] at q; cases q
  obtain rfl := hA.one hA8
  have hLm8 := (hLm.grown g7).grown g8
  simp -dsimp -implicitDefEqProofs (maxSteps := 2000000) (disch := first | assumption | omega | (simp only [nx]; omega) | ((repeat refine Fresh.push ?_ _); assumption) | (simp only [smA]; done) | (simp [oneCell, AW.next_push]; done) | fail) only [go_sem, Nat.reduceEqDiff, reduceIte, Nat.reduceAdd, Int.toNat_natCast, Nat.add_zero, Owes_true, Tryz.results10]
  apply callV_of (e := rfl)
  · exact Linked_ok M _ w8 g8.2 (by rw [← hMl] at hLm8 ⊢; exact hLm8)
  rintro _ w9 ⟨hk9, g9⟩
  rcases hk9 with ⟨q, _⟩ | ⟨_, B, b9, hB, rfl, O9⟩
  · rw [hMb] at q; cases q
  have O8' := O8.keep g9.1
  have hAl := hA.len
  have hBl := hB.len
  have ca := icell O9 (u := a) (by omega)
  have cb := icell O9 (u := b) (by omega)
  have hlab : lb B a = lb B b := by
    rw [lb_at (by omega), lb_at (by omega)]
    exact (hB.eq_conn _ _).2 (.one (.inl hMin))
  rw [hlab] at ca
  have ha24 : (a : Int) < 24 := ha
  have hb24 : (b : Int) < 24 := hb1
  have haN : a < 24 := by omega
  have hbN : b < 24 := by omega
  have ia : indexV 1 (.slice (some ⟨b9, 0, none⟩) 24 24) (.int .i64 (a : Int)) = some (.pointer (some ⟨b9, a, none⟩)) := by rw [indexV_eq (by omega) (by omega)]; simp
  have ib : indexV 1 (.slice (some ⟨b9, 0, none⟩) 24 24) (.int .i64 (b : Int)) = some (.pointer (some ⟨b9, b, none⟩)) := by rw [indexV_eq (by omega) (by omega)]; simp
  have hc24 : ((24 : Nat) : Int) = 24 := rfl
  have h24 : decide ((24 : Int) = 24) = true := rfl
  simp -dsimp -implicitDefEqProofs (maxSteps := 2000000) (disch := first | assumption | omega | (simp only [nx]; omega) | ((repeat refine Fresh.push ?_ _); assumption) | (simp only [smA]; done) | (simp [oneCell, AW.next_push]; done) | fail) only [go_sem, Nat.reduceEqDiff, reduceIte, Nat.reduceAdd, Int.toNat_natCast, Nat.add_zero, Owes_true, Tryz.results10, ia, ib, ca, cb, hc24, h24]
  refine loopR (fun k t ds wz => ∃ i : Nat, i ≤ 24 ∧ k = 24 - i ∧ ds = [] ∧ ev t (.tmp 14) = .slice (some ⟨b8, 0, none⟩) 24 24 ∧ ev t (.tmp 16) = .slice (some ⟨b9, 0, none⟩) 24 24 ∧ ev t (.tmp 18) = .int .i64 (i : Int) ∧ wz = w9) (24) ?_ ?_
  · refine ⟨0, by omega, by omega, rfl, ?_, ?_, ?_, rfl⟩ <;> simp -dsimp -implicitDefEqProofs (maxSteps := 2000000) (disch := first | assumption | omega | (simp only [nx]; omega) | ((repeat refine Fresh.push ?_ _); assumption) | (simp only [smA]; done) | (simp [oneCell, AW.next_push]; done) | fail) only [go_sem, Nat.reduceEqDiff, reduceIte, Nat.reduceAdd, Int.toNat_natCast, Nat.add_zero, Owes_true] <;> rfl
  rintro k t ds wz ⟨i, hii, rfl, rfl, e14, e16, e18, hwz⟩
  subst hwz
  by_cases hlt : (i : Int) < 24
  case neg =>
    simp -dsimp -implicitDefEqProofs (maxSteps := 2000000) (disch := first | assumption | omega | (simp only [nx]; omega) | ((repeat refine Fresh.push ?_ _); assumption) | (simp only [smA]; done) | (simp [oneCell, AW.next_push]; done) | fail) only [go_sem, Nat.reduceEqDiff, reduceIte, Nat.reduceAdd, Int.toNat_natCast, Nat.add_zero, Owes_true, Tryz.results10, e14, e16, e18, hlt]
    apply callV_of (e := rfl)
    · exact callT_told (Q := fun v w' => v = .bool true ∧ wz = w') (v := .bool true) (w' := wz) rfl ⟨rfl, rfl⟩
    rintro _ _ ⟨rfl, rfl⟩
    simp -dsimp -implicitDefEqProofs (maxSteps := 2000000) (disch := first | assumption | omega | (simp only [nx]; omega) | ((repeat refine Fresh.push ?_ _); assumption) | (simp only [smA]; done) | (simp [oneCell, AW.next_push]; done) | fail) only [go_sem, Nat.reduceEqDiff, reduceIte, Nat.reduceAdd, Int.toNat_natCast, Nat.add_zero, Owes_true, Tryz.results10]
  have hi24 : i < 24 := by omega
  have hself := hA.self i (by omega)
  have hmore := hA.more hB hsub i (by omega) (by omega)
  obtain ⟨x, hx⟩ : ∃ x : Nat, A[i]'(by omega) = (x : Int) := ⟨(A[i]'(by omega)).toNat, by omega⟩
  have htw := hA.twice i (by omega) (by omega)
  have hxe : (A[i]'(by omega)).toNat = x := by omega
  have cA := icell O8' (u := i) (by omega)
  have cB := icell O9 (u := i) (by omega)
  have cX := icell O8' (u := x) (by omega)
  have hX : lb A x = (x : Int) := by
    rw [lb_at (by omega), ← hx, ← htw]
    congr 1
    exact hxe.symm
  rw [lb_at (by omega), hx] at cA
  rw [lb_at (by omega)] at cB
  rw [hX] at cX
  rw [hx] at hself hmore
  have i8 : indexV 1 (.slice (some ⟨b8, 0, none⟩) 24 24) (.int .i64 (i : Int)) = some (.pointer (some ⟨b8, i, none⟩)) := by rw [indexV_eq (by omega) (by omega)]; simp
  have i9 : indexV 1 (.slice (some ⟨b9, 0, none⟩) 24 24) (.int .i64 (i : Int)) = some (.pointer (some ⟨b9, i, none⟩)) := by rw [indexV_eq (by omega) (by omega)]; simp
  have iX : indexV 1 (.slice (some ⟨b8, 0, none⟩) 24 24) (.int .i64 (x : Int)) = some (.pointer (some ⟨b8, x, none⟩)) := by rw [indexV_eq (by omega) (by omega)]; simp
  have hgt : ¬ (x : Int) < B[i]'(by omega) := by omega
  simp -dsimp -implicitDefEqProofs (maxSteps := 2000000) (disch := first | assumption | omega | (simp only [nx]; omega) | ((repeat refine Fresh.push ?_ _); assumption) | (simp only [smA]; done) | (simp [oneCell, AW.next_push]; done) | fail) only [go_sem, Nat.reduceEqDiff, reduceIte, Nat.reduceAdd, Int.toNat_natCast, Nat.add_zero, Owes_true, Tryz.results10, e14, e16, e18, hlt, i8, i9, iX, cA, cB, cX]
  apply callV_of (e := rfl)
  · exact FromV_ok _ _ _ _
  rintro _ _ ⟨rfl, rfl⟩
  have hin : inR 0 (x : Int) (i : Int) = true := (inR_iff _ _ _).2 ⟨by omega, by omega⟩
  simp -dsimp -implicitDefEqProofs (maxSteps := 2000000) (disch := first | assumption | omega | (simp only [nx]; omega) | ((repeat refine Fresh.push ?_ _); assumption) | (simp only [smA]; done) | (simp [oneCell, AW.next_push]; done) | fail) only [go_sem, Nat.reduceEqDiff, reduceIte, Nat.reduceAdd, Int.toNat_natCast, Nat.add_zero, Owes_true, Tryz.results10, e14, e16, e18, hin, i8, i9, iX, cA, cB, cX, hgt]
  refine ⟨_, by omega, i + 1, by omega, rfl, rfl, by (simp -dsimp -implicitDefEqProofs (maxSteps := 2000000) (disch := first | assumption | omega | (simp only [nx]; omega) | ((repeat refine Fresh.push ?_ _); assumption) | (simp only [smA]; done) | (simp [oneCell, AW.next_push]; done) | fail) only [go_sem, Nat.reduceEqDiff, reduceIte, Nat.reduceAdd, Int.toNat_natCast, Nat.add_zero, Owes_true, e14]; try rfl), by (simp -dsimp -implicitDefEqProofs (maxSteps := 2000000) (disch := first | assumption | omega | (simp only [nx]; omega) | ((repeat refine Fresh.push ?_ _); assumption) | (simp only [smA]; done) | (simp [oneCell, AW.next_push]; done) | fail) only [go_sem, Nat.reduceEqDiff, reduceIte, Nat.reduceAdd, Int.toNat_natCast, Nat.add_zero, Owes_true, e16]; try rfl), by (simp -dsimp -implicitDefEqProofs (maxSteps := 2000000) (disch := first | assumption | omega | (simp only [nx]; omega) | ((repeat refine Fresh.push ?_ _); assumption) | (simp only [smA]; done) | (simp [oneCell, AW.next_push]; done) | fail) only [go_sem, Nat.reduceEqDiff, reduceIte, Nat.reduceAdd, Int.toNat_natCast, Nat.add_zero, Owes_true, e18]; try rfl), rfl⟩
end Go.Proofs

namespace Go.Proofs
open Go Go.RowKit Go.Sim Go.ChangeShapes Go.WideShapes Go.ChangeAt
set_option maxRecDepth 100000
theorem Tryz.own : ownKnob Tryz.prog.godebug = none := by kernel_rfl
theorem Tryz.laidOut : laidOutB Tryz.prog = true := by kernel_rfl
end Go.Proofs
