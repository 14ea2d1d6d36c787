/- This program: its code, contracts, numbers, part 5. -/
import Derived.Test.YthnpnooiidnbeaaGreatPad
import Derived.Test.YthnpnooiidnbeaaGreatPab
import Derived.Test.YthnpnooiidnbeaaGreatNc
import Derived.Test.YthnpnooiidnbeaaGreatPaa
import Derived.Test.YthnpnooiidnbeaaGreatSf
set_option linter.unusedVariables false
set_option linter.unusedSimpArgs false
namespace Go.Proofs
open Go Go.RowKit Go.Sim
set_option maxRecDepth 100000
structure BestAt (w0 w : AW) (D : List (Int × Int)) (u h : Value) (r bk bd bb : Nat) : Prop where
  map : KnowsAt w r D
  rl : w0.next ≤ r ∧ r < w.next
  kn : Own w bk 180 [.map (some r)]
  dr : Own w bd 24 [u, h]
  be : Own w bb 149 [.func (.func 132) #[] #[.pointer (some ⟨bk, 0, none⟩), .pointer (some ⟨bd, 0, none⟩), .pointer (some ⟨bb, 0, none⟩)]]
  ne : bk ≠ r ∧ bd ≠ r ∧ bb ≠ r
  k0 : Keep w0.next w0 w
  f : Fresh w
theorem BestAt.step {w0 w w' : AW} {D : List (Int × Int)} {u h : Value} {r bk bd bb : Nat} (b : BestAt w0 w D u h r bk bd bb) (k : MutS (fun j => j = r) w w') (hm : KnowsAt w' r D) : BestAt w0 w' D u h r bk bd bb :=
  ⟨hm, ⟨b.rl.1, by have := k.next; have := b.rl.2; omega⟩, k.own b.kn b.ne.1, k.own b.dr b.ne.2.1, k.own b.be b.ne.2.2, b.ne, b.k0.trans (k.keep (fun j q => by have := b.rl.1; omega) b.k0.next), k.fresh⟩
theorem KnowsAt.other {w w' : AW} {r : Nat} {D : List (Int × Int)} (h : KnowsAt w r D) (hb : w'.blk r = w.blk r) : KnowsAt w' r D := by
  obtain ⟨es, c, h1, h2⟩ := h; exact ⟨es, c, by rw [hb]; exact h1, h2⟩
theorem BestAt.grown {w0 w w' : AW} {D : List (Int × Int)} {u h : Value} {r bk bd bb : Nat} (b : BestAt w0 w D u h r bk bd bb) (g : Grown w w') : BestAt w0 w' D u h r bk bd bb :=
  b.step (.of g) (b.map.other (g.1.blk r b.rl.2))
theorem BestAt.put {w0 w : AW} {D : List (Int × Int)} {u h : Value} {r bk bd bb b : Nat} {e : TypeId} {c c' : List Value} (B : BestAt w0 w D u h r bk bd bb) (hO : Own w b e c) (hb : w0.next ≤ b) (hn : b ≠ r ∧ b ≠ bk ∧ b ≠ bd ∧ b ≠ bb) : BestAt w0 (w.put b (.cells c' e b 0 0)) D u h r bk bd bb := by
  have m := MutS.put (S := fun j => j = b) B.f rfl hO.lt (.cells c' e b 0 0)
  exact ⟨B.map.other (m.blk r B.rl.2 (fun q => hn.1 q.symm)), ⟨B.rl.1, by have := m.next; have := B.rl.2; omega⟩, m.own B.kn (fun q => hn.2.1 q.symm), m.own B.dr (fun q => hn.2.2.1 q.symm), m.own B.be (fun q => hn.2.2.2 q.symm), B.ne, B.k0.trans (m.keep (fun j q => by omega) B.k0.next), m.fresh⟩
theorem drop_zip {C H : List Int} {k : Nat} (hk : k < C.length) (hl : H.length = C.length) : (C.zip H).drop k = (C[k], H[k]'(by omega)) :: (C.zip H).drop (k + 1) := by
  rw [List.drop_eq_getElem_cons (by rw [List.length_zip]; omega)]
  simp [List.getElem_zip]
end Go.Proofs

namespace Go.Proofs
open Go Go.RowKit Go.Sim
set_option maxRecDepth 100000
end Go.Proofs

namespace Go.Proofs
open Go Go.RowKit Go.Sim
set_option maxRecDepth 100000
theorem icells_len (x : Int) : (icells x).length = 1 := rfl
theorem icells_one (x : Int) : ∀ v ∈ icells x, oneCell v = true := by intro v hv; simp [icells] at hv; subst hv; rfl
structure DIn (C H : List Int) : Prop where
  len : H.length = C.length
  c : ∀ c ∈ C, 1 ≤ c ∧ c ≤ 50000
  h : ∀ x ∈ H, 0 ≤ x ∧ x ≤ 100
theorem DIn.at {C H : List Int} (d : DIn C H) {i : Nat} (hi : i < C.length) : (C.zip H).drop i = (C[i], H[i]'(by rw [d.len]; exact hi)) :: (C.zip H).drop (i + 1) ∧ (C.zip H).getD i (0, 0) = (C[i], H[i]'(by rw [d.len]; exact hi)) ∧ 1 ≤ C[i] ∧ C[i] ≤ 50000 ∧ 0 ≤ H[i]'(by rw [d.len]; exact hi) ∧ H[i]'(by rw [d.len]; exact hi) ≤ 100 := by
  have h1 := d.c _ (List.getElem_mem hi)
  have h2 := d.h _ (List.getElem_mem (show i < H.length by rw [d.len]; exact hi))
  refine ⟨drop_zip hi d.len, ?_, h1.1, h1.2, h2.1, h2.2⟩
  rw [List.getD_eq_getElem?_getD, List.getElem?_eq_getElem (by rw [List.length_zip, d.len, Nat.min_self]; exact hi)]
  simp [List.getElem_zip]
end Go.Proofs

namespace Go.Proofs
open Go Go.RowKit Go.Sim
set_option maxRecDepth 100000
theorem AOwn.slice {B : Nat} {w : AW} {e : TypeId} {size n : Nat} {v : Value} {cells : List Value} (h : AOwn B w e size v n cells) : ∃ p m c, v = .slice p m c := by
  rcases h with ⟨rfl, _⟩ | ⟨b, r, rfl, _⟩
  · exact ⟨_, _, _, rfl⟩
  · exact ⟨_, _, _, rfl⟩
def worth (C L : List Int) (n : Nat) : Int := ((List.range n).map fun i => L.getD i 0 * C.getD i 0).sum
end Go.Proofs

namespace Go.Proofs
open Go Go.RowKit Go.Sim
set_option maxRecDepth 100000
def okAt (C L H : List Int) (i : Nat) : Bool := decide (i < C.length) && decide (i < H.length) && inR 0 (L.getD i 0) (H.getD i 0) && inR 1 (C.getD i 0) 50000 && decide (L.getD i 0 ≤ 100)
end Go.Proofs

namespace Go.Proofs
open Go Go.RowKit Go.Sim
set_option maxRecDepth 100000
def PayOf : List (Int × Int) → List Int → Int → Prop
  | [], [], s => s = 0
  | (c, h) :: D, n :: L, s => 0 ≤ n ∧ n ≤ h ∧ PayOf D L (s - n * c)
  | _, _, _ => False
def Fine (D : List (Int × Int)) : Prop := ∀ d ∈ D, 1 ≤ d.1 ∧ 0 ≤ d.2
theorem PayOf.nn : ∀ {D : List (Int × Int)} {L : List Int} {s : Int}, PayOf D L s → Fine D → 0 ≤ s ∧ 0 ≤ L.sum
  | [], [], s, h, _ => by simp only [PayOf] at h; subst h; simp
  | (c, x) :: D, n :: L, s, h, hf => by
    simp only [PayOf] at h
    have ih := PayOf.nn h.2.2 fun d hd => hf d (List.mem_cons_of_mem _ hd)
    have := hf _ List.mem_cons_self
    have : 0 ≤ n * c := Int.mul_nonneg h.1 (by simp only at this; omega)
    rw [List.sum_cons]; omega
  | [], _ :: _, _, h, _ => h.elim
  | _ :: _, [], _, h, _ => h.elim
theorem worth_cons (c n : Int) (C L : List Int) (k : Nat) : worth (c :: C) (n :: L) (k + 1) = n * c + worth C L k := by
  unfold worth
  rw [List.range_succ_eq_map, List.map_cons, List.map_map, List.sum_cons]
  simp [Function.comp_def]
theorem PayOf.out : ∀ {C H L : List Int} {s : Int}, PayOf (C.zip H) L s → H.length = C.length → L.length = C.length ∧ s = worth C L L.length ∧ ∀ i, i < L.length → 0 ≤ L.getD i 0 ∧ L.getD i 0 ≤ H.getD i 0
  | [], [], [], s, h, _ => by simp only [List.zip_nil_left, PayOf] at h; subst h; simp [worth]
  | c :: C, h :: H, n :: L, s, hp, hl => by
    simp only [List.zip_cons_cons, PayOf] at hp
    have ih := PayOf.out hp.2.2 (by simpa using hl)
    refine ⟨by simp [ih.1], ?_, fun i hi => ?_⟩
    · rw [List.length_cons, worth_cons]; omega
    · cases i with
      | zero => simp only [List.getD_cons_zero]; omega
      | succ i => have := ih.2.2 i (by simpa using hi); simpa using this
  | [], [], _ :: _, _, h, _ => h.elim
  | c :: C, x :: H, [], _, h, _ => h.elim
  | [], _ :: _, _, _, _, h => by simp at h
  | _ :: _, [], _, _, _, h => by simp at h
end Go.Proofs

namespace Go.Proofs
open Go Go.RowKit Go.Sim
set_option maxRecDepth 100000
theorem Tryz.und3 : Tryz.prog.underlying 3 = some (.int .i64) := by kernel_rfl
theorem Tryz.und4 : Tryz.prog.underlying 4 = some .bool := by kernel_rfl
theorem given_int {w : AW} {n : Nat} {cs : List Value} (h : Hd Tryz.prog w n 3 cs) : ∃ x : Int, cs = icells x ∧ -9223372036854775808 ≤ x ∧ x ≤ 9223372036854775807 := by
  cases n with
  | zero => exact h.elim
  | succ n =>
    simp only [Hd, Tryz.und3] at h
    obtain ⟨i, rfl, h1, h2⟩ := h
    exact ⟨i, rfl, h1, h2⟩
theorem given_num {w : AW} {n : Nat} {v : Value} (h : HdV Tryz.prog w n 3 v) : ∃ x : Int, v = .int .i64 x ∧ -9223372036854775808 ≤ x ∧ x ≤ 9223372036854775807 := by
  simp only [HdV, Tryz.und3] at h
  obtain ⟨x, e, h1⟩ := given_int h
  injection e with e
  exact ⟨x, e, h1⟩
theorem rows_of {rows : List (List Value)} (h : ∀ r ∈ rows, ∃ x : Int, r = icells x) : ∃ xs : List Int, rows = xs.map icells := by
  induction rows with
  | nil => exact ⟨[], rfl⟩
  | cons r rows ih =>
    obtain ⟨x, hx⟩ := h r List.mem_cons_self
    obtain ⟨xs, hxs⟩ := ih fun q hq => h q (List.mem_cons_of_mem _ hq)
    exact ⟨x :: xs, by rw [hx, hxs]; rfl⟩
end Go.Proofs

namespace Go.Proofs
open Go Go.RowKit Go.Sim
set_option maxRecDepth 100000
theorem Tryz.und25 : Tryz.prog.underlying 25 = some (.array 2 3) := by kernel_rfl
theorem Tryz.und43 : Tryz.prog.underlying 43 = some (.slice 76) := by kernel_rfl
theorem Tryz.und44 : Tryz.prog.underlying 44 = some (.slice 25) := by kernel_rfl
theorem Tryz.cells76 : Tryz.prog.cellsOf 76 = 3 := by kernel_rfl
theorem Tryz.cells25 : Tryz.prog.cellsOf 25 = 2 := by kernel_rfl
theorem given_link {w : AW} {n : Nat} {cs : List Value} (h : Hd Tryz.prog w n 25 cs) : ∃ x : Int × Int, cs = lcells x := by
  cases n with
  | zero => exact h.elim
  | succ n =>
    simp only [Hd, Tryz.und25] at h
    obtain ⟨parts, rfl, hl, hp⟩ := h
    match parts, hl with
    | [p0, p1], _ =>
      obtain ⟨a, rfl, _⟩ := given_int (hp p0 List.mem_cons_self)
      obtain ⟨b, rfl, _⟩ := given_int (hp p1 (List.mem_cons_of_mem _ List.mem_cons_self))
      exact ⟨(a, b), rfl⟩
theorem given_deal {w : AW} {n : Nat} {cs : List Value} (h : Hd Tryz.prog w n 76 cs) : ∃ d : DealN, cs = dcells d := by
  cases n with
  | zero => exact h.elim
  | succ n =>
    simp only [Hd, Tryz.underlying76] at h
    obtain ⟨parts, rfl, hl, hp⟩ := h
    match parts, hl with
    | [p0, p1, p2], _ =>
      obtain ⟨a, rfl, _⟩ := given_int (hp 0 _ p0 rfl rfl)
      obtain ⟨b, rfl, _⟩ := given_int (hp 1 _ p1 rfl rfl)
      obtain ⟨c, rfl, _⟩ := given_int (hp 2 _ p2 rfl rfl)
      exact ⟨⟨a, b, c⟩, rfl⟩
theorem given_watch {w : AW} {n : Nat} {cs : List Value} (h : Hd Tryz.prog w n 46 cs) : ∃ W : WatchN, cs = [.int .i64 W.days, .int .i64 W.sum, .int .i64 W.small, .int .i64 W.more] := by
  cases n with
  | zero => exact h.elim
  | succ n =>
    simp only [Hd, Tryz.underlying46] at h
    obtain ⟨parts, rfl, hl, hp⟩ := h
    match parts, hl with
    | [p0, p1, p2, p3], _ =>
      obtain ⟨a, rfl, _⟩ := given_int (hp 0 _ p0 rfl rfl)
      obtain ⟨b, rfl, _⟩ := given_int (hp 1 _ p1 rfl rfl)
      obtain ⟨c, rfl, _⟩ := given_int (hp 2 _ p2 rfl rfl)
      obtain ⟨d, rfl, _⟩ := given_int (hp 3 _ p3 rfl rfl)
      exact ⟨⟨a, b, c, d⟩, rfl⟩
theorem given_deals {w : AW} {n : Nat} {cs : List Value} (h : Hd Tryz.prog w n 43 cs) : ∃ v, cs = [v] ∧ ∃ l : List DealN, ArrOf w 3 dcells v l := by
  cases n with
  | zero => exact h.elim
  | succ n =>
    simp only [Hd, Tryz.und43, Tryz.cells76] at h
    obtain ⟨v, rows, rfl, ha, hr, _⟩ := h
    obtain ⟨xs, rfl⟩ := Go.Sim.rows_of (enc := dcells) fun r hq => given_deal (hr r hq)
    exact ⟨v, rfl, xs, ha⟩
theorem given_links {w : AW} {n : Nat} {cs : List Value} (h : Hd Tryz.prog w n 44 cs) : ∃ v, cs = [v] ∧ ∃ L : List (Int × Int), ArrOf w 2 lcells v L := by
  cases n with
  | zero => exact h.elim
  | succ n =>
    simp only [Hd, Tryz.und44, Tryz.cells25] at h
    obtain ⟨v, rows, rfl, ha, hr, _⟩ := h
    obtain ⟨xs, rfl⟩ := Go.Sim.rows_of (enc := lcells) fun r hq => given_link (hr r hq)
    exact ⟨v, rfl, xs, ha⟩
theorem given_report {w : AW} {n : Nat} {v : Value} (h : HdV Tryz.prog w n 48 v) : ∃ (v0 v1 : Value) (W : WatchN), v = .agg #[v0, v1, .int .i64 W.days, .int .i64 W.sum, .int .i64 W.small, .int .i64 W.more] ∧ (∃ l, ArrOf w 3 dcells v0 l) ∧ ∃ L, ArrOf w 2 lcells v1 L := by
  simp only [HdV, Tryz.underlying48] at h
  obtain ⟨cs, rfl, h⟩ := h
  cases n with
  | zero => exact h.elim
  | succ n =>
    simp only [Hd, Tryz.underlying48] at h
    obtain ⟨parts, hc, hl, hp⟩ := h
    match parts, hl with
    | [p0, p1, p2], _ =>
      obtain ⟨v0, rfl, h0⟩ := given_deals (hp 0 _ p0 rfl rfl)
      obtain ⟨v1, rfl, h1⟩ := given_links (hp 1 _ p1 rfl rfl)
      obtain ⟨W, rfl⟩ := given_watch (hp 2 _ p2 rfl rfl)
      refine ⟨v0, v1, W, ?_, h0, h1⟩
      rw [show cs = cs.toList.toArray from rfl, hc]; rfl
theorem FromV_ok (a b c : Int) (w : AW) : CallT Tryz.prog Tryz.T1 (.fn (.func 40) #[]) #[.int .i64 a, .int .i64 b, .int .i64 c] w (Ret (.bool (inR a b c)) fun w' => w = w') := by
  unfold inR
  refine callT_code rfl Tryz.func40 rfl Tryz.s40_eq rfl ?_
  unfold Tryz.s40
  by_cases h1 : a ≤ b
  · simp -dsimp -implicitDefEqProofs (maxSteps := 2000000) (disch := first | assumption | omega | (simp only [nx]; omega) | ((repeat refine Fresh.push ?_ _); assumption) | (simp only [smA]; done) | (simp [oneCell, AW.next_push]; done) | fail) only [go_sem, Nat.reduceEqDiff, reduceIte, Nat.reduceAdd, Int.toNat_natCast, Nat.add_zero, Owes_true, Tryz.results40, h1]
    exact ⟨by simp, rfl⟩
  · simp -dsimp -implicitDefEqProofs (maxSteps := 2000000) (disch := first | assumption | omega | (simp only [nx]; omega) | ((repeat refine Fresh.push ?_ _); assumption) | (simp only [smA]; done) | (simp [oneCell, AW.next_push]; done) | fail) only [go_sem, Nat.reduceEqDiff, reduceIte, Nat.reduceAdd, Int.toNat_natCast, Nat.add_zero, Owes_true, Tryz.results40, h1]
    exact ⟨by simp, rfl⟩
end Go.Proofs

namespace Go.Proofs
open Go Go.RowKit Go.Sim
set_option maxRecDepth 100000
theorem filter_sum_mono {p q : Nat → Bool} {f : Nat → Int} : ∀ (L : List Nat), (∀ x ∈ L, p x = true → q x = true) → (∀ x ∈ L, 0 ≤ f x) → ((L.filter p).map f).sum ≤ ((L.filter q).map f).sum
  | [], _, _ => Int.le_refl _
  | a :: L, h, k => by
    have ih := filter_sum_mono L (fun x hx => h x (List.mem_cons_of_mem _ hx)) (fun x hx => k x (List.mem_cons_of_mem _ hx))
    have ha := h a List.mem_cons_self
    have ka := k a List.mem_cons_self
    cases hp : p a with
    | true =>
      have hq := ha hp
      simp only [List.filter_cons_of_pos hp, List.filter_cons_of_pos hq, List.map_cons, List.sum_cons]; omega
    | false =>
      rw [List.filter_cons_of_neg (by rw [hp]; simp)]
      cases hq : q a with
      | true => simp only [List.filter_cons_of_pos hq, List.map_cons, List.sum_cons]; omega
      | false => rw [List.filter_cons_of_neg (by rw [hq]; simp)]; exact ih
theorem filter_len_mono {p q : Nat → Bool} : ∀ (L : List Nat), (∀ x ∈ L, p x = true → q x = true) → (L.filter p).length ≤ (L.filter q).length
  | [], _ => Nat.le_refl _
  | a :: L, h => by
    have ih := filter_len_mono L fun x hx => h x (List.mem_cons_of_mem _ hx)
    have ha := h a List.mem_cons_self
    cases hp : p a with
    | true =>
      have hq := ha hp
      simp only [List.filter_cons_of_pos hp, List.filter_cons_of_pos hq, List.length_cons]; omega
    | false =>
      rw [List.filter_cons_of_neg (by rw [hp]; simp)]
      cases hq : q a with
      | true => simp only [List.filter_cons_of_pos hq, List.length_cons]; omega
      | false => rw [List.filter_cons_of_neg (by rw [hq]; simp)]; exact ih
def RepP (l : List DealN) (W : WatchN) (A : List Int) (n : Nat) : Prop := W.sum ≤ sumW l (winOf W A l n) ∨ W.more ≤ ((smalls W l (winOf W A l n)).length : Int)
theorem RepP.mono {l : List DealN} {W : WatchN} {A B : List Int} {n : Nat} (hd : ∀ d ∈ l, dealB d = true) (hn : n < l.length) (hm : ∀ i, i ≤ n → leadAt A l i = leadAt A l n → leadAt B l i = leadAt B l n) (h : RepP l W A n) : RepP l W B n := by
  have hw : ∀ x ∈ List.range (n + 1), inWin W A l n x = true → inWin W B l n x = true := fun x hx hi => by
    rw [List.mem_range] at hx
    simp only [inWin, Bool.and_eq_true, decide_eq_true_eq] at hi ⊢
    exact ⟨hi.1, hm x (by omega) hi.2⟩
  rcases h with h | h
  · left
    refine Int.le_trans h ?_
    exact filter_sum_mono _ hw fun x hx => by
      rw [List.mem_range] at hx
      have := sumAt_in hd (show x < l.length by omega); omega
  · right
    refine Int.le_trans h ?_
    unfold smalls winOf winTo
    rw [List.filter_filter, List.filter_filter]
    have := filter_len_mono (p := fun a => smallB W l a && inWin W A l n a) (q := fun a => smallB W l a && inWin W B l n a) (List.range (n + 1)) fun x hx hi => by
      simp only [Bool.and_eq_true] at hi ⊢
      exact ⟨hi.1, hw x hx hi.2⟩
    omega
theorem reportB_iff {l : List DealN} {L : List (Int × Int)} {W : WatchN} (h : reportB l L W = true) : l.length ≤ 64 ∧ (∀ d ∈ l, dealB d = true) ∧ L.length ≤ 64 ∧ (∀ x ∈ L, linkB x = true) := by
  simp only [reportB, Bool.and_eq_true, dealsB, linksB, decide_eq_true_eq] at h
  exact ⟨h.1.1.1.1, fun d hd => List.all_eq_true.mp h.1.1.1.2 d hd, h.1.2.1, fun x hx => List.all_eq_true.mp h.1.2.2 x hx⟩
end Go.Proofs

namespace Go.Proofs
open Go Go.RowKit Go.Sim
set_option maxRecDepth 100000
set_option maxHeartbeats 8000000 in
theorem linking_ok (L : List (Int × Int)) (v : Value) (w : AW) (f : Fresh w) (hs : ArrOf w 2 lcells v L) :
    CallT Tryz.prog Tryz.T1 (.fn (.func 70) #[]) #[v] w (Ret (.bool (linksB L)) fun w' => w = w') := by
  obtain ⟨p, cap, rfl, _, _, hat⟩ := id hs.open
  refine callT_code rfl Tryz.func70 rfl Tryz.s70_eq rfl ?_
  unfold Tryz.s70
  simp -dsimp -implicitDefEqProofs (maxSteps := 2000000) (disch := first | assumption | omega | (simp only [nx]; omega) | ((repeat refine Fresh.push ?_ _); assumption) | (simp only [smA]; done) | (simp [oneCell, AW.next_push]; done) | fail) only [go_sem, Nat.reduceEqDiff, reduceIte, Nat.reduceAdd, Int.toNat_natCast, Nat.add_zero, Owes_true, Tryz.results70]
  refine loopR (fun k t ds w1 => ∃ i : Nat, i ≤ L.length ∧ k = L.length - i ∧ ds = [] ∧ ev t (.tmp 0) = .slice p L.length cap ∧ ev t (.tmp 3) = .int .i64 (i : Int) ∧ (L.take i).all linkB = true ∧ w1 = w) (L.length) ?_ ?_
  · refine ⟨0, by omega, by omega, rfl, ?_, ?_, rfl, rfl⟩ <;> simp -dsimp -implicitDefEqProofs (maxSteps := 2000000) (disch := first | assumption | omega | (simp only [nx]; omega) | ((repeat refine Fresh.push ?_ _); assumption) | (simp only [smA]; done) | (simp [oneCell, AW.next_push]; done) | fail) only [go_sem, Nat.reduceEqDiff, reduceIte, Nat.reduceAdd, Int.toNat_natCast, Nat.add_zero, Owes_true] <;> rfl
  rintro k t ds w1 ⟨i, hii, rfl, rfl, e0, e3, ha, hw⟩
  subst hw
  by_cases hlt : (i : Int) < (L.length : Int)
  case neg =>
    obtain rfl : i = L.length := by omega
    rw [List.take_of_length_le (Nat.le_refl _)] at ha
    have hB : linksB L = decide ((L.length : Int) ≤ 64) := by
      unfold linksB; rw [ha, Bool.and_true]
      by_cases q : L.length ≤ 64
      · rw [decide_eq_true q, decide_eq_true (by omega)]
      · rw [decide_eq_false q, decide_eq_false (by omega)]
    simp -dsimp -implicitDefEqProofs (maxSteps := 2000000) (disch := first | assumption | omega | (simp only [nx]; omega) | ((repeat refine Fresh.push ?_ _); assumption) | (simp only [smA]; done) | (simp [oneCell, AW.next_push]; done) | fail) only [go_sem, Nat.reduceEqDiff, reduceIte, Nat.reduceAdd, Int.toNat_natCast, Nat.add_zero, Owes_true, Tryz.results70, e0, e3, hlt]
    exact ⟨by rw [hB], rfl⟩
  have hlt' : i < L.length := by omega
  obtain ⟨b1, o1, rfl, hb1, hcell⟩ := hat i hlt'
  have a0 := hcell w1 (.refl _ _) 0 _ rfl
  have a1 := hcell w1 (.refl _ _) 1 _ rfl
  rw [Nat.add_zero] at a0
  have bad : linkB L[i] = false → linksB L = false := fun h => by
    have : L.all linkB = false := by
      rw [List.all_eq_false]; exact ⟨L[i], List.getElem_mem hlt', by rw [h]; simp⟩
    unfold linksB; rw [this, Bool.and_false]
  have good : linkB L[i] = true → (L.take (i + 1)).all linkB = true := fun h => by
    rw [List.take_succ_eq_append_getElem hlt', List.all_append, ha]; simp [h]
  have hdef : linkB L[i] = (inR 0 L[i].1 23 && inR 0 L[i].2 23 && !decide (L[i].1 = L[i].2)) := rfl
  have ix0 : ∀ o : Nat, indexA 1 2 (.pointer (some ⟨b1, o, none⟩)) (.int .i64 0) = some (.pointer (some ⟨b1, o, none⟩)) := fun o => rfl
  rw [hdef] at bad good
  generalize L[i].1 = x at *
  generalize L[i].2 = y at *
  simp -dsimp -implicitDefEqProofs (maxSteps := 2000000) (disch := first | assumption | omega | (simp only [nx]; omega) | ((repeat refine Fresh.push ?_ _); assumption) | (simp only [smA]; done) | (simp [oneCell, AW.next_push]; done) | fail) only [go_sem, Nat.reduceEqDiff, reduceIte, Nat.reduceAdd, Int.toNat_natCast, Nat.add_zero, Owes_true, Tryz.results70, e0, e3, hlt, indexV_eq, a0]
  apply callV_of (e := rfl)
  · exact FromV_ok _ _ _ _
  rintro _ _ ⟨rfl, rfl⟩
  cases h1 : inR 0 x 23 with
  | false =>
    simp -dsimp -implicitDefEqProofs (maxSteps := 2000000) (disch := first | assumption | omega | (simp only [nx]; omega) | ((repeat refine Fresh.push ?_ _); assumption) | (simp only [smA]; done) | (simp [oneCell, AW.next_push]; done) | fail) only [go_sem, Nat.reduceEqDiff, reduceIte, Nat.reduceAdd, Int.toNat_natCast, Nat.add_zero, Owes_true, Tryz.results70, e0, e3]
    exact ⟨by rw [bad (by rw [h1]; rfl)], rfl⟩
  | true =>
  simp -dsimp -implicitDefEqProofs (maxSteps := 2000000) (disch := first | assumption | omega | (simp only [nx]; omega) | ((repeat refine Fresh.push ?_ _); assumption) | (simp only [smA]; done) | (simp [oneCell, AW.next_push]; done) | fail) only [go_sem, Nat.reduceEqDiff, reduceIte, Nat.reduceAdd, Int.toNat_natCast, Nat.add_zero, Owes_true, Tryz.results70, e0, e3, hlt, indexV_eq, a0, a1]
  apply callV_of (e := rfl)
  · exact FromV_ok _ _ _ _
  rintro _ _ ⟨rfl, rfl⟩
  cases h2 : inR 0 y 23 with
  | false =>
    simp -dsimp -implicitDefEqProofs (maxSteps := 2000000) (disch := first | assumption | omega | (simp only [nx]; omega) | ((repeat refine Fresh.push ?_ _); assumption) | (simp only [smA]; done) | (simp [oneCell, AW.next_push]; done) | fail) only [go_sem, Nat.reduceEqDiff, reduceIte, Nat.reduceAdd, Int.toNat_natCast, Nat.add_zero, Owes_true, Tryz.results70, e0, e3]
    exact ⟨by rw [bad (by rw [h1, h2]; rfl)], rfl⟩
  | true =>
  by_cases hxy : x = y
  · have hd : decide (x = y) = true := decide_eq_true hxy
    simp -dsimp -implicitDefEqProofs (maxSteps := 2000000) (disch := first | assumption | omega | (simp only [nx]; omega) | ((repeat refine Fresh.push ?_ _); assumption) | (simp only [smA]; done) | (simp [oneCell, AW.next_push]; done) | fail) only [go_sem, Nat.reduceEqDiff, reduceIte, Nat.reduceAdd, Int.toNat_natCast, Nat.add_zero, Owes_true, Tryz.results70, e0, e3, hlt, indexV_eq, a0, a1, hd]
    exact ⟨by rw [bad (by rw [h1, h2, hd]; rfl)], rfl⟩
  · have hd : decide (x = y) = false := decide_eq_false hxy
    simp -dsimp -implicitDefEqProofs (maxSteps := 2000000) (disch := first | assumption | omega | (simp only [nx]; omega) | ((repeat refine Fresh.push ?_ _); assumption) | (simp only [smA]; done) | (simp [oneCell, AW.next_push]; done) | fail) only [go_sem, Nat.reduceEqDiff, reduceIte, Nat.reduceAdd, Int.toNat_natCast, Nat.add_zero, Owes_true, Tryz.results70, e0, e3, hlt, indexV_eq, a0, a1, hd]
    refine ⟨_, by omega, i + 1, by omega, rfl, rfl, by (simp -dsimp -implicitDefEqProofs (maxSteps := 2000000) (disch := first | assumption | omega | (simp only [nx]; omega) | ((repeat refine Fresh.push ?_ _); assumption) | (simp only [smA]; done) | (simp [oneCell, AW.next_push]; done) | fail) only [go_sem, Nat.reduceEqDiff, reduceIte, Nat.reduceAdd, Int.toNat_natCast, Nat.add_zero, Owes_true, e0]; try rfl), by (simp -dsimp -implicitDefEqProofs (maxSteps := 2000000) (disch := first | assumption | omega | (simp only [nx]; omega) | ((repeat refine Fresh.push ?_ _); assumption) | (simp only [smA]; done) | (simp [oneCell, AW.next_push]; done) | fail) only [go_sem, Nat.reduceEqDiff, reduceIte, Nat.reduceAdd, Int.toNat_natCast, Nat.add_zero, Owes_true, e3]; try rfl), good (by rw [h1, h2, hd]; rfl), rfl⟩
def idsL (n : Nat) : List Int := toI (List.range n)
theorem idsL_succ (n : Nat) : idsL (n + 1) = idsL n ++ [(n : Int)] := by unfold idsL; rw [List.range_succ, toI_add]
theorem idsL_len (n : Nat) : (idsL n).length = n := by unfold idsL; rw [toI_len, List.length_range]
def partM (x y : Int) (A : List Int) (i : Nat) : List Int := (A.take i).map (mergeV x y) ++ A.drop i
theorem partM_len (x y : Int) (A : List Int) (i : Nat) : (partM x y A i).length = A.length := by
  unfold partM; rw [List.length_append, List.length_map, List.length_take, List.length_drop]; omega
theorem partM_at (x y : Int) (A : List Int) (i : Nat) (hi : i < A.length) : (partM x y A i)[i]'(by rw [partM_len]; exact hi) = A[i] := by
  unfold partM
  rw [List.getElem_append_right (by rw [List.length_map, List.length_take]; omega)]
  simp [Nat.min_eq_left (Nat.le_of_lt hi)]
theorem partM_succ (x y : Int) (A : List Int) (i : Nat) (hi : i < A.length) : partM x y A (i + 1) = (partM x y A i).set i (mergeV x y A[i]) := by
  unfold partM
  rw [List.set_append_right _ _ (by simp; omega), List.length_map, List.length_take, Nat.min_eq_left (by omega), Nat.sub_self, List.take_succ_eq_append_getElem hi, List.map_append, List.append_assoc, List.drop_eq_getElem_cons hi, List.set_cons_zero]
  rfl
theorem partM_same (x y : Int) (A : List Int) (i : Nat) (hi : i < A.length) (h : ¬ A[i] = max x y) : partM x y A (i + 1) = partM x y A i := by
  rw [partM_succ x y A i hi]
  have : mergeV x y A[i] = (partM x y A i)[i]'(by rw [partM_len]; exact hi) := by rw [partM_at x y A i hi]; unfold mergeV; rw [if_neg h]
  rw [this, List.set_getElem_self]
theorem partM_all (x y : Int) (A : List Int) : partM x y A A.length = A.map (mergeV x y) := by simp [partM]
end Go.Proofs

namespace Go.Proofs
open Go Go.RowKit Go.Sim
set_option maxRecDepth 100000
theorem row_b {B n : Nat} {w : AW} {v : Value} {cells : List Value} (h : AOwn B w 3 1 v n cells) (hn : 1 ≤ n) : ∃ b, v = .slice (some ⟨b, 0, none⟩) n n := by
  rcases h with ⟨_, h0, _⟩ | ⟨b, r, rfl, _⟩
  · omega
  · exact ⟨b, rfl⟩
theorem row_cell {B b n : Nat} {w : AW} {A : List Int} (h : AOwn B w 3 1 (.slice (some ⟨b, 0, none⟩) n n) n (A.flatMap icells)) (hA : A.length = n) {i : Nat} (hi : i < A.length) : w.cell? ⟨b, i, none⟩ = some (.int .i64 A[i]) := by
  rcases h with ⟨h0, _⟩ | ⟨b', r, e, _, _, _, _, hb, _⟩
  · cases h0
  · injection e with e
    injection e with e
    injection e with e
    subst e
    rw [flat_icells] at hb
    simp only [AW.cell?, hb, getL_eq, List.getElem?_map, List.getElem?_eq_getElem hi, Option.map_some]
    rfl
theorem row_store {B b n : Nat} {w : AW} {A : List Int} (h : AOwn B w 3 1 (.slice (some ⟨b, 0, none⟩) n n) n (A.flatMap icells)) (f : Fresh w) (hA : A.length = n) {i : Nat} (hi : i < A.length) (x : Int) : ∃ w', storeV w false 1 (.pointer (some ⟨b, i, none⟩)) (.int .i64 x) = some w' ∧ AOwn B w' 3 1 (.slice (some ⟨b, 0, none⟩) n n) n ((A.set i x).flatMap icells) ∧ MutS (fun j => B ≤ j) w w' := by
  obtain ⟨b', e, _, w', h1, h2, h3, _, _⟩ := aownS_store (S := fun j => B ≤ j) (o := i) (x := .int .i64 x) h f (by decide) (by rw [icells_flat_len]; exact hi) rfl
  injection e with e
  injection e with e
  injection e with e
  subst e
  rw [setL_ic] at h2
  exact ⟨w', h1, h2, h3⟩
theorem idx24s (b : Nat) (i : Nat) (h : i < 24) : indexV 1 (.slice (some ⟨b, 0, none⟩) 24 24) (.int .i64 (i : Int)) = some (.pointer (some ⟨b, i, none⟩)) := by rw [indexV_eq (by omega) (by omega)]; simp
set_option maxHeartbeats 16000000 in
theorem linkedR_ok (L : List (Int × Int)) (v : Value) (w : AW) (f : Fresh w) (hs : ArrOf w 2 lcells v L) (hl : ∀ x ∈ L, linkB x = true) :
    CallT Tryz.prog Tryz.T1 (.fn (.func 71) #[]) #[v] w (fun r w' => (∃ A b, Labs L A ∧ r = .slice (some ⟨b, 0, none⟩) 24 24 ∧ ArrOf w' 1 icells (.slice (some ⟨b, 0, none⟩) 24 24) A) ∧ Grown w w') := by
  obtain ⟨p, cap, rfl, _, _, hat⟩ := id hs.open
  refine callT_code rfl Tryz.func71 rfl Tryz.s71_eq rfl ?_
  unfold Tryz.s71
  simp -dsimp -implicitDefEqProofs (maxSteps := 2000000) (disch := first | assumption | omega | (simp only [nx]; omega) | ((repeat refine Fresh.push ?_ _); assumption) | (simp only [smA]; done) | (simp [oneCell, AW.next_push]; done) | fail) only [go_sem, Nat.reduceEqDiff, reduceIte, Nat.reduceAdd, Int.toNat_natCast, Nat.add_zero, Owes_true, Tryz.results71]
  refine loopR (fun k t ds w1 => ∃ i : Nat, i ≤ 24 ∧ k = 24 - i ∧ ds = [] ∧ ev t (.tmp 0) = .slice p L.length cap ∧ ev t (.tmp 4) = .int .i64 (i : Int) ∧ ∃ (p3 : Option Addr) (n3 c3 : Nat), ev t (.tmp 3) = .slice p3 n3 c3 ∧ AOwn w.next w1 3 1 (.slice p3 n3 c3) (idsL i).length ((idsL i).flatMap icells) ∧ Grown w w1) (24) ?_ ?_
  · refine ⟨0, by omega, by omega, rfl, ?_, ?_, none, 0, 0, (by simp -dsimp -implicitDefEqProofs (maxSteps := 2000000) (disch := first | assumption | omega | (simp only [nx]; omega) | ((repeat refine Fresh.push ?_ _); assumption) | (simp only [smA]; done) | (simp [oneCell, AW.next_push]; done) | fail) only [go_sem, Nat.reduceEqDiff, reduceIte, Nat.reduceAdd, Int.toNat_natCast, Nat.add_zero, Owes_true]; try rfl), .inl ⟨rfl, rfl, rfl⟩, Grown.refl f⟩ <;> simp -dsimp -implicitDefEqProofs (maxSteps := 2000000) (disch := first | assumption | omega | (simp only [nx]; omega) | ((repeat refine Fresh.push ?_ _); assumption) | (simp only [smA]; done) | (simp [oneCell, AW.next_push]; done) | fail) only [go_sem, Nat.reduceEqDiff, reduceIte, Nat.reduceAdd, Int.toNat_natCast, Nat.add_zero, Owes_true] <;> rfl
  rintro k t ds w1 ⟨i, hii, rfl, rfl, e0, e4, p3, n3, c3, e3, hR, g1⟩
  by_cases hlt : (i : Int) < 24
  · have hn1 := g1.1.next
    obtain ⟨u9, w9, happ, hR9, hk9, hf9, hn9, _⟩ := append_one (e' := 3) Tryz.ty22 Tryz.ty3 rfl (by omega) (by omega) hR g1.2 hn1 (icells_len (i : Int)) (icells_one _) (by rw [idsL_len]; omega)
    simp only [icells] at happ
    obtain ⟨p9, n9, c9, rfl⟩ : ∃ x y z, u9 = .slice x y z := by rcases hR9 with ⟨rfl, _⟩ | ⟨_, _, rfl, _⟩ <;> exact ⟨_, _, _, rfl⟩
    have hf1 := g1.2
    simp -dsimp -implicitDefEqProofs (maxSteps := 2000000) (disch := first | assumption | omega | (simp only [nx]; omega) | ((repeat refine Fresh.push ?_ _); assumption) | (simp only [smA]; done) | (simp [oneCell, AW.next_push]; done) | fail) only [go_sem, Nat.reduceEqDiff, reduceIte, Nat.reduceAdd, Int.toNat_natCast, Nat.add_zero, Owes_true, Tryz.results71, e0, e3, e4, hlt, happ]
    refine ⟨_, by omega, i + 1, by omega, rfl, rfl, by (simp -dsimp -implicitDefEqProofs (maxSteps := 2000000) (disch := first | assumption | omega | (simp only [nx]; omega) | ((repeat refine Fresh.push ?_ _); assumption) | (simp only [smA]; done) | (simp [oneCell, AW.next_push]; done) | fail) only [go_sem, Nat.reduceEqDiff, reduceIte, Nat.reduceAdd, Int.toNat_natCast, Nat.add_zero, Owes_true, e0]; try rfl), by (simp -dsimp -implicitDefEqProofs (maxSteps := 2000000) (disch := first | assumption | omega | (simp only [nx]; omega) | ((repeat refine Fresh.push ?_ _); assumption) | (simp only [smA]; done) | (simp [oneCell, AW.next_push]; done) | fail) only [go_sem, Nat.reduceEqDiff, reduceIte, Nat.reduceAdd, Int.toNat_natCast, Nat.add_zero, Owes_true, e4]; try rfl), p9, n9, c9, (by simp -dsimp -implicitDefEqProofs (maxSteps := 2000000) (disch := first | assumption | omega | (simp only [nx]; omega) | ((repeat refine Fresh.push ?_ _); assumption) | (simp only [smA]; done) | (simp [oneCell, AW.next_push]; done) | fail) only [go_sem, Nat.reduceEqDiff, reduceIte, Nat.reduceAdd, Int.toNat_natCast, Nat.add_zero, Owes_true]; try rfl), (by rw [idsL_succ, List.length_append, List.flatMap_append]; exact hR9), ⟨g1.1.trans hk9, hf9⟩⟩
  obtain rfl : i = 24 := by omega
  rw [idsL_len] at hR
  obtain ⟨b, eb⟩ := row_b hR (by decide)
  injection eb with eb1 eb2 eb3
  subst eb1 eb2 eb3
  simp -dsimp -implicitDefEqProofs (maxSteps := 2000000) (disch := first | assumption | omega | (simp only [nx]; omega) | ((repeat refine Fresh.push ?_ _); assumption) | (simp only [smA]; done) | (simp [oneCell, AW.next_push]; done) | fail) only [go_sem, Nat.reduceEqDiff, reduceIte, Nat.reduceAdd, Int.toNat_natCast, Nat.add_zero, Owes_true, Tryz.results71, e0, e3, e4, hlt]
  refine loopR (fun k t ds w2 => ∃ i : Nat, i ≤ L.length ∧ k = L.length - i ∧ ds = [] ∧ ev t (.tmp 0) = .slice p L.length cap ∧ ev t (.tmp 3) = .slice (some ⟨b, 0, none⟩) 24 24 ∧ ev t (.tmp 5) = .int .i64 (i : Int) ∧ ∃ A, Labs (L.take i) A ∧ AOwn w.next w2 3 1 (.slice (some ⟨b, 0, none⟩) 24 24) 24 (A.flatMap icells) ∧ Grown w w2) (L.length) ?_ ?_
  · refine ⟨0, by omega, by omega, rfl, ?_, ?_, ?_, idsL 24, Labs.nil, hR, g1⟩ <;> simp -dsimp -implicitDefEqProofs (maxSteps := 2000000) (disch := first | assumption | omega | (simp only [nx]; omega) | ((repeat refine Fresh.push ?_ _); assumption) | (simp only [smA]; done) | (simp [oneCell, AW.next_push]; done) | fail) only [go_sem, Nat.reduceEqDiff, reduceIte, Nat.reduceAdd, Int.toNat_natCast, Nat.add_zero, Owes_true, e0, e3] <;> rfl
  rintro k t ds w2 ⟨i, hii, rfl, rfl, e0, e3, e5, A, hA, hR2, g2⟩
  have hAl := hA.len
  by_cases hlt2 : (i : Int) < (L.length : Int)
  case neg =>
    obtain rfl : i = L.length := by omega
    rw [List.take_of_length_le (Nat.le_refl _)] at hA
    have hR2' : AOwn w.next w2 3 1 (.slice (some ⟨b, 0, none⟩) 24 24) A.length (A.flatMap icells) := by rw [hAl]; exact hR2
    simp -dsimp -implicitDefEqProofs (maxSteps := 2000000) (disch := first | assumption | omega | (simp only [nx]; omega) | ((repeat refine Fresh.push ?_ _); assumption) | (simp only [smA]; done) | (simp [oneCell, AW.next_push]; done) | fail) only [go_sem, Nat.reduceEqDiff, reduceIte, Nat.reduceAdd, Int.toNat_natCast, Nat.add_zero, Owes_true, Tryz.results71, e0, e3, e5, hlt2]
    exact ⟨⟨A, b, hA, rfl, hR2'.arr icells_len (by omega)⟩, g2⟩
  have hi' : i < L.length := by omega
  obtain ⟨b1, o1, rfl, hb1, hcell⟩ := hat i hi'
  have a0 := hcell w2 g2.1 0 _ rfl
  have a1 := hcell w2 g2.1 1 _ rfl
  rw [Nat.add_zero] at a0
  have hli := hl _ (List.getElem_mem hi')
  simp only [linkB, Bool.and_eq_true, Bool.not_eq_true', decide_eq_false_iff_not, inR_iff] at hli
  have hLi : L.take (i + 1) = L.take i ++ [(L[i].1, L[i].2)] := List.take_succ_eq_append_getElem hi'
  generalize L[i].1 = x at *
  generalize L[i].2 = y at *
  obtain ⟨X, rfl⟩ : ∃ X : Nat, x = (X : Int) := ⟨x.toNat, by omega⟩
  obtain ⟨Y, rfl⟩ : ∃ Y : Nat, y = (Y : Int) := ⟨y.toNat, by omega⟩
  have hX : X < A.length := by omega
  have hY : Y < A.length := by omega
  have cX := row_cell hR2 hAl hX
  have cY := row_cell hR2 hAl hY
  have iX := idx24s b X (by omega)
  have iY := idx24s b Y (by omega)
  by_cases heq : A[X] = A[Y]
  · have hsk := hA.skip hX hY heq
    rw [← hLi] at hsk
    have hd : decide (A[X] = A[Y]) = true := decide_eq_true heq
    simp -dsimp -implicitDefEqProofs (maxSteps := 2000000) (disch := first | assumption | omega | (simp only [nx]; omega) | ((repeat refine Fresh.push ?_ _); assumption) | (simp only [smA]; done) | (simp [oneCell, AW.next_push]; done) | fail) only [go_sem, Nat.reduceEqDiff, reduceIte, Nat.reduceAdd, Int.toNat_natCast, Nat.add_zero, Owes_true, Tryz.results71, e0, e3, e5, hlt2, indexV_eq, a0, a1, iX, iY, cX, cY, hd]
    refine ⟨_, by omega, i + 1, by omega, rfl, rfl, by (simp -dsimp -implicitDefEqProofs (maxSteps := 2000000) (disch := first | assumption | omega | (simp only [nx]; omega) | ((repeat refine Fresh.push ?_ _); assumption) | (simp only [smA]; done) | (simp [oneCell, AW.next_push]; done) | fail) only [go_sem, Nat.reduceEqDiff, reduceIte, Nat.reduceAdd, Int.toNat_natCast, Nat.add_zero, Owes_true, e0]; try rfl), by (simp -dsimp -implicitDefEqProofs (maxSteps := 2000000) (disch := first | assumption | omega | (simp only [nx]; omega) | ((repeat refine Fresh.push ?_ _); assumption) | (simp only [smA]; done) | (simp [oneCell, AW.next_push]; done) | fail) only [go_sem, Nat.reduceEqDiff, reduceIte, Nat.reduceAdd, Int.toNat_natCast, Nat.add_zero, Owes_true, e3]; try rfl), by (simp -dsimp -implicitDefEqProofs (maxSteps := 2000000) (disch := first | assumption | omega | (simp only [nx]; omega) | ((repeat refine Fresh.push ?_ _); assumption) | (simp only [smA]; done) | (simp [oneCell, AW.next_push]; done) | fail) only [go_sem, Nat.reduceEqDiff, reduceIte, Nat.reduceAdd, Int.toNat_natCast, Nat.add_zero, Owes_true, e5]; try rfl), A, hsk, hR2, g2⟩
  have hme := hA.merge hX hY
  rw [← hLi] at hme
  have hd : decide (A[X] = A[Y]) = false := decide_eq_false heq
  generalize hvx : A[X] = vx at *
  generalize hvy : A[Y] = vy at *
  simp -dsimp -implicitDefEqProofs (maxSteps := 2000000) (disch := first | assumption | omega | (simp only [nx]; omega) | ((repeat refine Fresh.push ?_ _); assumption) | (simp only [smA]; done) | (simp [oneCell, AW.next_push]; done) | fail) only [go_sem, Nat.reduceEqDiff, reduceIte, Nat.reduceAdd, Int.toNat_natCast, Nat.add_zero, Owes_true, Tryz.results71, e0, e3, e5, hlt2, indexV_eq, a0, a1, iX, iY, cX, cY, hd]
  refine loopR (fun k t ds w3 => ∃ q : Nat, q ≤ 24 ∧ k = 24 - q ∧ ds = [] ∧ ev t (.tmp 0) = .slice (some ⟨b1, o1, none⟩) L.length cap ∧ ev t (.tmp 3) = .slice (some ⟨b, 0, none⟩) 24 24 ∧ ev t (.tmp 5) = .int .i64 (i : Int) ∧ ev t (.tmp 6) = .int .i64 vx ∧ ev t (.tmp 7) = .int .i64 vy ∧ ev t (.tmp 8) = .int .i64 (q : Int) ∧ AOwn w.next w3 3 1 (.slice (some ⟨b, 0, none⟩) 24 24) 24 ((partM vx vy A q).flatMap icells) ∧ Grown w w3) (24) ?_ ?_
  · refine ⟨0, by omega, by omega, rfl, ?_, ?_, ?_, ?_, ?_, ?_, hR2, g2⟩ <;> simp -dsimp -implicitDefEqProofs (maxSteps := 2000000) (disch := first | assumption | omega | (simp only [nx]; omega) | ((repeat refine Fresh.push ?_ _); assumption) | (simp only [smA]; done) | (simp [oneCell, AW.next_push]; done) | fail) only [go_sem, Nat.reduceEqDiff, reduceIte, Nat.reduceAdd, Int.toNat_natCast, Nat.add_zero, Owes_true, e0, e3, e5] <;> rfl
  rintro k t ds w3 ⟨q, hiq, rfl, rfl, e0, e3, e5, e6, e7, e8, hR3, g3⟩
  by_cases hq : (q : Int) < 24
  case neg =>
    obtain rfl : q = 24 := by omega
    rw [← hAl, partM_all, hAl] at hR3
    simp -dsimp -implicitDefEqProofs (maxSteps := 2000000) (disch := first | assumption | omega | (simp only [nx]; omega) | ((repeat refine Fresh.push ?_ _); assumption) | (simp only [smA]; done) | (simp [oneCell, AW.next_push]; done) | fail) only [go_sem, Nat.reduceEqDiff, reduceIte, Nat.reduceAdd, Int.toNat_natCast, Nat.add_zero, Owes_true, Tryz.results71, e0, e3, e5, e6, e7, e8, hq]
    refine ⟨_, by omega, i + 1, by omega, rfl, rfl, by (simp -dsimp -implicitDefEqProofs (maxSteps := 2000000) (disch := first | assumption | omega | (simp only [nx]; omega) | ((repeat refine Fresh.push ?_ _); assumption) | (simp only [smA]; done) | (simp [oneCell, AW.next_push]; done) | fail) only [go_sem, Nat.reduceEqDiff, reduceIte, Nat.reduceAdd, Int.toNat_natCast, Nat.add_zero, Owes_true, e0]; try rfl), by (simp -dsimp -implicitDefEqProofs (maxSteps := 2000000) (disch := first | assumption | omega | (simp only [nx]; omega) | ((repeat refine Fresh.push ?_ _); assumption) | (simp only [smA]; done) | (simp [oneCell, AW.next_push]; done) | fail) only [go_sem, Nat.reduceEqDiff, reduceIte, Nat.reduceAdd, Int.toNat_natCast, Nat.add_zero, Owes_true, e3]; try rfl), by (simp -dsimp -implicitDefEqProofs (maxSteps := 2000000) (disch := first | assumption | omega | (simp only [nx]; omega) | ((repeat refine Fresh.push ?_ _); assumption) | (simp only [smA]; done) | (simp [oneCell, AW.next_push]; done) | fail) only [go_sem, Nat.reduceEqDiff, reduceIte, Nat.reduceAdd, Int.toNat_natCast, Nat.add_zero, Owes_true, e5]; try rfl), A.map (mergeV vx vy), hme, hR3, g3⟩
  have hqA : q < A.length := by omega
  have cq := row_cell hR3 (by rw [partM_len]; exact hAl) (i := q) (by rw [partM_len]; exact hqA)
  rw [partM_at vx vy A q hqA] at cq
  have iq := idx24s b q (by omega)
  by_cases hmx : A[q] = max vx vy
  · have hmd : decide (A[q] = max vx vy) = true := decide_eq_true hmx
    obtain ⟨w4, hst, hR4, hm4⟩ := row_store hR3 g3.2 (by rw [partM_len]; exact hAl) (i := q) (by rw [partM_len]; exact hqA) (min vx vy)
    have hmv : mergeV vx vy A[q] = min vx vy := by unfold mergeV; rw [if_pos hmx]
    rw [← hmv, ← partM_succ vx vy A q hqA] at hR4
    have hn3 := g3.1.next
    simp -dsimp -implicitDefEqProofs (maxSteps := 2000000) (disch := first | assumption | omega | (simp only [nx]; omega) | ((repeat refine Fresh.push ?_ _); assumption) | (simp only [smA]; done) | (simp [oneCell, AW.next_push]; done) | fail) only [go_sem, Nat.reduceEqDiff, reduceIte, Nat.reduceAdd, Int.toNat_natCast, Nat.add_zero, Owes_true, Tryz.results71, e0, e3, e5, e6, e7, e8, hq, iq, cq, hmd, hst]
    refine ⟨_, by omega, q + 1, by omega, rfl, rfl, by (simp -dsimp -implicitDefEqProofs (maxSteps := 2000000) (disch := first | assumption | omega | (simp only [nx]; omega) | ((repeat refine Fresh.push ?_ _); assumption) | (simp only [smA]; done) | (simp [oneCell, AW.next_push]; done) | fail) only [go_sem, Nat.reduceEqDiff, reduceIte, Nat.reduceAdd, Int.toNat_natCast, Nat.add_zero, Owes_true, e0]; try rfl), by (simp -dsimp -implicitDefEqProofs (maxSteps := 2000000) (disch := first | assumption | omega | (simp only [nx]; omega) | ((repeat refine Fresh.push ?_ _); assumption) | (simp only [smA]; done) | (simp [oneCell, AW.next_push]; done) | fail) only [go_sem, Nat.reduceEqDiff, reduceIte, Nat.reduceAdd, Int.toNat_natCast, Nat.add_zero, Owes_true, e3]; try rfl), by (simp -dsimp -implicitDefEqProofs (maxSteps := 2000000) (disch := first | assumption | omega | (simp only [nx]; omega) | ((repeat refine Fresh.push ?_ _); assumption) | (simp only [smA]; done) | (simp [oneCell, AW.next_push]; done) | fail) only [go_sem, Nat.reduceEqDiff, reduceIte, Nat.reduceAdd, Int.toNat_natCast, Nat.add_zero, Owes_true, e5]; try rfl), by (simp -dsimp -implicitDefEqProofs (maxSteps := 2000000) (disch := first | assumption | omega | (simp only [nx]; omega) | ((repeat refine Fresh.push ?_ _); assumption) | (simp only [smA]; done) | (simp [oneCell, AW.next_push]; done) | fail) only [go_sem, Nat.reduceEqDiff, reduceIte, Nat.reduceAdd, Int.toNat_natCast, Nat.add_zero, Owes_true, e6]; try rfl), by (simp -dsimp -implicitDefEqProofs (maxSteps := 2000000) (disch := first | assumption | omega | (simp only [nx]; omega) | ((repeat refine Fresh.push ?_ _); assumption) | (simp only [smA]; done) | (simp [oneCell, AW.next_push]; done) | fail) only [go_sem, Nat.reduceEqDiff, reduceIte, Nat.reduceAdd, Int.toNat_natCast, Nat.add_zero, Owes_true, e7]; try rfl), by (simp -dsimp -implicitDefEqProofs (maxSteps := 2000000) (disch := first | assumption | omega | (simp only [nx]; omega) | ((repeat refine Fresh.push ?_ _); assumption) | (simp only [smA]; done) | (simp [oneCell, AW.next_push]; done) | fail) only [go_sem, Nat.reduceEqDiff, reduceIte, Nat.reduceAdd, Int.toNat_natCast, Nat.add_zero, Owes_true, e8]; try rfl), hR4, ⟨g3.1.trans (hm4.keep (fun j h => h) hn3), hm4.fresh⟩⟩
  · have hmd : decide (A[q] = max vx vy) = false := decide_eq_false hmx
    have hsame := partM_same vx vy A q hqA hmx
    simp -dsimp -implicitDefEqProofs (maxSteps := 2000000) (disch := first | assumption | omega | (simp only [nx]; omega) | ((repeat refine Fresh.push ?_ _); assumption) | (simp only [smA]; done) | (simp [oneCell, AW.next_push]; done) | fail) only [go_sem, Nat.reduceEqDiff, reduceIte, Nat.reduceAdd, Int.toNat_natCast, Nat.add_zero, Owes_true, Tryz.results71, e0, e3, e5, e6, e7, e8, hq, iq, cq, hmd]
    refine ⟨_, by omega, q + 1, by omega, rfl, rfl, by (simp -dsimp -implicitDefEqProofs (maxSteps := 2000000) (disch := first | assumption | omega | (simp only [nx]; omega) | ((repeat refine Fresh.push ?_ _); assumption) | (simp only [smA]; done) | (simp [oneCell, AW.next_push]; done) | fail) only [go_sem, Nat.reduceEqDiff, reduceIte, Nat.reduceAdd, Int.toNat_natCast, Nat.add_zero, Owes_true, e0]; try rfl), by (simp -dsimp -implicitDefEqProofs (maxSteps := 2000000) (disch := first | assumption | omega | (simp only [nx]; omega) | ((repeat refine Fresh.push ?_ _); assumption) | (simp only [smA]; done) | (simp [oneCell, AW.next_push]; done) | fail) only [go_sem, Nat.reduceEqDiff, reduceIte, Nat.reduceAdd, Int.toNat_natCast, Nat.add_zero, Owes_true, e3]; try rfl), by (simp -dsimp -implicitDefEqProofs (maxSteps := 2000000) (disch := first | assumption | omega | (simp only [nx]; omega) | ((repeat refine Fresh.push ?_ _); assumption) | (simp only [smA]; done) | (simp [oneCell, AW.next_push]; done) | fail) only [go_sem, Nat.reduceEqDiff, reduceIte, Nat.reduceAdd, Int.toNat_natCast, Nat.add_zero, Owes_true, e5]; try rfl), by (simp -dsimp -implicitDefEqProofs (maxSteps := 2000000) (disch := first | assumption | omega | (simp only [nx]; omega) | ((repeat refine Fresh.push ?_ _); assumption) | (simp only [smA]; done) | (simp [oneCell, AW.next_push]; done) | fail) only [go_sem, Nat.reduceEqDiff, reduceIte, Nat.reduceAdd, Int.toNat_natCast, Nat.add_zero, Owes_true, e6]; try rfl), by (simp -dsimp -implicitDefEqProofs (maxSteps := 2000000) (disch := first | assumption | omega | (simp only [nx]; omega) | ((repeat refine Fresh.push ?_ _); assumption) | (simp only [smA]; done) | (simp [oneCell, AW.next_push]; done) | fail) only [go_sem, Nat.reduceEqDiff, reduceIte, Nat.reduceAdd, Int.toNat_natCast, Nat.add_zero, Owes_true, e7]; try rfl), by (simp -dsimp -implicitDefEqProofs (maxSteps := 2000000) (disch := first | assumption | omega | (simp only [nx]; omega) | ((repeat refine Fresh.push ?_ _); assumption) | (simp only [smA]; done) | (simp [oneCell, AW.next_push]; done) | fail) only [go_sem, Nat.reduceEqDiff, reduceIte, Nat.reduceAdd, Int.toNat_natCast, Nat.add_zero, Owes_true, e8]; try rfl), (by rw [hsame]; exact hR3), g3⟩
end Go.Proofs

namespace Go.Proofs
open Go Go.RowKit Go.Sim
set_option maxRecDepth 100000
theorem LinkedR_ok (L : List (Int × Int)) (v : Value) (w : AW) (f : Fresh w) (hs : ArrOf w 2 lcells v L) :
    CallT Tryz.prog Tryz.T1 (.fn (.func 29) #[]) #[v] w (fun r w' => ((linksB L = false ∧ r = .tuple #[.slice none 0 0, .int .i64 83]) ∨ (linksB L = true ∧ ∃ A b, Labs L A ∧ r = .tuple #[.slice (some ⟨b, 0, none⟩) 24 24, .int .i64 0] ∧ ArrOf w' 1 icells (.slice (some ⟨b, 0, none⟩) 24 24) A)) ∧ Grown w w') := by
  obtain ⟨p, cap, rfl, _⟩ := id hs.open
  refine callT_code rfl Tryz.func29 rfl Tryz.s29_eq rfl ?_
  unfold Tryz.s29
  simp -dsimp -implicitDefEqProofs (maxSteps := 2000000) (disch := first | assumption | omega | (simp only [nx]; omega) | ((repeat refine Fresh.push ?_ _); assumption) | (simp only [smA]; done) | (simp [oneCell, AW.next_push]; done) | fail) only [go_sem, Nat.reduceEqDiff, reduceIte, Nat.reduceAdd, Int.toNat_natCast, Nat.add_zero, Owes_true, Tryz.results29]
  apply callV_of (e := rfl)
  · exact linking_ok L _ w f hs
  rintro _ _ ⟨rfl, rfl⟩
  cases hb : linksB L with
  | false =>
    simp -dsimp -implicitDefEqProofs (maxSteps := 2000000) (disch := first | assumption | omega | (simp only [nx]; omega) | ((repeat refine Fresh.push ?_ _); assumption) | (simp only [smA]; done) | (simp [oneCell, AW.next_push]; done) | fail) only [go_sem, Nat.reduceEqDiff, reduceIte, Nat.reduceAdd, Int.toNat_natCast, Nat.add_zero, Owes_true, Tryz.results29, hb]
    exact ⟨.inl ⟨by trivial, by trivial⟩, Grown.refl f⟩
  | true =>
  simp -dsimp -implicitDefEqProofs (maxSteps := 2000000) (disch := first | assumption | omega | (simp only [nx]; omega) | ((repeat refine Fresh.push ?_ _); assumption) | (simp only [smA]; done) | (simp [oneCell, AW.next_push]; done) | fail) only [go_sem, Nat.reduceEqDiff, reduceIte, Nat.reduceAdd, Int.toNat_natCast, Nat.add_zero, Owes_true, Tryz.results29, hb]
  apply callV_of (e := rfl)
  · exact linkedR_ok L _ w f hs (links_all hb)
  rintro _ w1 ⟨⟨A, b, hA, rfl, hR⟩, g1⟩
  simp -dsimp -implicitDefEqProofs (maxSteps := 2000000) (disch := first | assumption | omega | (simp only [nx]; omega) | ((repeat refine Fresh.push ?_ _); assumption) | (simp only [smA]; done) | (simp [oneCell, AW.next_push]; done) | fail) only [go_sem, Nat.reduceEqDiff, reduceIte, Nat.reduceAdd, Int.toNat_natCast, Nat.add_zero, Owes_true, Tryz.results29]
  exact ⟨.inr ⟨trivial, A, b, hA, rfl, hR⟩, g1⟩
def prevD (l : List DealN) (i : Nat) : Int := if i = 0 then 0 else dayAt l (i - 1)
def chkD (l : List DealN) (i : Nat) : Bool := match l[i]? with
  | some d => inR (prevD l i) d.day 36500 && inR 0 d.who 23 && inR 1 d.sum 1073741824
  | none => true
theorem chkD_eq {l : List DealN} {i : Nat} (h : i < l.length) : chkD l i = (inR (prevD l i) l[i].day 36500 && inR 0 l[i].who 23 && inR 1 l[i].sum 1073741824) := by simp [chkD, h]
theorem ordAt_iff {l : List DealN} {i : Nat} (h : i + 1 < l.length) : ordAt l i = true ↔ l[i].day ≤ l[i + 1].day := by
  have hi : i < l.length := by omega
  unfold ordAt; rw [List.getElem?_eq_getElem hi, List.getElem?_eq_getElem h]; simp
theorem chk_all {l : List DealN} (h : ∀ i, i < l.length → chkD l i = true) : (l.all dealB && ordB l) = true := by
  have hday : ∀ i (hi : i < l.length), 0 ≤ l[i].day := fun i => by
    induction i with
    | zero => intro hi; have := h 0 hi; rw [chkD_eq hi] at this; simp only [Bool.and_eq_true, inR_iff, prevD, if_pos] at this; omega
    | succ n ih =>
      intro hi
      have hc := h (n + 1) hi
      have hn : n < l.length := by omega
      have := ih hn
      rw [chkD_eq hi] at hc
      simp only [Bool.and_eq_true, inR_iff, prevD, if_neg (Nat.succ_ne_zero n), Nat.add_sub_cancel, dayAt_eq hn] at hc
      omega
  rw [Bool.and_eq_true]
  constructor
  · rw [List.all_eq_true]
    intro d hd
    obtain ⟨i, hi, rfl⟩ := List.getElem_of_mem hd
    have hc := h i hi
    have h0 := hday i hi
    rw [chkD_eq hi] at hc
    simp only [Bool.and_eq_true, inR_iff] at hc
    rw [dealB_iff]; omega
  · unfold ordB
    rw [List.all_eq_true]
    intro i hi
    have hi' : i < l.length - 1 := List.mem_range.1 hi
    have hs : i + 1 < l.length := by omega
    have hi0 : i < l.length := by omega
    have hc := h (i + 1) hs
    rw [chkD_eq hs] at hc
    simp only [Bool.and_eq_true, inR_iff, prevD, if_neg (Nat.succ_ne_zero i), Nat.add_sub_cancel, dayAt_eq hi0] at hc
    rw [ordAt_iff hs]; exact hc.1.1.1
theorem chk_bad {l : List DealN} {i : Nat} (hi : i < l.length) (h : chkD l i = false) : (l.all dealB && ordB l) = false := by
  cases hb : (l.all dealB && ordB l) with
  | false => rfl
  | true =>
    rw [Bool.and_eq_true] at hb
    have hd := (dealB_iff _).1 (List.all_eq_true.mp hb.1 _ (List.getElem_mem hi))
    have hp : prevD l i ≤ l[i].day := by
      unfold prevD
      split
      · omega
      · have hi1 : i - 1 < l.length := by omega
        have := List.all_eq_true.mp hb.2 (i - 1) (List.mem_range.2 (by omega))
        rw [ordAt_iff (by omega)] at this
        rw [dayAt_eq hi1]
        have e : i - 1 + 1 = i := by omega
        simp only [e] at this
        exact this
    rw [chkD_eq hi] at h
    have : (inR (prevD l i) l[i].day 36500 && inR 0 l[i].who 23 && inR 1 l[i].sum 1073741824) = true := by
      simp only [Bool.and_eq_true, inR_iff]; omega
    rw [this] at h; exact absurd h (by simp)
end Go.Proofs
