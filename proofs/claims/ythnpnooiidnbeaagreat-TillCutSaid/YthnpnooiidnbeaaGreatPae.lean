/- This program: its code, contracts, numbers, part 5. -/
import Derived.Test.YthnpnooiidnbeaaGreatPad
import Derived.Test.YthnpnooiidnbeaaGreatNc
import Derived.Test.YthnpnooiidnbeaaGreatPaa
import Derived.Test.YthnpnooiidnbeaaGreatCz
import Derived.Test.YthnpnooiidnbeaaGreatPac
set_option linter.unusedVariables false
set_option linter.unusedSimpArgs false
namespace Go.Proofs
open Go Go.RowKit Go.Sim
set_option maxRecDepth 100000
theorem AOwn.slice {B : Nat} {w : AW} {e : TypeId} {size n : Nat} {v : Value} {cells : List Value} (h : AOwn B w e size v n cells) : ∃ p m c, v = .slice p m c := by
  rcases h with ⟨rfl, _⟩ | ⟨b, r, rfl, _⟩
  · exact ⟨_, _, _, rfl⟩
  · exact ⟨_, _, _, rfl⟩
def worth (C L : List Int) (n : Nat) : Int := ((List.range n).map fun i => L.getD i 0 * C.getD i 0).sum
end Go.Proofs

namespace Go.Proofs
open Go Go.RowKit Go.Sim
set_option maxRecDepth 100000
def okAt (C L H : List Int) (i : Nat) : Bool := decide (i < C.length) && decide (i < H.length) && inR 0 (L.getD i 0) (H.getD i 0) && inR 1 (C.getD i 0) 50000 && decide (L.getD i 0 ≤ 100)
end Go.Proofs

namespace Go.Proofs
open Go Go.RowKit Go.Sim
set_option maxRecDepth 100000
def PayOf : List (Int × Int) → List Int → Int → Prop
  | [], [], s => s = 0
  | (c, h) :: D, n :: L, s => 0 ≤ n ∧ n ≤ h ∧ PayOf D L (s - n * c)
  | _, _, _ => False
def Fine (D : List (Int × Int)) : Prop := ∀ d ∈ D, 1 ≤ d.1 ∧ 0 ≤ d.2
theorem PayOf.nn : ∀ {D : List (Int × Int)} {L : List Int} {s : Int}, PayOf D L s → Fine D → 0 ≤ s ∧ 0 ≤ L.sum
  | [], [], s, h, _ => by simp only [PayOf] at h; subst h; simp
  | (c, x) :: D, n :: L, s, h, hf => by
    simp only [PayOf] at h
    have ih := PayOf.nn h.2.2 fun d hd => hf d (List.mem_cons_of_mem _ hd)
    have := hf _ List.mem_cons_self
    have : 0 ≤ n * c := Int.mul_nonneg h.1 (by simp only at this; omega)
    rw [List.sum_cons]; omega
  | [], _ :: _, _, h, _ => h.elim
  | _ :: _, [], _, h, _ => h.elim
theorem worth_cons (c n : Int) (C L : List Int) (k : Nat) : worth (c :: C) (n :: L) (k + 1) = n * c + worth C L k := by
  unfold worth
  rw [List.range_succ_eq_map, List.map_cons, List.map_map, List.sum_cons]
  simp [Function.comp_def]
theorem PayOf.out : ∀ {C H L : List Int} {s : Int}, PayOf (C.zip H) L s → H.length = C.length → L.length = C.length ∧ s = worth C L L.length ∧ ∀ i, i < L.length → 0 ≤ L.getD i 0 ∧ L.getD i 0 ≤ H.getD i 0
  | [], [], [], s, h, _ => by simp only [List.zip_nil_left, PayOf] at h; subst h; simp [worth]
  | c :: C, h :: H, n :: L, s, hp, hl => by
    simp only [List.zip_cons_cons, PayOf] at hp
    have ih := PayOf.out hp.2.2 (by simpa using hl)
    refine ⟨by simp [ih.1], ?_, fun i hi => ?_⟩
    · rw [List.length_cons, worth_cons]; omega
    · cases i with
      | zero => simp only [List.getD_cons_zero]; omega
      | succ i => have := ih.2.2 i (by simpa using hi); simpa using this
  | [], [], _ :: _, _, h, _ => h.elim
  | c :: C, x :: H, [], _, h, _ => h.elim
  | [], _ :: _, _, _, _, h => by simp at h
  | _ :: _, [], _, _, _, h => by simp at h
end Go.Proofs

namespace Go.Proofs
open Go Go.RowKit Go.Sim
set_option maxRecDepth 100000
theorem Tryz.und3 : Tryz.prog.underlying 3 = some (.int .i64) := by kernel_rfl
theorem Tryz.und4 : Tryz.prog.underlying 4 = some .bool := by kernel_rfl
theorem given_int {w : AW} {n : Nat} {cs : List Value} (h : Hd Tryz.prog w n 3 cs) : ∃ x : Int, cs = icells x ∧ -9223372036854775808 ≤ x ∧ x ≤ 9223372036854775807 := by
  cases n with
  | zero => exact h.elim
  | succ n =>
    simp only [Hd, Tryz.und3] at h
    obtain ⟨i, rfl, h1, h2⟩ := h
    exact ⟨i, rfl, h1, h2⟩
theorem rows_of {rows : List (List Value)} (h : ∀ r ∈ rows, ∃ x : Int, r = icells x) : ∃ xs : List Int, rows = xs.map icells := by
  induction rows with
  | nil => exact ⟨[], rfl⟩
  | cons r rows ih =>
    obtain ⟨x, hx⟩ := h r List.mem_cons_self
    obtain ⟨xs, hxs⟩ := ih fun q hq => h q (List.mem_cons_of_mem _ hq)
    exact ⟨x :: xs, by rw [hx, hxs]; rfl⟩
end Go.Proofs

namespace Go.Proofs
open Go Go.RowKit Go.Sim
set_option maxRecDepth 100000
theorem Tryz.und25 : Tryz.prog.underlying 25 = some (.array 2 3) := by kernel_rfl
theorem Tryz.und43 : Tryz.prog.underlying 43 = some (.slice 76) := by kernel_rfl
theorem Tryz.und44 : Tryz.prog.underlying 44 = some (.slice 25) := by kernel_rfl
theorem Tryz.und74 : Tryz.prog.underlying 74 = some (.array 4 3) := by kernel_rfl
theorem Tryz.cells76 : Tryz.prog.cellsOf 76 = 3 := by kernel_rfl
theorem Tryz.cells25 : Tryz.prog.cellsOf 25 = 2 := by kernel_rfl
theorem given_link {w : AW} {n : Nat} {cs : List Value} (h : Hd Tryz.prog w n 25 cs) : ∃ x : Int × Int, cs = lcells x := by
  cases n with
  | zero => exact h.elim
  | succ n =>
    simp only [Hd, Tryz.und25] at h
    obtain ⟨parts, rfl, hl, hp⟩ := h
    match parts, hl with
    | [p0, p1], _ =>
      obtain ⟨a, rfl, _⟩ := given_int (hp p0 List.mem_cons_self)
      obtain ⟨b, rfl, _⟩ := given_int (hp p1 (List.mem_cons_of_mem _ List.mem_cons_self))
      exact ⟨(a, b), rfl⟩
theorem given_four {w : AW} {n : Nat} {v : Value} (h : HdV Tryz.prog w n 74 v) : ∃ a b c d : Int, v = .agg #[.int .i64 a, .int .i64 b, .int .i64 c, .int .i64 d] := by
  simp only [HdV, Tryz.und74] at h
  obtain ⟨cs, rfl, h⟩ := h
  cases n with
  | zero => exact h.elim
  | succ n =>
    simp only [Hd, Tryz.und74] at h
    obtain ⟨parts, hc, hl, hp⟩ := h
    match parts, hl with
    | [p0, p1, p2, p3], _ =>
      obtain ⟨a, rfl, _⟩ := given_int (hp p0 (by simp))
      obtain ⟨b, rfl, _⟩ := given_int (hp p1 (by simp))
      obtain ⟨c, rfl, _⟩ := given_int (hp p2 (by simp))
      obtain ⟨d, rfl, _⟩ := given_int (hp p3 (by simp))
      exact ⟨a, b, c, d, by rw [show cs = cs.toList.toArray from rfl, hc]; rfl⟩
theorem given_deal {w : AW} {n : Nat} {cs : List Value} (h : Hd Tryz.prog w n 76 cs) : ∃ d : DealN, cs = dcells d := by
  cases n with
  | zero => exact h.elim
  | succ n =>
    simp only [Hd, Tryz.underlying76] at h
    obtain ⟨parts, rfl, hl, hp⟩ := h
    match parts, hl with
    | [p0, p1, p2], _ =>
      obtain ⟨a, rfl, _⟩ := given_int (hp 0 _ p0 rfl rfl)
      obtain ⟨b, rfl, _⟩ := given_int (hp 1 _ p1 rfl rfl)
      obtain ⟨c, rfl, _⟩ := given_int (hp 2 _ p2 rfl rfl)
      exact ⟨⟨a, b, c⟩, rfl⟩
theorem given_watch {w : AW} {n : Nat} {cs : List Value} (h : Hd Tryz.prog w n 46 cs) : ∃ W : WatchN, cs = [.int .i64 W.days, .int .i64 W.sum, .int .i64 W.small, .int .i64 W.more] := by
  cases n with
  | zero => exact h.elim
  | succ n =>
    simp only [Hd, Tryz.underlying46] at h
    obtain ⟨parts, rfl, hl, hp⟩ := h
    match parts, hl with
    | [p0, p1, p2, p3], _ =>
      obtain ⟨a, rfl, _⟩ := given_int (hp 0 _ p0 rfl rfl)
      obtain ⟨b, rfl, _⟩ := given_int (hp 1 _ p1 rfl rfl)
      obtain ⟨c, rfl, _⟩ := given_int (hp 2 _ p2 rfl rfl)
      obtain ⟨d, rfl, _⟩ := given_int (hp 3 _ p3 rfl rfl)
      exact ⟨⟨a, b, c, d⟩, rfl⟩
theorem given_links {w : AW} {n : Nat} {cs : List Value} (h : Hd Tryz.prog w n 44 cs) : ∃ v, cs = [v] ∧ ∃ L : List (Int × Int), ArrOf w 2 lcells v L := by
  cases n with
  | zero => exact h.elim
  | succ n =>
    simp only [Hd, Tryz.und44, Tryz.cells25] at h
    obtain ⟨v, rows, rfl, ha, hr, _⟩ := h
    obtain ⟨xs, rfl⟩ := Go.Sim.rows_of (enc := lcells) fun r hq => given_link (hr r hq)
    exact ⟨v, rfl, xs, ha⟩
theorem FromV_ok (a b c : Int) (w : AW) : CallT Tryz.prog Tryz.T1 (.fn (.func 40) #[]) #[.int .i64 a, .int .i64 b, .int .i64 c] w (Ret (.bool (inR a b c)) fun w' => w = w') := by
  unfold inR
  refine callT_code rfl Tryz.func40 rfl Tryz.s40_eq rfl ?_
  unfold Tryz.s40
  by_cases h1 : a ≤ b
  · simp -dsimp -implicitDefEqProofs (maxSteps := 2000000) (disch := first | assumption | omega | (simp only [nx]; omega) | ((repeat refine Fresh.push ?_ _); assumption) | (simp only [smA]; done) | (simp [oneCell, AW.next_push]; done) | fail) only [go_sem, Nat.reduceEqDiff, reduceIte, Nat.reduceAdd, Int.toNat_natCast, Nat.add_zero, Owes_true, Tryz.results40, h1]
    exact ⟨by simp, rfl⟩
  · simp -dsimp -implicitDefEqProofs (maxSteps := 2000000) (disch := first | assumption | omega | (simp only [nx]; omega) | ((repeat refine Fresh.push ?_ _); assumption) | (simp only [smA]; done) | (simp [oneCell, AW.next_push]; done) | fail) only [go_sem, Nat.reduceEqDiff, reduceIte, Nat.reduceAdd, Int.toNat_natCast, Nat.add_zero, Owes_true, Tryz.results40, h1]
    exact ⟨by simp, rfl⟩
theorem Ring_ok (n many : Int) (h1 : 1 ≤ many) (h2 : many ≤ 4611686018427387000) (w : AW) : CallT Tryz.prog Tryz.T1 (.fn (.func 43) #[]) #[.int .i64 n, .int .i64 many] w (fun r w' => ∃ k : Nat, r = .int .i64 (k : Int) ∧ (k : Int) < many ∧ (k : Int) = (n.tmod many + many).tmod many ∧ w = w') := by
  have a1 : n.tmod many < many := Int.tmod_lt_of_pos n (by omega)
  have a2 : -many < n.tmod many := by
    have := Int.tmod_lt_of_pos (-n) (show 0 < many by omega)
    rw [Int.neg_tmod] at this; omega
  have a3 : 0 ≤ (n.tmod many + many).tmod many := Int.tmod_nonneg _ (by omega)
  have a4 : (n.tmod many + many).tmod many < many := Int.tmod_lt_of_pos _ (by omega)
  obtain ⟨k, hk⟩ := Int.eq_ofNat_of_zero_le a3
  have h0 : ¬ many ≤ 0 := by omega
  have hn0 : ¬ many = 0 := by omega
  refine callT_code rfl Tryz.func43 rfl Tryz.s43_eq rfl ?_
  unfold Tryz.s43
  simp -dsimp -implicitDefEqProofs (maxSteps := 2000000) (disch := first | assumption | omega | (simp only [nx]; omega) | ((repeat refine Fresh.push ?_ _); assumption) | (simp only [smA]; done) | (simp [oneCell, AW.next_push]; done) | fail) only [go_sem, Nat.reduceEqDiff, reduceIte, Nat.reduceAdd, Int.toNat_natCast, Nat.add_zero, Owes_true, Tryz.results43, h0, hn0]
  exact ⟨k, by rw [hk], by omega, hk.symm, trivial⟩
end Go.Proofs

namespace Go.Proofs
open Go Go.RowKit Go.Sim
set_option maxRecDepth 100000
noncomputable def Tryz.s44r2 : Array Oper := match Tryz.f44.body with
  | some c => regionAt 2 c
  | none => #[]
noncomputable def Tryz.s44r3 : Array Oper := match Tryz.f44.body with
  | some c => regionAt 3 c
  | none => #[]
noncomputable def Tryz.s44x : SC :=
 (.seq
  (.ops false [
    ⟨⟨(some 6), .assign (.const (.slice none 0 0)), 43, "", ⟨[]⟩, none⟩, none, false⟩])
  (.seq
   (.ops false [
     ⟨⟨(some 10), .buildSlice 43 0 ⟨[]⟩, 43, "", ⟨[]⟩, none⟩, none, false⟩,
     ⟨⟨(some 11), .move (.tmp 0), 43, "", ⟨[]⟩, none⟩, none, false⟩,
     ⟨⟨(some 12), .move (.tmp 1), 3, "", ⟨[]⟩, none⟩, none, false⟩,
     ⟨⟨(some 13), .slice 43 (.tmp 11) none (some (.tmp 12)) none, 43, "", ⟨[]⟩, none⟩, none, false⟩,
     ⟨⟨(some 14), .call ⟨.builtin .append, ⟨[(.tmp 10), (.tmp 13)]⟩, ⟨[43, 43]⟩⟩, 43, "", ⟨[]⟩, none⟩, none, false⟩,
     ⟨⟨(some 7), .assign (.tmp 14), 43, "", ⟨[]⟩, none⟩, none, false⟩])
   (.seq
    (.raw (.region 2 Tryz.s44r2 true))
    (.seq
     (.raw (.region 3 Tryz.s44r3 true))
     (.seq
      (.ops true [
        ⟨⟨(some 30), .move (.tmp 7), 43, "", ⟨[]⟩, none⟩, none, true⟩,
        ⟨⟨(some 31), .load 76 (.tmp 8), 76, "", ⟨[]⟩, none⟩, none, true⟩,
        ⟨⟨(some 32), .load 76 (.tmp 9), 76, "", ⟨[]⟩, none⟩, none, true⟩,
        ⟨⟨(some 33), .buildSlice 43 2 ⟨[(0, (.tmp 31)), (1, (.tmp 32))]⟩, 43, "", ⟨[]⟩, none⟩, none, true⟩,
        ⟨⟨(some 35), .move (.tmp 0), 43, "", ⟨[]⟩, none⟩, none, true⟩,
        ⟨⟨(some 36), .move (.tmp 1), 3, "", ⟨[]⟩, none⟩, none, true⟩,
        ⟨⟨(some 37), .binOp .add 3 (.tmp 36) (.const (.int .i64 1)) 3, 3, "", ⟨[]⟩, none⟩, none, true⟩,
        ⟨⟨(some 38), .slice 43 (.tmp 35) (some (.tmp 37)) none none, 43, "", ⟨[]⟩, none⟩, none, true⟩,
        ⟨⟨(some 34), .call ⟨.builtin .append, ⟨[(.tmp 30), (.tmp 33)]⟩, ⟨[43, 43]⟩⟩, 43, "", ⟨[]⟩, none⟩, none, true⟩,
        ⟨⟨(some 39), .call ⟨.builtin .append, ⟨[(.tmp 34), (.tmp 38)]⟩, ⟨[43, 43]⟩⟩, 43, "", ⟨[]⟩, none⟩, none, false⟩,
        ⟨⟨(some 6), .assign (.tmp 39), 43, "", ⟨[]⟩, none⟩, none, true⟩])
      .ret)))))
def Tryz.x44r2 : List XOp := [
  ⟨⟨⟨(some 15), .move (.tmp 0), 43, "", ⟨[]⟩, none⟩, none, false⟩, 0, 0, false, none⟩,
  ⟨⟨⟨(some 16), .move (.tmp 1), 3, "", ⟨[]⟩, none⟩, none, false⟩, 1, 0, false, none⟩,
  ⟨⟨⟨(some 17), .indexAddr 43 (.tmp 15) (.tmp 16), 0, "", ⟨[]⟩, none⟩, none, false⟩, 2, 0, false, none⟩,
  ⟨⟨⟨(some 18), .load 76 (.tmp 17), 76, "", ⟨[]⟩, none⟩, none, false⟩, 3, 0, false, some (76, (.tmp 17))⟩,
  ⟨⟨⟨(some 19), .move (.tmp 0), 43, "", ⟨[]⟩, none⟩, none, false⟩, 4, 0, false, none⟩,
  ⟨⟨⟨(some 20), .move (.tmp 1), 3, "", ⟨[]⟩, none⟩, none, false⟩, 5, 0, false, none⟩,
  ⟨⟨⟨(some 21), .indexAddr 43 (.tmp 19) (.tmp 20), 0, "", ⟨[]⟩, none⟩, none, false⟩, 6, 0, false, none⟩,
  ⟨⟨⟨(some 22), .load 76 (.tmp 21), 76, "", ⟨[]⟩, none⟩, none, false⟩, 7, 0, false, some (76, (.tmp 21))⟩,
  ⟨⟨⟨(some 8), .alloc 76, 0, "", ⟨[]⟩, none⟩, none, false⟩, 8, 0, false, none⟩,
  ⟨⟨⟨(some 9), .alloc 76, 0, "", ⟨[]⟩, none⟩, none, false⟩, 9, 0, false, none⟩,
  ⟨⟨⟨none, .store 76 (.tmp 8) (.tmp 18), 0, "", ⟨[]⟩, none⟩, none, false⟩, 10, 783, true, none⟩,
  ⟨⟨⟨none, .store 76 (.tmp 9) (.tmp 22), 0, "", ⟨[]⟩, none⟩, none, false⟩, 11, 2047, true, none⟩]
def Tryz.x44r3 : List XOp := [
  ⟨⟨⟨(some 23), .move (.tmp 2), 3, "", ⟨[]⟩, none⟩, none, false⟩, 0, 0, false, none⟩,
  ⟨⟨⟨(some 24), .fieldAddr 76 (.tmp 9) 2, 0, "", ⟨[]⟩, none⟩, none, false⟩, 1, 0, false, none⟩,
  ⟨⟨⟨(some 25), .load 3 (.tmp 24), 3, "", ⟨[]⟩, none⟩, none, false⟩, 2, 0, false, some (3, (.tmp 24))⟩,
  ⟨⟨⟨(some 26), .move (.tmp 2), 3, "", ⟨[]⟩, none⟩, none, false⟩, 3, 0, false, none⟩,
  ⟨⟨⟨(some 27), .binOp .sub 3 (.tmp 25) (.tmp 26) 3, 3, "", ⟨[]⟩, none⟩, none, false⟩, 4, 0, false, none⟩,
  ⟨⟨⟨(some 28), .fieldAddr 76 (.tmp 8) 2, 0, "", ⟨[]⟩, none⟩, none, false⟩, 5, 0, false, none⟩,
  ⟨⟨⟨none, .store 3 (.tmp 28) (.tmp 23), 0, "", ⟨[]⟩, none⟩, none, false⟩, 6, 33, true, none⟩,
  ⟨⟨⟨(some 29), .fieldAddr 76 (.tmp 9) 2, 0, "", ⟨[]⟩, none⟩, none, false⟩, 7, 0, false, none⟩,
  ⟨⟨⟨none, .store 3 (.tmp 29) (.tmp 27), 0, "", ⟨[]⟩, none⟩, none, false⟩, 8, 255, true, none⟩]
theorem Tryz.s44x_eq : Tryz.f44.body.map (sOfX [2, 3]) = some Tryz.s44x := by kernel_rfl
theorem Tryz.x44r2_eq : xRegion Tryz.s44r2 = some Tryz.x44r2 := by kernel_rfl
theorem Tryz.x44r2_kinds : xkinds Tryz.x44r2 = true := by kernel_rfl
theorem Tryz.x44r3_eq : xRegion Tryz.s44r3 = some Tryz.x44r3 := by kernel_rfl
theorem Tryz.x44r3_kinds : xkinds Tryz.x44r3 = true := by kernel_rfl
end Go.Proofs

namespace Go.Sim
open Go Go.RowKit
theorem aNew_first {w : AW} {size m : Nat} {x : Value} {new : List Value} (h : aNew w size m x = some new) (hm : 1 ≤ m) : aFirst w size m x = some new := by
  unfold aNew at h
  cases q : aFirst w size m x with
  | some l => rw [q] at h; exact h
  | none =>
    rw [q] at h
    cases m with
    | zero => omega
    | succ m => cases h
theorem append_own0R {g : Prg} {w : AW} {B : Nat} {ty e : TypeId} {a1 a2 : Bool} {n1 b1 size b2 : Nat} {d2 : TypeDesc} {z1 z2 : Value} (h : g.ty ty = some ⟨a1, .slice e, n1, b1, z1⟩) (h2 : g.ty e = some ⟨a2, d2, size, b2, z2⟩) (hz : z2.cells.size = size) (hs : 1 ≤ size)
    {v : Value} {n : Nat} {cells : List Value} (hv : AOwn B w e size v n cells) (f : Fresh w) (hB : B ≤ w.next) {x : Value} {m cap : Nat} {p : Option Addr} {new : List Value} (hx : x = .slice p m cap) (hnew : aNew w size m x = some new) (hlen : new.length = m * size) (h1 : ∀ y ∈ new, oneCell y = true) (hr1 : n + m ≤ 140737488355328) (hr2 : (n + m) * b2 ≤ 140737488355328) :
    ∃ v' w', append g w ty ty v x = some (v', w') ∧ AOwn B w' e size v' (n + m) (cells ++ new) ∧ Keep B w w' ∧ Fresh w' ∧ WLe w w' := by
  by_cases hm : 1 ≤ m
  · obtain ⟨v', w', a, b, c, d, _, ap⟩ := append_own2R h h2 hz hs hv f hB hx (aNew_first hnew hm) hlen h1 hm hr1 hr2
    exact ⟨v', w', a, b, c, d, fun j y hj => by
      by_cases q : j < w.next
      · rw [ap.1 j q]; exact hj
      · rw [f.1 j (by omega)] at hj; cases hj⟩
  obtain rfl : m = 0 := by omega
  obtain rfl : new = [] := List.length_eq_zero_iff.mp (by rw [hlen]; omega)
  subst hx
  have cond : (Nat.beq z2.cells.size size && Nat.ble (n + 0) room && Nat.ble ((n + 0) * b2) room && Nat.ble 1 size && Nat.beq ty ty) = true := by
    have : room = 140737488355328 := rfl
    simp only [Bool.and_eq_true]
    refine ⟨⟨⟨⟨by rw [hz]; exact Nat.beq_refl _, Nat.ble_eq.mpr (by omega)⟩, Nat.ble_eq.mpr (by omega)⟩, Nat.ble_eq.mpr hs⟩, Nat.beq_refl _⟩
  refine ⟨v, w, ?_, by rw [List.append_nil]; exact hv, .refl _ _, f, WLe.refl w⟩
  rcases hv with ⟨rfl, rfl, rfl⟩ | ⟨b, r, rfl, _⟩
  · unfold append
    simp only [h, h2, cond, hnew]
  · have hle : Nat.ble (n + 0) n = true := Nat.ble_eq.mpr (by omega)
    unfold append
    simp only [h, h2, cond, hnew, hle, aStores]
    rfl
theorem AOwn.weak {B C : Nat} {w : AW} {e : TypeId} {size n : Nat} {v : Value} {cells : List Value} (h : AOwn B w e size v n cells) (k : C ≤ B) : AOwn C w e size v n cells := by
  rcases h with h | ⟨b, r, a1, a2, a3, a4, a5, a6, a7, a9, a8⟩
  · exact .inl h
  · exact .inr ⟨b, r, a1, by omega, a3, by omega, a5, a6, a7, a9, fun j hj => let ⟨x, y⟩ := a8 j hj; ⟨by omega, y⟩⟩
theorem AOwn.cut {B : Nat} {w : AW} {e : TypeId} {size n : Nat} {v : Value} {cells : List Value} (h : AOwn B w e size v n cells) {a : Nat} (ha : a ≤ n) :
    ∃ p q c, ∀ w', Keep w.next w w' → sliceV w' size v none (some (.int .i64 (a : Int))) = some (.slice p a n) ∧ aNew w' size a (.slice p a n) = some (cells.take (a * size)) ∧
      sliceV w' size v (some (.int .i64 (a : Int))) none = some (.slice q (n - a) c) ∧ aNew w' size (n - a) (.slice q (n - a) c) = some (cells.drop (a * size)) := by
  rcases h with ⟨rfl, rfl, rfl⟩ | ⟨b, r, rfl, h1, h2, h3, h4, h5, h6, h7, _⟩
  · obtain rfl : a = 0 := by omega
    exact ⟨none, none, 0, fun w' _ => ⟨rfl, by simp [aNew, aFirst], rfl, by simp [aNew, aFirst]⟩⟩
  · have hle : a * size ≤ n * size := Nat.mul_le_mul_right _ ha
    have b1 : Nat.ble 0 a = true := rfl
    have b2 : Nat.ble a n = true := Nat.ble_eq_true_of_le ha
    have b3 : Nat.ble n n = true := Nat.ble_eq_true_of_le (Nat.le_refl _)
    have b4 : Nat.beq size size = true := Nat.beq_refl _
    refine ⟨some ⟨b, 0 + 0 * size, none⟩, some ⟨b, 0 + a * size, none⟩, n - a, fun w' k => ?_⟩
    have h5 : w'.blk b = some (.cells cells e r 0 size) := by rw [k.blk b h2]; exact h5
    have hc : ∀ (i : Nat) v, cells[i]? = some v → w'.cell? ⟨b, i, none⟩ = some v := fun i v hv => by
      simp only [AW.cell?, h5, getL_eq, hv, h7 v (List.mem_of_getElem? hv)]
    refine ⟨?_, ?_, ?_, ?_⟩
    · show sliceV w' size (.slice (some ⟨b, 0, none⟩) n n) none (some (.int .i64 (Int.ofNat a))) = _
      simp only [sliceV, natOr, b1, b2, h5, b4, Bool.true_or, Bool.and_self, Nat.sub_zero]
    · have ht : (cells.take (a * size)).length = a * size := by rw [List.length_take, h6]; omega
      have := aCells_of (w := w') (b := b) (cells.take (a * size)) (0 + 0 * size) fun i v hv => by
        rw [List.getElem?_take] at hv
        split at hv
        · rw [show 0 + 0 * size + i = i by omega]; exact hc i v hv
        · cases hv
      rw [ht] at this
      simp only [aNew, aFirst, this]
    · show sliceV w' size (.slice (some ⟨b, 0, none⟩) n n) (some (.int .i64 (Int.ofNat a))) none = _
      simp only [sliceV, natOr, b3, b2, h5, b4, Bool.true_or, Bool.and_self]
    · have ht : (cells.drop (a * size)).length = (n - a) * size := by rw [List.length_drop, h6, Nat.sub_mul]
      have := aCells_of (w := w') (b := b) (cells.drop (a * size)) (0 + a * size) fun i v hv => by
        rw [List.getElem?_drop] at hv
        rw [show 0 + a * size + i = a * size + i by omega]; exact hc _ v hv
      rw [ht] at this
      simp only [aNew, aFirst, this]
end Go.Sim

namespace Go.Proofs
open Go Go.RowKit Go.Sim
set_option maxRecDepth 100000
theorem Tryz.sl43a (t : Tmps) (w : AW) (x hi : Operand) : fast (prg Tryz.prog) t w (.slice 43 x none (some hi) none) = sliceV w 3 (ev t x) none (some (ev t hi)) := by
  simp only [fast, Tryz.ty43, Tryz.ty76, Option.map]
theorem Tryz.sl43b (t : Tmps) (w : AW) (x lo : Operand) : fast (prg Tryz.prog) t w (.slice 43 x (some lo) none none) = sliceV w 3 (ev t x) (some (ev t lo)) none := by
  simp only [fast, Tryz.ty43, Tryz.ty76, Option.map]
theorem Tryz.bs43x0 (t : Tmps) (l : List (Nat × Operand)) : makes (prg Tryz.prog) t (.buildSlice 43 0 ⟨l⟩) = bsQ 76 0 3 [] (l.map fun p => (p.1, ev t p.2)) := makes_bs Tryz.ty43 Tryz.ty76 rfl (by kernel_rfl)
theorem Tryz.bs43x2 (t : Tmps) (l : List (Nat × Operand)) : makes (prg Tryz.prog) t (.buildSlice 43 2 ⟨l⟩) = bsQ 76 2 3 [.int .i64 0, .int .i64 0, .int .i64 0, .int .i64 0, .int .i64 0, .int .i64 0] (l.map fun p => (p.1, ev t p.2)) := makes_bs Tryz.ty43 Tryz.ty76 rfl (by kernel_rfl)
theorem bsQ_23 {e : TypeId} (a b c d f g : Int) : bsQ e 2 3 [.int .i64 0, .int .i64 0, .int .i64 0, .int .i64 0, .int .i64 0, .int .i64 0] [(0, .agg #[.int .i64 a, .int .i64 b, .int .i64 c]), (1, .agg #[.int .i64 d, .int .i64 f, .int .i64 g])] = some ([.int .i64 a, .int .i64 b, .int .i64 c, .int .i64 d, .int .i64 f, .int .i64 g], e, fun n => .slice (some ⟨n, 0, none⟩) 2 2) := by kernel_rfl
attribute [go_sem] Tryz.sl43a Tryz.sl43b Tryz.bs43x0 Tryz.bs43x2 bsQ_23
theorem dcells_len (d : DealN) : (dcells d).length = 3 := rfl
theorem dcells_ones (l : List DealN) : ∀ y ∈ l.flatMap dcells, oneCell y = true := by
  intro y hy
  obtain ⟨x, _, hx⟩ := List.mem_flatMap.mp hy
  simp [dcells] at hx
  rcases hx with rfl | rfl | rfl <;> rfl
theorem dcells_lens (l : List DealN) : (l.flatMap dcells).length = l.length * 3 := by
  induction l with
  | nil => rfl
  | cons a l ih => rw [List.flatMap_cons, List.length_append, dcells_len, ih, List.length_cons]; omega
theorem given_head {w : AW} {p : Option Addr} {c a : Nat} {l : List DealN} (h : ArrOf w 3 dcells (.slice p l.length c) l) (hg : GivenAt w (.slice p l.length c)) (h1 : 1 ≤ l.length) (ha : a ≤ l.length) : ∃ b o, p = some ⟨b, o, none⟩ ∧ sliceV w 3 (.slice p l.length c) none (some (.int .i64 (a : Int))) = some (.slice p a c) ∧ ArrOf w 3 dcells (.slice p a c) (l.take a) := by
  obtain ⟨p', n, cap, e, hn, hc, hm, hat⟩ := h
  injection e with e1 e2 e3
  subst e1 e2 e3
  obtain ⟨b, o, rfl, hb, hcell⟩ := hat (by omega)
  obtain ⟨_, cs, hcs⟩ := hg b o none _ _ rfl (by omega)
  refine ⟨b, o, rfl, ?_, _, _, _, rfl, by rw [List.length_map, List.length_take]; omega, by omega, hm, fun hpos => ⟨b, o, rfl, hb, fun i j r x hi hx => hcell i j r x ?_ hx⟩⟩
  · show sliceV w 3 (.slice (some ⟨b, o, none⟩) l.length c) none (some (.int .i64 (Int.ofNat a))) = _
    have b1 : Nat.ble a c = true := Nat.ble_eq_true_of_le (by omega)
    have b2 : Nat.ble 0 a = true := Nat.ble_eq_true_of_le (Nat.zero_le _)
    have b3 : Nat.beq c 0 = false := by rw [nbeq]; exact decide_eq_false (by omega)
    simp only [sliceV, natOr, b1, b2, hcs, Bool.and_self, b3, cond_false, Nat.zero_mul, Nat.add_zero, Nat.sub_zero]
  · rw [List.getElem?_map] at hi ⊢
    rw [List.getElem?_take] at hi
    split at hi
    · exact hi
    · cases hi
theorem given_tail {w : AW} {b o c a : Nat} {l : List DealN} (h : ArrOf w 3 dcells (.slice (some ⟨b, o, none⟩) l.length c) l) (hg : GivenAt w (.slice (some ⟨b, o, none⟩) l.length c)) (h1 : 1 ≤ l.length) (ha : a ≤ l.length) : sliceV w 3 (.slice (some ⟨b, o, none⟩) l.length c) (some (.int .i64 (a : Int))) none = some (.slice (some ⟨b, bif Nat.beq c a then o else o + a * 3, none⟩) (l.length - a) (c - a)) ∧ ArrOf w 3 dcells (.slice (some ⟨b, bif Nat.beq c a then o else o + a * 3, none⟩) (l.length - a) (c - a)) (l.drop a) := by
  obtain ⟨p', n, cap, e, hn, hc, hm, hat⟩ := h
  injection e with e1 e2 e3
  subst e1 e2 e3
  obtain ⟨b', o', e, hb, hcell⟩ := hat (by omega)
  injection e with e
  injection e with e1 e2
  subst e1 e2
  obtain ⟨_, cs, hcs⟩ := hg b o none _ _ rfl (by omega)
  refine ⟨?_, _, _, _, rfl, by rw [List.length_map, List.length_drop], by omega, by omega, fun hpos => ?_⟩
  · show sliceV w 3 (.slice (some ⟨b, o, none⟩) l.length c) (some (.int .i64 (Int.ofNat a))) none = _
    have b1 : Nat.ble a l.length = true := Nat.ble_eq_true_of_le ha
    have b2 : Nat.ble l.length c = true := Nat.ble_eq_true_of_le hc
    simp only [sliceV, natOr, b1, b2, hcs, Bool.and_self]
  · have b3 : Nat.beq c a = false := by rw [nbeq]; exact decide_eq_false (by omega)
    rw [b3, cond_false]
    refine ⟨b, o + a * 3, rfl, hb, fun i j r x hi hx => ?_⟩
    rw [List.getElem?_map, List.getElem?_drop] at hi
    have := hcell (a + i) j r x (by rw [List.getElem?_map]; exact hi) hx
    rw [show o + (a + i) * 3 + j = o + a * 3 + i * 3 + j by omega] at this
    exact this
theorem making_app {g : Prg} {w : AW} {B : Nat} {ty e e' : TypeId} {a1 a2 : Bool} {n1 b1 size b2 : Nat} {d2 : TypeDesc} {z1 z2 : Value} (h : g.ty ty = some ⟨a1, .slice e, n1, b1, z1⟩) (h2 : g.ty e = some ⟨a2, d2, size, b2, z2⟩) (hz : z2.cells.size = size) (hs : 1 ≤ size)
    {v : Value} {n k : Nat} {cells : List Value} (hv : Making B w e size v n cells) (f : Fresh w) (hB : B ≤ w.next) {new : List Value} (hk : 1 ≤ k) (hlen : new.length = k * size) (h1 : ∀ y ∈ new, oneCell y = true) (hr1 : n + k ≤ 140737488355328) (hr2 : (n + k) * b2 ≤ 140737488355328) :
    ∃ v' w', append g (w.push (.cells new e' w.next 0 0)) ty ty v (.slice (some ⟨w.next, 0, none⟩) k k) = some (v', w') ∧ AOwn B w' e size v' (n + k) (cells ++ new) ∧ Keep B w w' ∧ Fresh w' ∧ WLe (w.push (.cells new e' w.next 0 0)) w' := by
  have hO := Own.new f e' new
  have hf : aFirst (w.push (.cells new e' w.next 0 0)) size k (.slice (some ⟨w.next, 0, none⟩) k k) = some new := by
    show aCells _ w.next 0 (k * size) = _
    rw [← hlen]
    exact aCells_of new 0 fun i y hy => by rw [Nat.zero_add]; exact hO.cell hy (h1 y (List.mem_of_getElem? hy))
  have hp := (Keep.refl B w).push hB (.cells new e' w.next 0 0)
  have hpn : (w.push (.cells new e' w.next 0 0)).next = w.next + 1 := AW.next_push _ _
  rcases hv with ⟨rfl, rfl, b, eb, rfl, hb, hbk⟩ | hv
  · have hn : aNew (w.push (.cells new e' w.next 0 0)) size k (.slice (some ⟨w.next, 0, none⟩) k k) = some new := by unfold aNew; rw [hf]
    rw [Nat.zero_add] at hr1 hr2
    obtain ⟨v', w', q1, q2, q3, q4⟩ := append_empty h h2 hz hs (b := b) (e' := eb) (w := w.push (.cells new e' w.next 0 0)) (by rw [blk_push_ne hb]; exact hbk) (f.push _) rfl hn hlen h1 hr1 hr2
    refine ⟨v', w', q1, ?_, hp.trans (q2.mono (by omega)), q3, q2.wle (f.push _)⟩
    rcases q4 with ⟨q, _⟩ | q
    · omega
    · rw [Nat.zero_add, List.nil_append]
      rcases q with z | ⟨c, r, z1, z2, z3, z4, z5, z6, z7, z8, z9⟩
      · exact .inl z
      · exact .inr ⟨c, r, z1, by omega, z3, by omega, z5, z6, z7, z8, fun j hj => let ⟨c1, c2⟩ := z9 j hj; ⟨by omega, c2⟩⟩
  · have hv' := hv.keep ((Keep.refl w.next w).push (Nat.le_refl _) (.cells new e' w.next 0 0)) (Nat.le_refl _)
    obtain ⟨v', w', q1, q2, q3, q4, _, ap⟩ := append_own2R h h2 hz hs hv' (f.push _) (by omega) rfl hf hlen h1 hk hr1 hr2
    refine ⟨v', w', q1, q2, hp.trans q3, q4, fun j y hj => ?_⟩
    by_cases q : j < (w.push (.cells new e' w.next 0 0)).next
    · rw [ap.1 j q]; exact hj
    · rw [(f.push (.cells new e' w.next 0 0)).1 j (by omega)] at hj; cases hj
theorem two_deals {w1 : AW} (f1 : Fresh w1) (A B : DealN) : ∃ w2 w3, storeV ((w1.push (.cells [.int .i64 0, .int .i64 0, .int .i64 0] 76 w1.next 0 0)).push (.cells [.int .i64 0, .int .i64 0, .int .i64 0] 76 (w1.next + 1) 0 0)) true 3 (.pointer (some ⟨w1.next, 0, none⟩)) (.agg #[.int .i64 A.day, .int .i64 A.who, .int .i64 A.sum]) = some w2 ∧
    storeV w2 true 3 (.pointer (some ⟨w1.next + 1, 0, none⟩)) (.agg #[.int .i64 B.day, .int .i64 B.who, .int .i64 B.sum]) = some w3 ∧ Own w3 w1.next 76 (dcells A) ∧ Own w3 (w1.next + 1) 76 (dcells B) ∧ Grown w1 w2 ∧ Grown w1 w3 ∧ w3.next = w1.next + 1 + 1 := by
  have hX := (Own.new f1 76 [.int .i64 0, .int .i64 0, .int .i64 0]).push (.cells [.int .i64 0, .int .i64 0, .int .i64 0] 76 (w1.next + 1) 0 0)
  have gX := (Grown.refl f1).push (.cells [.int .i64 0, .int .i64 0, .int .i64 0] 76 w1.next 0 0)
  have gY := gX.push (.cells [.int .i64 0, .int .i64 0, .int .i64 0] 76 (w1.next + 1) 0 0)
  have hY := Own.new gX.2 76 [.int .i64 0, .int .i64 0, .int .i64 0]
  rw [AW.next_push] at hY
  have s1 := storeV_own (o := 0) (l := dcells A) (size := 3) hX rfl (by omega) (by simp [dcells]) (by rfl)
  simp only [dcells, setsL, setL] at s1
  have m1 := MutS.put (S := fun j => j = w1.next) gY.2 rfl hX.lt (.cells (dcells A) 76 w1.next 0 0)
  have hX2 := hX.put (dcells A)
  have hY2 := m1.own hY (by omega)
  have s2 := storeV_own (o := 0) (l := dcells B) (size := 3) hY2 rfl (by omega) (by simp [dcells]) (by rfl)
  simp only [dcells, setsL, setL] at s2
  have m2 := MutS.put (S := fun j => j = w1.next + 1) m1.fresh rfl hY2.lt (.cells (dcells B) 76 (w1.next + 1) 0 0)
  have hX3 := m2.own hX2 (by omega)
  have hY3 := hY2.put (dcells B)
  have g2 : Grown w1 _ := ⟨gY.1.put (b := w1.next) (Nat.le_refl _) (.cells (dcells A) 76 w1.next 0 0), m1.fresh⟩
  have g3 : Grown w1 _ := ⟨g2.1.put (b := w1.next + 1) (by omega) (.cells (dcells B) 76 (w1.next + 1) 0 0), m2.fresh⟩
  exact ⟨_, _, s1, s2, hX3, hY3, g2, g3, by simp only [AW.next_put, AW.next_push]⟩
theorem set_sums {w1 : AW} {b c : Nat} (hbc : b ≠ c) (f1 : Fresh w1) (A B : DealN) (hA : Own w1 b 76 (dcells A)) (hB : Own w1 c 76 (dcells B)) (x y : Int) : ∃ w2 w3, storeV w1 false 1 (.pointer (some ⟨b, 2, none⟩)) (.int .i64 x) = some w2 ∧ storeV w2 false 1 (.pointer (some ⟨c, 2, none⟩)) (.int .i64 y) = some w3 ∧ MutS (fun j => j = b) w1 w2 ∧ MutS (fun j => j = b ∨ j = c) w1 w3 ∧ Own w3 b 76 (dcells { A with sum := x }) ∧ Own w3 c 76 (dcells { B with sum := y }) ∧ w3.next = w1.next := by
  have s1 := storeV_own1 (o := 2) (v := .int .i64 x) hA (by simp [dcells]) rfl
  simp only [dcells, setL] at s1
  have m1 := MutS.put (S := fun j => j = b) f1 rfl hA.lt (.cells (dcells { A with sum := x }) 76 b 0 0)
  have h1 := hA.put (dcells { A with sum := x })
  have hB1 := m1.own hB (fun q => hbc q.symm)
  have s2 := storeV_own1 (o := 2) (v := .int .i64 y) hB1 (by simp [dcells]) rfl
  simp only [dcells, setL] at s2
  have m2 := MutS.put (S := fun j => j = c) m1.fresh rfl hB1.lt (.cells (dcells { B with sum := y }) 76 c 0 0)
  exact ⟨_, _, s1, s2, m1, (m1.mono fun j q => .inl q).trans (m2.mono fun j q => .inr q) (Within.refl _ _), m2.own h1 hbc, hB1.put _, by simp only [AW.next_put]⟩
def cutL (l : List DealN) (k : Nat) (part : Int) : List DealN := l.take k ++ [⟨dayAt l k, (match l[k]? with | some d => d.who | none => 0), part⟩, ⟨dayAt l k, (match l[k]? with | some d => d.who | none => 0), sumAt l k - part⟩] ++ l.drop (k + 1)
set_option maxHeartbeats 16000000 in
theorem cut_ok (l : List DealN) (v : Value) (kd : Nat) (part : Int) (w : AW) (f : Fresh w) (hs : ArrOf w 3 dcells v l) (hg : GivenAt w v) (hk : kd < l.length) (hl : l.length ≤ 64) (hp : 0 ≤ part ∧ part ≤ 1073741824) (hsum : sumAt l kd ≤ 1073741824 ∧ 0 ≤ sumAt l kd) :
    CallT Tryz.prog Tryz.T1 (.fn (.func 44) #[]) #[v, .int .i64 (kd : Int), .int .i64 part] w (fun r w' => (∃ p c, r = .slice p (l.length + 1) c ∧ ArrOf w' 3 dcells r (cutL l kd part)) ∧ Grown w w') := by
  obtain ⟨p, c, rfl, hcap, hmax, hat⟩ := id hs.open
  obtain ⟨b0, o0, e0, hsl, hhd⟩ := given_head (a := kd) hs hg (by omega) (by omega)
  obtain ⟨b1, o1, e1, hb1, hcell⟩ := hat kd hk
  rw [e0] at e1
  injection e1 with e1
  injection e1 with e2 e3
  subst e0 e2 e3
  have g1 := (Grown.refl f).push (.cells [] 76 w.next 0 0)
  obtain ⟨_, _, _, hsl1, _⟩ := given_head (a := kd) (hs.grown g1) (hg.keep g1.1) (by omega) (by omega)
  have hnew := arr_new (hhd.grown g1) dcells_len (by decide)
  obtain ⟨v2, w2, happ1, hk2, f2, hcase⟩ := append_empty Tryz.ty43 Tryz.ty76 rfl (by decide) (b := w.next) (e' := 76) (blk_push_top _ _) g1.2 rfl hnew (by rw [dcells_lens, List.length_take, Nat.min_eq_left (by omega)]) (dcells_ones _) (by omega) (by omega)
  have hM2 : Making (w.next + 1) w2 76 3 v2 kd ((l.take kd).flatMap dcells) := by
    rcases hcase with ⟨z, rfl, rfl⟩ | z
    · subst z
      exact .inl ⟨rfl, rfl, w.next, 76, rfl, by rw [AW.next_push]; omega, blk_push_top _ _⟩
    · rw [AW.next_push] at z; exact .inr z
  have hn2 := hk2.next
  rw [AW.next_push] at hn2
  have g2 : Grown w w2 := ⟨g1.1.trans (hk2.mono g1.1.next), f2⟩
  have hcc : ∀ w', Keep w.next w w' → w'.cell? ⟨b0, o0 + kd * 3, none⟩ = some (.int .i64 l[kd].day) ∧ w'.cell? ⟨b0, o0 + kd * 3 + 1, none⟩ = some (.int .i64 l[kd].who) ∧ w'.cell? ⟨b0, o0 + kd * 3 + 2, none⟩ = some (.int .i64 l[kd].sum) := fun w' hk => ⟨by simpa using hcell w' hk 0 _ rfl, hcell w' hk 1 _ rfl, hcell w' hk 2 _ rfl⟩
  obtain ⟨a0, a1, a2⟩ := hcc w2 g2.1
  have hcut : cutL l kd part = l.take kd ++ [⟨l[kd].day, l[kd].who, part⟩, ⟨l[kd].day, l[kd].who, l[kd].sum - part⟩] ++ l.drop (kd + 1) := by
    unfold cutL; rw [dayAt_eq hk, sumAt_eq hk]; simp [hk]
  rw [sumAt_eq hk] at hsum
  rw [hcut]
  have hkl : (kd : Int) < (l.length : Int) := by omega
  generalize l[kd].day = dd at *
  generalize l[kd].who = ww at *
  generalize l[kd].sum = ss at *
  have hsv2 : ∃ x y z, v2 = .slice x y z := by
    rcases hM2 with ⟨_, _, _, _, rfl, _⟩ | ⟨rfl, _⟩ | ⟨_, _, rfl, _⟩ <;> exact ⟨_, _, _, rfl⟩
  obtain ⟨x2, y2, z2, rfl⟩ := hsv2
  obtain ⟨w3, w4, k3, k4, hX, hY, g3, g4, hn4⟩ := two_deals f2 ⟨dd, ww, ss⟩ ⟨dd, ww, ss⟩
  simp only [dcells] at k3 k4 hX hY
  obtain ⟨x0, x1, x2'⟩ := hcc w3 (g2.trans g3).1
  have hsm3 := same_agg3 dd ww ss
  refine callT_codeX [2, 3] rfl Tryz.func44 rfl Tryz.s44x_eq rfl ?_
  unfold Tryz.s44x
  simp -dsimp -implicitDefEqProofs (maxSteps := 2000000) (disch := first | assumption | omega | (simp only [nx]; omega) | ((repeat refine Fresh.push ?_ _); assumption) | (simp only [smA]; done) | (simp [oneCell, AW.next_push]; done) | fail) only [go_sem, Nat.reduceEqDiff, reduceIte, Nat.reduceAdd, Int.toNat_natCast, Nat.add_zero, Owes_true, Tryz.results44, Nat.zero_add, hsl1, happ1]
  refine codeT_regX Tryz.x44r2_eq Tryz.x44r2_kinds ?_
  unfold Tryz.x44r2
  simp -dsimp -implicitDefEqProofs (maxSteps := 2000000) (disch := first | assumption | omega | (simp only [nx]; omega) | ((repeat refine Fresh.push ?_ _); assumption) | (simp only [smA]; done) | (simp [oneCell, AW.next_push]; done) | fail) only [go_sem, Nat.reduceEqDiff, reduceIte, Nat.reduceAdd, Int.toNat_natCast, Nat.add_zero, Owes_true, hkl, indexV_eq, a0, a1, a2, hsm3, Nat.zero_add, k3]
  refine ⟨⟨.inr fun inf hinf => ?_, .inl (show Nat.testBit 783 3 = true by decide), trivial⟩, ?_⟩
  · rw [Tryz.ty76] at hinf
    injection hinf with hinf
    subst hinf
    simp -dsimp -implicitDefEqProofs (maxSteps := 2000000) (disch := first | assumption | omega | (simp only [nx]; omega) | ((repeat refine Fresh.push ?_ _); assumption) | (simp only [smA]; done) | (simp [oneCell, AW.next_push]; done) | fail) only [go_sem, Nat.reduceEqDiff, reduceIte, Nat.reduceAdd, Int.toNat_natCast, Nat.add_zero, Owes_true, a0, a1, a2, x0, x1, x2', Nat.zero_add]
  simp -dsimp -implicitDefEqProofs (maxSteps := 2000000) (disch := first | assumption | omega | (simp only [nx]; omega) | ((repeat refine Fresh.push ?_ _); assumption) | (simp only [smA]; done) | (simp [oneCell, AW.next_push]; done) | fail) only [go_sem, Nat.reduceEqDiff, reduceIte, Nat.reduceAdd, Int.toNat_natCast, Nat.add_zero, Owes_true, Nat.zero_add, k4]
  refine ⟨⟨.inl (show Nat.testBit 2047 7 = true by decide), .inl (show Nat.testBit 2047 3 = true by decide), trivial⟩, ?_⟩
  obtain ⟨w5, w6, k5, k6, m5, m6, hX6, hY6, hn6⟩ := set_sums (show w2.next ≠ w2.next + 1 by omega) g4.2 ⟨dd, ww, ss⟩ ⟨dd, ww, ss⟩ hX hY part (ss - part)
  have hY5 := m5.own hY (by omega)
  have t2 := hY.cell (o := 2) rfl rfl
  have s2 := hY5.cell (o := 2) rfl rfl
  refine codeT_regX Tryz.x44r3_eq Tryz.x44r3_kinds ?_
  unfold Tryz.x44r3
  simp -dsimp -implicitDefEqProofs (maxSteps := 2000000) (disch := first | assumption | omega | (simp only [nx]; omega) | ((repeat refine Fresh.push ?_ _); assumption) | (simp only [smA]; done) | (simp [oneCell, AW.next_push]; done) | fail) only [go_sem, Nat.reduceEqDiff, reduceIte, Nat.reduceAdd, Int.toNat_natCast, Nat.add_zero, Owes_true, Nat.zero_add, t2, k5]
  refine ⟨⟨.inr fun inf hinf => ?_, trivial⟩, ?_⟩
  · rw [Tryz.ty3] at hinf
    injection hinf with hinf
    subst hinf
    simp -dsimp -implicitDefEqProofs (maxSteps := 2000000) (disch := first | assumption | omega | (simp only [nx]; omega) | ((repeat refine Fresh.push ?_ _); assumption) | (simp only [smA]; done) | (simp [oneCell, AW.next_push]; done) | fail) only [go_sem, Nat.reduceEqDiff, reduceIte, Nat.reduceAdd, Int.toNat_natCast, Nat.add_zero, Owes_true, Nat.zero_add, t2, s2]
  simp -dsimp -implicitDefEqProofs (maxSteps := 2000000) (disch := first | assumption | omega | (simp only [nx]; omega) | ((repeat refine Fresh.push ?_ _); assumption) | (simp only [smA]; done) | (simp [oneCell, AW.next_push]; done) | fail) only [go_sem, Nat.reduceEqDiff, reduceIte, Nat.reduceAdd, Int.toNat_natCast, Nat.add_zero, Owes_true, Nat.zero_add, k6]
  refine ⟨⟨.inl (show Nat.testBit 255 2 = true by decide), trivial⟩, ?_⟩
  simp only [dcells] at hX6 hY6
  have p0 := hX6.cell (o := 0) rfl rfl
  have p1 := hX6.cell (o := 1) rfl rfl
  have p2 := hX6.cell (o := 2) rfl rfl
  have q0 := hY6.cell (o := 0) rfl rfl
  have q1 := hY6.cell (o := 1) rfl rfl
  have q2 := hY6.cell (o := 2) rfl rfl
  have g6 : Grown w w6 := ⟨(g2.trans g4).1.trans (m6.keep (fun j q => by have := g2.1.next; rcases q with q | q <;> omega) (g2.trans g4).1.next), m6.fresh⟩
  have k26 : Keep w2.next w2 w6 := g4.1.trans (m6.keep (fun j q => by rcases q with q | q <;> omega) (by omega))
  have hM6 := hM2.keep k26 (Nat.le_refl _)
  obtain ⟨v7, w7, happ2, hA7, hk7, f7, hle7⟩ := making_app (e' := 76) (k := 2) (new := [.int .i64 dd, .int .i64 ww, .int .i64 part, .int .i64 dd, .int .i64 ww, .int .i64 (ss - part)]) Tryz.ty43 Tryz.ty76 rfl (by decide) hM6 g6.2 (by omega) (by decide) rfl (by intro y hy; simp at hy; rcases hy with rfl | rfl | rfl | rfl | rfl | rfl <;> rfl) (by omega) (by omega)
  obtain ⟨p7, n7, c7, rfl⟩ : ∃ x y z, v7 = .slice x y z := by rcases hA7 with ⟨rfl, _⟩ | ⟨_, _, rfl, _⟩ <;> exact ⟨_, _, _, rfl⟩
  have g7 : Grown w w7 := ⟨g6.1.trans (hk7.mono (by omega)), f7⟩
  have gP : Grown w (w6.push (.cells [.int .i64 dd, .int .i64 ww, .int .i64 part, .int .i64 dd, .int .i64 ww, .int .i64 (ss - part)] 76 w6.next 0 0)) := g6.push _
  have hst := (given_tail (a := kd + 1) (hs.grown gP) (hg.keep gP.1) (by omega) (by omega)).1
  rw [show ((kd + 1 : Nat) : Int) = (kd : Int) + 1 from by omega] at hst
  have hat7 := (given_tail (a := kd + 1) (hs.grown g7) (hg.keep g7.1) (by omega) (by omega)).2
  generalize (bif Nat.beq c (kd + 1) then o0 else o0 + (kd + 1) * 3) = ot at hst hat7
  generalize c - (kd + 1) = ct at hst hat7
  have hnew7 := arr_new hat7 dcells_len (by decide)
  obtain ⟨v8, w8, happ3, hA8, hk8, f8, _⟩ := append_own0R Tryz.ty43 Tryz.ty76 rfl (by decide) hA7 f7 (by have := hk7.next; omega) rfl hnew7 (by rw [dcells_lens, List.length_drop]) (dcells_ones _) (by omega) (by omega)
  obtain ⟨p8, n8, c8, rfl⟩ : ∃ x y z, v8 = .slice x y z := by rcases hA8 with ⟨rfl, _⟩ | ⟨_, _, rfl, _⟩ <;> exact ⟨_, _, _, rfl⟩
  have hf6 := g6.2
  have hsp := same_agg3 dd ww part
  have hsq := same_agg3 dd ww (ss - part)
  have hs7 := same_sliceP x2 y2 z2
  simp -dsimp -implicitDefEqProofs (maxSteps := 2000000) (disch := first | assumption | omega | (simp only [nx]; omega) | ((repeat refine Fresh.push ?_ _); assumption) | (simp only [smA]; done) | (simp [oneCell, AW.next_push]; done) | fail) only [go_sem, Nat.reduceEqDiff, reduceIte, Nat.reduceAdd, Int.toNat_natCast, Nat.add_zero, Owes_true, Tryz.results44, Nat.zero_add, p0, p1, p2, q0, q1, q2, hsp, hsq, hst, happ2, hle7, happ3]
  unfold Owes
  refine ⟨fun _ => ?_, ?_⟩
  · simp -dsimp -implicitDefEqProofs (maxSteps := 2000000) (disch := first | assumption | omega | (simp only [nx]; omega) | ((repeat refine Fresh.push ?_ _); assumption) | (simp only [smA]; done) | (simp [oneCell, AW.next_push]; done) | fail) only [go_sem, Nat.reduceEqDiff, reduceIte, Nat.reduceAdd, Int.toNat_natCast, Nat.add_zero, Owes_true]
  simp -dsimp -implicitDefEqProofs (maxSteps := 2000000) (disch := first | assumption | omega | (simp only [nx]; omega) | ((repeat refine Fresh.push ?_ _); assumption) | (simp only [smA]; done) | (simp [oneCell, AW.next_push]; done) | fail) only [go_sem, Nat.reduceEqDiff, reduceIte, Nat.reduceAdd, Int.toNat_natCast, Nat.add_zero, Owes_true, Tryz.results44, Nat.zero_add, p0, p1, p2, q0, q1, q2, hsp, hsq, hst, happ2, hle7, happ3]
  have hlen : kd + 2 + (l.length - (kd + 1)) = l.length + 1 := by omega
  have hcl : (l.take kd ++ [(⟨dd, ww, part⟩ : DealN), ⟨dd, ww, ss - part⟩] ++ l.drop (kd + 1)).length = l.length + 1 := by simp; omega
  have hA8' : AOwn (w.next + 1) w8 76 3 (.slice p8 n8 c8) (l.take kd ++ [(⟨dd, ww, part⟩ : DealN), ⟨dd, ww, ss - part⟩] ++ l.drop (kd + 1)).length ((l.take kd ++ [(⟨dd, ww, part⟩ : DealN), ⟨dd, ww, ss - part⟩] ++ l.drop (kd + 1)).flatMap dcells) := by
    rw [hcl, List.flatMap_append, List.flatMap_append]
    rw [hlen] at hA8
    exact hA8
  have harr := hA8'.arrR dcells_len (by omega)
  obtain ⟨_, _, ea, _⟩ := harr.open
  injection ea with ea1 ea2 ea3
  rw [hcl] at ea2
  subst ea2
  exact ⟨⟨p8, c8, rfl, harr⟩, ⟨g7.1.trans (hk8.mono (by omega)), f8⟩⟩
end Go.Proofs

namespace Go.Proofs
open Go Go.RowKit Go.Sim
set_option maxRecDepth 100000
theorem filter_sum_mono {p q : Nat → Bool} {f : Nat → Int} : ∀ (L : List Nat), (∀ x ∈ L, p x = true → q x = true) → (∀ x ∈ L, 0 ≤ f x) → ((L.filter p).map f).sum ≤ ((L.filter q).map f).sum
  | [], _, _ => Int.le_refl _
  | a :: L, h, k => by
    have ih := filter_sum_mono L (fun x hx => h x (List.mem_cons_of_mem _ hx)) (fun x hx => k x (List.mem_cons_of_mem _ hx))
    have ha := h a List.mem_cons_self
    have ka := k a List.mem_cons_self
    cases hp : p a with
    | true =>
      have hq := ha hp
      simp only [List.filter_cons_of_pos hp, List.filter_cons_of_pos hq, List.map_cons, List.sum_cons]; omega
    | false =>
      rw [List.filter_cons_of_neg (by rw [hp]; simp)]
      cases hq : q a with
      | true => simp only [List.filter_cons_of_pos hq, List.map_cons, List.sum_cons]; omega
      | false => rw [List.filter_cons_of_neg (by rw [hq]; simp)]; exact ih
theorem filter_len_mono {p q : Nat → Bool} : ∀ (L : List Nat), (∀ x ∈ L, p x = true → q x = true) → (L.filter p).length ≤ (L.filter q).length
  | [], _ => Nat.le_refl _
  | a :: L, h => by
    have ih := filter_len_mono L fun x hx => h x (List.mem_cons_of_mem _ hx)
    have ha := h a List.mem_cons_self
    cases hp : p a with
    | true =>
      have hq := ha hp
      simp only [List.filter_cons_of_pos hp, List.filter_cons_of_pos hq, List.length_cons]; omega
    | false =>
      rw [List.filter_cons_of_neg (by rw [hp]; simp)]
      cases hq : q a with
      | true => simp only [List.filter_cons_of_pos hq, List.length_cons]; omega
      | false => rw [List.filter_cons_of_neg (by rw [hq]; simp)]; exact ih
def RepP (l : List DealN) (W : WatchN) (A : List Int) (n : Nat) : Prop := W.sum ≤ sumW l (winOf W A l n) ∨ W.more ≤ ((smalls W l (winOf W A l n)).length : Int)
theorem RepP.mono {l : List DealN} {W : WatchN} {A B : List Int} {n : Nat} (hd : ∀ d ∈ l, dealB d = true) (hn : n < l.length) (hm : ∀ i, i ≤ n → leadAt A l i = leadAt A l n → leadAt B l i = leadAt B l n) (h : RepP l W A n) : RepP l W B n := by
  have hw : ∀ x ∈ List.range (n + 1), inWin W A l n x = true → inWin W B l n x = true := fun x hx hi => by
    rw [List.mem_range] at hx
    simp only [inWin, Bool.and_eq_true, decide_eq_true_eq] at hi ⊢
    exact ⟨hi.1, hm x (by omega) hi.2⟩
  rcases h with h | h
  · left
    refine Int.le_trans h ?_
    exact filter_sum_mono _ hw fun x hx => by
      rw [List.mem_range] at hx
      have := sumAt_in hd (show x < l.length by omega); omega
  · right
    refine Int.le_trans h ?_
    unfold smalls winOf winTo
    rw [List.filter_filter, List.filter_filter]
    have := filter_len_mono (p := fun a => smallB W l a && inWin W A l n a) (q := fun a => smallB W l a && inWin W B l n a) (List.range (n + 1)) fun x hx hi => by
      simp only [Bool.and_eq_true] at hi ⊢
      exact ⟨hi.1, hw x hx hi.2⟩
    omega
theorem reas_yes {l : List DealN} {L : List (Int × Int)} {W : WatchN} {k : Int} {r : Value} {w : AW} (h : ReasIs l L W k r w) (hb : reportB l L W = true) {n : Nat} (hk : k = (n : Int)) (hn : n < l.length) (hR : ∀ A, Labs L A → RepP l W A n) : ∃ p a c, r = .tuple #[.slice p a c, .int .i64 0] := by
  rcases h with ⟨h, _⟩ | ⟨_, h, _⟩ | ⟨_, m, B, hkm, hm, hB, h⟩
  · rw [hb] at h; cases h
  · rw [hk] at h
    have : inR 0 (n : Int) ((l.length : Int) - 1) = true := (inR_iff _ _ _).2 ⟨by omega, by omega⟩
    rw [this] at h; cases h
  · obtain rfl : n = m := by omega
    have hR := hR B hB
    rcases h with ⟨_, _, p, a, c, _, rfl, _⟩ | ⟨_, _, p, a, c, rfl, _⟩ | ⟨h1, h2, _⟩
    · exact ⟨p, a, c, rfl⟩
    · exact ⟨p, a, c, rfl⟩
    · rcases hR with q | q <;> omega
theorem reas_cases {l : List DealN} {L : List (Int × Int)} {W : WatchN} {k : Int} {r : Value} {w : AW} (h : ReasIs l L W k r w) :
    (∃ e : Int, e ≠ 0 ∧ r = .tuple #[.slice none 0 0, .int .i64 e] ∧ (reportB l L W = true → inR 0 k ((l.length : Int) - 1) = true → e = 4)) ∨
    (∃ p a c n A, r = .tuple #[.slice p a c, .int .i64 0] ∧ reportB l L W = true ∧ k = ((n : Nat) : Int) ∧ n < l.length ∧ Labs L A ∧ RepP l W A n) := by
  rcases h with ⟨h, rfl⟩ | ⟨_, h, rfl⟩ | ⟨hb, m, B, hkm, hm, hB, h⟩
  · exact .inl ⟨83, by decide, rfl, fun q => by rw [h] at q; cases q⟩
  · exact .inl ⟨7, by decide, rfl, fun _ q => by rw [h] at q; cases q⟩
  · rcases h with ⟨h1, _, p, a, c, _, rfl, _⟩ | ⟨_, h2, p, a, c, rfl, _⟩ | ⟨h1, h2, rfl⟩
    · exact .inr ⟨p, a, c, m, B, rfl, hb, hkm, hm, hB, .inl h1⟩
    · exact .inr ⟨p, a, c, m, B, rfl, hb, hkm, hm, hB, .inr h2⟩
    · exact .inl ⟨4, by decide, rfl, fun _ _ => rfl⟩
theorem reportB_iff {l : List DealN} {L : List (Int × Int)} {W : WatchN} (h : reportB l L W = true) : l.length ≤ 64 ∧ (∀ d ∈ l, dealB d = true) ∧ L.length ≤ 64 ∧ (∀ x ∈ L, linkB x = true) := by
  simp only [reportB, Bool.and_eq_true, dealsB, linksB, decide_eq_true_eq] at h
  exact ⟨h.1.1.1.1, fun d hd => List.all_eq_true.mp h.1.1.1.2 d hd, h.1.2.1, fun x hx => List.all_eq_true.mp h.1.2.2 x hx⟩
end Go.Proofs

namespace Go.Proofs
open Go Go.RowKit Go.Sim
set_option maxRecDepth 100000
structure AlN where
  who : Int
  deal : Int
  sum : Int
def alcells (a : AlN) : List Value := [.int .i64 a.who, .int .i64 a.deal, .int .i64 a.sum]
theorem alcells_len (a : AlN) : (alcells a).length = 3 := rfl
theorem alcells_one (a : AlN) : ∀ v ∈ alcells a, oneCell v = true := by intro v hv; simp [alcells] at hv; rcases hv with rfl | rfl | rfl <;> rfl
theorem Tryz.bs50 (t : Tmps) (l : List (Nat × Operand)) : makes (prg Tryz.prog) t (.buildSlice 50 1 ⟨l⟩) = bsQ 54 1 3 [.int .i64 0, .int .i64 0, .int .i64 0] (l.map fun p => (p.1, ev t p.2)) := makes_bs Tryz.ty50 Tryz.ty54 rfl (by kernel_rfl)
theorem bsQ_13v {e : TypeId} (a b c : Int) : bsQ e 1 3 [.int .i64 0, .int .i64 0, .int .i64 0] [(0, .agg #[.int .i64 a, .int .i64 b, .int .i64 c])] = some ([.int .i64 a, .int .i64 b, .int .i64 c], e, fun n => .slice (some ⟨n, 0, none⟩) 1 1) := by kernel_rfl
theorem bld54 (a b c : Int) : bldQ [(0, 1), (1, 1), (2, 1)] [.int .i64 0, .int .i64 0, .int .i64 0] [(0, .int .i64 a), (1, .int .i64 b), (2, .int .i64 c)] = some (.agg #[.int .i64 a, .int .i64 b, .int .i64 c]) := by kernel_rfl
attribute [go_sem] Tryz.bs50 bsQ_13v bld54
def repB (l : List DealN) (W : WatchN) (A : List Int) (k : Nat) : Bool := decide (sumW l (winOf W A l k) ≥ W.sum) || decide (((smalls W l (winOf W A l k)).length : Int) ≥ W.more)
def hitB (l : List DealN) (W : WatchN) (A : List Int) (p : Int) (k : Nat) : Bool := decide (leadAt A l k = p) && repB l W A k
def firstAl (l : List DealN) (W : WatchN) (A : List Int) (p : Int) : Option Nat := (List.range l.length).find? (hitB l W A p)
def alarmOf (l : List DealN) (W : WatchN) (A : List Int) (p : Nat) : Option AlN := (firstAl l W A (p : Int)).map fun (k : Nat) => ⟨(p : Int), (k : Int), sumW l (winOf W A l k)⟩
def alarmsTo (l : List DealN) (W : WatchN) (A : List Int) (n : Nat) : List AlN := (List.range n).filterMap (alarmOf l W A)
theorem alarmsTo_len (l : List DealN) (W : WatchN) (A : List Int) (n : Nat) : (alarmsTo l W A n).length ≤ n := by
  have := List.length_filterMap_le (alarmOf l W A) (List.range n)
  rw [List.length_range] at this; exact this
theorem alarmsTo_none {l : List DealN} {W : WatchN} {A : List Int} {n : Nat} (h : ∀ k, k < l.length → hitB l W A (n : Int) k = false) : alarmsTo l W A (n + 1) = alarmsTo l W A n := by
  have hf : firstAl l W A (n : Int) = none := by
    unfold firstAl; rw [List.find?_eq_none]
    intro k hk; rw [List.mem_range] at hk; rw [h k hk]; simp
  unfold alarmsTo
  rw [List.range_succ, List.filterMap_append]
  simp [alarmOf, hf]
theorem find_first {p : Nat → Bool} : ∀ (n k : Nat), k < n → p k = true → (∀ j, j < k → p j = false) → (List.range n).find? p = some k := by
  intro n k hk hp hno
  rw [List.find?_range_eq_some]
  exact ⟨hp, by simpa using hk, fun j hj => by rw [hno j hj]; rfl⟩
theorem alarmsTo_some {l : List DealN} {W : WatchN} {A : List Int} {n k : Nat} (hk : k < l.length) (hp : hitB l W A (n : Int) k = true) (h : ∀ j, j < k → hitB l W A (n : Int) j = false) : alarmsTo l W A (n + 1) = alarmsTo l W A n ++ [⟨(n : Int), (k : Int), sumW l (winOf W A l k)⟩] := by
  have hf : firstAl l W A (n : Int) = some k := find_first _ _ hk hp h
  unfold alarmsTo
  rw [List.range_succ, List.filterMap_append]
  simp [alarmOf, hf]
def AlarmsIs (l : List DealN) (L : List (Int × Int)) (W : WatchN) (r : Value) (w : AW) : Prop :=
  (reportB l L W = false ∧ r = .tuple #[.slice none 0 0, .int .i64 83]) ∨
  (reportB l L W = true ∧ ∃ (A : List Int) (p : Option Addr) (n c : Nat), Labs L A ∧ r = .tuple #[.slice p n c, .int .i64 0] ∧ ArrOf w 3 alcells (.slice p n c) (alarmsTo l W A 24))
set_option maxHeartbeats 16000000 in
theorem Alarms_ok (l : List DealN) (L : List (Int × Int)) (W : WatchN) (v0 v1 : Value) (w : AW) (f : Fresh w) (hs : ArrOf w 3 dcells v0 l) (hL : ArrOf w 2 lcells v1 L) :
    CallT Tryz.prog Tryz.T1 (.fn (.func 30) #[]) #[v0, v1, .agg #[.int .i64 W.days, .int .i64 W.sum, .int .i64 W.small, .int .i64 W.more]] w (fun r w' => AlarmsIs l L W r w' ∧ Grown w w') := by
  obtain ⟨p0, c0, rfl, _⟩ := id hs.open
  obtain ⟨p1, c1, rfl, _⟩ := id hL.open
  have g1 := (Grown.refl f).push (.cells [.int .i64 W.days, .int .i64 W.sum, .int .i64 W.small, .int .i64 W.more] 46 w.next 0 0)
  have o1 := Own.new f 46 [.int .i64 W.days, .int .i64 W.sum, .int .i64 W.small, .int .i64 W.more]
  have q0 := o1.cell (o := 0) rfl rfl
  have q1 := o1.cell (o := 1) rfl rfl
  have q2 := o1.cell (o := 2) rfl rfl
  have q3 := o1.cell (o := 3) rfl rfl
  refine callT_code rfl Tryz.func30 rfl Tryz.s30_eq rfl ?_
  unfold Tryz.s30
  simp -dsimp -implicitDefEqProofs (maxSteps := 2000000) (disch := first | assumption | omega | (simp only [nx]; omega) | ((repeat refine Fresh.push ?_ _); assumption) | (simp only [smA]; done) | (simp [oneCell, AW.next_push]; done) | fail) only [go_sem, Nat.reduceEqDiff, reduceIte, Nat.reduceAdd, Int.toNat_natCast, Nat.add_zero, Owes_true, Tryz.results30, Nat.zero_add, q0, q1, q2, q3]
  apply callV_of (e := rfl)
  · exact deskOf_ok l L W _ _ _ g1.2 (hs.grown g1) (hL.grown g1)
  rintro _ w1 ⟨hcase, g2⟩
  have gw1 := g1.trans g2
  have hf1 := g2.2
  rcases hcase with ⟨hb, rfl⟩ | ⟨hb, A, hA, rfl⟩
  · obtain ⟨w2, s1, _, s3, _⟩ := put_desk w1 g2.2 ⟨0, 0, 0, 0⟩ none 0 0 (List.replicate 24 0) rfl
    have h83 : ¬ (83 : Int) = 0 := by decide
    simp -dsimp -implicitDefEqProofs (maxSteps := 2000000) (disch := first | assumption | omega | (simp only [nx]; omega) | ((repeat refine Fresh.push ?_ _); assumption) | (simp only [smA]; done) | (simp [oneCell, AW.next_push]; done) | fail) only [go_sem, Nat.reduceEqDiff, reduceIte, Nat.reduceAdd, Int.toNat_natCast, Nat.add_zero, Owes_true, Tryz.results30, s1, h83]
    exact ⟨Or.inl ⟨hb, rfl⟩, gw1.trans s3⟩
  obtain ⟨w2, s1, o2, s3, hn2⟩ := put_desk w1 g2.2 W p0 l.length c0 A hA.len
  have gw2 := gw1.trans s3
  have hb' := hb
  simp only [reportB, Bool.and_eq_true] at hb'
  obtain ⟨⟨hd, hlk⟩, hW⟩ := hb'
  simp only [dealsB, Bool.and_eq_true, decide_eq_true_eq] at hd
  obtain ⟨⟨hl64, hdall⟩, hord⟩ := hd
  have hdd : ∀ d ∈ l, dealB d = true := fun d hd => List.all_eq_true.mp hdall d hd
  simp -dsimp -implicitDefEqProofs (maxSteps := 2000000) (disch := first | assumption | omega | (simp only [nx]; omega) | ((repeat refine Fresh.push ?_ _); assumption) | (simp only [smA]; done) | (simp [oneCell, AW.next_push]; done) | fail) only [go_sem, Nat.reduceEqDiff, reduceIte, Nat.reduceAdd, Int.toNat_natCast, Nat.add_zero, Owes_true, Tryz.results30, s1]
  refine loopR (fun k t ds w3 => ∃ i : Nat, i ≤ 24 ∧ k = 24 - i ∧ ds = [] ∧ ev t (.tmp 0) = .slice p0 l.length c0 ∧ ev t (.tmp 8) = .pointer (some ⟨w1.next, 0, none⟩) ∧ ev t (.tmp 24) = .int .i64 (i : Int) ∧ ∃ (p3 : Option Addr) (n3 c3 : Nat), ev t (.tmp 10) = .slice p3 n3 c3 ∧ AOwn w2.next w3 54 3 (.slice p3 n3 c3) (alarmsTo l W A i).length ((alarmsTo l W A i).flatMap alcells) ∧ Keep w2.next w2 w3 ∧ Fresh w3 ∧ w2.next ≤ w3.next ∧ Own w3 w1.next 119 (deskL W (.slice p0 l.length c0) A)) (24) ?_ ?_
  · refine ⟨0, by omega, by omega, rfl, ?_, ?_, ?_, none, 0, 0, (by simp -dsimp -implicitDefEqProofs (maxSteps := 2000000) (disch := first | assumption | omega | (simp only [nx]; omega) | ((repeat refine Fresh.push ?_ _); assumption) | (simp only [smA]; done) | (simp [oneCell, AW.next_push]; done) | fail) only [go_sem, Nat.reduceEqDiff, reduceIte, Nat.reduceAdd, Int.toNat_natCast, Nat.add_zero, Owes_true]; try rfl), .inl ⟨rfl, rfl, rfl⟩, .refl _ _, s3.2, Nat.le_refl _, o2⟩ <;> simp -dsimp -implicitDefEqProofs (maxSteps := 2000000) (disch := first | assumption | omega | (simp only [nx]; omega) | ((repeat refine Fresh.push ?_ _); assumption) | (simp only [smA]; done) | (simp [oneCell, AW.next_push]; done) | fail) only [go_sem, Nat.reduceEqDiff, reduceIte, Nat.reduceAdd, Int.toNat_natCast, Nat.add_zero, Owes_true] <;> rfl
  rintro k t ds w3 ⟨i, hii, rfl, rfl, e0, e8, e24, p3, n3, c3, e10, hR, hK, hF, hn3, o3⟩
  by_cases hlt : (i : Int) < 24
  case neg =>
    obtain rfl : i = 24 := by omega
    simp -dsimp -implicitDefEqProofs (maxSteps := 2000000) (disch := first | assumption | omega | (simp only [nx]; omega) | ((repeat refine Fresh.push ?_ _); assumption) | (simp only [smA]; done) | (simp [oneCell, AW.next_push]; done) | fail) only [go_sem, Nat.reduceEqDiff, reduceIte, Nat.reduceAdd, Int.toNat_natCast, Nat.add_zero, Owes_true, Tryz.results30, e0, e8, e10, e24, hlt]
    exact ⟨Or.inr ⟨hb, A, p3, n3, c3, hA, rfl, hR.arr alcells_len (by have := alarmsTo_len l W A 24; omega)⟩, ⟨gw2.1.trans (hK.mono gw2.1.next), hF⟩⟩
  simp -dsimp -implicitDefEqProofs (maxSteps := 2000000) (disch := first | assumption | omega | (simp only [nx]; omega) | ((repeat refine Fresh.push ?_ _); assumption) | (simp only [smA]; done) | (simp [oneCell, AW.next_push]; done) | fail) only [go_sem, Nat.reduceEqDiff, reduceIte, Nat.reduceAdd, Int.toNat_natCast, Nat.add_zero, Owes_true, Tryz.results30, e0, e8, e10, e24, hlt]
  refine loopR (fun k t ds w4 => ∃ j : Nat, j ≤ l.length ∧ k = l.length - j ∧ ds = [] ∧ ev t (.tmp 0) = .slice p0 l.length c0 ∧ ev t (.tmp 8) = .pointer (some ⟨w1.next, 0, none⟩) ∧ ev t (.tmp 11) = .int .i64 (i : Int) ∧ ev t (.tmp 24) = .int .i64 (i : Int) ∧ ev t (.tmp 28) = .int .i64 (l.length : Int) ∧ ev t (.tmp 29) = .int .i64 (j : Int) ∧ ev t (.tmp 10) = .slice p3 n3 c3 ∧ (∀ q, q < j → hitB l W A (i : Int) q = false) ∧ AOwn w2.next w4 54 3 (.slice p3 n3 c3) (alarmsTo l W A i).length ((alarmsTo l W A i).flatMap alcells) ∧ Keep w2.next w2 w4 ∧ Fresh w4 ∧ w2.next ≤ w4.next ∧ Own w4 w1.next 119 (deskL W (.slice p0 l.length c0) A)) (l.length) ?_ ?_
  · refine ⟨0, by omega, by omega, rfl, ?_, ?_, ?_, ?_, ?_, ?_, (by simp -dsimp -implicitDefEqProofs (maxSteps := 2000000) (disch := first | assumption | omega | (simp only [nx]; omega) | ((repeat refine Fresh.push ?_ _); assumption) | (simp only [smA]; done) | (simp [oneCell, AW.next_push]; done) | fail) only [go_sem, Nat.reduceEqDiff, reduceIte, Nat.reduceAdd, Int.toNat_natCast, Nat.add_zero, Owes_true, e10]; try rfl), (fun q h => absurd h (by omega)), hR, hK, hF, hn3, o3⟩ <;> simp -dsimp -implicitDefEqProofs (maxSteps := 2000000) (disch := first | assumption | omega | (simp only [nx]; omega) | ((repeat refine Fresh.push ?_ _); assumption) | (simp only [smA]; done) | (simp [oneCell, AW.next_push]; done) | fail) only [go_sem, Nat.reduceEqDiff, reduceIte, Nat.reduceAdd, Int.toNat_natCast, Nat.add_zero, Owes_true, e0, e8, e10, e24] <;> rfl
  rintro k t ds w4 ⟨j, hij, rfl, rfl, e0, e8, e11, e24, e28, e29, e10b, hno, hR4, hK4, hF4, hn4, o4⟩
  by_cases hlj : (j : Int) < (l.length : Int)
  case neg =>
    obtain rfl : j = l.length := by omega
    have hal := alarmsTo_none hno
    simp -dsimp -implicitDefEqProofs (maxSteps := 2000000) (disch := first | assumption | omega | (simp only [nx]; omega) | ((repeat refine Fresh.push ?_ _); assumption) | (simp only [smA]; done) | (simp [oneCell, AW.next_push]; done) | fail) only [go_sem, Nat.reduceEqDiff, reduceIte, Nat.reduceAdd, Int.toNat_natCast, Nat.add_zero, Owes_true, Tryz.results30, e0, e8, e10b, e11, e24, e28, e29, hlj]
    refine ⟨_, by omega, i + 1, by omega, rfl, rfl, by (simp -dsimp -implicitDefEqProofs (maxSteps := 2000000) (disch := first | assumption | omega | (simp only [nx]; omega) | ((repeat refine Fresh.push ?_ _); assumption) | (simp only [smA]; done) | (simp [oneCell, AW.next_push]; done) | fail) only [go_sem, Nat.reduceEqDiff, reduceIte, Nat.reduceAdd, Int.toNat_natCast, Nat.add_zero, Owes_true, e0]; try rfl), by (simp -dsimp -implicitDefEqProofs (maxSteps := 2000000) (disch := first | assumption | omega | (simp only [nx]; omega) | ((repeat refine Fresh.push ?_ _); assumption) | (simp only [smA]; done) | (simp [oneCell, AW.next_push]; done) | fail) only [go_sem, Nat.reduceEqDiff, reduceIte, Nat.reduceAdd, Int.toNat_natCast, Nat.add_zero, Owes_true, e8]; try rfl), by (simp -dsimp -implicitDefEqProofs (maxSteps := 2000000) (disch := first | assumption | omega | (simp only [nx]; omega) | ((repeat refine Fresh.push ?_ _); assumption) | (simp only [smA]; done) | (simp [oneCell, AW.next_push]; done) | fail) only [go_sem, Nat.reduceEqDiff, reduceIte, Nat.reduceAdd, Int.toNat_natCast, Nat.add_zero, Owes_true, e24]; try rfl), p3, n3, c3, (by simp -dsimp -implicitDefEqProofs (maxSteps := 2000000) (disch := first | assumption | omega | (simp only [nx]; omega) | ((repeat refine Fresh.push ?_ _); assumption) | (simp only [smA]; done) | (simp [oneCell, AW.next_push]; done) | fail) only [go_sem, Nat.reduceEqDiff, reduceIte, Nat.reduceAdd, Int.toNat_natCast, Nat.add_zero, Owes_true, e10b]; try rfl), (by rw [hal]; exact hR4), hK4, hF4, hn4, o4⟩
  have hjl : j < l.length := by omega
  have gw4 : Grown w w4 := ⟨gw2.1.trans (hK4.mono gw2.1.next), hF4⟩
  have hld := desk_load o4 hA.len
  simp -dsimp -implicitDefEqProofs (maxSteps := 2000000) (disch := first | assumption | omega | (simp only [nx]; omega) | ((repeat refine Fresh.push ?_ _); assumption) | (simp only [smA]; done) | (simp [oneCell, AW.next_push]; done) | fail) only [go_sem, Nat.reduceEqDiff, reduceIte, Nat.reduceAdd, Int.toNat_natCast, Nat.add_zero, Owes_true, Tryz.results30, e0, e8, e10b, e11, e24, e28, e29, hlj, hld]
  apply callV_of (e := rfl)
  · exact leader_ok W _ l A j hjl w4 hF4 (hs.grown gw4) hdd hA.len
  rintro _ w5 ⟨rfl, g5⟩
  have hR5 := AOwn.keep hR4 g5.1 (Nat.le_refl _)
  have hK5 : Keep w2.next w2 w5 := hK4.trans (g5.1.mono hn4)
  have o5 := o4.keep g5.1
  have hn5 := g5.1.next
  have gw5 := gw4.trans g5
  by_cases hle : leadAt A l j = (i : Int)
  case neg =>
    have hno2 : ∀ q, q < j + 1 → hitB l W A (i : Int) q = false := fun q hq => by
      rcases Nat.lt_or_ge q j with z | z
      · exact hno q z
      · obtain rfl : q = j := by omega
        unfold hitB; rw [decide_eq_false hle]; rfl
    simp -dsimp -implicitDefEqProofs (maxSteps := 2000000) (disch := first | assumption | omega | (simp only [nx]; omega) | ((repeat refine Fresh.push ?_ _); assumption) | (simp only [smA]; done) | (simp [oneCell, AW.next_push]; done) | fail) only [go_sem, Nat.reduceEqDiff, reduceIte, Nat.reduceAdd, Int.toNat_natCast, Nat.add_zero, Owes_true, Tryz.results30, e0, e8, e10b, e11, e24, e28, e29, hle]
    refine ⟨_, by omega, j + 1, by omega, rfl, rfl, by (simp -dsimp -implicitDefEqProofs (maxSteps := 2000000) (disch := first | assumption | omega | (simp only [nx]; omega) | ((repeat refine Fresh.push ?_ _); assumption) | (simp only [smA]; done) | (simp [oneCell, AW.next_push]; done) | fail) only [go_sem, Nat.reduceEqDiff, reduceIte, Nat.reduceAdd, Int.toNat_natCast, Nat.add_zero, Owes_true, e0]; try rfl), by (simp -dsimp -implicitDefEqProofs (maxSteps := 2000000) (disch := first | assumption | omega | (simp only [nx]; omega) | ((repeat refine Fresh.push ?_ _); assumption) | (simp only [smA]; done) | (simp [oneCell, AW.next_push]; done) | fail) only [go_sem, Nat.reduceEqDiff, reduceIte, Nat.reduceAdd, Int.toNat_natCast, Nat.add_zero, Owes_true, e8]; try rfl), by (simp -dsimp -implicitDefEqProofs (maxSteps := 2000000) (disch := first | assumption | omega | (simp only [nx]; omega) | ((repeat refine Fresh.push ?_ _); assumption) | (simp only [smA]; done) | (simp [oneCell, AW.next_push]; done) | fail) only [go_sem, Nat.reduceEqDiff, reduceIte, Nat.reduceAdd, Int.toNat_natCast, Nat.add_zero, Owes_true, e11]; try rfl), by (simp -dsimp -implicitDefEqProofs (maxSteps := 2000000) (disch := first | assumption | omega | (simp only [nx]; omega) | ((repeat refine Fresh.push ?_ _); assumption) | (simp only [smA]; done) | (simp [oneCell, AW.next_push]; done) | fail) only [go_sem, Nat.reduceEqDiff, reduceIte, Nat.reduceAdd, Int.toNat_natCast, Nat.add_zero, Owes_true, e24]; try rfl), by (simp -dsimp -implicitDefEqProofs (maxSteps := 2000000) (disch := first | assumption | omega | (simp only [nx]; omega) | ((repeat refine Fresh.push ?_ _); assumption) | (simp only [smA]; done) | (simp [oneCell, AW.next_push]; done) | fail) only [go_sem, Nat.reduceEqDiff, reduceIte, Nat.reduceAdd, Int.toNat_natCast, Nat.add_zero, Owes_true, e28]; try rfl), by (simp -dsimp -implicitDefEqProofs (maxSteps := 2000000) (disch := first | assumption | omega | (simp only [nx]; omega) | ((repeat refine Fresh.push ?_ _); assumption) | (simp only [smA]; done) | (simp [oneCell, AW.next_push]; done) | fail) only [go_sem, Nat.reduceEqDiff, reduceIte, Nat.reduceAdd, Int.toNat_natCast, Nat.add_zero, Owes_true, e29]; try rfl), (by simp -dsimp -implicitDefEqProofs (maxSteps := 2000000) (disch := first | assumption | omega | (simp only [nx]; omega) | ((repeat refine Fresh.push ?_ _); assumption) | (simp only [smA]; done) | (simp [oneCell, AW.next_push]; done) | fail) only [go_sem, Nat.reduceEqDiff, reduceIte, Nat.reduceAdd, Int.toNat_natCast, Nat.add_zero, Owes_true, e10b]; try rfl), hno2, hR5, hK5, g5.2, (by omega), o5⟩
  have hle' : decide (leadAt A l j = (i : Int)) = true := decide_eq_true hle
  have hld5 := desk_load o5 hA.len
  simp -dsimp -implicitDefEqProofs (maxSteps := 2000000) (disch := first | assumption | omega | (simp only [nx]; omega) | ((repeat refine Fresh.push ?_ _); assumption) | (simp only [smA]; done) | (simp [oneCell, AW.next_push]; done) | fail) only [go_sem, Nat.reduceEqDiff, reduceIte, Nat.reduceAdd, Int.toNat_natCast, Nat.add_zero, Owes_true, Tryz.results30, e0, e8, e10b, e11, e24, e28, e29, hle', hld5]
  apply callV_of (e := rfl)
  · exact view_ok W _ l A j hjl hl64 w5 g5.2 (hs.grown gw5) hdd hA.len hW
  rintro _ w6 ⟨p, r, m, nn, e, g, rfl, hR1, hR2, g6⟩
  obtain rfl := hR1.len
  obtain rfl := hR2.len
  have hf6 := g6.2
  obtain ⟨w7, t1, o7, t3, hn7⟩ := put_view w6 g6.2 p r (winOf W A l j).length e (smalls W l (winOf W A l j)).length g (sumW l (winOf W A l j))
  have g57 := g6.trans t3
  have o57 := o5.keep g57.1
  have hld7 := desk_load o57 hA.len
  have hlv : loadV w7 true 3 (.pointer (some ⟨w6.next, 0, none⟩)) = some (.agg #[.slice p (winOf W A l j).length e, .slice r (smalls W l (winOf W A l j)).length g, .int .i64 (sumW l (winOf W A l j))]) := loadAll o7 rfl (by intro v hv; simp at hv; rcases hv with rfl | rfl | rfl <;> rfl)
  simp -dsimp -implicitDefEqProofs (maxSteps := 2000000) (disch := first | assumption | omega | (simp only [nx]; omega) | ((repeat refine Fresh.push ?_ _); assumption) | (simp only [smA]; done) | (simp [oneCell, AW.next_push]; done) | fail) only [go_sem, Nat.reduceEqDiff, reduceIte, Nat.reduceAdd, Int.toNat_natCast, Nat.add_zero, Owes_true, Tryz.results30, e0, e8, e10b, e11, e24, e28, e29, t1, hld7, hlv]
  apply callV_of (e := rfl)
  · exact isReported_ok W _ A p r _ e _ g _ w7 t3.2
  rintro _ w8 ⟨rfl, g8⟩
  have g58 := g57.trans g8
  have hR8 := AOwn.keep hR5 g58.1 (Nat.le_refl _)
  have hK8 : Keep w2.next w2 w8 := hK5.trans (g58.1.mono (by omega))
  have o8 := o5.keep g58.1
  have hn8 := g58.1.next
  have v8 := (o7.keep g8.1).cell (o := 2) rfl rfl
  have hrep : (decide (sumW l (winOf W A l j) ≥ W.sum) || decide (((smalls W l (winOf W A l j)).length : Int) ≥ W.more)) = repB l W A j := rfl
  rw [hrep]
  cases hrb : repB l W A j with
  | false =>
    have hno2 : ∀ q, q < j + 1 → hitB l W A (i : Int) q = false := fun q hq => by
      rcases Nat.lt_or_ge q j with z | z
      · exact hno q z
      · obtain rfl : q = j := by omega
        unfold hitB; rw [hrb, Bool.and_false]
    simp -dsimp -implicitDefEqProofs (maxSteps := 2000000) (disch := first | assumption | omega | (simp only [nx]; omega) | ((repeat refine Fresh.push ?_ _); assumption) | (simp only [smA]; done) | (simp [oneCell, AW.next_push]; done) | fail) only [go_sem, Nat.reduceEqDiff, reduceIte, Nat.reduceAdd, Int.toNat_natCast, Nat.add_zero, Owes_true, Tryz.results30, e0, e8, e10b, e11, e24, e28, e29]
    refine ⟨_, by omega, j + 1, by omega, rfl, rfl, by (simp -dsimp -implicitDefEqProofs (maxSteps := 2000000) (disch := first | assumption | omega | (simp only [nx]; omega) | ((repeat refine Fresh.push ?_ _); assumption) | (simp only [smA]; done) | (simp [oneCell, AW.next_push]; done) | fail) only [go_sem, Nat.reduceEqDiff, reduceIte, Nat.reduceAdd, Int.toNat_natCast, Nat.add_zero, Owes_true, e0]; try rfl), by (simp -dsimp -implicitDefEqProofs (maxSteps := 2000000) (disch := first | assumption | omega | (simp only [nx]; omega) | ((repeat refine Fresh.push ?_ _); assumption) | (simp only [smA]; done) | (simp [oneCell, AW.next_push]; done) | fail) only [go_sem, Nat.reduceEqDiff, reduceIte, Nat.reduceAdd, Int.toNat_natCast, Nat.add_zero, Owes_true, e8]; try rfl), by (simp -dsimp -implicitDefEqProofs (maxSteps := 2000000) (disch := first | assumption | omega | (simp only [nx]; omega) | ((repeat refine Fresh.push ?_ _); assumption) | (simp only [smA]; done) | (simp [oneCell, AW.next_push]; done) | fail) only [go_sem, Nat.reduceEqDiff, reduceIte, Nat.reduceAdd, Int.toNat_natCast, Nat.add_zero, Owes_true, e11]; try rfl), by (simp -dsimp -implicitDefEqProofs (maxSteps := 2000000) (disch := first | assumption | omega | (simp only [nx]; omega) | ((repeat refine Fresh.push ?_ _); assumption) | (simp only [smA]; done) | (simp [oneCell, AW.next_push]; done) | fail) only [go_sem, Nat.reduceEqDiff, reduceIte, Nat.reduceAdd, Int.toNat_natCast, Nat.add_zero, Owes_true, e24]; try rfl), by (simp -dsimp -implicitDefEqProofs (maxSteps := 2000000) (disch := first | assumption | omega | (simp only [nx]; omega) | ((repeat refine Fresh.push ?_ _); assumption) | (simp only [smA]; done) | (simp [oneCell, AW.next_push]; done) | fail) only [go_sem, Nat.reduceEqDiff, reduceIte, Nat.reduceAdd, Int.toNat_natCast, Nat.add_zero, Owes_true, e28]; try rfl), by (simp -dsimp -implicitDefEqProofs (maxSteps := 2000000) (disch := first | assumption | omega | (simp only [nx]; omega) | ((repeat refine Fresh.push ?_ _); assumption) | (simp only [smA]; done) | (simp [oneCell, AW.next_push]; done) | fail) only [go_sem, Nat.reduceEqDiff, reduceIte, Nat.reduceAdd, Int.toNat_natCast, Nat.add_zero, Owes_true, e29]; try rfl), (by simp -dsimp -implicitDefEqProofs (maxSteps := 2000000) (disch := first | assumption | omega | (simp only [nx]; omega) | ((repeat refine Fresh.push ?_ _); assumption) | (simp only [smA]; done) | (simp [oneCell, AW.next_push]; done) | fail) only [go_sem, Nat.reduceEqDiff, reduceIte, Nat.reduceAdd, Int.toNat_natCast, Nat.add_zero, Owes_true, e10b]; try rfl), hno2, hR8, hK8, g8.2, (by omega), o8⟩
  | true =>
    have hal := alarmsTo_some (n := i) hjl (by unfold hitB; rw [hrb, hle']; rfl) hno
    have hlen := alarmsTo_len l W A i
    obtain ⟨u9, w9, happ, hR9, hk9, hf9, hn9, _⟩ := append_one (e' := 54) Tryz.ty50 Tryz.ty54 rfl (by omega) (by omega) hR8 g8.2 (by omega) (alcells_len ⟨(i : Int), (j : Int), sumW l (winOf W A l j)⟩) (alcells_one _) (by omega)
    simp only [alcells] at happ
    obtain ⟨p9, n9, c9, rfl⟩ : ∃ x y z, u9 = .slice x y z := by rcases hR9 with ⟨rfl, _⟩ | ⟨_, _, rfl, _⟩ <;> exact ⟨_, _, _, rfl⟩
    have hf8 := g8.2
    have o9 := o8.keepC hk9 (by omega)
    simp -dsimp -implicitDefEqProofs (maxSteps := 2000000) (disch := first | assumption | omega | (simp only [nx]; omega) | ((repeat refine Fresh.push ?_ _); assumption) | (simp only [smA]; done) | (simp [oneCell, AW.next_push]; done) | fail) only [go_sem, Nat.reduceEqDiff, reduceIte, Nat.reduceAdd, Int.toNat_natCast, Nat.add_zero, Owes_true, Tryz.results30, e0, e8, e10b, e11, e24, e28, e29, Nat.zero_add, v8, happ]
    refine ⟨_, by omega, i + 1, by omega, rfl, rfl, by (simp -dsimp -implicitDefEqProofs (maxSteps := 2000000) (disch := first | assumption | omega | (simp only [nx]; omega) | ((repeat refine Fresh.push ?_ _); assumption) | (simp only [smA]; done) | (simp [oneCell, AW.next_push]; done) | fail) only [go_sem, Nat.reduceEqDiff, reduceIte, Nat.reduceAdd, Int.toNat_natCast, Nat.add_zero, Owes_true, e0]; try rfl), by (simp -dsimp -implicitDefEqProofs (maxSteps := 2000000) (disch := first | assumption | omega | (simp only [nx]; omega) | ((repeat refine Fresh.push ?_ _); assumption) | (simp only [smA]; done) | (simp [oneCell, AW.next_push]; done) | fail) only [go_sem, Nat.reduceEqDiff, reduceIte, Nat.reduceAdd, Int.toNat_natCast, Nat.add_zero, Owes_true, e8]; try rfl), by (simp -dsimp -implicitDefEqProofs (maxSteps := 2000000) (disch := first | assumption | omega | (simp only [nx]; omega) | ((repeat refine Fresh.push ?_ _); assumption) | (simp only [smA]; done) | (simp [oneCell, AW.next_push]; done) | fail) only [go_sem, Nat.reduceEqDiff, reduceIte, Nat.reduceAdd, Int.toNat_natCast, Nat.add_zero, Owes_true, e24]; try rfl), p9, n9, c9, (by simp -dsimp -implicitDefEqProofs (maxSteps := 2000000) (disch := first | assumption | omega | (simp only [nx]; omega) | ((repeat refine Fresh.push ?_ _); assumption) | (simp only [smA]; done) | (simp [oneCell, AW.next_push]; done) | fail) only [go_sem, Nat.reduceEqDiff, reduceIte, Nat.reduceAdd, Int.toNat_natCast, Nat.add_zero, Owes_true]; try rfl), (by rw [hal, List.length_append, List.flatMap_append, List.flatMap_singleton]; exact hR9), hK8.trans hk9, hf9, (by omega), o9⟩
end Go.Proofs

namespace Go.Proofs
open Go Go.RowKit Go.Sim
set_option maxRecDepth 100000
end Go.Proofs

namespace Go.Proofs
open Go Go.RowKit Go.Sim
def gW (W : WatchN) (A : List Int) (day ld : Int) (d : DealN) : Int := if d.day > day - W.days ∧ lb A d.who.toNat = ld then d.sum else 0
theorem sum_win (W : WatchN) (A : List Int) (l : List DealN) (j : Nat) : ∀ n, n ≤ l.length → (((List.range n).filter (inWin W A l j)).map (sumAt l)).sum = ((l.take n).map (gW W A (dayAt l j) (leadAt A l j))).sum
  | 0, _ => by simp
  | n + 1, hn => by
    have ih := sum_win W A l j n (by omega)
    have hl : n < l.length := by omega
    rw [List.range_succ, List.filter_append, List.map_append, List.sum_append, ih, List.take_succ_eq_append_getElem hl, List.map_append, List.sum_append]
    congr 1
    have h1 : inWin W A l j n = decide (l[n].day > dayAt l j - W.days ∧ lb A l[n].who.toNat = leadAt A l j) := by
      unfold inWin
      rw [dayAt_eq hl, leadAt_eq hl]
      simp
    by_cases hc : l[n].day > dayAt l j - W.days ∧ lb A l[n].who.toNat = leadAt A l j
    · have h2 : inWin W A l j n = true := by rw [h1]; exact decide_eq_true hc
      simp [h2, gW, hc, sumAt_eq hl]
    · have h2 : inWin W A l j n = false := by rw [h1]; exact decide_eq_false hc
      simp only [List.filter_cons, h2, Bool.false_eq_true, if_false, List.filter_nil, List.map_nil, List.sum_nil, List.map_cons, List.sum_cons, gW, if_neg hc, Int.add_zero]
theorem winSum (W : WatchN) (A : List Int) (l : List DealN) (j : Nat) (hj : j < l.length) : sumW l (winOf W A l j) = ((l.take (j + 1)).map (gW W A (dayAt l j) (leadAt A l j))).sum := sum_win W A l j (j + 1) (by omega)
def DaysP (l : List DealN) : Prop := (l.map DealN.day).Pairwise (· ≤ ·)
theorem ordB_iff (l : List DealN) : ordB l = true ↔ DaysP l := by
  constructor
  · intro h
    unfold ordB at h
    rw [List.all_eq_true] at h
    have step : ∀ i (hi : i + 1 < l.length), l[i].day ≤ l[i + 1].day := fun i hi => by
      have := h i (List.mem_range.mpr (by omega))
      unfold ordAt at this
      have e1 : l[i]? = some l[i] := List.getElem?_eq_getElem (by omega)
      have e2 : l[i + 1]? = some l[i + 1] := List.getElem?_eq_getElem hi
      rw [e1, e2] at this
      simpa using this
    have far : ∀ d i (hi : i + d < l.length), l[i].day ≤ (l[i + d]'hi).day := fun d => by
      induction d with
      | zero => intro i hi; exact Int.le_refl _
      | succ d ih =>
        intro i hi
        exact Int.le_trans (ih i (by omega)) (step (i + d) hi)
    unfold DaysP
    rw [List.pairwise_iff_getElem]
    intro i j hi hj hij
    rw [List.length_map] at hi hj
    simp only [List.getElem_map]
    have := far (j - i) i (by omega)
    have e : i + (j - i) = j := by omega
    simp only [e] at this
    exact this
  · intro h
    unfold DaysP at h
    rw [List.pairwise_iff_getElem] at h
    unfold ordB
    rw [List.all_eq_true]
    intro i hi
    rw [List.mem_range] at hi
    unfold ordAt
    have e1 : l[i]? = some (l[i]'(by omega)) := List.getElem?_eq_getElem (by omega)
    have e2 : l[i + 1]? = some (l[i + 1]'(by omega)) := List.getElem?_eq_getElem (by omega)
    rw [e1, e2]
    have := h i (i + 1) (by rw [List.length_map]; omega) (by rw [List.length_map]; omega) (by omega)
    simp only [List.getElem_map] at this
    exact decide_eq_true this
theorem l_split {l : List DealN} {k : Nat} (hk : k < l.length) : l = l.take k ++ l[k] :: l.drop (k + 1) := by
  rw [← List.drop_eq_getElem_cons hk, List.take_append_drop]
theorem cutL_eq {l : List DealN} {k : Nat} (hk : k < l.length) (part : Int) : cutL l k part = l.take k ++ (⟨l[k].day, l[k].who, part⟩ : DealN) :: (⟨l[k].day, l[k].who, l[k].sum - part⟩ : DealN) :: l.drop (k + 1) := by
  unfold cutL; rw [dayAt_eq hk, sumAt_eq hk]; simp [hk]
theorem cutL_days {l : List DealN} {k : Nat} (hk : k < l.length) (part : Int) (h : DaysP l) : DaysP (cutL l k part) := by
  unfold DaysP at h ⊢
  rw [l_split hk] at h
  rw [cutL_eq hk]
  simp only [List.map_append, List.map_cons, List.pairwise_append, List.pairwise_cons, List.mem_cons] at h ⊢
  obtain ⟨h1, ⟨h2, h3⟩, h4⟩ := h
  refine ⟨h1, ⟨?_, h2, h3⟩, ?_⟩
  · intro a ha
    rcases ha with rfl | ha
    · exact Int.le_refl _
    · exact h2 a ha
  · intro a ha b hb
    rcases hb with rfl | rfl | hb
    · exact h4 a ha _ (.inl rfl)
    · exact h4 a ha _ (.inl rfl)
    · exact h4 a ha b (.inr hb)
theorem set_days {l : List DealN} {k : Nat} (hk : k < l.length) (p : Int) (h : DaysP l) : DaysP (l.set k { l[k] with who := p }) := by
  unfold DaysP at h ⊢
  have : (l.set k { l[k] with who := p }).map DealN.day = l.map DealN.day := by
    rw [List.map_set]
    refine List.ext_getElem (by simp) fun i h1 h2 => ?_
    rw [List.getElem_set]
    split
    · rename_i e; subst e; simp
    · rfl
  rw [this]; exact h
theorem dealsB_iff (l : List DealN) : dealsB l = true ↔ l.length ≤ 64 ∧ (∀ d ∈ l, dealB d = true) ∧ DaysP l := by
  unfold dealsB
  rw [Bool.and_eq_true, Bool.and_eq_true, decide_eq_true_eq, List.all_eq_true, ordB_iff]
  exact and_assoc
theorem cut_deals {l : List DealN} {k : Nat} (hk : k < l.length) (hl : l.length < 64) {part : Int} (hp : 1 ≤ part ∧ part < sumAt l k) (h : dealsB l = true) : dealsB (cutL l k part) = true := by
  rw [dealsB_iff] at h ⊢
  obtain ⟨_, h2, h3⟩ := h
  refine ⟨?_, ?_, cutL_days hk part h3⟩
  · rw [cutL_eq hk]; simp; omega
  · intro d hd
    rw [cutL_eq hk] at hd
    have hkd := (dealB_iff _).1 (h2 _ (List.getElem_mem hk))
    rw [sumAt_eq hk] at hp
    simp only [List.mem_append, List.mem_cons] at hd
    rcases hd with hd | rfl | rfl | hd
    · exact h2 d (List.mem_of_mem_take hd)
    · exact (dealB_iff _).2 ⟨hkd.1, hkd.2.1, hp.1, by show part ≤ _; omega⟩
    · exact (dealB_iff _).2 ⟨hkd.1, hkd.2.1, by show 1 ≤ l[k].sum - part; omega, by show l[k].sum - part ≤ _; omega⟩
    · exact h2 d (List.mem_of_mem_drop hd)
theorem set_deals {l : List DealN} {k : Nat} (hk : k < l.length) {p : Int} (hp : 0 ≤ p ∧ p ≤ 23) (h : dealsB l = true) : dealsB (l.set k { l[k] with who := p }) = true := by
  rw [dealsB_iff] at h ⊢
  obtain ⟨h1, h2, h3⟩ := h
  refine ⟨by rw [List.length_set]; exact h1, fun d hd => ?_, set_days hk p h3⟩
  rcases List.mem_or_eq_of_mem_set hd with q | rfl
  · exact h2 d q
  · have hkd := (dealB_iff _).1 (h2 _ (List.getElem_mem hk))
    exact (dealB_iff _).2 ⟨hkd.1, hp, hkd.2.2⟩
theorem cut_sum (W : WatchN) (A : List Int) {l : List DealN} {k j : Nat} (hk : k < l.length) (hj : j < l.length) (part : Int) :
    sumW (cutL l k part) (winOf W A (cutL l k part) (if k ≤ j then j + 1 else j)) = sumW l (winOf W A l j) := by
  have hlen : (cutL l k part).length = l.length + 1 := by rw [cutL_eq hk]; simp; omega
  have hlast : (if k ≤ j then j + 1 else j) < (cutL l k part).length := by split <;> omega
  rw [winSum W A _ _ hlast, winSum W A l j hj]
  by_cases h : k ≤ j
  · rw [if_pos h] at hlast ⊢
    have hat : ∃ d : DealN, (cutL l k part)[j + 1]'hlast = d ∧ d.day = l[j].day ∧ d.who = l[j].who := by
      refine ⟨_, rfl, ?_⟩
      simp only [cutL_eq hk]
      rw [List.getElem_append_right (by rw [List.length_take]; omega)]
      simp only [List.length_take, Nat.min_eq_left (show k ≤ l.length by omega)]
      obtain ⟨m, rfl⟩ : ∃ m, j = k + m := ⟨j - k, by omega⟩
      cases m with
      | zero =>
        simp only [Nat.add_zero, show k + 1 - k = 1 by omega]
        exact ⟨rfl, rfl⟩
      | succ m =>
        simp only [show k + (m + 1) + 1 - k = m + 1 + 1 by omega, List.getElem_cons_succ, List.getElem_drop, show k + 1 + m = k + (m + 1) by omega]
        exact ⟨trivial, trivial⟩
    obtain ⟨d, hd, e1, e2⟩ := hat
    have ed : dayAt (cutL l k part) (j + 1) = dayAt l j := by rw [dayAt_eq hlast, dayAt_eq hj, hd, e1]
    have ew : leadAt A (cutL l k part) (j + 1) = leadAt A l j := by rw [leadAt_eq hlast, leadAt_eq hj, hd, e2]
    rw [ed, ew]
    have t1 : (cutL l k part).take (j + 1 + 1) = l.take k ++ (⟨l[k].day, l[k].who, part⟩ : DealN) :: (⟨l[k].day, l[k].who, l[k].sum - part⟩ : DealN) :: (l.drop (k + 1)).take (j - k) := by
      rw [cutL_eq hk, List.take_append, List.take_of_length_le (by rw [List.length_take]; omega), List.length_take, Nat.min_eq_left (by omega), show j + 1 + 1 - k = (j - k) + 1 + 1 by omega, List.take_succ_cons, List.take_succ_cons]
    have t2 : l.take (j + 1) = l.take k ++ l[k] :: (l.drop (k + 1)).take (j - k) := by
      conv => lhs; rw [l_split hk]
      rw [List.take_append, List.take_of_length_le (by rw [List.length_take]; omega), List.length_take, Nat.min_eq_left (by omega), show j + 1 - k = (j - k) + 1 by omega, List.take_succ_cons]
    rw [t1, t2]
    simp only [List.map_append, List.map_cons, List.sum_append, List.sum_cons, gW]
    split <;> omega
  · rw [if_neg h] at hlast ⊢
    have ht : (cutL l k part).take (j + 1) = l.take (j + 1) := by
      rw [cutL_eq hk, List.take_append, List.length_take, Nat.min_eq_left (by omega), show j + 1 - k = 0 by omega, List.take_zero, List.append_nil, List.take_take, Nat.min_eq_left (by omega)]
    have hat : (cutL l k part)[j]'hlast = l[j] := by
      simp only [cutL_eq hk]
      rw [List.getElem_append_left (by rw [List.length_take]; omega), List.getElem_take]
    rw [ht, dayAt_eq hlast, dayAt_eq hj, leadAt_eq hlast, leadAt_eq hj, hat]
theorem set_sum (W : WatchN) (A : List Int) {l : List DealN} {k j : Nat} (hk : k < l.length) (hj : j < l.length) {p : Int} (hp : lb A p.toNat = lb A l[k].who.toNat) :
    sumW (l.set k { l[k] with who := p }) (winOf W A (l.set k { l[k] with who := p }) j) = sumW l (winOf W A l j) := by
  have hj' : j < (l.set k { l[k] with who := p }).length := by rw [List.length_set]; exact hj
  rw [winSum W A _ _ hj', winSum W A l j hj]
  have same : ∀ i (h1 : i < (l.set k { l[k] with who := p }).length) (h2 : i < l.length), ((l.set k { l[k] with who := p })[i]).day = l[i].day ∧ lb A ((l.set k { l[k] with who := p })[i]).who.toNat = lb A l[i].who.toNat ∧ ((l.set k { l[k] with who := p })[i]).sum = l[i].sum := fun i h1 h2 => by
    rw [List.getElem_set]
    split
    · rename_i e; subst e; exact ⟨rfl, hp, rfl⟩
    · exact ⟨rfl, rfl, rfl⟩
  have ed : dayAt (l.set k { l[k] with who := p }) j = dayAt l j := by rw [dayAt_eq hj', dayAt_eq hj]; exact (same j hj' hj).1
  have ew : leadAt A (l.set k { l[k] with who := p }) j = leadAt A l j := by rw [leadAt_eq hj', leadAt_eq hj]; exact (same j hj' hj).2.1
  rw [ed, ew]
  congr 1
  refine List.ext_getElem (by simp) fun i h1 h2 => ?_
  simp only [List.getElem_map, List.getElem_take]
  have hi : i < l.length := by simp at h2; omega
  obtain ⟨a1, a2, a3⟩ := same i (by rw [List.length_set]; exact hi) hi
  unfold gW
  rw [a1, a2, a3]
theorem noSmall {l : List DealN} {W : WatchN} (h : W.small = W.sum) (L : List Nat) : smalls W l L = [] := by
  unfold smalls
  rw [List.filter_eq_nil_iff]
  intro a _ hs
  unfold smallB at hs
  rw [h, inR_iff] at hs
  omega
theorem repP_sum {l : List DealN} {W : WatchN} {A : List Int} {n : Nat} (h : W.small = W.sum) (hm : 1 ≤ W.more) (hR : RepP l W A n) : W.sum ≤ sumW l (winOf W A l n) := by
  rcases hR with q | q
  · exact q
  · rw [noSmall h] at q; simp at q; omega
end Go.Proofs
