/- This program: its code, contracts, numbers, part 5. -/
import Derived.Test.YtlilncofnckgdaaPad
import Derived.Test.YtlilncofnckgdaaPaa
import Derived.Test.YtlilncofnckgdaaNc
import Derived.Test.YtlilncofnckgdaaPac
import Derived.Test.YtlilncofnckgdaaRows
import Derived.ProofKit
import Derived.SizedLaws
set_option linter.unusedVariables false
set_option linter.unusedSimpArgs false
namespace Go.Proofs
open Go Go.RowKit Go.Sim
set_option maxRecDepth 100000
end Go.Proofs

namespace Go.Proofs
open Go Go.RowKit Go.Sim
set_option maxRecDepth 100000
theorem Try.und4 : Try.prog.underlying 4 = some .bool := by kernel_rfl
theorem given_int {w : AW} {n : Nat} {cs : List Value} (h : Hd Try.prog w n 3 cs) : ∃ x : Int, cs = icells x ∧ -9223372036854775808 ≤ x ∧ x ≤ 9223372036854775807 := by
  cases n with
  | zero => exact h.elim
  | succ n =>
    simp only [Hd, Try.und3] at h
    obtain ⟨i, rfl, h1, h2⟩ := h
    exact ⟨i, rfl, h1, h2⟩
def I64 (x : Int) : Prop := -9223372036854775808 ≤ x ∧ x ≤ 9223372036854775807
end Go.Proofs

namespace Go.Proofs
open Go Go.RowKit Go.Sim
set_option maxRecDepth 100000
theorem Try.und45 : Try.prog.underlying 45 = some (.array 3 3) := by kernel_rfl
theorem given_three {w : AW} {n : Nat} {v : Value} (h : HdV Try.prog w n 45 v) : ∃ a b c : Int, v = .agg #[.int .i64 a, .int .i64 b, .int .i64 c] ∧ I64 a ∧ I64 b ∧ I64 c := by
  simp only [HdV, Try.und45] at h
  obtain ⟨cs, rfl, h⟩ := h
  cases n with
  | zero => exact h.elim
  | succ n =>
    simp only [Hd, Try.und45] at h
    obtain ⟨parts, e, hl, hp⟩ := h
    match parts, hl with
    | [p0, p1, p2], _ =>
      obtain ⟨x0, rfl, h0⟩ := given_int (hp p0 (by simp))
      obtain ⟨x1, rfl, h1⟩ := given_int (hp p1 (by simp))
      obtain ⟨x2, rfl, h2⟩ := given_int (hp p2 (by simp))
      exact ⟨x0, x1, x2, by rw [show cs = cs.toList.toArray from rfl, e]; rfl, h0, h1, h2⟩
theorem Try.ia45 (t : Tmps) (w : AW) (x y : Operand) : fast (prg Try.prog) t w (.indexAddr 45 x y) = indexA 1 3 (ev t x) (ev t y) := fast_indexAddrA Try.ty45 Try.ty3
theorem ix3_0 (b o : Nat) : indexA 1 3 (.pointer (some ⟨b, o, none⟩)) (.int .i64 0) = some (.pointer (some ⟨b, o, none⟩)) := indexA_eq (i := 0) (by decide)
theorem ix3_1 (b o : Nat) : indexA 1 3 (.pointer (some ⟨b, o, none⟩)) (.int .i64 1) = some (.pointer (some ⟨b, o + 1, none⟩)) := indexA_eq (i := 1) (by decide)
theorem ix3_2 (b o : Nat) : indexA 1 3 (.pointer (some ⟨b, o, none⟩)) (.int .i64 2) = some (.pointer (some ⟨b, o + 2, none⟩)) := indexA_eq (i := 2) (by decide)
attribute [go_sem] Try.ia45 ix3_0 ix3_1 ix3_2
def drawnL (e : Int) (L : List Int) : List Int := if e = 0 then L else []
theorem Drawn.list {e : Int} {L : List Int} {w w' : AW} {v : Value} (h : Drawn e L w v w') : Grown w w' ∧ ∃ (p : Option Addr) (m c : Nat), v = .tuple #[.slice p m c, .int .i64 e] ∧ ArrOf w' 1 icells (.slice p m c) (drawnL e L) := by
  obtain ⟨g, p, m, c, rfl, h1, h2⟩ := h
  refine ⟨g, p, m, c, rfl, ?_⟩
  unfold drawnL
  by_cases he : e = 0
  · rw [if_pos he]; exact h2 he
  · rw [if_neg he, h1 he]; exact ArrOf.nil _ _ _
end Go.Proofs

namespace Go.Proofs
open Go Go.RowKit Go.Sim
set_option maxRecDepth 100000
theorem arr_len {w : AW} {p : Option Addr} {m c : Nat} {L : List Int} (h : ArrOf w 1 icells (.slice p m c) L) : m = L.length := by
  obtain ⟨_, _, e, _⟩ := h.open
  injection e
end Go.Proofs

namespace Go.Proofs
open Go Go.RowKit Go.Sim
set_option maxRecDepth 100000
def hitB (l : Int) (D : List Int) : Bool := D.any fun x => decide (x < l)
def missedN (n m : Nat) (l : Int) (k : Nat) : Nat := (List.range k).countP fun r => !hitB l ((ordI n r).take m)
theorem missedN_succ (n m : Nat) (l : Int) (k : Nat) : missedN n m l (k + 1) = missedN n m l k + if hitB l ((ordI n k).take m) then 0 else 1 := by
  unfold missedN
  rw [List.range_succ, List.countP_append]
  cases hb : hitB l ((ordI n k).take m) <;> simp [List.countP_cons, hb]
theorem missedN_le (n m : Nat) (l : Int) (k : Nat) : missedN n m l k ≤ k := by
  unfold missedN
  exact Nat.le_trans List.countP_le_length (by rw [List.length_range]; exact Nat.le_refl _)
theorem drawn_counts {n m l : Nat} (h1 : 1 ≤ n) (h5 : n ≤ 5) (hm : m ≤ n) (hl : l ≤ n) : missedN n m (l : Int) (fct n) * chs n m = chs (n - l) m * fct n := by
  have a1 : ∀ m, m < 2 → ∀ l, l < 2 → missedN 1 m ((l : Nat) : Int) (fct 1) * chs 1 m = chs (1 - l) m * fct 1 := by decide +kernel
  have a2 : ∀ m, m < 3 → ∀ l, l < 3 → missedN 2 m ((l : Nat) : Int) (fct 2) * chs 2 m = chs (2 - l) m * fct 2 := by decide +kernel
  have a3 : ∀ m, m < 4 → ∀ l, l < 4 → missedN 3 m ((l : Nat) : Int) (fct 3) * chs 3 m = chs (3 - l) m * fct 3 := by decide +kernel
  have a4 : ∀ m, m < 5 → ∀ l, l < 5 → missedN 4 m ((l : Nat) : Int) (fct 4) * chs 4 m = chs (4 - l) m * fct 4 := by decide +kernel
  have a5 : ∀ m, m < 6 → ∀ l, l < 6 → missedN 5 m ((l : Nat) : Int) (fct 5) * chs 5 m = chs (5 - l) m * fct 5 := by decide +kernel
  have : n = 1 ∨ n = 2 ∨ n = 3 ∨ n = 4 ∨ n = 5 := by omega
  rcases this with rfl | rfl | rfl | rfl | rfl
  · exact a1 m (by omega) l (by omega)
  · exact a2 m (by omega) l (by omega)
  · exact a3 m (by omega) l (by omega)
  · exact a4 m (by omega) l (by omega)
  · exact a5 m (by omega) l (by omega)
theorem ring_nat (x : Int) (k : Nat) (hk : 1 ≤ k) : ∃ r : Nat, r < k ∧ (if (k : Int) ≤ 0 then 0 else x % (k : Int)) = (r : Int) := by
  rw [if_neg (by omega)]
  have h0 := Int.emod_nonneg x (show (k : Int) ≠ 0 by omega)
  have h1 := Int.emod_lt_of_pos x (show (0 : Int) < (k : Int) by omega)
  exact ⟨(x % (k : Int)).toNat, by omega, by omega⟩
theorem bld24 (p q : Option Addr) (n m c d : Nat) (x : Int) : bldQ [(0, 1), (1, 1), (2, 1), (3, 1)] [Value.slice none 0 0, Value.slice none 0 0, Value.int IntKind.i64 0, Value.int IntKind.i64 0] [(0, .slice p n c), (1, .slice q m d), (2, .int .i64 x)] = some (.agg #[.slice p n c, .slice q m d, .int .i64 x, .int .i64 0]) := rfl
set_option maxHeartbeats 32000000 in
theorem drawn_law (w : AW) (xs : List Value) (f : Fresh w) (h : HdAll Try.prog w [45] xs) : CallT Try.prog Try.T1 (.fn (.func 12) #[]) xs.toArray w fun v _ => v = .bool true := by
  cases h with
  | cons n1 h1 h =>
  cases h
  rename_i v1
  obtain ⟨x0, x1, x2, rfl, _, _, _⟩ := given_three h1
  clear h1
  show CallT Try.prog Try.T1 (.fn (.func 12) #[]) #[.agg #[.int .i64 x0, .int .i64 x1, .int .i64 x2]] w _
  have g0 := (Grown.refl f).push (.cells [.int .i64 x0, .int .i64 x1, .int .i64 x2] 45 w.next 0 0)
  have O := Own.new f 45 [.int .i64 x0, .int .i64 x1, .int .i64 x2]
  have c1 := O.cell (o := 1) rfl rfl
  have c2 := O.cell (o := 2) rfl rfl
  refine callT_code rfl Try.func12 rfl Try.s12_eq rfl ?_
  unfold Try.s12
  simp -dsimp -implicitDefEqProofs (maxSteps := 2000000) (disch := first | assumption | omega | (simp only [nx]; omega) | ((repeat refine Fresh.push ?_ _); assumption) | (simp only [smA]; done) | (simp [oneCell, AW.next_push]; done) | fail) only [go_sem, Nat.reduceEqDiff, reduceIte, Nat.reduceAdd, Int.toNat_natCast, Nat.add_zero, Owes_true, Try.results12]
  generalize w.push (.cells [.int .i64 x0, .int .i64 x1, .int .i64 x2] 45 w.next 0 0) = w1 at *
  apply callV_of (e := rfl)
  · exact Ring_ok x0 5 (by omega) w1
  rintro _ _ ⟨rfl, rfl⟩
  obtain ⟨r0, hr0, e0'⟩ := ring_nat x0 5 (by omega)
  have e0' : (if (5 : Int) ≤ 0 then 0 else x0 % 5) = (r0 : Int) := e0'
  rw [e0']
  obtain ⟨n, hn⟩ : ∃ n : Nat, 1 + (r0 : Int) = (n : Int) := ⟨1 + r0, by push_cast; rfl⟩
  have hn1 : 1 ≤ n ∧ n ≤ 5 := by omega
  have hn1' : (n : Int) + 1 = ((n + 1 : Nat) : Int) := by omega
  have hle : WLe w1 w1 := (Grown.refl g0.2).1.wle g0.2
  simp -dsimp -implicitDefEqProofs (maxSteps := 2000000) (disch := first | assumption | omega | (simp only [nx]; omega) | ((repeat refine Fresh.push ?_ _); assumption) | (simp only [smA]; done) | (simp [oneCell, AW.next_push]; done) | fail) only [go_sem, Nat.reduceEqDiff, reduceIte, Nat.reduceAdd, Int.toNat_natCast, Nat.add_zero, Owes_true, Try.results12, hn, c1, c2, Nat.zero_add, hn1']
  apply callV_of (e := rfl)
  · exact Ring_ok x1 ((n + 1 : Nat) : Int) (by omega) w1
  rintro _ _ ⟨rfl, rfl⟩
  obtain ⟨m, hm, e1'⟩ := ring_nat x1 (n + 1) (by omega)
  rw [e1']
  simp -dsimp -implicitDefEqProofs (maxSteps := 2000000) (disch := first | assumption | omega | (simp only [nx]; omega) | ((repeat refine Fresh.push ?_ _); assumption) | (simp only [smA]; done) | (simp [oneCell, AW.next_push]; done) | fail) only [go_sem, Nat.reduceEqDiff, reduceIte, Nat.reduceAdd, Int.toNat_natCast, Nat.add_zero, Owes_true, Try.results12, hn, c1, c2, Nat.zero_add, hn1', hle]
  apply callV_of (e := rfl)
  · exact Ring_ok x2 ((n + 1 : Nat) : Int) (by omega) w1
  rintro _ _ ⟨rfl, rfl⟩
  obtain ⟨l, hl, e2'⟩ := ring_nat x2 (n + 1) (by omega)
  rw [e2']
  have hfl := fct_le (n := n) (by omega)
  have hfp := fct_pos n
  have q1 := g0.push (.cells [.int .i64 (n : Int)] 3 w1.next 0 0)
  have S1 := Own.new g0.2 3 [.int .i64 (n : Int)]
  have q2 := q1.push (.cells [.int .i64 1] 3 (w1.next + 1) 0 0)
  have S2 := Own.new q1.2 3 [.int .i64 1]
  rw [AW.next_push] at S2
  have S1' := S1.push (.cells [.int .i64 1] 3 (w1.next + 1) 0 0)
  have q3 := q2.push (.cells [.slice none 0 0, .slice none 0 0, .int .i64 0, .int .i64 0] 24 (w1.next + 1 + 1) 0 0)
  have S3 := Own.new q2.2 24 [.slice none 0 0, .slice none 0 0, .int .i64 0, .int .i64 0]
  simp only [AW.next_push] at S3
  have S1'' := S1'.push (.cells [.slice none 0 0, .slice none 0 0, .int .i64 0, .int .i64 0] 24 (w1.next + 1 + 1) 0 0)
  have S2' := S2.push (.cells [.slice none 0 0, .slice none 0 0, .int .i64 0, .int .i64 0] 24 (w1.next + 1 + 1) 0 0)
  have st := storeV_own (o := 0) (l := [.slice (some ⟨w1.next, 0, none⟩) 1 1, .slice (some ⟨w1.next + 1, 0, none⟩) 1 1, .int .i64 1, .int .i64 0]) (size := 4) S3 rfl (by omega) (by simp) rfl
  simp only [setsL, setL] at st
  have m3 := MutS.put (S := fun j => j = w1.next + 1 + 1) q3.2 rfl S3.lt (.cells [.slice (some ⟨w1.next, 0, none⟩) 1 1, .slice (some ⟨w1.next + 1, 0, none⟩) 1 1, .int .i64 1, .int .i64 0] 24 (w1.next + 1 + 1) 0 0)
  have S3' := S3.put [.slice (some ⟨w1.next, 0, none⟩) 1 1, .slice (some ⟨w1.next + 1, 0, none⟩) 1 1, .int .i64 1, .int .i64 0]
  have S1f := m3.own S1'' (by omega)
  have S2f := m3.own S2' (by omega)
  have hkw : Keep w.next w _ := q3.1.trans (m3.keep (fun j h => by have := g0.1.next; omega) q3.1.next)
  have hfr := m3.fresh
  simp -dsimp -implicitDefEqProofs (maxSteps := 2000000) (disch := first | assumption | omega | (simp only [nx]; omega) | ((repeat refine Fresh.push ?_ _); assumption) | (simp only [smA]; done) | (simp [oneCell, AW.next_push]; done) | fail) only [go_sem, Nat.reduceEqDiff, reduceIte, Nat.reduceAdd, Int.toNat_natCast, Nat.add_zero, Owes_true, Try.results12, hle, bld24, st]
  generalize (((w1.push (.cells [.int .i64 (n : Int)] 3 w1.next 0 0)).push (.cells [.int .i64 1] 3 (w1.next + 1) 0 0)).push (.cells [.slice none 0 0, .slice none 0 0, .int .i64 0, .int .i64 0] 24 (w1.next + 1 + 1) 0 0)).put (w1.next + 1 + 1) (.cells [.slice (some ⟨w1.next, 0, none⟩) 1 1, .slice (some ⟨w1.next + 1, 0, none⟩) 1 1, .int .i64 1, .int .i64 0] 24 (w1.next + 1 + 1) 0 0) = w2 at *
  have d0 := S3'.cell (o := 0) rfl rfl
  have d1 := S3'.cell (o := 1) rfl rfl
  have d2 := S3'.cell (o := 2) rfl rfl
  have d3 := S3'.cell (o := 3) rfl rfl
  have u1 := (Grown.refl hfr).push (.cells [.int .i64 (m : Int)] 3 w2.next 0 0)
  have T1 := Own.new hfr 3 [.int .i64 (m : Int)]
  have u2 := u1.push (.cells [.int .i64 (l : Int)] 3 (w2.next + 1) 0 0)
  have T2 := Own.new u1.2 3 [.int .i64 (l : Int)]
  rw [AW.next_push] at T2
  have T1' := T1.push (.cells [.int .i64 (l : Int)] 3 (w2.next + 1) 0 0)
  have hms := Miss_ok ⟨[(n : Int)], [1], 1, 0⟩ [(m : Int)] [(l : Int)] (some ⟨w1.next, 0, none⟩) (some ⟨w1.next + 1, 0, none⟩) 1 1 _ _ _ u2.2 (arr1 (S1f.keep u2.1)) (arr1 (S2f.keep u2.1)) (arr1 T1') (arr1 T2)
  have hE : missE ⟨[(n : Int)], [1], 1, 0⟩ [(m : Int)] [(l : Int)] = 0 := by
    have h1 : audB ⟨[(n : Int)], [1], 1, 0⟩ = true := by
      unfold audB
      simp [inR]
      omega
    have h2 : fitB [(n : Int)] [(m : Int)] = true := fitB_iff.2 ⟨rfl, fun i hi => by
      obtain rfl : i = 0 := by simpa using hi
      simp [W]; omega⟩
    have h3 : fitB [(n : Int)] [(l : Int)] = true := fitB_iff.2 ⟨rfl, fun i hi => by
      obtain rfl : i = 0 := by simpa using hi
      simp [W]; omega⟩
    unfold missE
    rw [h1]
    simp [h2, h3]
  have hV : missV ⟨[(n : Int)], [1], 1, 0⟩ [(m : Int)] [(l : Int)] = (chs (n - l) m : Int) := by
    unfold missV
    rw [hE]
    show ((1 * chs ((n : Int) - (l : Int)).toNat (m : Int).toNat : Nat) : Int) = _
    rw [Nat.one_mul, show ((n : Int) - (l : Int)).toNat = n - l by omega]; rfl
  have hW : missW ⟨[(n : Int)], [1], 1, 0⟩ [(m : Int)] [(l : Int)] = (chs n m : Int) := by
    unfold missW
    rw [hE]
    show ((1 * chs ((n : Int) - 0).toNat (m : Int).toNat : Nat) : Int) = _
    rw [Nat.one_mul, show ((n : Int) - 0).toNat = n by omega]; rfl
  rw [hE, hV, hW] at hms
  unfold audC at hms
  simp -dsimp -implicitDefEqProofs (maxSteps := 2000000) (disch := first | assumption | omega | (simp only [nx]; omega) | ((repeat refine Fresh.push ?_ _); assumption) | (simp only [smA]; done) | (simp [oneCell, AW.next_push]; done) | fail) only [go_sem, Nat.reduceEqDiff, reduceIte, Nat.reduceAdd, Int.toNat_natCast, Nat.add_zero, Owes_true, Try.results12, d0, d1, d2, d3, Nat.zero_add]
  apply callV_of (e := rfl)
  · exact hms
  rintro _ w3 ⟨rfl, g3⟩
  have d00 : decide ((0 : Int) = 0) = true := rfl
  have hk3 := hkw.trans (u2.1.mono hkw.next)
  have gw3 : Grown w w3 := ⟨hk3.trans (g3.1.mono hk3.next), g3.2⟩
  have hmc := chs_le (n := n) (k := m) (by omega) (by omega)
  have hmc2 := chs_le (n := n - l) (k := m) (by omega) (by omega)
  have hcount := drawn_counts (n := n) (m := m) (l := l) hn1.1 hn1.2 (by omega) (by omega)
  clear hms hV hW hE
  simp -dsimp -implicitDefEqProofs (maxSteps := 2000000) (disch := first | assumption | omega | (simp only [nx]; omega) | ((repeat refine Fresh.push ?_ _); assumption) | (simp only [smA]; done) | (simp [oneCell, AW.next_push]; done) | fail) only [go_sem, Nat.reduceEqDiff, reduceIte, Nat.reduceAdd, Int.toNat_natCast, Nat.add_zero, Owes_true, Try.results12, d00]
  refine loopR (fun k t ds w4 => ∃ r : Nat, r ≤ fct n ∧ k = fct n - r ∧ ds = [] ∧ ev t (.tmp 3) = .int .i64 (n : Int) ∧ ev t (.tmp 4) = .int .i64 (m : Int) ∧ ev t (.tmp 5) = .int .i64 (l : Int) ∧ ev t (.tmp 7) = .int .i64 (chs (n - l) m : Int) ∧ ev t (.tmp 8) = .int .i64 (chs n m : Int) ∧ ev t (.tmp 10) = .int .i64 (r : Int) ∧ ev t (.tmp 11) = .int .i64 (missedN n m l r : Int) ∧ ev t (.tmp 12) = .int .i64 (r : Int) ∧ Grown w w4) (fct n) ?_ ?_
  · refine ⟨0, by omega, by omega, rfl, ?_, ?_, ?_, ?_, ?_, ?_, ?_, ?_, gw3⟩ <;> simp -dsimp -implicitDefEqProofs (maxSteps := 2000000) (disch := first | assumption | omega | (simp only [nx]; omega) | ((repeat refine Fresh.push ?_ _); assumption) | (simp only [smA]; done) | (simp [oneCell, AW.next_push]; done) | fail) only [go_sem, Nat.reduceEqDiff, reduceIte, Nat.reduceAdd, Int.toNat_natCast, Nat.add_zero, Owes_true] <;> rfl
  rintro k t ds w4 ⟨r, hir, rfl, rfl, e3, e4, e5, e7, e8, e10, e11, e12, g4⟩
  have hunE : unrE (n : Int) (r : Int) = if r < fct n then 0 else 7 := by
    unfold unrE
    rw [show inR 1 (n : Int) 8 = true from (inR_iff _ _ _).2 (by omega)]
    by_cases q : r < fct n
    · rw [if_pos q, if_pos rfl, if_pos ((inR_iff _ _ _).2 ⟨by omega, by show (r : Int) ≤ (fct n : Int) - 1; omega⟩)]
    · rw [if_neg q, if_pos rfl, if_neg (fun h => by have := (inR_iff _ _ _).1 h; have h2 : (r : Int) ≤ (fct n : Int) - 1 := this.2; omega)]
  have hmn := missedN_le n m (l : Int) r
  simp -dsimp -implicitDefEqProofs (maxSteps := 2000000) (disch := first | assumption | omega | (simp only [nx]; omega) | ((repeat refine Fresh.push ?_ _); assumption) | (simp only [smA]; done) | (simp [oneCell, AW.next_push]; done) | fail) only [go_sem, Nat.reduceEqDiff, reduceIte, Nat.reduceAdd, Int.toNat_natCast, Nat.add_zero, Owes_true, Try.results12, e3, e4, e5, e7, e8, e10, e11, e12]
  apply callV_of (e := rfl)
  · exact Unrank_okR (n : Int) (r : Int) w4 g4.2
  rintro _ w5 ⟨g5, py, my, cy, rfl, _, hyA, _⟩
  rw [hunE] at hyA ⊢
  by_cases hr : r < fct n
  case neg =>
    obtain rfl : r = fct n := by omega
    rw [if_neg hr]
    have d7 : decide ((7 : Int) = 0) = false := rfl
    have dg : decide ((fct n : Int) > 0) = true := decide_eq_true (by omega)
    have dg' : (0 : Int) < (fct n : Int) := by omega
    have hp1 : (missedN n m (l : Int) (fct n) : Int) * (chs n m : Int) = ((missedN n m (l : Int) (fct n) * chs n m : Nat) : Int) := by push_cast; rfl
    have hp2 : (chs (n - l) m : Int) * (fct n : Int) = ((chs (n - l) m * fct n : Nat) : Int) := by push_cast; rfl
    have hb1 : missedN n m (l : Int) (fct n) * chs n m ≤ 40320 * 70 := Nat.mul_le_mul (by omega) hmc
    have hb2 : chs (n - l) m * fct n ≤ 70 * 40320 := Nat.mul_le_mul hmc2 hfl
    rw [← hcount] at hp2
    generalize missedN n m (l : Int) (fct n) * chs n m = z at *
    have dz : decide ((z : Int) = (z : Int)) = true := decide_eq_true rfl
    simp -dsimp -implicitDefEqProofs (maxSteps := 2000000) (disch := first | assumption | omega | (simp only [nx]; omega) | ((repeat refine Fresh.push ?_ _); assumption) | (simp only [smA]; done) | (simp [oneCell, AW.next_push]; done) | fail) only [go_sem, Nat.reduceEqDiff, reduceIte, Nat.reduceAdd, Int.toNat_natCast, Nat.add_zero, Owes_true, Try.results12, e3, e4, e5, e7, e8, e10, e11, e12, d7, dg, dg', hp1, hp2, dz]
    apply callV_of (e := rfl)
    · exact callT_told (Q := fun v w' => v = .bool true ∧ w5 = w') (v := .bool true) (w' := w5) rfl ⟨rfl, rfl⟩
    rintro _ _ ⟨rfl, rfl⟩
    simp -dsimp -implicitDefEqProofs (maxSteps := 2000000) (disch := first | assumption | omega | (simp only [nx]; omega) | ((repeat refine Fresh.push ?_ _); assumption) | (simp only [smA]; done) | (simp [oneCell, AW.next_push]; done) | fail) only [go_sem, Nat.reduceEqDiff, reduceIte, Nat.reduceAdd, Int.toNat_natCast, Nat.add_zero, Owes_true, Try.results12]
  rw [if_pos hr] at hyA ⊢
  have hyA : ArrOf w5 1 icells (.slice py my cy) (ordI n r) := hyA rfl
  have hol := ordI_len n r
  obtain rfl := arr_len hyA
  have hle120 : ¬ (r : Int) > 120 := by
    have : fct n ≤ 120 := by
      have : n = 1 ∨ n = 2 ∨ n = 3 ∨ n = 4 ∨ n = 5 := by omega
      rcases this with rfl | rfl | rfl | rfl | rfl <;> decide
    omega
  have d120 : decide ((r : Int) > 120) = false := decide_eq_false hle120
  have d120' : ¬ (120 : Int) < (r : Int) := hle120
  have v1 := (Grown.refl g5.2).push (.cells [.int .i64 (r : Int)] 3 w5.next 0 0)
  have R1 := Own.new g5.2 3 [.int .i64 (r : Int)]
  simp -dsimp -implicitDefEqProofs (maxSteps := 2000000) (disch := first | assumption | omega | (simp only [nx]; omega) | ((repeat refine Fresh.push ?_ _); assumption) | (simp only [smA]; done) | (simp [oneCell, AW.next_push]; done) | fail) only [go_sem, Nat.reduceEqDiff, reduceIte, Nat.reduceAdd, Int.toNat_natCast, Nat.add_zero, Owes_true, Try.results12, e3, e4, e5, e7, e8, e10, e11, e12, d00, d120, d120']
  apply callV_of (e := rfl)
  · exact Draw_ok (n : Int) (m : Int) [(r : Int)] _ _ v1.2 (arr1 R1)
  rintro _ w6 hD6
  obtain ⟨g6, p6, m6, c6, rfl, hA6⟩ := hD6.list
  have hdE : drawE (n : Int) (m : Int) [(r : Int)] = 0 := by
    have hsd : seedB (n : Int) [(r : Int)] = true := by
      unfold seedB
      rw [show inR 1 (n : Int) 8 = true from (inR_iff _ _ _).2 (by omega)]
      have : inR 0 (r : Int) ((fct n : Int) - 1) = true := (inR_iff _ _ _).2 (by omega)
      show (true && (true && ([(r : Int)].all fun x => inR 0 x ((fct n : Int) - 1)))) = true
      simp [this]
    unfold drawE
    rw [hsd, show inR 0 (m : Int) (n : Int) = true from (inR_iff _ _ _).2 (by omega)]; rfl
  have hdL : drawL (n : Int) (m : Int) [(r : Int)] = (ordI n r).take m := by
    unfold drawL
    show (ordI n (([(r : Int)].sum).toNat % fct n)).take m = _
    rw [show ([(r : Int)].sum).toNat = r by simp, Nat.mod_eq_of_lt hr]
  rw [hdE] at hA6 ⊢
  have hA6 : ArrOf w6 1 icells (.slice p6 m6 c6) (drawL (n : Int) (m : Int) [(r : Int)]) := hA6
  rw [hdL] at hA6
  have htl : ((ordI n r).take m).length = m := by rw [List.length_take, hol]; omega
  have hm6 := arr_len hA6
  rw [htl] at hm6
  subst hm6
  have g46 := g5.trans (v1.trans g6)
  have dm : decide ((m6 : Int) = (m6 : Int)) = true := decide_eq_true rfl
  have dol : decide (((ordI n r).length : Int) = (n : Int)) = true := decide_eq_true (by rw [hol])
  obtain ⟨D, hD⟩ : ∃ D, D = (ordI n r).take m6 := ⟨_, rfl⟩
  rw [← hD] at hA6 htl
  have hns := missedN_succ n m6 (l : Int) r
  rw [← hD] at hns
  obtain ⟨_, _, epd, _, _, had⟩ := hA6.open
  injection epd with epd1 epd2 epd3
  subst epd1 epd3
  simp -dsimp -implicitDefEqProofs (maxSteps := 2000000) (disch := first | assumption | omega | (simp only [nx]; omega) | ((repeat refine Fresh.push ?_ _); assumption) | (simp only [smA]; done) | (simp [oneCell, AW.next_push]; done) | fail) only [go_sem, Nat.reduceEqDiff, reduceIte, Nat.reduceAdd, Int.toNat_natCast, Nat.add_zero, Owes_true, Try.results12, e3, e4, e5, e7, e8, e10, e11, e12, d00, dm, dol]
  refine loopR (fun k t ds w7 => ∃ i : Nat, i ≤ m6 ∧ k = m6 - i ∧ ds = [] ∧ ev t (.tmp 3) = .int .i64 (n : Int) ∧ ev t (.tmp 4) = .int .i64 (m6 : Int) ∧ ev t (.tmp 5) = .int .i64 (l : Int) ∧ ev t (.tmp 7) = .int .i64 (chs (n - l) m6 : Int) ∧ ev t (.tmp 8) = .int .i64 (chs n m6 : Int) ∧ ev t (.tmp 10) = .int .i64 (r : Int) ∧ ev t (.tmp 11) = .int .i64 (missedN n m6 l r : Int) ∧ ev t (.tmp 12) = .int .i64 (r : Int) ∧ ev t (.tmp 15) = .slice p6 m6 c6 ∧ ev t (.tmp 16) = .bool (hitB (l : Int) (D.take i)) ∧ ev t (.tmp 17) = .int .i64 (i : Int) ∧ w6 = w7) (m6) ?_ ?_
  · refine ⟨0, by omega, by omega, rfl, ?_, ?_, ?_, ?_, ?_, ?_, ?_, ?_, ?_, ?_, ?_, rfl⟩ <;> simp -dsimp -implicitDefEqProofs (maxSteps := 2000000) (disch := first | assumption | omega | (simp only [nx]; omega) | ((repeat refine Fresh.push ?_ _); assumption) | (simp only [smA]; done) | (simp [oneCell, AW.next_push]; done) | fail) only [go_sem, Nat.reduceEqDiff, reduceIte, Nat.reduceAdd, Int.toNat_natCast, Nat.add_zero, Owes_true, e3, e4, e5, e7, e8, e10, e11, e12] <;> rfl
  rintro k t ds w7 ⟨i, hii, rfl, rfl, e3, e4, e5, e7, e8, e10, e11, e12, e15, e16, e17, hw⟩
  subst hw
  by_cases hlt : (i : Int) < (m6 : Int)
  case pos =>
    have hlt' : i < D.length := by omega
    obtain ⟨b1, o1, rfl, hb1, hcell⟩ := had i hlt'
    have a0 := hcell w6 (.refl _ _) 0 _ rfl
    rw [Nat.add_zero] at a0
    have hhs : hitB (l : Int) (D.take (i + 1)) = (hitB (l : Int) (D.take i) || decide (D[i] < (l : Int))) := by
      unfold hitB
      rw [List.take_succ_eq_append_getElem hlt', List.any_append]; simp
    cases hq : hitB (l : Int) (D.take i) with
    | true =>
      rw [hq, Bool.true_or] at hhs
      simp -dsimp -implicitDefEqProofs (maxSteps := 2000000) (disch := first | assumption | omega | (simp only [nx]; omega) | ((repeat refine Fresh.push ?_ _); assumption) | (simp only [smA]; done) | (simp [oneCell, AW.next_push]; done) | fail) only [go_sem, Nat.reduceEqDiff, reduceIte, Nat.reduceAdd, Int.toNat_natCast, Nat.add_zero, Owes_true, Try.results12, e3, e4, e5, e7, e8, e10, e11, e12, e15, e16, e17, hlt, hq]
      refine ⟨_, by omega, i + 1, by omega, rfl, rfl, by (simp -dsimp -implicitDefEqProofs (maxSteps := 2000000) (disch := first | assumption | omega | (simp only [nx]; omega) | ((repeat refine Fresh.push ?_ _); assumption) | (simp only [smA]; done) | (simp [oneCell, AW.next_push]; done) | fail) only [go_sem, Nat.reduceEqDiff, reduceIte, Nat.reduceAdd, Int.toNat_natCast, Nat.add_zero, Owes_true, e3, hhs]; try rfl), by (simp -dsimp -implicitDefEqProofs (maxSteps := 2000000) (disch := first | assumption | omega | (simp only [nx]; omega) | ((repeat refine Fresh.push ?_ _); assumption) | (simp only [smA]; done) | (simp [oneCell, AW.next_push]; done) | fail) only [go_sem, Nat.reduceEqDiff, reduceIte, Nat.reduceAdd, Int.toNat_natCast, Nat.add_zero, Owes_true, e4, hhs]; try rfl), by (simp -dsimp -implicitDefEqProofs (maxSteps := 2000000) (disch := first | assumption | omega | (simp only [nx]; omega) | ((repeat refine Fresh.push ?_ _); assumption) | (simp only [smA]; done) | (simp [oneCell, AW.next_push]; done) | fail) only [go_sem, Nat.reduceEqDiff, reduceIte, Nat.reduceAdd, Int.toNat_natCast, Nat.add_zero, Owes_true, e5, hhs]; try rfl), by (simp -dsimp -implicitDefEqProofs (maxSteps := 2000000) (disch := first | assumption | omega | (simp only [nx]; omega) | ((repeat refine Fresh.push ?_ _); assumption) | (simp only [smA]; done) | (simp [oneCell, AW.next_push]; done) | fail) only [go_sem, Nat.reduceEqDiff, reduceIte, Nat.reduceAdd, Int.toNat_natCast, Nat.add_zero, Owes_true, e7, hhs]; try rfl), by (simp -dsimp -implicitDefEqProofs (maxSteps := 2000000) (disch := first | assumption | omega | (simp only [nx]; omega) | ((repeat refine Fresh.push ?_ _); assumption) | (simp only [smA]; done) | (simp [oneCell, AW.next_push]; done) | fail) only [go_sem, Nat.reduceEqDiff, reduceIte, Nat.reduceAdd, Int.toNat_natCast, Nat.add_zero, Owes_true, e8, hhs]; try rfl), by (simp -dsimp -implicitDefEqProofs (maxSteps := 2000000) (disch := first | assumption | omega | (simp only [nx]; omega) | ((repeat refine Fresh.push ?_ _); assumption) | (simp only [smA]; done) | (simp [oneCell, AW.next_push]; done) | fail) only [go_sem, Nat.reduceEqDiff, reduceIte, Nat.reduceAdd, Int.toNat_natCast, Nat.add_zero, Owes_true, e10, hhs]; try rfl), by (simp -dsimp -implicitDefEqProofs (maxSteps := 2000000) (disch := first | assumption | omega | (simp only [nx]; omega) | ((repeat refine Fresh.push ?_ _); assumption) | (simp only [smA]; done) | (simp [oneCell, AW.next_push]; done) | fail) only [go_sem, Nat.reduceEqDiff, reduceIte, Nat.reduceAdd, Int.toNat_natCast, Nat.add_zero, Owes_true, e11, hhs]; try rfl), by (simp -dsimp -implicitDefEqProofs (maxSteps := 2000000) (disch := first | assumption | omega | (simp only [nx]; omega) | ((repeat refine Fresh.push ?_ _); assumption) | (simp only [smA]; done) | (simp [oneCell, AW.next_push]; done) | fail) only [go_sem, Nat.reduceEqDiff, reduceIte, Nat.reduceAdd, Int.toNat_natCast, Nat.add_zero, Owes_true, e12, hhs]; try rfl), by (simp -dsimp -implicitDefEqProofs (maxSteps := 2000000) (disch := first | assumption | omega | (simp only [nx]; omega) | ((repeat refine Fresh.push ?_ _); assumption) | (simp only [smA]; done) | (simp [oneCell, AW.next_push]; done) | fail) only [go_sem, Nat.reduceEqDiff, reduceIte, Nat.reduceAdd, Int.toNat_natCast, Nat.add_zero, Owes_true, e15, hhs]; try rfl), by (simp -dsimp -implicitDefEqProofs (maxSteps := 2000000) (disch := first | assumption | omega | (simp only [nx]; omega) | ((repeat refine Fresh.push ?_ _); assumption) | (simp only [smA]; done) | (simp [oneCell, AW.next_push]; done) | fail) only [go_sem, Nat.reduceEqDiff, reduceIte, Nat.reduceAdd, Int.toNat_natCast, Nat.add_zero, Owes_true, e16, hhs]; try rfl), by (simp -dsimp -implicitDefEqProofs (maxSteps := 2000000) (disch := first | assumption | omega | (simp only [nx]; omega) | ((repeat refine Fresh.push ?_ _); assumption) | (simp only [smA]; done) | (simp [oneCell, AW.next_push]; done) | fail) only [go_sem, Nat.reduceEqDiff, reduceIte, Nat.reduceAdd, Int.toNat_natCast, Nat.add_zero, Owes_true, e17, hhs]; try rfl), rfl⟩
    | false =>
      rw [hq, Bool.false_or] at hhs
      simp -dsimp -implicitDefEqProofs (maxSteps := 2000000) (disch := first | assumption | omega | (simp only [nx]; omega) | ((repeat refine Fresh.push ?_ _); assumption) | (simp only [smA]; done) | (simp [oneCell, AW.next_push]; done) | fail) only [go_sem, Nat.reduceEqDiff, reduceIte, Nat.reduceAdd, Int.toNat_natCast, Nat.add_zero, Owes_true, Try.results12, e3, e4, e5, e7, e8, e10, e11, e12, e15, e16, e17, hlt, hq, indexV_eq, a0]
      refine ⟨_, by omega, i + 1, by omega, rfl, rfl, by (simp -dsimp -implicitDefEqProofs (maxSteps := 2000000) (disch := first | assumption | omega | (simp only [nx]; omega) | ((repeat refine Fresh.push ?_ _); assumption) | (simp only [smA]; done) | (simp [oneCell, AW.next_push]; done) | fail) only [go_sem, Nat.reduceEqDiff, reduceIte, Nat.reduceAdd, Int.toNat_natCast, Nat.add_zero, Owes_true, e3, hhs]; try rfl), by (simp -dsimp -implicitDefEqProofs (maxSteps := 2000000) (disch := first | assumption | omega | (simp only [nx]; omega) | ((repeat refine Fresh.push ?_ _); assumption) | (simp only [smA]; done) | (simp [oneCell, AW.next_push]; done) | fail) only [go_sem, Nat.reduceEqDiff, reduceIte, Nat.reduceAdd, Int.toNat_natCast, Nat.add_zero, Owes_true, e4, hhs]; try rfl), by (simp -dsimp -implicitDefEqProofs (maxSteps := 2000000) (disch := first | assumption | omega | (simp only [nx]; omega) | ((repeat refine Fresh.push ?_ _); assumption) | (simp only [smA]; done) | (simp [oneCell, AW.next_push]; done) | fail) only [go_sem, Nat.reduceEqDiff, reduceIte, Nat.reduceAdd, Int.toNat_natCast, Nat.add_zero, Owes_true, e5, hhs]; try rfl), by (simp -dsimp -implicitDefEqProofs (maxSteps := 2000000) (disch := first | assumption | omega | (simp only [nx]; omega) | ((repeat refine Fresh.push ?_ _); assumption) | (simp only [smA]; done) | (simp [oneCell, AW.next_push]; done) | fail) only [go_sem, Nat.reduceEqDiff, reduceIte, Nat.reduceAdd, Int.toNat_natCast, Nat.add_zero, Owes_true, e7, hhs]; try rfl), by (simp -dsimp -implicitDefEqProofs (maxSteps := 2000000) (disch := first | assumption | omega | (simp only [nx]; omega) | ((repeat refine Fresh.push ?_ _); assumption) | (simp only [smA]; done) | (simp [oneCell, AW.next_push]; done) | fail) only [go_sem, Nat.reduceEqDiff, reduceIte, Nat.reduceAdd, Int.toNat_natCast, Nat.add_zero, Owes_true, e8, hhs]; try rfl), by (simp -dsimp -implicitDefEqProofs (maxSteps := 2000000) (disch := first | assumption | omega | (simp only [nx]; omega) | ((repeat refine Fresh.push ?_ _); assumption) | (simp only [smA]; done) | (simp [oneCell, AW.next_push]; done) | fail) only [go_sem, Nat.reduceEqDiff, reduceIte, Nat.reduceAdd, Int.toNat_natCast, Nat.add_zero, Owes_true, e10, hhs]; try rfl), by (simp -dsimp -implicitDefEqProofs (maxSteps := 2000000) (disch := first | assumption | omega | (simp only [nx]; omega) | ((repeat refine Fresh.push ?_ _); assumption) | (simp only [smA]; done) | (simp [oneCell, AW.next_push]; done) | fail) only [go_sem, Nat.reduceEqDiff, reduceIte, Nat.reduceAdd, Int.toNat_natCast, Nat.add_zero, Owes_true, e11, hhs]; try rfl), by (simp -dsimp -implicitDefEqProofs (maxSteps := 2000000) (disch := first | assumption | omega | (simp only [nx]; omega) | ((repeat refine Fresh.push ?_ _); assumption) | (simp only [smA]; done) | (simp [oneCell, AW.next_push]; done) | fail) only [go_sem, Nat.reduceEqDiff, reduceIte, Nat.reduceAdd, Int.toNat_natCast, Nat.add_zero, Owes_true, e12, hhs]; try rfl), by (simp -dsimp -implicitDefEqProofs (maxSteps := 2000000) (disch := first | assumption | omega | (simp only [nx]; omega) | ((repeat refine Fresh.push ?_ _); assumption) | (simp only [smA]; done) | (simp [oneCell, AW.next_push]; done) | fail) only [go_sem, Nat.reduceEqDiff, reduceIte, Nat.reduceAdd, Int.toNat_natCast, Nat.add_zero, Owes_true, e15, hhs]; try rfl), by (simp -dsimp -implicitDefEqProofs (maxSteps := 2000000) (disch := first | assumption | omega | (simp only [nx]; omega) | ((repeat refine Fresh.push ?_ _); assumption) | (simp only [smA]; done) | (simp [oneCell, AW.next_push]; done) | fail) only [go_sem, Nat.reduceEqDiff, reduceIte, Nat.reduceAdd, Int.toNat_natCast, Nat.add_zero, Owes_true, e16, hhs]; try rfl), by (simp -dsimp -implicitDefEqProofs (maxSteps := 2000000) (disch := first | assumption | omega | (simp only [nx]; omega) | ((repeat refine Fresh.push ?_ _); assumption) | (simp only [smA]; done) | (simp [oneCell, AW.next_push]; done) | fail) only [go_sem, Nat.reduceEqDiff, reduceIte, Nat.reduceAdd, Int.toNat_natCast, Nat.add_zero, Owes_true, e17, hhs]; try rfl), rfl⟩
  obtain rfl : i = m6 := by omega
  rw [List.take_of_length_le (by omega)] at e16
  have hadd : (missedN n i (l : Int) r : Int) + 1 = ((missedN n i (l : Int) r + 1 : Nat) : Int) := by push_cast; rfl
  cases hq : hitB (l : Int) D with
  | true =>
    rw [hq, if_pos rfl, Nat.add_zero] at hns
    simp -dsimp -implicitDefEqProofs (maxSteps := 2000000) (disch := first | assumption | omega | (simp only [nx]; omega) | ((repeat refine Fresh.push ?_ _); assumption) | (simp only [smA]; done) | (simp [oneCell, AW.next_push]; done) | fail) only [go_sem, Nat.reduceEqDiff, reduceIte, Nat.reduceAdd, Int.toNat_natCast, Nat.add_zero, Owes_true, Try.results12, e3, e4, e5, e7, e8, e10, e11, e12, e15, e16, e17, hlt, hq]
    refine ⟨_, by omega, r + 1, by omega, rfl, rfl, by (simp -dsimp -implicitDefEqProofs (maxSteps := 2000000) (disch := first | assumption | omega | (simp only [nx]; omega) | ((repeat refine Fresh.push ?_ _); assumption) | (simp only [smA]; done) | (simp [oneCell, AW.next_push]; done) | fail) only [go_sem, Nat.reduceEqDiff, reduceIte, Nat.reduceAdd, Int.toNat_natCast, Nat.add_zero, Owes_true, e3, hns]; try rfl), by (simp -dsimp -implicitDefEqProofs (maxSteps := 2000000) (disch := first | assumption | omega | (simp only [nx]; omega) | ((repeat refine Fresh.push ?_ _); assumption) | (simp only [smA]; done) | (simp [oneCell, AW.next_push]; done) | fail) only [go_sem, Nat.reduceEqDiff, reduceIte, Nat.reduceAdd, Int.toNat_natCast, Nat.add_zero, Owes_true, e4, hns]; try rfl), by (simp -dsimp -implicitDefEqProofs (maxSteps := 2000000) (disch := first | assumption | omega | (simp only [nx]; omega) | ((repeat refine Fresh.push ?_ _); assumption) | (simp only [smA]; done) | (simp [oneCell, AW.next_push]; done) | fail) only [go_sem, Nat.reduceEqDiff, reduceIte, Nat.reduceAdd, Int.toNat_natCast, Nat.add_zero, Owes_true, e5, hns]; try rfl), by (simp -dsimp -implicitDefEqProofs (maxSteps := 2000000) (disch := first | assumption | omega | (simp only [nx]; omega) | ((repeat refine Fresh.push ?_ _); assumption) | (simp only [smA]; done) | (simp [oneCell, AW.next_push]; done) | fail) only [go_sem, Nat.reduceEqDiff, reduceIte, Nat.reduceAdd, Int.toNat_natCast, Nat.add_zero, Owes_true, e7, hns]; try rfl), by (simp -dsimp -implicitDefEqProofs (maxSteps := 2000000) (disch := first | assumption | omega | (simp only [nx]; omega) | ((repeat refine Fresh.push ?_ _); assumption) | (simp only [smA]; done) | (simp [oneCell, AW.next_push]; done) | fail) only [go_sem, Nat.reduceEqDiff, reduceIte, Nat.reduceAdd, Int.toNat_natCast, Nat.add_zero, Owes_true, e8, hns]; try rfl), by (simp -dsimp -implicitDefEqProofs (maxSteps := 2000000) (disch := first | assumption | omega | (simp only [nx]; omega) | ((repeat refine Fresh.push ?_ _); assumption) | (simp only [smA]; done) | (simp [oneCell, AW.next_push]; done) | fail) only [go_sem, Nat.reduceEqDiff, reduceIte, Nat.reduceAdd, Int.toNat_natCast, Nat.add_zero, Owes_true, e10, hns]; try rfl), by (simp -dsimp -implicitDefEqProofs (maxSteps := 2000000) (disch := first | assumption | omega | (simp only [nx]; omega) | ((repeat refine Fresh.push ?_ _); assumption) | (simp only [smA]; done) | (simp [oneCell, AW.next_push]; done) | fail) only [go_sem, Nat.reduceEqDiff, reduceIte, Nat.reduceAdd, Int.toNat_natCast, Nat.add_zero, Owes_true, e11, hns]; try rfl), by (simp -dsimp -implicitDefEqProofs (maxSteps := 2000000) (disch := first | assumption | omega | (simp only [nx]; omega) | ((repeat refine Fresh.push ?_ _); assumption) | (simp only [smA]; done) | (simp [oneCell, AW.next_push]; done) | fail) only [go_sem, Nat.reduceEqDiff, reduceIte, Nat.reduceAdd, Int.toNat_natCast, Nat.add_zero, Owes_true, e12, hns]; try rfl), g4.trans g46⟩
  | false =>
    have hns' : missedN n i (l : Int) (r + 1) = missedN n i (l : Int) r + 1 := by rw [hns, hq]; rfl
    simp -dsimp -implicitDefEqProofs (maxSteps := 2000000) (disch := first | assumption | omega | (simp only [nx]; omega) | ((repeat refine Fresh.push ?_ _); assumption) | (simp only [smA]; done) | (simp [oneCell, AW.next_push]; done) | fail) only [go_sem, Nat.reduceEqDiff, reduceIte, Nat.reduceAdd, Int.toNat_natCast, Nat.add_zero, Owes_true, Try.results12, e3, e4, e5, e7, e8, e10, e11, e12, e15, e16, e17, hlt, hq]
    refine ⟨_, by omega, r + 1, by omega, rfl, rfl, by (simp -dsimp -implicitDefEqProofs (maxSteps := 2000000) (disch := first | assumption | omega | (simp only [nx]; omega) | ((repeat refine Fresh.push ?_ _); assumption) | (simp only [smA]; done) | (simp [oneCell, AW.next_push]; done) | fail) only [go_sem, Nat.reduceEqDiff, reduceIte, Nat.reduceAdd, Int.toNat_natCast, Nat.add_zero, Owes_true, e3, hns']; try rfl), by (simp -dsimp -implicitDefEqProofs (maxSteps := 2000000) (disch := first | assumption | omega | (simp only [nx]; omega) | ((repeat refine Fresh.push ?_ _); assumption) | (simp only [smA]; done) | (simp [oneCell, AW.next_push]; done) | fail) only [go_sem, Nat.reduceEqDiff, reduceIte, Nat.reduceAdd, Int.toNat_natCast, Nat.add_zero, Owes_true, e4, hns']; try rfl), by (simp -dsimp -implicitDefEqProofs (maxSteps := 2000000) (disch := first | assumption | omega | (simp only [nx]; omega) | ((repeat refine Fresh.push ?_ _); assumption) | (simp only [smA]; done) | (simp [oneCell, AW.next_push]; done) | fail) only [go_sem, Nat.reduceEqDiff, reduceIte, Nat.reduceAdd, Int.toNat_natCast, Nat.add_zero, Owes_true, e5, hns']; try rfl), by (simp -dsimp -implicitDefEqProofs (maxSteps := 2000000) (disch := first | assumption | omega | (simp only [nx]; omega) | ((repeat refine Fresh.push ?_ _); assumption) | (simp only [smA]; done) | (simp [oneCell, AW.next_push]; done) | fail) only [go_sem, Nat.reduceEqDiff, reduceIte, Nat.reduceAdd, Int.toNat_natCast, Nat.add_zero, Owes_true, e7, hns']; try rfl), by (simp -dsimp -implicitDefEqProofs (maxSteps := 2000000) (disch := first | assumption | omega | (simp only [nx]; omega) | ((repeat refine Fresh.push ?_ _); assumption) | (simp only [smA]; done) | (simp [oneCell, AW.next_push]; done) | fail) only [go_sem, Nat.reduceEqDiff, reduceIte, Nat.reduceAdd, Int.toNat_natCast, Nat.add_zero, Owes_true, e8, hns']; try rfl), by (simp -dsimp -implicitDefEqProofs (maxSteps := 2000000) (disch := first | assumption | omega | (simp only [nx]; omega) | ((repeat refine Fresh.push ?_ _); assumption) | (simp only [smA]; done) | (simp [oneCell, AW.next_push]; done) | fail) only [go_sem, Nat.reduceEqDiff, reduceIte, Nat.reduceAdd, Int.toNat_natCast, Nat.add_zero, Owes_true, e10, hns']; try rfl), by (simp -dsimp -implicitDefEqProofs (maxSteps := 2000000) (disch := first | assumption | omega | (simp only [nx]; omega) | ((repeat refine Fresh.push ?_ _); assumption) | (simp only [smA]; done) | (simp [oneCell, AW.next_push]; done) | fail) only [go_sem, Nat.reduceEqDiff, reduceIte, Nat.reduceAdd, Int.toNat_natCast, Nat.add_zero, Owes_true, e11, hns']; try rfl), by (simp -dsimp -implicitDefEqProofs (maxSteps := 2000000) (disch := first | assumption | omega | (simp only [nx]; omega) | ((repeat refine Fresh.push ?_ _); assumption) | (simp only [smA]; done) | (simp [oneCell, AW.next_push]; done) | fail) only [go_sem, Nat.reduceEqDiff, reduceIte, Nat.reduceAdd, Int.toNat_natCast, Nat.add_zero, Owes_true, e12, hns']; try rfl), g4.trans g46⟩
end Go.Proofs

namespace Go.Proofs
open Go Go.RowKit Go.Sim Go.ChangeShapes Go.WideShapes Go.ChangeAt
set_option maxRecDepth 100000
theorem Try.own : ownKnob Try.prog.godebug = none := by kernel_rfl
theorem Try.laidOut : laidOutB Try.prog = true := by kernel_rfl
end Go.Proofs
