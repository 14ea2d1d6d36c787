/- Contracts of words, parts, Portions. -/
import Derived.Test.YtbmgalmnjaimeaaPb
import Derived.Test.YtbmgalmnjaimeaaTa
import Derived.Test.YtbmgalmnjaimeaaTd
import Derived.Test.YtbmgalmnjaimeaaSh
set_option linter.unusedVariables false
set_option linter.unusedSimpArgs false
namespace Go.Proofs
open Go Go.RowKit Go.Sim
set_option maxRecDepth 100000
def letB (b : Int) : Bool := decide (97 ≤ b) && decide (b ≤ 122)
def digB (b : Int) : Bool := decide (48 ≤ b) && decide (b ≤ 57)
def byteAt (s : ByteArray) (n : Nat) : Int := if h : n < s.size then ((s[n]'h).toNat : Int) else 0
theorem byteAt_eq {s : ByteArray} {n : Nat} (h : n < s.size) : ((s[n]'h).toNat : Int) = byteAt s n := by rw [byteAt, dif_pos h]
def chB (b : Int) : Bool := letB b || digB b || decide (b = 45)
def chTo (s : ByteArray) (n : Nat) : Bool := (List.range n).all fun k => chB (byteAt s k)
theorem chTo_succ (s : ByteArray) (n : Nat) : chTo s (n + 1) = (chTo s n && chB (byteAt s n)) := by simp [chTo, List.range_succ]
theorem chTo_bad {s : ByteArray} {n m : Nat} (hn : n < m) (hb : chB (byteAt s n) = false) : chTo s m = false := by
  rw [chTo, List.all_eq_false]; exact ⟨n, List.mem_range.mpr hn, by rw [hb]; simp⟩
def wordB (s : ByteArray) : Bool := decide (1 ≤ s.size) && decide (s.size ≤ 16) && letB (byteAt s 0) && chTo s s.size
theorem isLetter_ok (b : Int) (w : AW) : CallT Try.prog Try.T1 (.fn (.func 115) #[]) #[.int .u8 b] w (Ret (.bool (letB b)) fun w' => w = w') := by
  refine callT_code rfl Try.func115 rfl Try.s115_eq rfl ?_
  unfold Try.s115
  by_cases h : 97 ≤ b
  all_goals
    simp -dsimp -implicitDefEqProofs (maxSteps := 2000000) (disch := first | assumption | omega | (simp only [nx]; omega) | ((repeat refine Fresh.push ?_ _); assumption) | (simp only [smA]; done) | (simp [oneCell, AW.next_push]; done) | fail) only [go_sem, Nat.reduceEqDiff, reduceIte, Nat.reduceAdd, Int.toNat_natCast, Nat.add_zero, Owes_true, Try.results115, h]
    exact ⟨by simp [letB, h], rfl⟩
theorem isDigit_ok (b : Int) (w : AW) : CallT Try.prog Try.T1 (.fn (.func 116) #[]) #[.int .u8 b] w (Ret (.bool (digB b)) fun w' => w = w') := by
  refine callT_code rfl Try.func116 rfl Try.s116_eq rfl ?_
  unfold Try.s116
  by_cases h : 48 ≤ b
  all_goals
    simp -dsimp -implicitDefEqProofs (maxSteps := 2000000) (disch := first | assumption | omega | (simp only [nx]; omega) | ((repeat refine Fresh.push ?_ _); assumption) | (simp only [smA]; done) | (simp [oneCell, AW.next_push]; done) | fail) only [go_sem, Nat.reduceEqDiff, reduceIte, Nat.reduceAdd, Int.toNat_natCast, Nat.add_zero, Owes_true, Try.results116, h]
    exact ⟨by simp [digB, h], rfl⟩
theorem isWord_ok (s : ByteArray) (w : AW) : CallT Try.prog Try.T1 (.fn (.func 95) #[]) #[.string s] w (Ret (.bool (wordB s)) fun w' => w = w') := by
  refine callT_code rfl Try.func95 rfl Try.s95_eq rfl ?_
  unfold Try.s95
  by_cases h0 : (s.size : Int) = 0
  · have h0' : decide ((s.size : Int) = 0) = true := decide_eq_true h0
    simp -dsimp -implicitDefEqProofs (maxSteps := 2000000) (disch := first | assumption | omega | (simp only [nx]; omega) | ((repeat refine Fresh.push ?_ _); assumption) | (simp only [smA]; done) | (simp [oneCell, AW.next_push]; done) | fail) only [go_sem, Nat.reduceEqDiff, reduceIte, Nat.reduceAdd, Int.toNat_natCast, Nat.add_zero, Owes_true, Try.results95, h0']
    exact ⟨by rw [wordB, decide_eq_false (by omega)]; rfl, rfl⟩
  by_cases h16 : 16 < (s.size : Int)
  · simp -dsimp -implicitDefEqProofs (maxSteps := 2000000) (disch := first | assumption | omega | (simp only [nx]; omega) | ((repeat refine Fresh.push ?_ _); assumption) | (simp only [smA]; done) | (simp [oneCell, AW.next_push]; done) | fail) only [go_sem, Nat.reduceEqDiff, reduceIte, Nat.reduceAdd, Int.toNat_natCast, Nat.add_zero, Owes_true, Try.results95, h0, h16]
    exact ⟨by rw [wordB, decide_eq_false (by omega : ¬ s.size ≤ 16), Bool.and_false]; rfl, rfl⟩
  have hlt0 : 0 < s.size := by omega
  have hi0 : indexSQ (prg Try.prog) 9 (.string s) (.int .i64 0) = some (.int .u8 (byteAt s 0)) := by rw [← byteAt_eq hlt0]; exact Try.iq9 s .i64 0 hlt0
  simp -dsimp -implicitDefEqProofs (maxSteps := 2000000) (disch := first | assumption | omega | (simp only [nx]; omega) | ((repeat refine Fresh.push ?_ _); assumption) | (simp only [smA]; done) | (simp [oneCell, AW.next_push]; done) | fail) only [go_sem, Nat.reduceEqDiff, reduceIte, Nat.reduceAdd, Int.toNat_natCast, Nat.add_zero, Owes_true, Try.results95, h0, h16, hi0]
  apply callV_of (e := rfl)
  · exact isLetter_ok _ _
  rintro _ _ ⟨rfl, rfl⟩
  cases hL : letB (byteAt s 0) with
  | false =>
    simp -dsimp -implicitDefEqProofs (maxSteps := 2000000) (disch := first | assumption | omega | (simp only [nx]; omega) | ((repeat refine Fresh.push ?_ _); assumption) | (simp only [smA]; done) | (simp [oneCell, AW.next_push]; done) | fail) only [go_sem, Nat.reduceEqDiff, reduceIte, Nat.reduceAdd, Int.toNat_natCast, Nat.add_zero, Owes_true, Try.results95]
    exact ⟨by rw [wordB, hL, Bool.and_false]; rfl, rfl⟩
  | true =>
  simp -dsimp -implicitDefEqProofs (maxSteps := 2000000) (disch := first | assumption | omega | (simp only [nx]; omega) | ((repeat refine Fresh.push ?_ _); assumption) | (simp only [smA]; done) | (simp [oneCell, AW.next_push]; done) | fail) only [go_sem, Nat.reduceEqDiff, reduceIte, Nat.reduceAdd, Int.toNat_natCast, Nat.add_zero, Owes_true, Try.results95]
  refine loopR (fun k t ds w1 => ∃ i : Nat, i ≤ s.size ∧ k = s.size - i ∧ ds = [] ∧ ev t (.tmp 0) = .string s ∧ ev t (.tmp 20) = .int .i64 (s.size : Int) ∧ ev t (.tmp 21) = .int .i64 (i : Int) ∧ w = w1 ∧ chTo s i = true) (s.size) ?_ ?_
  · refine ⟨0, by omega, by omega, rfl, ?_, ?_, ?_, rfl, rfl⟩ <;> simp -dsimp -implicitDefEqProofs (maxSteps := 2000000) (disch := first | assumption | omega | (simp only [nx]; omega) | ((repeat refine Fresh.push ?_ _); assumption) | (simp only [smA]; done) | (simp [oneCell, AW.next_push]; done) | fail) only [go_sem, Nat.reduceEqDiff, reduceIte, Nat.reduceAdd, Int.toNat_natCast, Nat.add_zero, Owes_true] <;> rfl
  rintro k t ds w1 ⟨i, hii, rfl, rfl, e0, e20, e21, hw, hall⟩
  subst hw
  by_cases hlt : (i : Int) < (s.size : Int)
  case neg =>
    obtain rfl : i = s.size := by omega
    simp -dsimp -implicitDefEqProofs (maxSteps := 2000000) (disch := first | assumption | omega | (simp only [nx]; omega) | ((repeat refine Fresh.push ?_ _); assumption) | (simp only [smA]; done) | (simp [oneCell, AW.next_push]; done) | fail) only [go_sem, Nat.reduceEqDiff, reduceIte, Nat.reduceAdd, Int.toNat_natCast, Nat.add_zero, Owes_true, Try.results95, e0, e20, e21, hlt]
    exact ⟨by rw [wordB, hL, hall, decide_eq_true (by omega), decide_eq_true (by omega)]; rfl, rfl⟩
  have hlt' : i < s.size := by omega
  have hix : indexSQ (prg Try.prog) 9 (.string s) (.int .i64 (i : Int)) = some (.int .u8 (byteAt s i)) := by rw [← byteAt_eq hlt']; exact Try.iq9 s .i64 i hlt'
  simp -dsimp -implicitDefEqProofs (maxSteps := 2000000) (disch := first | assumption | omega | (simp only [nx]; omega) | ((repeat refine Fresh.push ?_ _); assumption) | (simp only [smA]; done) | (simp [oneCell, AW.next_push]; done) | fail) only [go_sem, Nat.reduceEqDiff, reduceIte, Nat.reduceAdd, Int.toNat_natCast, Nat.add_zero, Owes_true, Try.results95, e0, e20, e21, hlt, hix]
  apply callV_of (e := rfl)
  · exact isLetter_ok _ _
  rintro _ _ ⟨rfl, rfl⟩
  cases hA : letB (byteAt s i) with
  | true =>
    simp -dsimp -implicitDefEqProofs (maxSteps := 2000000) (disch := first | assumption | omega | (simp only [nx]; omega) | ((repeat refine Fresh.push ?_ _); assumption) | (simp only [smA]; done) | (simp [oneCell, AW.next_push]; done) | fail) only [go_sem, Nat.reduceEqDiff, reduceIte, Nat.reduceAdd, Int.toNat_natCast, Nat.add_zero, Owes_true, Try.results95, e0, e20, e21]
    refine ⟨_, by omega, i + 1, by omega, rfl, rfl, by (simp -dsimp -implicitDefEqProofs (maxSteps := 2000000) (disch := first | assumption | omega | (simp only [nx]; omega) | ((repeat refine Fresh.push ?_ _); assumption) | (simp only [smA]; done) | (simp [oneCell, AW.next_push]; done) | fail) only [go_sem, Nat.reduceEqDiff, reduceIte, Nat.reduceAdd, Int.toNat_natCast, Nat.add_zero, Owes_true, e0]; try rfl), by (simp -dsimp -implicitDefEqProofs (maxSteps := 2000000) (disch := first | assumption | omega | (simp only [nx]; omega) | ((repeat refine Fresh.push ?_ _); assumption) | (simp only [smA]; done) | (simp [oneCell, AW.next_push]; done) | fail) only [go_sem, Nat.reduceEqDiff, reduceIte, Nat.reduceAdd, Int.toNat_natCast, Nat.add_zero, Owes_true, e20]; try rfl), by (simp -dsimp -implicitDefEqProofs (maxSteps := 2000000) (disch := first | assumption | omega | (simp only [nx]; omega) | ((repeat refine Fresh.push ?_ _); assumption) | (simp only [smA]; done) | (simp [oneCell, AW.next_push]; done) | fail) only [go_sem, Nat.reduceEqDiff, reduceIte, Nat.reduceAdd, Int.toNat_natCast, Nat.add_zero, Owes_true, e21]; try rfl), rfl, by rw [chTo_succ, hall, chB, hA]; rfl⟩
  | false =>
  simp -dsimp -implicitDefEqProofs (maxSteps := 2000000) (disch := first | assumption | omega | (simp only [nx]; omega) | ((repeat refine Fresh.push ?_ _); assumption) | (simp only [smA]; done) | (simp [oneCell, AW.next_push]; done) | fail) only [go_sem, Nat.reduceEqDiff, reduceIte, Nat.reduceAdd, Int.toNat_natCast, Nat.add_zero, Owes_true, Try.results95]
  apply callV_of (e := rfl)
  · exact isDigit_ok _ _
  rintro _ _ ⟨rfl, rfl⟩
  cases hB : digB (byteAt s i) with
  | true =>
    simp -dsimp -implicitDefEqProofs (maxSteps := 2000000) (disch := first | assumption | omega | (simp only [nx]; omega) | ((repeat refine Fresh.push ?_ _); assumption) | (simp only [smA]; done) | (simp [oneCell, AW.next_push]; done) | fail) only [go_sem, Nat.reduceEqDiff, reduceIte, Nat.reduceAdd, Int.toNat_natCast, Nat.add_zero, Owes_true, Try.results95, e0, e20, e21]
    refine ⟨_, by omega, i + 1, by omega, rfl, rfl, by (simp -dsimp -implicitDefEqProofs (maxSteps := 2000000) (disch := first | assumption | omega | (simp only [nx]; omega) | ((repeat refine Fresh.push ?_ _); assumption) | (simp only [smA]; done) | (simp [oneCell, AW.next_push]; done) | fail) only [go_sem, Nat.reduceEqDiff, reduceIte, Nat.reduceAdd, Int.toNat_natCast, Nat.add_zero, Owes_true, e0]; try rfl), by (simp -dsimp -implicitDefEqProofs (maxSteps := 2000000) (disch := first | assumption | omega | (simp only [nx]; omega) | ((repeat refine Fresh.push ?_ _); assumption) | (simp only [smA]; done) | (simp [oneCell, AW.next_push]; done) | fail) only [go_sem, Nat.reduceEqDiff, reduceIte, Nat.reduceAdd, Int.toNat_natCast, Nat.add_zero, Owes_true, e20]; try rfl), by (simp -dsimp -implicitDefEqProofs (maxSteps := 2000000) (disch := first | assumption | omega | (simp only [nx]; omega) | ((repeat refine Fresh.push ?_ _); assumption) | (simp only [smA]; done) | (simp [oneCell, AW.next_push]; done) | fail) only [go_sem, Nat.reduceEqDiff, reduceIte, Nat.reduceAdd, Int.toNat_natCast, Nat.add_zero, Owes_true, e21]; try rfl), rfl, by rw [chTo_succ, hall, chB, hA, hB]; rfl⟩
  | false =>
  by_cases h45 : byteAt s i = 45
  · have h45' : decide (byteAt s i = 45) = true := decide_eq_true h45
    simp -dsimp -implicitDefEqProofs (maxSteps := 2000000) (disch := first | assumption | omega | (simp only [nx]; omega) | ((repeat refine Fresh.push ?_ _); assumption) | (simp only [smA]; done) | (simp [oneCell, AW.next_push]; done) | fail) only [go_sem, Nat.reduceEqDiff, reduceIte, Nat.reduceAdd, Int.toNat_natCast, Nat.add_zero, Owes_true, Try.results95, e0, e20, e21, h45']
    refine ⟨_, by omega, i + 1, by omega, rfl, rfl, by (simp -dsimp -implicitDefEqProofs (maxSteps := 2000000) (disch := first | assumption | omega | (simp only [nx]; omega) | ((repeat refine Fresh.push ?_ _); assumption) | (simp only [smA]; done) | (simp [oneCell, AW.next_push]; done) | fail) only [go_sem, Nat.reduceEqDiff, reduceIte, Nat.reduceAdd, Int.toNat_natCast, Nat.add_zero, Owes_true, e0]; try rfl), by (simp -dsimp -implicitDefEqProofs (maxSteps := 2000000) (disch := first | assumption | omega | (simp only [nx]; omega) | ((repeat refine Fresh.push ?_ _); assumption) | (simp only [smA]; done) | (simp [oneCell, AW.next_push]; done) | fail) only [go_sem, Nat.reduceEqDiff, reduceIte, Nat.reduceAdd, Int.toNat_natCast, Nat.add_zero, Owes_true, e20]; try rfl), by (simp -dsimp -implicitDefEqProofs (maxSteps := 2000000) (disch := first | assumption | omega | (simp only [nx]; omega) | ((repeat refine Fresh.push ?_ _); assumption) | (simp only [smA]; done) | (simp [oneCell, AW.next_push]; done) | fail) only [go_sem, Nat.reduceEqDiff, reduceIte, Nat.reduceAdd, Int.toNat_natCast, Nat.add_zero, Owes_true, e21]; try rfl), rfl, by rw [chTo_succ, hall, chB, hA, hB, h45']; rfl⟩
  · simp -dsimp -implicitDefEqProofs (maxSteps := 2000000) (disch := first | assumption | omega | (simp only [nx]; omega) | ((repeat refine Fresh.push ?_ _); assumption) | (simp only [smA]; done) | (simp [oneCell, AW.next_push]; done) | fail) only [go_sem, Nat.reduceEqDiff, reduceIte, Nat.reduceAdd, Int.toNat_natCast, Nat.add_zero, Owes_true, Try.results95, h45]
    exact ⟨by rw [wordB, chTo_bad hlt' (by rw [chB, hA, hB, decide_eq_false h45]; rfl), Bool.and_false], rfl⟩
end Go.Proofs

namespace Go.Proofs
open Go Go.RowKit Go.Sim
set_option maxRecDepth 100000
structure PartV where
  s : ByteArray
  v : Int
  du : Value
def qcells (x : PartV) : List Value := [.string x.s, .int .i64 x.v, x.du]
structure PartsAt (w : AW) (v : Value) (xs : List PartV) (Ds : List (List DueN)) : Prop where
  arr : ArrOf w 3 qcells v xs
  len : Ds.length = xs.length
  dues : ∀ i (h : i < xs.length) (h' : i < Ds.length), ArrOf w 2 dcells xs[i].du Ds[i]
theorem PartsAt.grown {w w' : AW} {v : Value} {xs : List PartV} {Ds : List (List DueN)} (h : PartsAt w v xs Ds) (g : Grown w w') : PartsAt w' v xs Ds := ⟨h.arr.grown g, h.len, fun i h1 h2 => (h.dues i h1 h2).grown g⟩
theorem PartsAt.at {w : AW} {v : Value} {xs : List PartV} {Ds : List (List DueN)} (h : PartsAt w v xs Ds) : ∃ p cap, v = .slice p xs.length cap ∧ ∀ i (hi : i < xs.length), ∃ b o q m c, p = some ⟨b, o, none⟩ ∧ xs[i].du = .slice q m c ∧ ∀ w', Keep w.next w w' → w'.cell? ⟨b, o + i * 3, none⟩ = some (.string xs[i].s) ∧ w'.cell? ⟨b, o + i * 3 + 1, none⟩ = some (.int .i64 xs[i].v) ∧ w'.cell? ⟨b, o + i * 3 + 2, none⟩ = some (.slice q m c) := by
  obtain ⟨p, cap, rfl, _, _, hat⟩ := h.arr.open
  refine ⟨p, cap, rfl, fun i hi => ?_⟩
  obtain ⟨b, o, rfl, _, hcell⟩ := hat i hi
  obtain ⟨q, c, hd, _⟩ := (h.dues i hi (by rw [h.len]; exact hi)).open
  refine ⟨b, o, q, _, c, rfl, hd, fun w' hk => ⟨?_, hcell w' hk 1 _ rfl, by rw [← hd]; exact hcell w' hk 2 _ rfl⟩⟩
  have := hcell w' hk 0 _ rfl
  rwa [Nat.add_zero] at this
theorem new_part {w1 : AW} (f : Fresh w1) (s : ByteArray) (v : Int) (q : Option Addr) (m c : Nat) : ∃ w2, storeV (w1.push (.cells [.string ⟨#[]⟩, .int .i64 0, .slice none 0 0] 79 w1.next 0 0)) true 3 (.pointer (some ⟨w1.next, 0, none⟩)) (.agg #[.string s, .int .i64 v, .slice q m c]) = some w2 ∧ Own w2 w1.next 79 [.string s, .int .i64 v, .slice q m c] ∧ Grown w1 w2 ∧ w2.next = w1.next + 1 ∧ (∀ b e l, b ≠ w1.next → Own w1 b e l → Own w2 b e l) ∧ Keep w1.next w1 w2 := by
  have hO := Own.new f 79 [.string ⟨#[]⟩, .int .i64 0, .slice none 0 0]
  have gP := (Grown.refl f).push (.cells [.string ⟨#[]⟩, .int .i64 0, .slice none 0 0] 79 w1.next 0 0)
  have hst := storeV_own (o := 0) (l := [.string s, .int .i64 v, .slice q m c]) (size := 3) hO rfl (by omega) (by simp) (by rfl)
  simp only [setsL, setL] at hst
  have mm := (Mut.refl gP.2).put hO (.cells [.string s, .int .i64 v, .slice q m c] 79 w1.next 0 0)
  refine ⟨_, hst, hO.put _, ⟨gP.1.put (b := w1.next) (Nat.le_refl _) _, gP.2.put hO.lt _⟩, by rw [AW.next_put, AW.next_push], fun b e l hb h => mm.own (h.push _) hb, gP.1.put (b := w1.next) (Nat.le_refl _) _⟩
theorem valueOf_ok (s : ByteArray) (x : Int) (q : Option Addr) (m c : Nat) (w : AW) (f : Fresh w) : CallT Try.prog Try.T1 (.fn (.func 61) #[]) #[.agg #[.string s, .int .i64 x, .slice q m c]] w (Ret (.int .i64 x) (Grown w)) := by
  have g := (Grown.refl f).push (.cells [.string s, .int .i64 x, .slice q m c] 79 w.next 0 0)
  have hO := Own.new f 79 [.string s, .int .i64 x, .slice q m c]
  have c1 := hO.cell (o := 1) rfl rfl
  refine callT_code rfl Try.func61 rfl Try.s61_eq rfl ?_
  unfold Try.s61
  simp -dsimp -implicitDefEqProofs (maxSteps := 2000000) (disch := first | assumption | omega | (simp only [nx]; omega) | ((repeat refine Fresh.push ?_ _); assumption) | (simp only [smA]; done) | (simp [oneCell, AW.next_push]; done) | fail) only [go_sem, Nat.reduceEqDiff, reduceIte, Nat.reduceAdd, Int.toNat_natCast, Nat.add_zero, Owes_true, Try.results61, Nat.zero_add, c1]
  exact ⟨rfl, g⟩
theorem hasDues_ok (s : ByteArray) (x : Int) (q : Option Addr) (m c : Nat) (D : List DueN) (w : AW) (f : Fresh w) (hs : ArrOf w 2 dcells (.slice q m c) D) : CallT Try.prog Try.T1 (.fn (.func 59) #[]) #[.agg #[.string s, .int .i64 x, .slice q m c]] w (Ret (.bool (duesB D)) (Grown w)) := by
  have g := (Grown.refl f).push (.cells [.string s, .int .i64 x, .slice q m c] 79 w.next 0 0)
  have hO := Own.new f 79 [.string s, .int .i64 x, .slice q m c]
  have c2 := hO.cell (o := 2) rfl rfl
  refine callT_code rfl Try.func59 rfl Try.s59_eq rfl ?_
  unfold Try.s59
  simp -dsimp -implicitDefEqProofs (maxSteps := 2000000) (disch := first | assumption | omega | (simp only [nx]; omega) | ((repeat refine Fresh.push ?_ _); assumption) | (simp only [smA]; done) | (simp [oneCell, AW.next_push]; done) | fail) only [go_sem, Nat.reduceEqDiff, reduceIte, Nat.reduceAdd, Int.toNat_natCast, Nat.add_zero, Owes_true, Try.results59, Nat.zero_add, c2]
  apply callV_of (e := rfl)
  · exact areDues_ok D _ _ g.2 (hs.grown g)
  rintro _ w1 ⟨rfl, hg⟩
  simp -dsimp -implicitDefEqProofs (maxSteps := 2000000) (disch := first | assumption | omega | (simp only [nx]; omega) | ((repeat refine Fresh.push ?_ _); assumption) | (simp only [smA]; done) | (simp [oneCell, AW.next_push]; done) | fail) only [go_sem, Nat.reduceEqDiff, reduceIte, Nat.reduceAdd, Int.toNat_natCast, Nat.add_zero, Owes_true, Try.results59]
  exact ⟨rfl, g.trans hg⟩
set_option maxHeartbeats 4000000 in
theorem valuesOf_ok (xs : List PartV) (Ds : List (List DueN)) (v : Value) (w : AW) (f : Fresh w) (hs : PartsAt w v xs Ds) (hl : xs.length ≤ 1000) :
    CallT Try.prog Try.T1 (.fn (.func 60) #[]) #[v, .func (.func 61) #[] #[]] w (fun r w' => ∃ b, r = .slice (some ⟨b, 0, none⟩) xs.length xs.length ∧ w.next ≤ b ∧ Own w' b 3 ((xs.map PartV.v).flatMap icells) ∧ Grown w w') := by
  obtain ⟨p, cc, rfl, hat⟩ := hs.at
  have hmk := makeSliceV_room (g := prg Try.prog) (w := w) (q := .i64) (q' := .i64) (n := xs.length) Try.ty22 Try.ty3 (by omega) (by omega) (by omega) rfl
  have hfl : (List.replicate xs.length (Value.int .i64 0).cells.toList).flatten = (List.replicate xs.length (0 : Int)).flatMap icells := by rw [← flat_rep]; rfl
  rw [hfl] at hmk
  refine callT_code rfl Try.func60 rfl Try.s60_eq rfl ?_
  unfold Try.s60
  simp -dsimp -implicitDefEqProofs (maxSteps := 2000000) (disch := first | assumption | omega | (simp only [nx]; omega) | ((repeat refine Fresh.push ?_ _); assumption) | (simp only [smA]; done) | (simp [oneCell, AW.next_push]; done) | fail) only [go_sem, Nat.reduceEqDiff, reduceIte, Nat.reduceAdd, Int.toNat_natCast, Nat.add_zero, Owes_true, Try.results60, hmk]
  refine loopR (fun k t ds w1 => ∃ i : Nat, i ≤ xs.length ∧ k = xs.length - i ∧ ds = [] ∧ ev t (.tmp 1) = .func (.func 61) #[] #[] ∧ ev t (.tmp 5) = .slice (some ⟨w.next, 0, none⟩) i xs.length ∧ ev t (.tmp 11) = .slice p xs.length cc ∧ ev t (.tmp 12) = .int .i64 (xs.length : Int) ∧ ev t (.tmp 13) = .int .i64 (i : Int) ∧ Own w1 w.next 3 (((xs.take i).map PartV.v ++ List.replicate (xs.length - i) 0).flatMap icells) ∧ Grown w w1) (xs.length) ?_ ?_
  · refine ⟨0, by omega, by omega, rfl, ?_, ?_, ?_, ?_, ?_, Own.new f _ _, (Grown.refl f).push _⟩ <;> simp -dsimp -implicitDefEqProofs (maxSteps := 2000000) (disch := first | assumption | omega | (simp only [nx]; omega) | ((repeat refine Fresh.push ?_ _); assumption) | (simp only [smA]; done) | (simp [oneCell, AW.next_push]; done) | fail) only [go_sem, Nat.reduceEqDiff, reduceIte, Nat.reduceAdd, Int.toNat_natCast, Nat.add_zero, Owes_true] <;> rfl
  rintro k t ds w1 ⟨i, hii, rfl, rfl, e1, e5, e11, e12, e13, hO, hg⟩
  by_cases hlt : (i : Int) < (xs.length : Int)
  case neg =>
    obtain rfl : i = xs.length := by omega
    rw [List.take_of_length_le (Nat.le_refl _), Nat.sub_self, List.replicate_zero, List.append_nil] at hO
    simp -dsimp -implicitDefEqProofs (maxSteps := 2000000) (disch := first | assumption | omega | (simp only [nx]; omega) | ((repeat refine Fresh.push ?_ _); assumption) | (simp only [smA]; done) | (simp [oneCell, AW.next_push]; done) | fail) only [go_sem, Nat.reduceEqDiff, reduceIte, Nat.reduceAdd, Int.toNat_natCast, Nat.add_zero, Owes_true, Try.results60, e1, e5, e11, e12, e13, hlt]
    exact ⟨_, rfl, Nat.le_refl _, hO, hg⟩
  have hlt' : i < xs.length := by omega
  obtain ⟨b1, o1, q, m, c, rfl, hdu, hcell⟩ := hat i hlt'
  obtain ⟨a0, a1, a2⟩ := hcell w1 hg.1
  obtain ⟨w2, hst, hP, hg2, hn2, hown, _⟩ := new_part hg.2 xs[i].s xs[i].v q m c
  have hlw := hO.lt
  have hO2 := hown _ _ _ (by omega) hO
  have g2 := hg.trans hg2
  have c0 := hP.cell (o := 0) rfl rfl
  have c1 := hP.cell (o := 1) rfl rfl
  have c2 := hP.cell (o := 2) rfl rfl
  simp -dsimp -implicitDefEqProofs (maxSteps := 2000000) (disch := first | assumption | omega | (simp only [nx]; omega) | ((repeat refine Fresh.push ?_ _); assumption) | (simp only [smA]; done) | (simp [oneCell, AW.next_push]; done) | fail) only [go_sem, Nat.reduceEqDiff, reduceIte, Nat.reduceAdd, Int.toNat_natCast, Nat.add_zero, Owes_true, Try.results60, e1, e5, e11, e12, e13, hlt, indexV_eq, a0, a1, a2, hst, c0, c1, c2, Nat.zero_add]
  apply callV_of (e := rfl)
  · exact valueOf_ok xs[i].s xs[i].v q m c w2 g2.2
  rintro _ w3 ⟨rfl, hg3⟩
  have g3 := g2.trans hg3
  have hO3 := hO2.keep hg3.1
  have hlen : (((xs.take i).map PartV.v ++ List.replicate (xs.length - i) 0).flatMap icells).length = xs.length := by
    rw [icells_flat_len]; simp; omega
  have happ := append_in (e' := 3) Try.ty22 Try.ty3 rfl (by omega) hO3 g3.2 hlt' hlen (by omega) xs[i].v
  have hset : ((xs.take i).map PartV.v ++ List.replicate (xs.length - i) 0).set i xs[i].v = (xs.take (i + 1)).map PartV.v ++ List.replicate (xs.length - (i + 1)) 0 := by
    rw [List.take_succ_eq_append_getElem hlt', List.map_append, List.set_append_right _ _ (by rw [List.length_map, List.length_take]; omega)]
    have : (List.map PartV.v (List.take i xs)).length = i := by simp; omega
    rw [this, Nat.sub_self, show xs.length - i = (xs.length - (i + 1)) + 1 from by omega, List.replicate_succ, List.set_cons_zero]
    simp
  rw [setL_ic, hset] at happ
  have hO4 := hO3.push (.cells [.int .i64 xs[i].v] 3 w3.next 0 0)
  simp -dsimp -implicitDefEqProofs (maxSteps := 2000000) (disch := first | assumption | omega | (simp only [nx]; omega) | ((repeat refine Fresh.push ?_ _); assumption) | (simp only [smA]; done) | (simp [oneCell, AW.next_push]; done) | fail) only [go_sem, Nat.reduceEqDiff, reduceIte, Nat.reduceAdd, Int.toNat_natCast, Nat.add_zero, Owes_true, Try.results60, e1, e5, e11, e12, e13, happ]
  refine ⟨_, by omega, i + 1, by omega, rfl, rfl, by (simp -dsimp -implicitDefEqProofs (maxSteps := 2000000) (disch := first | assumption | omega | (simp only [nx]; omega) | ((repeat refine Fresh.push ?_ _); assumption) | (simp only [smA]; done) | (simp [oneCell, AW.next_push]; done) | fail) only [go_sem, Nat.reduceEqDiff, reduceIte, Nat.reduceAdd, Int.toNat_natCast, Nat.add_zero, Owes_true, e1]; try rfl), by (simp -dsimp -implicitDefEqProofs (maxSteps := 2000000) (disch := first | assumption | omega | (simp only [nx]; omega) | ((repeat refine Fresh.push ?_ _); assumption) | (simp only [smA]; done) | (simp [oneCell, AW.next_push]; done) | fail) only [go_sem, Nat.reduceEqDiff, reduceIte, Nat.reduceAdd, Int.toNat_natCast, Nat.add_zero, Owes_true, e5]; try rfl), by (simp -dsimp -implicitDefEqProofs (maxSteps := 2000000) (disch := first | assumption | omega | (simp only [nx]; omega) | ((repeat refine Fresh.push ?_ _); assumption) | (simp only [smA]; done) | (simp [oneCell, AW.next_push]; done) | fail) only [go_sem, Nat.reduceEqDiff, reduceIte, Nat.reduceAdd, Int.toNat_natCast, Nat.add_zero, Owes_true, e11]; try rfl), by (simp -dsimp -implicitDefEqProofs (maxSteps := 2000000) (disch := first | assumption | omega | (simp only [nx]; omega) | ((repeat refine Fresh.push ?_ _); assumption) | (simp only [smA]; done) | (simp [oneCell, AW.next_push]; done) | fail) only [go_sem, Nat.reduceEqDiff, reduceIte, Nat.reduceAdd, Int.toNat_natCast, Nat.add_zero, Owes_true, e12]; try rfl), by (simp -dsimp -implicitDefEqProofs (maxSteps := 2000000) (disch := first | assumption | omega | (simp only [nx]; omega) | ((repeat refine Fresh.push ?_ _); assumption) | (simp only [smA]; done) | (simp [oneCell, AW.next_push]; done) | fail) only [go_sem, Nat.reduceEqDiff, reduceIte, Nat.reduceAdd, Int.toNat_natCast, Nat.add_zero, Owes_true, e13]; try rfl), hO4.put _, ⟨(g3.push _).1.put (Nat.le_refl _) _, (g3.push _).2.put hO4.lt _⟩⟩
set_option maxHeartbeats 4000000 in
theorem placesP_ok (xs : List PartV) (Ds : List (List DueN)) (v : Value) (w : AW) (f : Fresh w) (hs : PartsAt w v xs Ds) (hl : xs.length ≤ 1000) :
    CallT Try.prog Try.T1 (.fn (.func 96) #[]) #[v, .func (.func 59) #[] #[]] w (fun r w' => ArrOf w' 1 icells r ((pick (fun i => duesB (Ds.getD i [])) xs.length).map nint) ∧ Grown w w') := by
  obtain ⟨p, cc, rfl, hat⟩ := hs.at
  refine callT_code rfl Try.func96 rfl Try.s96_eq rfl ?_
  unfold Try.s96
  simp -dsimp -implicitDefEqProofs (maxSteps := 2000000) (disch := first | assumption | omega | (simp only [nx]; omega) | ((repeat refine Fresh.push ?_ _); assumption) | (simp only [smA]; done) | (simp [oneCell, AW.next_push]; done) | fail) only [go_sem, Nat.reduceEqDiff, reduceIte, Nat.reduceAdd, Int.toNat_natCast, Nat.add_zero, Owes_true, Try.results96]
  refine loopR (fun k t ds w1 => ∃ i : Nat, i ≤ xs.length ∧ k = xs.length - i ∧ ds = [] ∧ ev t (.tmp 1) = .func (.func 59) #[] #[] ∧ ev t (.tmp 8) = .slice p xs.length cc ∧ ev t (.tmp 9) = .int .i64 (xs.length : Int) ∧ ev t (.tmp 10) = .int .i64 (i : Int) ∧ (∃ u, ev t (.tmp 5) = u ∧ AOwn w.next w1 3 1 u ((pick (fun i => duesB (Ds.getD i [])) i).map nint).length (((pick (fun i => duesB (Ds.getD i [])) i).map nint).flatMap icells)) ∧ Grown w w1) (xs.length) ?_ ?_
  · refine ⟨0, by omega, by omega, rfl, ?_, ?_, ?_, ?_, ⟨_, (by simp -dsimp -implicitDefEqProofs (maxSteps := 2000000) (disch := first | assumption | omega | (simp only [nx]; omega) | ((repeat refine Fresh.push ?_ _); assumption) | (simp only [smA]; done) | (simp [oneCell, AW.next_push]; done) | fail) only [go_sem, Nat.reduceEqDiff, reduceIte, Nat.reduceAdd, Int.toNat_natCast, Nat.add_zero, Owes_true]; try rfl), .inl ⟨rfl, rfl, rfl⟩⟩, Grown.refl f⟩ <;> simp -dsimp -implicitDefEqProofs (maxSteps := 2000000) (disch := first | assumption | omega | (simp only [nx]; omega) | ((repeat refine Fresh.push ?_ _); assumption) | (simp only [smA]; done) | (simp [oneCell, AW.next_push]; done) | fail) only [go_sem, Nat.reduceEqDiff, reduceIte, Nat.reduceAdd, Int.toNat_natCast, Nat.add_zero, Owes_true] <;> rfl
  rintro k t ds w1 ⟨i, hii, rfl, rfl, e1, e8, e9, e10, hA, hg⟩
  obtain ⟨u, e5, hA⟩ := hA
  have hpl : ((pick (fun i => duesB (Ds.getD i [])) i).map nint).length ≤ i := by rw [List.length_map, pick]; exact Nat.le_trans (List.length_filter_le _ _) (by simp)
  by_cases hlt : (i : Int) < (xs.length : Int)
  case neg =>
    obtain rfl : i = xs.length := by omega
    simp -dsimp -implicitDefEqProofs (maxSteps := 2000000) (disch := first | assumption | omega | (simp only [nx]; omega) | ((repeat refine Fresh.push ?_ _); assumption) | (simp only [smA]; done) | (simp [oneCell, AW.next_push]; done) | fail) only [go_sem, Nat.reduceEqDiff, reduceIte, Nat.reduceAdd, Int.toNat_natCast, Nat.add_zero, Owes_true, Try.results96, e1, e5, e8, e9, e10, hlt]
    exact ⟨hA.arr icells_len (by omega), hg⟩
  have hlt' : i < xs.length := by omega
  have hltD : i < Ds.length := by rw [hs.len]; exact hlt'
  obtain ⟨b1, o1, q, m, c, rfl, hdu, hcell⟩ := hat i hlt'
  obtain ⟨a0, a1, a2⟩ := hcell w1 hg.1
  obtain ⟨w2, hst, hP, hg2, hn2, hown, hk2⟩ := new_part hg.2 xs[i].s xs[i].v q m c
  have g2 := hg.trans hg2
  have hD := (hs.dues i hlt' hltD).grown g2
  rw [hdu] at hD
  have c0 := hP.cell (o := 0) rfl rfl
  have c1 := hP.cell (o := 1) rfl rfl
  have c2 := hP.cell (o := 2) rfl rfl
  simp -dsimp -implicitDefEqProofs (maxSteps := 2000000) (disch := first | assumption | omega | (simp only [nx]; omega) | ((repeat refine Fresh.push ?_ _); assumption) | (simp only [smA]; done) | (simp [oneCell, AW.next_push]; done) | fail) only [go_sem, Nat.reduceEqDiff, reduceIte, Nat.reduceAdd, Int.toNat_natCast, Nat.add_zero, Owes_true, Try.results96, e1, e5, e8, e9, e10, hlt, indexV_eq, a0, a1, a2, hst, c0, c1, c2, Nat.zero_add]
  apply callV_of (e := rfl)
  · exact hasDues_ok xs[i].s xs[i].v q m c Ds[i] w2 g2.2 hD
  rintro _ w3 ⟨rfl, hg3⟩
  have g3 := g2.trans hg3
  have hA3 := hA.keep (hg2.trans hg3).1 (Nat.le_refl _)
  have hps := pick_succ (fun i => duesB (Ds.getD i [])) i
  have hgd : Ds.getD i [] = Ds[i] := getD_at hltD
  simp only [hgd] at hps
  cases hq : duesB Ds[i] with
  | false =>
    have hnx : (pick (fun i => duesB (Ds.getD i [])) (i + 1)).map nint = (pick (fun i => duesB (Ds.getD i [])) i).map nint := by rw [hps, hq]; simp
    simp -dsimp -implicitDefEqProofs (maxSteps := 2000000) (disch := first | assumption | omega | (simp only [nx]; omega) | ((repeat refine Fresh.push ?_ _); assumption) | (simp only [smA]; done) | (simp [oneCell, AW.next_push]; done) | fail) only [go_sem, Nat.reduceEqDiff, reduceIte, Nat.reduceAdd, Int.toNat_natCast, Nat.add_zero, Owes_true, Try.results96, e1, e5, e8, e9, e10]
    refine ⟨_, by omega, i + 1, by omega, rfl, rfl, by (simp -dsimp -implicitDefEqProofs (maxSteps := 2000000) (disch := first | assumption | omega | (simp only [nx]; omega) | ((repeat refine Fresh.push ?_ _); assumption) | (simp only [smA]; done) | (simp [oneCell, AW.next_push]; done) | fail) only [go_sem, Nat.reduceEqDiff, reduceIte, Nat.reduceAdd, Int.toNat_natCast, Nat.add_zero, Owes_true, e1]; try rfl), by (simp -dsimp -implicitDefEqProofs (maxSteps := 2000000) (disch := first | assumption | omega | (simp only [nx]; omega) | ((repeat refine Fresh.push ?_ _); assumption) | (simp only [smA]; done) | (simp [oneCell, AW.next_push]; done) | fail) only [go_sem, Nat.reduceEqDiff, reduceIte, Nat.reduceAdd, Int.toNat_natCast, Nat.add_zero, Owes_true, e8]; try rfl), by (simp -dsimp -implicitDefEqProofs (maxSteps := 2000000) (disch := first | assumption | omega | (simp only [nx]; omega) | ((repeat refine Fresh.push ?_ _); assumption) | (simp only [smA]; done) | (simp [oneCell, AW.next_push]; done) | fail) only [go_sem, Nat.reduceEqDiff, reduceIte, Nat.reduceAdd, Int.toNat_natCast, Nat.add_zero, Owes_true, e9]; try rfl), by (simp -dsimp -implicitDefEqProofs (maxSteps := 2000000) (disch := first | assumption | omega | (simp only [nx]; omega) | ((repeat refine Fresh.push ?_ _); assumption) | (simp only [smA]; done) | (simp [oneCell, AW.next_push]; done) | fail) only [go_sem, Nat.reduceEqDiff, reduceIte, Nat.reduceAdd, Int.toNat_natCast, Nat.add_zero, Owes_true, e10]; try rfl), ⟨u, (by simp -dsimp -implicitDefEqProofs (maxSteps := 2000000) (disch := first | assumption | omega | (simp only [nx]; omega) | ((repeat refine Fresh.push ?_ _); assumption) | (simp only [smA]; done) | (simp [oneCell, AW.next_push]; done) | fail) only [go_sem, Nat.reduceEqDiff, reduceIte, Nat.reduceAdd, Int.toNat_natCast, Nat.add_zero, Owes_true, e5]), (by rw [hnx]; exact hA3)⟩, g3⟩
  | true =>
    have hnx : (pick (fun i => duesB (Ds.getD i [])) (i + 1)).map nint = (pick (fun i => duesB (Ds.getD i [])) i).map nint ++ [(i : Int)] := by rw [hps, hq, List.map_append]; rfl
    have hn3 := g3.1.next
    obtain ⟨u', w4, happ, hA4, hk4, hf4, _, _⟩ := append_one (e' := 3) Try.ty22 Try.ty3 rfl (by omega) (by omega) hA3 g3.2 hn3 (icells_len (i : Int)) (icells_one _) (by omega)
    simp only [icells] at happ
    simp -dsimp -implicitDefEqProofs (maxSteps := 2000000) (disch := first | assumption | omega | (simp only [nx]; omega) | ((repeat refine Fresh.push ?_ _); assumption) | (simp only [smA]; done) | (simp [oneCell, AW.next_push]; done) | fail) only [go_sem, Nat.reduceEqDiff, reduceIte, Nat.reduceAdd, Int.toNat_natCast, Nat.add_zero, Owes_true, Try.results96, e1, e5, e8, e9, e10, happ]
    refine ⟨_, by omega, i + 1, by omega, rfl, rfl, by (simp -dsimp -implicitDefEqProofs (maxSteps := 2000000) (disch := first | assumption | omega | (simp only [nx]; omega) | ((repeat refine Fresh.push ?_ _); assumption) | (simp only [smA]; done) | (simp [oneCell, AW.next_push]; done) | fail) only [go_sem, Nat.reduceEqDiff, reduceIte, Nat.reduceAdd, Int.toNat_natCast, Nat.add_zero, Owes_true, e1]; try rfl), by (simp -dsimp -implicitDefEqProofs (maxSteps := 2000000) (disch := first | assumption | omega | (simp only [nx]; omega) | ((repeat refine Fresh.push ?_ _); assumption) | (simp only [smA]; done) | (simp [oneCell, AW.next_push]; done) | fail) only [go_sem, Nat.reduceEqDiff, reduceIte, Nat.reduceAdd, Int.toNat_natCast, Nat.add_zero, Owes_true, e8]; try rfl), by (simp -dsimp -implicitDefEqProofs (maxSteps := 2000000) (disch := first | assumption | omega | (simp only [nx]; omega) | ((repeat refine Fresh.push ?_ _); assumption) | (simp only [smA]; done) | (simp [oneCell, AW.next_push]; done) | fail) only [go_sem, Nat.reduceEqDiff, reduceIte, Nat.reduceAdd, Int.toNat_natCast, Nat.add_zero, Owes_true, e9]; try rfl), by (simp -dsimp -implicitDefEqProofs (maxSteps := 2000000) (disch := first | assumption | omega | (simp only [nx]; omega) | ((repeat refine Fresh.push ?_ _); assumption) | (simp only [smA]; done) | (simp [oneCell, AW.next_push]; done) | fail) only [go_sem, Nat.reduceEqDiff, reduceIte, Nat.reduceAdd, Int.toNat_natCast, Nat.add_zero, Owes_true, e10]; try rfl), ⟨u', (by simp -dsimp -implicitDefEqProofs (maxSteps := 2000000) (disch := first | assumption | omega | (simp only [nx]; omega) | ((repeat refine Fresh.push ?_ _); assumption) | (simp only [smA]; done) | (simp [oneCell, AW.next_push]; done) | fail) only [go_sem, Nat.reduceEqDiff, reduceIte, Nat.reduceAdd, Int.toNat_natCast, Nat.add_zero, Owes_true]), (by rw [hnx, List.length_append, List.flatMap_append]; exact hA4)⟩, ⟨g3.1.trans hk4, hf4⟩⟩
theorem allP_ok (xs : List PartV) (Ds : List (List DueN)) (v : Value) (w : AW) (f : Fresh w) (hs : PartsAt w v xs Ds) (hl : xs.length ≤ 1000) :
    CallT Try.prog Try.T1 (.fn (.func 58) #[]) #[v, .func (.func 59) #[] #[]] w (Ret (.bool (Ds.all duesB)) (Grown w)) := by
  obtain ⟨p, cc, rfl, hat⟩ := hs.at
  have hlen := hs.len
  refine callT_code rfl Try.func58 rfl Try.s58_eq rfl ?_
  unfold Try.s58
  simp -dsimp -implicitDefEqProofs (maxSteps := 2000000) (disch := first | assumption | omega | (simp only [nx]; omega) | ((repeat refine Fresh.push ?_ _); assumption) | (simp only [smA]; done) | (simp [oneCell, AW.next_push]; done) | fail) only [go_sem, Nat.reduceEqDiff, reduceIte, Nat.reduceAdd, Int.toNat_natCast, Nat.add_zero, Owes_true, Try.results58]
  apply callV_of (e := rfl)
  · exact placesP_ok xs Ds _ w f hs hl
  rintro r w1 ⟨hA, g1⟩
  obtain ⟨p1, c1, rfl, _⟩ := hA.open
  have key : decide ((((pick (fun i => duesB (Ds.getD i [])) xs.length).map nint).length : Int) = (xs.length : Int)) = Ds.all duesB := by
    rw [List.length_map, Bool.eq_iff_iff, decide_eq_true_eq, List.all_eq_true]
    constructor
    · intro h d hd
      obtain ⟨i, hi, rfl⟩ := List.getElem_of_mem hd
      have h2 : ((List.range xs.length).filter fun i => duesB (Ds.getD i [])).length = (List.range xs.length).length := by rw [List.length_range]; rw [pick] at h; omega
      have := (List.length_filter_eq_length_iff.mp h2) i (by simp; omega)
      rwa [getD_at hi] at this
    · intro h
      have h2 : ((List.range xs.length).filter fun i => duesB (Ds.getD i [])).length = (List.range xs.length).length := by
        rw [List.length_filter_eq_length_iff]
        intro i hi
        have hi : i < Ds.length := by simp at hi; omega
        rw [getD_at hi]; exact h Ds[i] (List.getElem_mem hi)
      rw [List.length_range] at h2; rw [pick]; omega
  simp -dsimp -implicitDefEqProofs (maxSteps := 2000000) (disch := first | assumption | omega | (simp only [nx]; omega) | ((repeat refine Fresh.push ?_ _); assumption) | (simp only [smA]; done) | (simp [oneCell, AW.next_push]; done) | fail) only [go_sem, Nat.reduceEqDiff, reduceIte, Nat.reduceAdd, Int.toNat_natCast, Nat.add_zero, Owes_true, Try.results58]
  exact ⟨by rw [← key], g1⟩
end Go.Proofs

namespace Go.Proofs
open Go Go.RowKit Go.Sim
set_option maxRecDepth 100000
def nameB (xs : List PartV) (i : Nat) : Bool := match xs[i]? with
  | some x => wordB x.s && !hasB ((xs.take i).map PartV.s) x.s
  | none => false
theorem nameB_at {xs : List PartV} {i : Nat} (h : i < xs.length) : nameB xs i = (wordB xs[i].s && !hasB ((xs.take i).map PartV.s) xs[i].s) := by simp [nameB, h]
def namesTo (xs : List PartV) (n : Nat) : Bool := (List.range n).all (nameB xs)
theorem namesTo_succ (xs : List PartV) (n : Nat) : namesTo xs (n + 1) = (namesTo xs n && nameB xs n) := by simp [namesTo, List.range_succ]
theorem namesTo_bad {xs : List PartV} {n m : Nat} (hn : n < m) (hb : nameB xs n = false) : namesTo xs m = false := by
  rw [namesTo, List.all_eq_false]; exact ⟨n, List.mem_range.mpr hn, by rw [hb]; simp⟩
def partsB (xs : List PartV) : Bool := inR 1 (xs.length : Int) 8 && namesTo xs xs.length && wgtB (xs.map PartV.v)
set_option maxHeartbeats 4000000 in
theorem areParts_ok (xs : List PartV) (Ds : List (List DueN)) (v : Value) (w : AW) (f : Fresh w) (hs : PartsAt w v xs Ds) : CallT Try.prog Try.T1 (.fn (.func 57) #[]) #[v] w (Ret (.bool (partsB xs)) (Grown w)) := by
  obtain ⟨p, cc, rfl, hat⟩ := hs.at
  have g := (Grown.refl f).push (.map #[] 0)
  have hM0 := MapS.new w
  refine callT_code rfl Try.func57 rfl Try.s57_eq rfl ?_
  unfold Try.s57
  simp -dsimp -implicitDefEqProofs (maxSteps := 2000000) (disch := first | assumption | omega | (simp only [nx]; omega) | ((repeat refine Fresh.push ?_ _); assumption) | (simp only [smA]; done) | (simp [oneCell, AW.next_push]; done) | fail) only [go_sem, Nat.reduceEqDiff, reduceIte, Nat.reduceAdd, Int.toNat_natCast, Nat.add_zero, Owes_true, Try.results57]
  apply callV_of (e := rfl)
  · exact within_ok _ _ _ _
  rintro _ _ ⟨rfl, rfl⟩
  cases h8 : inR 1 (xs.length : Int) 8 with
  | false =>
    simp -dsimp -implicitDefEqProofs (maxSteps := 2000000) (disch := first | assumption | omega | (simp only [nx]; omega) | ((repeat refine Fresh.push ?_ _); assumption) | (simp only [smA]; done) | (simp [oneCell, AW.next_push]; done) | fail) only [go_sem, Nat.reduceEqDiff, reduceIte, Nat.reduceAdd, Int.toNat_natCast, Nat.add_zero, Owes_true, Try.results57]
    exact ⟨by rw [partsB, h8]; rfl, .refl f⟩
  | true =>
  have hl8 := (inR_iff _ _ _).1 h8
  simp -dsimp -implicitDefEqProofs (maxSteps := 2000000) (disch := first | assumption | omega | (simp only [nx]; omega) | ((repeat refine Fresh.push ?_ _); assumption) | (simp only [smA]; done) | (simp [oneCell, AW.next_push]; done) | fail) only [go_sem, Nat.reduceEqDiff, reduceIte, Nat.reduceAdd, Int.toNat_natCast, Nat.add_zero, Owes_true, Try.results57]
  refine loopR (fun k t ds w1 => ∃ i : Nat, i ≤ xs.length ∧ k = xs.length - i ∧ ds = [] ∧ ev t (.tmp 0) = .slice p xs.length cc ∧ ev t (.tmp 3) = .map (some w.next) ∧ ev t (.tmp 11) = .slice p xs.length cc ∧ ev t (.tmp 12) = .int .i64 (xs.length : Int) ∧ ev t (.tmp 13) = .int .i64 (i : Int) ∧ MapS w1 w.next ((xs.take i).map PartV.s) ∧ Grown w w1 ∧ namesTo xs i = true) (xs.length) ?_ ?_
  · refine ⟨0, by omega, by omega, rfl, ?_, ?_, ?_, ?_, ?_, hM0, g, rfl⟩ <;> simp -dsimp -implicitDefEqProofs (maxSteps := 2000000) (disch := first | assumption | omega | (simp only [nx]; omega) | ((repeat refine Fresh.push ?_ _); assumption) | (simp only [smA]; done) | (simp [oneCell, AW.next_push]; done) | fail) only [go_sem, Nat.reduceEqDiff, reduceIte, Nat.reduceAdd, Int.toNat_natCast, Nat.add_zero, Owes_true] <;> rfl
  rintro k t ds w1 ⟨i, hii, rfl, rfl, e0, e3, e11, e12, e13, hM, g1, hall⟩
  by_cases hlt : (i : Int) < (xs.length : Int)
  case neg =>
    obtain rfl : i = xs.length := by omega
    simp -dsimp -implicitDefEqProofs (maxSteps := 2000000) (disch := first | assumption | omega | (simp only [nx]; omega) | ((repeat refine Fresh.push ?_ _); assumption) | (simp only [smA]; done) | (simp [oneCell, AW.next_push]; done) | fail) only [go_sem, Nat.reduceEqDiff, reduceIte, Nat.reduceAdd, Int.toNat_natCast, Nat.add_zero, Owes_true, Try.results57, e0, e3, e11, e12, e13, hlt]
    apply callV_of (e := rfl)
    · exact valuesOf_ok xs Ds _ w1 g1.2 (hs.grown g1) (by omega)
    rintro _ w2 ⟨b, rfl, _, hO, hg2⟩
    have g2 := g1.trans hg2
    have harr := hO.iarr (by rw [List.length_map]; omega)
    rw [List.length_map] at harr
    simp -dsimp -implicitDefEqProofs (maxSteps := 2000000) (disch := first | assumption | omega | (simp only [nx]; omega) | ((repeat refine Fresh.push ?_ _); assumption) | (simp only [smA]; done) | (simp [oneCell, AW.next_push]; done) | fail) only [go_sem, Nat.reduceEqDiff, reduceIte, Nat.reduceAdd, Int.toNat_natCast, Nat.add_zero, Owes_true, Try.results57, e0, e3, e11, e12, e13]
    apply callV_of (e := rfl)
    · exact areWeights_ok (xs.map PartV.v) _ w2 g2.2 harr
    rintro _ w3 ⟨rfl, hg3⟩
    simp -dsimp -implicitDefEqProofs (maxSteps := 2000000) (disch := first | assumption | omega | (simp only [nx]; omega) | ((repeat refine Fresh.push ?_ _); assumption) | (simp only [smA]; done) | (simp [oneCell, AW.next_push]; done) | fail) only [go_sem, Nat.reduceEqDiff, reduceIte, Nat.reduceAdd, Int.toNat_natCast, Nat.add_zero, Owes_true, Try.results57]
    exact ⟨by rw [partsB, h8, hall]; rfl, g2.trans hg3⟩
  have hlt' : i < xs.length := by omega
  obtain ⟨b1, o1, q, m, c, rfl, hdu, hcell⟩ := hat i hlt'
  obtain ⟨a0, a1, a2⟩ := hcell w1 g1.1
  obtain ⟨w2, hst, hP, hg2, hn2, hown, hk2⟩ := new_part g1.2 xs[i].s xs[i].v q m c
  have hM2 := hM.keep hk2
  have g2 := g1.trans hg2
  have c0 := hP.cell (o := 0) rfl rfl
  have htake : (xs.take (i + 1)).map PartV.s = (xs.take i).map PartV.s ++ [xs[i].s] := by rw [List.take_succ_eq_append_getElem hlt', List.map_append]; rfl
  have hnm := nameB_at hlt'
  have hbad : nameB xs i = false → partsB xs = false := fun q => by rw [partsB, namesTo_bad hlt' q, Bool.and_false]; rfl
  have hnext := namesTo_succ xs i
  rw [hall, Bool.true_and, hnm] at hnext
  rw [hnm] at hbad
  have hlk := hM2.lookup xs[i].s
  generalize xs[i].s = S at *
  generalize xs[i].v = V at *
  simp -dsimp -implicitDefEqProofs (maxSteps := 2000000) (disch := first | assumption | omega | (simp only [nx]; omega) | ((repeat refine Fresh.push ?_ _); assumption) | (simp only [smA]; done) | (simp [oneCell, AW.next_push]; done) | fail) only [go_sem, Nat.reduceEqDiff, reduceIte, Nat.reduceAdd, Int.toNat_natCast, Nat.add_zero, Owes_true, Try.results57, e0, e3, e11, e12, e13, hlt, indexV_eq, a0, a1, a2, hst, c0, Nat.zero_add]
  apply callV_of (e := rfl)
  · exact isWord_ok S _
  rintro _ _ ⟨rfl, rfl⟩
  cases hw : wordB S with
  | false =>
    simp -dsimp -implicitDefEqProofs (maxSteps := 2000000) (disch := first | assumption | omega | (simp only [nx]; omega) | ((repeat refine Fresh.push ?_ _); assumption) | (simp only [smA]; done) | (simp [oneCell, AW.next_push]; done) | fail) only [go_sem, Nat.reduceEqDiff, reduceIte, Nat.reduceAdd, Int.toNat_natCast, Nat.add_zero, Owes_true, Try.results57]
    exact ⟨by rw [hbad (by rw [hw]; rfl)], g2⟩
  | true =>
  cases hdup : hasB ((xs.take i).map PartV.s) S with
  | true =>
    rw [hdup] at hlk
    simp -dsimp -implicitDefEqProofs (maxSteps := 2000000) (disch := first | assumption | omega | (simp only [nx]; omega) | ((repeat refine Fresh.push ?_ _); assumption) | (simp only [smA]; done) | (simp [oneCell, AW.next_push]; done) | fail) only [go_sem, Nat.reduceEqDiff, reduceIte, Nat.reduceAdd, Int.toNat_natCast, Nat.add_zero, Owes_true, Try.results57, e0, e3, e11, e12, e13, c0, Nat.zero_add, hlk]
    exact ⟨by rw [hbad (by rw [hdup]; simp)], g2⟩
  | false =>
  rw [hdup] at hlk
  obtain ⟨B, hup, hM3⟩ := hM2.add Try.ty133 Try.ty9 S (fun q => by have := (hasB_iff _ _).2 q; rw [hdup] at this; cases this)
  have g3 : Grown w (w2.put w.next B) := ⟨g2.1.put (Nat.le_refl _) _, g2.2.put hM2.lt _⟩
  simp -dsimp -implicitDefEqProofs (maxSteps := 2000000) (disch := first | assumption | omega | (simp only [nx]; omega) | ((repeat refine Fresh.push ?_ _); assumption) | (simp only [smA]; done) | (simp [oneCell, AW.next_push]; done) | fail) only [go_sem, Nat.reduceEqDiff, reduceIte, Nat.reduceAdd, Int.toNat_natCast, Nat.add_zero, Owes_true, Try.results57, e0, e3, e11, e12, e13, c0, Nat.zero_add, hlk, hup]
  refine ⟨_, by omega, i + 1, by omega, rfl, rfl, by (simp -dsimp -implicitDefEqProofs (maxSteps := 2000000) (disch := first | assumption | omega | (simp only [nx]; omega) | ((repeat refine Fresh.push ?_ _); assumption) | (simp only [smA]; done) | (simp [oneCell, AW.next_push]; done) | fail) only [go_sem, Nat.reduceEqDiff, reduceIte, Nat.reduceAdd, Int.toNat_natCast, Nat.add_zero, Owes_true, e0]; try rfl), by (simp -dsimp -implicitDefEqProofs (maxSteps := 2000000) (disch := first | assumption | omega | (simp only [nx]; omega) | ((repeat refine Fresh.push ?_ _); assumption) | (simp only [smA]; done) | (simp [oneCell, AW.next_push]; done) | fail) only [go_sem, Nat.reduceEqDiff, reduceIte, Nat.reduceAdd, Int.toNat_natCast, Nat.add_zero, Owes_true, e3]; try rfl), by (simp -dsimp -implicitDefEqProofs (maxSteps := 2000000) (disch := first | assumption | omega | (simp only [nx]; omega) | ((repeat refine Fresh.push ?_ _); assumption) | (simp only [smA]; done) | (simp [oneCell, AW.next_push]; done) | fail) only [go_sem, Nat.reduceEqDiff, reduceIte, Nat.reduceAdd, Int.toNat_natCast, Nat.add_zero, Owes_true, e11]; try rfl), by (simp -dsimp -implicitDefEqProofs (maxSteps := 2000000) (disch := first | assumption | omega | (simp only [nx]; omega) | ((repeat refine Fresh.push ?_ _); assumption) | (simp only [smA]; done) | (simp [oneCell, AW.next_push]; done) | fail) only [go_sem, Nat.reduceEqDiff, reduceIte, Nat.reduceAdd, Int.toNat_natCast, Nat.add_zero, Owes_true, e12]; try rfl), by (simp -dsimp -implicitDefEqProofs (maxSteps := 2000000) (disch := first | assumption | omega | (simp only [nx]; omega) | ((repeat refine Fresh.push ?_ _); assumption) | (simp only [smA]; done) | (simp [oneCell, AW.next_push]; done) | fail) only [go_sem, Nat.reduceEqDiff, reduceIte, Nat.reduceAdd, Int.toNat_natCast, Nat.add_zero, Owes_true, e13]; try rfl), by rw [htake]; exact hM3, g3, by rw [hnext, hw, hdup]; rfl⟩
structure PortV where
  pr : Int
  pv : Value
  lf : Int
def pcells (x : PortV) : List Value := [.int .i64 x.pr, x.pv, .int .i64 x.lf]
theorem pcells_len (x : PortV) : (pcells x).length = 3 := rfl
theorem bld81 (a b : Int) (q : Option Addr) (m c : Nat) : bldQ [(0, 1), (1, 1), (2, 1)] [.int .i64 0, .slice none 0 0, .int .i64 0] [(0, .int .i64 a), (1, .slice q m c), (2, .int .i64 b)] = some (.agg #[.int .i64 a, .slice q m c, .int .i64 b]) := by
  kernel_rfl
attribute [go_sem] bld81
set_option maxHeartbeats 1000000 in
theorem portion_ok (s : ByteArray) (x : Int) (q : Option Addr) (m c : Nat) (D : List DueN) (pr : Int) (w : AW) (f : Fresh w) (hs : ArrOf w 2 dcells (.slice q m c) D) (hD : DIn D) (hl : D.length ≤ 24) (h0 : 0 ≤ pr) (h1 : pr ≤ 34359738368) :
    CallT Try.prog Try.T1 (.fn (.func 62) #[]) #[.agg #[.string s, .int .i64 x, .slice q m c], .int .i64 pr] w (fun r w' => ∃ q' m' c', r = .agg #[.int .i64 pr, .slice q' m' c', .int .i64 (leftN D pr 10)] ∧ ArrOf w' 1 icells (.slice q' m' c') (paidN D pr 10) ∧ Grown w w') := by
  have gA := (Grown.refl f).push (.cells [.string s, .int .i64 x, .slice q m c] 79 w.next 0 0)
  have hA := (Own.new f 79 [.string s, .int .i64 x, .slice q m c]).push (.cells [.int .i64 0, .slice none 0 0, .int .i64 0] 81 (w.next + 1) 0 0)
  have gB := gA.push (.cells [.int .i64 0, .slice none 0 0, .int .i64 0] 81 (w.next + 1) 0 0)
  have hB := Own.new gA.2 81 [.int .i64 0, .slice none 0 0, .int .i64 0]
  rw [AW.next_push] at hB
  have c2 := hA.cell (o := 2) rfl rfl
  refine callT_code rfl Try.func62 rfl Try.s62_eq rfl ?_
  unfold Try.s62
  simp -dsimp -implicitDefEqProofs (maxSteps := 2000000) (disch := first | assumption | omega | (simp only [nx]; omega) | ((repeat refine Fresh.push ?_ _); assumption) | (simp only [smA]; done) | (simp [oneCell, AW.next_push]; done) | fail) only [go_sem, Nat.reduceEqDiff, reduceIte, Nat.reduceAdd, Int.toNat_natCast, Nat.add_zero, Owes_true, Try.results62, Nat.zero_add, c2]
  apply callV_of (e := rfl)
  · exact spread_ok D _ pr _ gB.2 (hs.grown gB) hD hl h0 h1
  rintro _ w2 ⟨b, rfl, hbn, hU, hg2⟩
  have g2 := gB.trans hg2
  have hB2 := hB.keep hg2.1
  have hst := storeV_own (o := 0) (l := [.int .i64 pr, .slice (some ⟨b, 0, none⟩) D.length D.length, .int .i64 (leftN D pr 10)]) (size := 3) hB2 rfl (by omega) (by simp) (by rfl)
  simp only [setsL, setL] at hst
  have hB3 := hB2.put [.int .i64 pr, .slice (some ⟨b, 0, none⟩) D.length D.length, .int .i64 (leftN D pr 10)]
  have g3 : Grown w _ := ⟨g2.1.put (b := w.next + 1) (by omega) (.cells [.int .i64 pr, .slice (some ⟨b, 0, none⟩) D.length D.length, .int .i64 (leftN D pr 10)] 81 (w.next + 1) 0 0), g2.2.put hB2.lt _⟩
  have d0 := hB3.cell (o := 0) rfl rfl
  have d1 := hB3.cell (o := 1) rfl rfl
  have d2 := hB3.cell (o := 2) rfl rfl
  have hlb := hB.lt
  simp only [AW.next_push] at hbn hlb
  have mm := (Mut.refl g2.2).put hB2 (.cells [.int .i64 pr, .slice (some ⟨b, 0, none⟩) D.length D.length, .int .i64 (leftN D pr 10)] 81 (w.next + 1) 0 0)
  have hU3 := (mm.own hU (by omega)).iarr (by rw [paidN_len]; omega)
  rw [paidN_len] at hU3
  simp -dsimp -implicitDefEqProofs (maxSteps := 2000000) (disch := first | assumption | omega | (simp only [nx]; omega) | ((repeat refine Fresh.push ?_ _); assumption) | (simp only [smA]; done) | (simp [oneCell, AW.next_push]; done) | fail) only [go_sem, Nat.reduceEqDiff, reduceIte, Nat.reduceAdd, Int.toNat_natCast, Nat.add_zero, Owes_true, Try.results62, Nat.zero_add, hst, d0, d1, d2]
  exact ⟨_, _, _, rfl, hU3, g3⟩
def PortOk (w : AW) (Q : List Int) (Ds : List (List DueN)) (zs : List PortV) : Prop := ∀ (k : Nat) (hk : k < zs.length), zs[k].pr = W Q k ∧ zs[k].lf = leftN (Ds.getD k []) (W Q k) 10 ∧ ArrOf w 1 icells zs[k].pv (paidN (Ds.getD k []) (W Q k) 10)
theorem PortOk.grown {w w' : AW} {Q : List Int} {Ds : List (List DueN)} {zs : List PortV} (h : PortOk w Q Ds zs) (g : Grown w w') : PortOk w' Q Ds zs := fun k hk => ⟨(h k hk).1, (h k hk).2.1, (h k hk).2.2.grown g⟩
theorem PortOk.app {w w' : AW} {Q : List Int} {Ds : List (List DueN)} {zs : List PortV} (h : PortOk w Q Ds zs) (g : Apnd w w') : PortOk w' Q Ds zs := fun k hk => ⟨(h k hk).1, (h k hk).2.1, Arr.app (h k hk).2.2 g⟩
theorem PortOk.snoc {w : AW} {Q : List Int} {Ds : List (List DueN)} {zs : List PortV} (h : PortOk w Q Ds zs) (z : PortV) (h1 : z.pr = W Q zs.length) (h2 : z.lf = leftN (Ds.getD zs.length []) (W Q zs.length) 10) (h3 : ArrOf w 1 icells z.pv (paidN (Ds.getD zs.length []) (W Q zs.length) 10)) : PortOk w Q Ds (zs ++ [z]) := by
  intro k hk
  rw [List.length_append, List.length_singleton] at hk
  rcases Nat.lt_or_ge k zs.length with q | q
  · simp only [List.getElem_append_left q]; exact h k q
  · obtain rfl : k = zs.length := by omega
    simp only [List.getElem_append_right (Nat.le_refl _), Nat.sub_self, List.getElem_singleton]
    exact ⟨h1, h2, h3⟩
def portE (price : Int) (xs : List PartV) (Ds : List (List DueN)) : Int := if inR 0 price 67108864 = false then 7 else if partsB xs = false then 72 else if Ds.all duesB = false then 71 else 0
def PortRes (w : AW) (price : Int) (xs : List PartV) (Ds : List (List DueN)) (u : Value) (zs : List PortV) : Prop := ArrOf w 3 pcells u zs ∧ (portE price xs Ds = 0 → zs.length = xs.length ∧ PortOk w (shareL (xs.map PartV.v) price) Ds zs) ∧ (portE price xs Ds ≠ 0 → zs = [])
theorem PortRes.nil {w : AW} {price : Int} {xs : List PartV} {Ds : List (List DueN)} (h : portE price xs Ds ≠ 0) : PortRes w price xs Ds (.slice none 0 0) [] := ⟨ArrOf.nil _ _ _, fun q => absurd q h, fun _ => rfl⟩
theorem bsQ_81 {e : TypeId} {z0 z1 z2 : Value} (a b : Int) (q : Option Addr) (m c : Nat) : bsQ e 1 3 [z0, z1, z2] [(0, .agg #[.int .i64 a, .slice q m c, .int .i64 b])] = some ([.int .i64 a, .slice q m c, .int .i64 b], e, fun n => .slice (some ⟨n, 0, none⟩) 1 1) := by
  simp [bsQ, Instr.fill, Value.cells]
theorem Try.bs33 (t : Tmps) (l : List (Nat × Operand)) : makes (prg Try.prog) t (.buildSlice 33 1 ⟨l⟩) = bsQ 81 1 3 [.int .i64 0, .slice none 0 0, .int .i64 0] (l.map fun p => (p.1, ev t p.2)) := makes_bs Try.ty33 Try.ty81 rfl (by kernel_rfl)
attribute [go_sem] bsQ_81 Try.bs33
structure PortIn (price : Int) (xs : List PartV) (Ds : List (List DueN)) : Prop where
  pr : 0 ≤ price ∧ price ≤ 67108864
  len : 1 ≤ xs.length ∧ xs.length ≤ 8
  wgt : WIn (xs.map PartV.v)
  dues : ∀ D ∈ Ds, DIn D ∧ D.length ≤ 24
  parts : partsB xs = true
  all : Ds.all duesB = true
theorem portE_in {price : Int} {xs : List PartV} {Ds : List (List DueN)} (h : portE price xs Ds = 0) : PortIn price xs Ds := by
  unfold portE at h
  cases h1 : inR 0 price 67108864 with
  | false => rw [if_pos h1] at h; exact absurd h (by decide)
  | true =>
  rw [if_neg (by rw [h1]; simp)] at h
  cases h2 : partsB xs with
  | false => rw [if_pos h2] at h; exact absurd h (by decide)
  | true =>
  rw [if_neg (by rw [h2]; simp)] at h
  cases h3 : Ds.all duesB with
  | false => rw [if_pos h3] at h; exact absurd h (by decide)
  | true =>
  have q1 := (inR_iff _ _ _).1 h1
  have q2 := h2
  simp only [partsB, Bool.and_eq_true, inR_iff] at q2
  rw [List.all_eq_true] at h3
  exact ⟨q1, by omega, wgt_in q2.2, fun D hd => dues_in (h3 D hd), h2, by rw [List.all_eq_true]; exact h3⟩
theorem pcells_one {x : PortV} (h : oneCell x.pv = true) : ∀ v ∈ pcells x, oneCell v = true := by
  intro v hv
  simp [pcells] at hv
  rcases hv with rfl | rfl | rfl
  · rfl
  · exact h
  · rfl
end Go.Proofs

namespace Go.Proofs
open Go Go.RowKit Go.Sim
set_option maxRecDepth 100000
theorem Try.und32 : Try.prog.underlying 32 = some (.slice 79) := by kernel_rfl
theorem Try.und79 : Try.prog.underlying 79 = some (.struct #[{ name := "Pledge", type := 9, offset := 0, embedded := false, tag := "", pkgPath := "", byteOffset := 0 }, { name := "Value", type := 3, offset := 1, embedded := false, tag := "", pkgPath := "", byteOffset := 16 }, { name := "Dues", type := 23, offset := 2, embedded := false, tag := "", pkgPath := "", byteOffset := 24 }]) := by kernel_rfl
theorem Try.cells79 : Try.prog.cellsOf 79 = 3 := by kernel_rfl
theorem given_text {w : AW} {n : Nat} {cs : List Value} (h : Hd Try.prog w n 9 cs) : ∃ s : ByteArray, cs = [.string s] ∧ s.size ≤ 140737488355328 := by
  cases n with
  | zero => exact h.elim
  | succ n =>
    simp only [Hd, Try.und9] at h
    exact h
theorem given_part {w : AW} {n : Nat} {cs : List Value} (h : Hd Try.prog w n 79 cs) : ∃ (x : PartV) (D : List DueN), cs = qcells x ∧ ArrOf w 2 dcells x.du D ∧ x.s.size ≤ 140737488355328 := by
  cases n with
  | zero => exact h.elim
  | succ n =>
    simp only [Hd, Try.und79] at h
    obtain ⟨parts, rfl, hl, hp⟩ := h
    match parts, hl with
    | [p0, p1, p2], _ =>
      obtain ⟨s, rfl, hs⟩ := given_text (hp 0 _ p0 rfl rfl)
      obtain ⟨x, rfl⟩ := given_int (hp 1 _ p1 rfl rfl)
      obtain ⟨u, rfl, D, hD⟩ := given_dues (hp 2 _ p2 rfl rfl)
      exact ⟨⟨s, x, u⟩, D, rfl, hD, hs⟩
theorem parts_of {w : AW} : ∀ {rows : List (List Value)}, (∀ r ∈ rows, ∃ (x : PartV) (D : List DueN), r = qcells x ∧ ArrOf w 2 dcells x.du D ∧ x.s.size ≤ 140737488355328) → ∃ (xs : List PartV) (Ds : List (List DueN)), rows = xs.map qcells ∧ Ds.length = xs.length ∧ (∀ i (h : i < xs.length) (h' : i < Ds.length), ArrOf w 2 dcells xs[i].du Ds[i]) ∧ ∀ x ∈ xs, x.s.size ≤ 140737488355328
  | [], _ => ⟨[], [], rfl, rfl, fun i h => by simp at h, fun x h => by simp at h⟩
  | r :: rows, h => by
    obtain ⟨x, D, hx, hD, hz⟩ := h r List.mem_cons_self
    obtain ⟨xs, Ds, h1, h2, h3, h4⟩ := parts_of fun q hq => h q (List.mem_cons_of_mem _ hq)
    refine ⟨x :: xs, D :: Ds, by rw [hx, h1]; rfl, by simp [h2], fun i hi hi' => ?_, fun y hy => ?_⟩
    · cases i with
      | zero => exact hD
      | succ i => exact h3 i (by simpa using hi) (by simpa using hi')
    · rcases List.mem_cons.mp hy with rfl | q
      · exact hz
      · exact h4 y q
end Go.Proofs
