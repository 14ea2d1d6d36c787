/- Least: contracts of the program's, and what it comes to. -/
import Derived.Test.YteeheldahpoppaaGreatLa
import Derived.Test.YteeheldahpoppaaGreatVa
set_option linter.unusedVariables false
set_option linter.unusedSimpArgs false
/- All sets, in the order of lists: extend. -/
namespace Go.Proofs
open Go Go.RowKit Go.Sim
set_option maxRecDepth 100000
/-- A list, and all that it begins, in the order of lists. -/
def allFrom (n : Nat) : Nat → List Int → Nat → List (List Int)
  | 0, L, _ => [L]
  | d + 1, L, from_ => L :: ((List.range (n - from_)).flatMap fun i => allFrom n d (L ++ [((from_ + i : Nat) : Int)]) (from_ + i + 1))
theorem Chain.arr {C : Nat → Prop} {w : AW} {v : Value} {L : List Int} (h : Chain C w v L) (hl : L.length ≤ 1048576) : ArrOf w 1 icells v L := by
  rcases h with ⟨rfl, rfl⟩ | ⟨b, r, rfl, h2, h3, h4, h5, h6, h7⟩
  · exact ArrOf.nil _ _ _
  · refine ⟨_, _, _, rfl, by simp, Nat.le_refl _, by omega, fun _ => ⟨b, 0, rfl, h3, fun i j row x hi hx => ?_⟩⟩
    rw [List.getElem?_map] at hi
    obtain ⟨z, hz, rfl⟩ := Option.map_eq_some_iff.mp hi
    have hj : j = 0 := by
      cases j with
      | zero => rfl
      | succ j => simp [icells] at hx
    subst hj
    simp [icells] at hx
    subst hx
    have : (L.flatMap ic)[i]? = some (.int .i64 z) := by
      have e : L.flatMap ic = L.map fun n => Value.int .i64 n := flat_icells L
      rw [e, List.getElem?_map, hz]; rfl
    simp only [AW.cell?, h6, getL_eq, Nat.zero_add, Nat.mul_one, Nat.add_zero, this]
    rfl
/-- What is not in C stays, and C grows by what is new alone. -/
structure Beside (C : Nat → Prop) (w : AW) (C' : Nat → Prop) (w' : AW) : Prop where
  same : ∀ j, j < w.next → ¬ C j → w'.blk j = w.blk j ∧ w'.family j = w.family j
  sub : ∀ j, C j → C' j
  new : ∀ j, C' j → C j ∨ (w.next ≤ j ∧ j < w'.next)
  next : w.next ≤ w'.next
/-- What a consumer of lists comes to, that never stops. -/
def Takes (n : Nat) (fn : Fn) (cp : Array Value) (I : List (List Int) → (Nat → Prop) → AW → Prop) : Prop :=
  ∀ seen C L v w, I seen C w → Fresh w → Chain C w v L → L.length ≤ 8 → (∀ i ∈ L, 0 ≤ i ∧ i < (n : Int)) →
    CallT Tryz.prog Tryz.T (.fn fn cp) #[v] w fun r w' => r = .bool true ∧ I (seen ++ [L]) C w' ∧ Fresh w' ∧ Above C w w'
def Stays (I : List (List Int) → (Nat → Prop) → AW → Prop) : Prop := ∀ seen C w C' w', I seen C w → Beside C w C' w' → Fresh w' → I seen C' w'
set_option maxHeartbeats 1000000 in
theorem extend_ok (n : Nat) (hn : n ≤ 8) (fn : Fn) (cp : Array Value) (I : List (List Int) → (Nat → Prop) → AW → Prop) (hst : Stays I) (hy : Takes n fn cp I) :
    ∀ (d from_ : Nat) (L : List Int) (v : Value) (w : AW) (seen : List (List Int)) (C : Nat → Prop), n - from_ ≤ d → from_ ≤ n → L.length + (n - from_) ≤ 8 → (∀ i ∈ L, 0 ≤ i ∧ i < (n : Int)) → Chain C w v L → I seen C w → Fresh w →
    CallT Tryz.prog Tryz.T (.fn (.func 75) #[]) #[.int .i64 (n : Int), v, .int .i64 (from_ : Int), .func fn #[] cp] w fun r w' =>
      r = .bool true ∧ ∃ C' : Nat → Prop, (∀ j, C j → C' j) ∧ (∀ j, C' j → C j ∨ w.next ≤ j) ∧ I (seen ++ allFrom n d L from_) C' w' ∧ Fresh w' ∧ w.next ≤ w'.next ∧ ∀ v0 L0, L0.length ≤ L.length → Chain C w v0 L0 → Chain C' w' v0 L0 := by
  intro d
  induction d with
  | zero =>
    intro from_ L v w seen C hd hfn hlen hL hC hI hf
    obtain ⟨cpn, ccap, ccc, rfl⟩ := hC.isSlice
    refine callT_code rfl Tryz.func75 rfl Tryz.s75_eq rfl ?_
    unfold Tryz.s75
    simp -dsimp -implicitDefEqProofs (maxSteps := 2000000) (disch := first | assumption | omega | (simp only [AW.next_push, AW.next_put]; omega) | ((repeat refine Fresh.push ?_ _); assumption) | (simp only [same_int, same_bool, same_ptr, same_slice, same_sliceP, same_nil, same_agg2, same_string]; done) | (simp [oneCell, AW.next_push]; done) | fail) only [go_sem, Nat.reduceEqDiff, reduceIte, Nat.reduceAdd, Int.toNat_natCast, Nat.add_zero, Owes_true, Tryz.results75]
    apply callV_of (e := rfl)
    · exact hy seen C L _ w hI hf hC (by omega) hL
    rintro _ w1 ⟨rfl, hI1, hf1, ha1⟩
    simp -dsimp -implicitDefEqProofs (maxSteps := 2000000) (disch := first | assumption | omega | (simp only [AW.next_push, AW.next_put]; omega) | ((repeat refine Fresh.push ?_ _); assumption) | (simp only [same_int, same_bool, same_ptr, same_slice, same_sliceP, same_nil, same_agg2, same_string]; done) | (simp [oneCell, AW.next_push]; done) | fail) only [go_sem, Nat.reduceEqDiff, reduceIte, Nat.reduceAdd, Int.toNat_natCast, Nat.add_zero, Owes_true, Tryz.results75]
    have hnot : ¬ (from_ : Int) < (n : Int) := by omega
    refine loopR (fun k t ds w2 => ds = [] ∧ ev t (.tmp 0) = .int .i64 (n : Int) ∧ ev t (.tmp 9) = .int .i64 (from_ : Int) ∧ w1 = w2) 0 ⟨rfl, by simp -dsimp -implicitDefEqProofs (maxSteps := 2000000) (disch := first | assumption | omega | (simp only [AW.next_push, AW.next_put]; omega) | ((repeat refine Fresh.push ?_ _); assumption) | (simp only [same_int, same_bool, same_ptr, same_slice, same_sliceP, same_nil, same_agg2, same_string]; done) | (simp [oneCell, AW.next_push]; done) | fail) only [go_sem, Nat.reduceEqDiff, reduceIte, Nat.reduceAdd, Int.toNat_natCast, Nat.add_zero, Owes_true], by simp -dsimp -implicitDefEqProofs (maxSteps := 2000000) (disch := first | assumption | omega | (simp only [AW.next_push, AW.next_put]; omega) | ((repeat refine Fresh.push ?_ _); assumption) | (simp only [same_int, same_bool, same_ptr, same_slice, same_sliceP, same_nil, same_agg2, same_string]; done) | (simp [oneCell, AW.next_push]; done) | fail) only [go_sem, Nat.reduceEqDiff, reduceIte, Nat.reduceAdd, Int.toNat_natCast, Nat.add_zero, Owes_true], rfl⟩ ?_
    rintro k t ds w2 ⟨rfl, e0, e9, rfl⟩
    simp -dsimp -implicitDefEqProofs (maxSteps := 2000000) (disch := first | assumption | omega | (simp only [AW.next_push, AW.next_put]; omega) | ((repeat refine Fresh.push ?_ _); assumption) | (simp only [same_int, same_bool, same_ptr, same_slice, same_sliceP, same_nil, same_agg2, same_string]; done) | (simp [oneCell, AW.next_push]; done) | fail) only [go_sem, Nat.reduceEqDiff, reduceIte, Nat.reduceAdd, Int.toNat_natCast, Nat.add_zero, Owes_true, Tryz.results75, e0, e9, hnot]
    exact ⟨trivial, C, fun _ q => q, fun _ q => .inl q, hI1, hf1, ha1.next, fun v0 L0 _ q => q.above ha1⟩
  | succ d ih =>
    intro from_ L v w seen C hd hfn hlen hL hC hI hf
    obtain ⟨cpn, ccap, ccc, rfl⟩ := hC.isSlice
    refine callT_code rfl Tryz.func75 rfl Tryz.s75_eq rfl ?_
    unfold Tryz.s75
    simp -dsimp -implicitDefEqProofs (maxSteps := 2000000) (disch := first | assumption | omega | (simp only [AW.next_push, AW.next_put]; omega) | ((repeat refine Fresh.push ?_ _); assumption) | (simp only [same_int, same_bool, same_ptr, same_slice, same_sliceP, same_nil, same_agg2, same_string]; done) | (simp [oneCell, AW.next_push]; done) | fail) only [go_sem, Nat.reduceEqDiff, reduceIte, Nat.reduceAdd, Int.toNat_natCast, Nat.add_zero, Owes_true, Tryz.results75]
    apply callV_of (e := rfl)
    · exact hy seen C L _ w hI hf hC (by omega) hL
    rintro _ w1 ⟨rfl, hI1, hf1, ha1⟩
    have hn1 := ha1.next
    simp -dsimp -implicitDefEqProofs (maxSteps := 2000000) (disch := first | assumption | omega | (simp only [AW.next_push, AW.next_put]; omega) | ((repeat refine Fresh.push ?_ _); assumption) | (simp only [same_int, same_bool, same_ptr, same_slice, same_sliceP, same_nil, same_agg2, same_string]; done) | (simp [oneCell, AW.next_push]; done) | fail) only [go_sem, Nat.reduceEqDiff, reduceIte, Nat.reduceAdd, Int.toNat_natCast, Nat.add_zero, Owes_true, Tryz.results75]
    refine loopR (fun k t ds w2 => ∃ i : Nat, i ≤ n - from_ ∧ k = n - from_ - i ∧ ds = [] ∧ ev t (.tmp 0) = .int .i64 (n : Int) ∧ ev t (.tmp 1) = .slice cpn ccap ccc ∧ ev t (.tmp 3) = .func fn #[] cp ∧ ev t (.tmp 9) = .int .i64 ((from_ + i : Nat) : Int) ∧
      ∃ C2 : Nat → Prop, (∀ j, C j → C2 j) ∧ (∀ j, C2 j → C j ∨ w.next ≤ j) ∧ I (seen ++ L :: ((List.range i).flatMap fun i => allFrom n d (L ++ [((from_ + i : Nat) : Int)]) (from_ + i + 1))) C2 w2 ∧ Fresh w2 ∧ w.next ≤ w2.next ∧ ∀ v0 L0, L0.length ≤ L.length → Chain C w v0 L0 → Chain C2 w2 v0 L0) (n - from_) ?_ ?_
    · exact ⟨0, by omega, by omega, rfl, by simp -dsimp -implicitDefEqProofs (maxSteps := 2000000) (disch := first | assumption | omega | (simp only [AW.next_push, AW.next_put]; omega) | ((repeat refine Fresh.push ?_ _); assumption) | (simp only [same_int, same_bool, same_ptr, same_slice, same_sliceP, same_nil, same_agg2, same_string]; done) | (simp [oneCell, AW.next_push]; done) | fail) only [go_sem, Nat.reduceEqDiff, reduceIte, Nat.reduceAdd, Int.toNat_natCast, Nat.add_zero, Owes_true], by simp -dsimp -implicitDefEqProofs (maxSteps := 2000000) (disch := first | assumption | omega | (simp only [AW.next_push, AW.next_put]; omega) | ((repeat refine Fresh.push ?_ _); assumption) | (simp only [same_int, same_bool, same_ptr, same_slice, same_sliceP, same_nil, same_agg2, same_string]; done) | (simp [oneCell, AW.next_push]; done) | fail) only [go_sem, Nat.reduceEqDiff, reduceIte, Nat.reduceAdd, Int.toNat_natCast, Nat.add_zero, Owes_true], by simp -dsimp -implicitDefEqProofs (maxSteps := 2000000) (disch := first | assumption | omega | (simp only [AW.next_push, AW.next_put]; omega) | ((repeat refine Fresh.push ?_ _); assumption) | (simp only [same_int, same_bool, same_ptr, same_slice, same_sliceP, same_nil, same_agg2, same_string]; done) | (simp [oneCell, AW.next_push]; done) | fail) only [go_sem, Nat.reduceEqDiff, reduceIte, Nat.reduceAdd, Int.toNat_natCast, Nat.add_zero, Owes_true], by (simp -dsimp -implicitDefEqProofs (maxSteps := 2000000) (disch := first | assumption | omega | (simp only [AW.next_push, AW.next_put]; omega) | ((repeat refine Fresh.push ?_ _); assumption) | (simp only [same_int, same_bool, same_ptr, same_slice, same_sliceP, same_nil, same_agg2, same_string]; done) | (simp [oneCell, AW.next_push]; done) | fail) only [go_sem, Nat.reduceEqDiff, reduceIte, Nat.reduceAdd, Int.toNat_natCast, Nat.add_zero, Owes_true]; try rfl), C, fun _ q => q, fun _ q => .inl q, by simpa using hI1, hf1, hn1, fun v0 L0 _ q => q.above ha1⟩
    rintro k t ds w2 ⟨i, hi, rfl, rfl, e0, e1, e3, e9, C2, hs2, hw2, hI2, hf2, hn2, hC2⟩
    by_cases hlt : ((from_ + i : Nat) : Int) < (n : Int)
    case neg =>
      have hin : i = n - from_ := by omega
      simp -dsimp -implicitDefEqProofs (maxSteps := 2000000) (disch := first | assumption | omega | (simp only [AW.next_push, AW.next_put]; omega) | ((repeat refine Fresh.push ?_ _); assumption) | (simp only [same_int, same_bool, same_ptr, same_slice, same_sliceP, same_nil, same_agg2, same_string]; done) | (simp [oneCell, AW.next_push]; done) | fail) only [go_sem, Nat.reduceEqDiff, reduceIte, Nat.reduceAdd, Int.toNat_natCast, Nat.add_zero, Owes_true, Tryz.results75, e0, e1, e3, e9, hlt]
      exact ⟨trivial, C2, hs2, hw2, by rw [allFrom, ← hin]; exact hI2, hf2, hn2, hC2⟩
    have hCp := hC2 _ L (Nat.le_refl _) hC
    obtain ⟨v', w3, happ, hC3, hf3, hsame3, hn3, hpre3⟩ := chain_append Tryz.ty24 Tryz.ty3 rfl (by omega) hCp hf2 ((from_ + i : Nat) : Int) (by omega)
    have hI3 := hst _ C2 w2 (fun j => C2 j ∨ j = w2.next + 1) w3 hI2 ⟨hsame3, fun _ q => .inl q, fun j q => q.imp id (fun q => ⟨by omega, by omega⟩), by omega⟩ hf3
    have hL' : ∀ j ∈ L ++ [((from_ + i : Nat) : Int)], 0 ≤ j ∧ j < (n : Int) := by
      intro j hj
      rcases List.mem_append.mp hj with q | q
      · exact hL j q
      · simp at q; omega
    have hcast : ((from_ + i : Nat) : Int) + 1 = ((from_ + i + 1 : Nat) : Int) := by omega
    obtain ⟨vp, vn, vc, rfl⟩ := hC3.isSlice
    simp -dsimp -implicitDefEqProofs (maxSteps := 2000000) (disch := first | assumption | omega | (simp only [AW.next_push, AW.next_put]; omega) | ((repeat refine Fresh.push ?_ _); assumption) | (simp only [same_int, same_bool, same_ptr, same_slice, same_sliceP, same_nil, same_agg2, same_string]; done) | (simp [oneCell, AW.next_push]; done) | fail) only [go_sem, Nat.reduceEqDiff, reduceIte, Nat.reduceAdd, Int.toNat_natCast, Nat.add_zero, Owes_true, Tryz.results75, e0, e1, e3, e9, hlt, happ, hcast]
    apply callV_of (e := rfl)
    · exact ih (from_ + i + 1) (L ++ [((from_ + i : Nat) : Int)]) _ w3 _ _ (by omega) (by omega) (by simp; omega) hL' hC3 hI3 hf3
    rintro _ w4 ⟨rfl, C4, hs4, hw4, hI4, hf4, hn4, hC4⟩
    simp -dsimp -implicitDefEqProofs (maxSteps := 2000000) (disch := first | assumption | omega | (simp only [AW.next_push, AW.next_put]; omega) | ((repeat refine Fresh.push ?_ _); assumption) | (simp only [same_int, same_bool, same_ptr, same_slice, same_sliceP, same_nil, same_agg2, same_string]; done) | (simp [oneCell, AW.next_push]; done) | fail) only [go_sem, Nat.reduceEqDiff, reduceIte, Nat.reduceAdd, Int.toNat_natCast, Nat.add_zero, Owes_true, Tryz.results75, e0, e1, e3, e9, hcast]
    refine ⟨_, by omega, i + 1, by omega, rfl, rfl, by simp -dsimp -implicitDefEqProofs (maxSteps := 2000000) (disch := first | assumption | omega | (simp only [AW.next_push, AW.next_put]; omega) | ((repeat refine Fresh.push ?_ _); assumption) | (simp only [same_int, same_bool, same_ptr, same_slice, same_sliceP, same_nil, same_agg2, same_string]; done) | (simp [oneCell, AW.next_push]; done) | fail) only [go_sem, Nat.reduceEqDiff, reduceIte, Nat.reduceAdd, Int.toNat_natCast, Nat.add_zero, Owes_true, e0], by simp -dsimp -implicitDefEqProofs (maxSteps := 2000000) (disch := first | assumption | omega | (simp only [AW.next_push, AW.next_put]; omega) | ((repeat refine Fresh.push ?_ _); assumption) | (simp only [same_int, same_bool, same_ptr, same_slice, same_sliceP, same_nil, same_agg2, same_string]; done) | (simp [oneCell, AW.next_push]; done) | fail) only [go_sem, Nat.reduceEqDiff, reduceIte, Nat.reduceAdd, Int.toNat_natCast, Nat.add_zero, Owes_true, e1], by simp -dsimp -implicitDefEqProofs (maxSteps := 2000000) (disch := first | assumption | omega | (simp only [AW.next_push, AW.next_put]; omega) | ((repeat refine Fresh.push ?_ _); assumption) | (simp only [same_int, same_bool, same_ptr, same_slice, same_sliceP, same_nil, same_agg2, same_string]; done) | (simp [oneCell, AW.next_push]; done) | fail) only [go_sem, Nat.reduceEqDiff, reduceIte, Nat.reduceAdd, Int.toNat_natCast, Nat.add_zero, Owes_true, e3], by (simp -dsimp -implicitDefEqProofs (maxSteps := 2000000) (disch := first | assumption | omega | (simp only [AW.next_push, AW.next_put]; omega) | ((repeat refine Fresh.push ?_ _); assumption) | (simp only [same_int, same_bool, same_ptr, same_slice, same_sliceP, same_nil, same_agg2, same_string]; done) | (simp [oneCell, AW.next_push]; done) | fail) only [go_sem, Nat.reduceEqDiff, reduceIte, Nat.reduceAdd, Int.toNat_natCast, Nat.add_zero, Owes_true, hcast]; try rfl), C4, fun j q => hs4 j (.inl (hs2 j q)), fun j q => ?_, ?_, hf4, by omega, fun v0 L0 hl0 q => hC4 v0 L0 (by simp; omega) (hpre3 v0 L0 hl0 (hC2 v0 L0 hl0 q))⟩
    · rcases hw4 j q with (q | q) | q
      · exact hw2 j q
      · exact .inr (by omega)
      · exact .inr (by omega)
    · rw [List.range_succ, List.flatMap_append]
      simpa using hI4
end Go.Proofs

/- Least: labours, clones, and the step from list to list. -/
namespace Go.Proofs
open Go Go.RowKit Go.Sim
set_option maxRecDepth 100000
def labAt (ms : List (Int × Int)) (i : Int) : Int := (ms.getD i.toNat (0, 0)).2
def labZ (ms : List (Int × Int)) (L : List Int) : Int := sumZ (labAt ms) L
theorem count_lab (ms : List (Int × Int)) (v : Value) (b : Nat) (L : List Int) (w : AW) (hL : ∀ i ∈ L, 0 ≤ i ∧ i < (ms.length : Int)) (hO : Own w b 22 [v]) (hs : ArrOf w 2 mcells v ms) :
    CountT (.func 53) #[.pointer (some ⟨b, 0, none⟩)] (labAt ms) L w := by
  intro x hx w' hg
  obtain ⟨h0, h1⟩ := hL x hx
  obtain ⟨k, rfl⟩ := Int.eq_ofNat_of_zero_le h0
  have hk : k < ms.length := by omega
  have hv1 := hs.oneCell
  obtain ⟨p, cap, rfl, hcap, hmax, hat⟩ := hs.open
  obtain ⟨b1, o1, rfl, hb1, hcell⟩ := hat k hk
  have hc1 := hcell w' hg.1 1 _ rfl
  have c0 := (hO.keep hg.1).cell (o := 0) rfl rfl
  refine callT_code rfl Tryz.func53 rfl Tryz.s53_eq rfl ?_
  unfold Tryz.s53
  simp -dsimp -implicitDefEqProofs (maxSteps := 2000000) (disch := first | assumption | omega | (simp only [AW.next_push, AW.next_put]; omega) | ((repeat refine Fresh.push ?_ _); assumption) | (simp only [same_int, same_bool, same_ptr, same_slice, same_sliceP, same_nil, same_agg2, same_string]; done) | (simp [oneCell, AW.next_push]; done) | fail) only [go_sem, Nat.reduceEqDiff, reduceIte, Nat.reduceAdd, Int.toNat_natCast, Nat.add_zero, Owes_true, Tryz.results53, indexV_eq, c0, hc1]
  exact ⟨by rw [labAt, Int.toNat_natCast, getD_at hk], .refl hg.2⟩
/- Whether a slice is nil. -/
theorem bin_slice (op : BinOp) (p q : Option Addr) (a b c d : Nat) : binQ op (.slice p a b) (.slice q c d) = none := rfl
theorem eqQ_slice (op : BinOp) (ty : TypeId) (p q : Option Addr) (a b c d : Nat) : eqQ Tryz.prog op ty (.slice p a b) (.slice q c d) = none := rfl
theorem fast_bin24 {t : Tmps} {w : AW} {op : BinOp} {x y : Operand} {r : TypeId} : fast (prg Tryz.prog) t w (.binOp op 24 x y r) = orElse (binV op (ev t x) (ev t y)) (eqNilV (.slice 3) op (ev t x) (ev t y)) := by
  simp only [fast, Tryz.ty24]
  cases binV op (ev t x) (ev t y) <;> rfl
theorem binV_slice (op : BinOp) (p q : Option Addr) (a b c d : Nat) : binV op (.slice p a b) (.slice q c d) = none := rfl
theorem eqNil_some (q : Addr) (a b : Nat) : eqNilV (.slice 3) .eql (.slice (some q) a b) (.slice none 0 0) = some (.bool false) := rfl
theorem eqNil_none (a b : Nat) : eqNilV (.slice 3) .eql (.slice none a b) (.slice none 0 0) = some (.bool true) := rfl
theorem Tryz.bs24x0 (t : Tmps) (l : List (Nat × Operand)) : makes (prg Tryz.prog) t (.buildSlice 24 0 ⟨l⟩) = bsQ 3 0 1 [] (l.map fun p => (p.1, ev t p.2)) := makes_bs Tryz.ty24 Tryz.ty3 rfl (by kernel_rfl)
theorem bsQ_00 {e : TypeId} {z : Nat} : bsQ e 0 z [] [] = some ([], e, fun n => .slice (some ⟨n, 0, none⟩) 0 0) := rfl
theorem clone_append {w : AW} {L : List Int} {b r : Nat} (f : Fresh w) (hb : b < w.next) (hbk : w.blk b = some (.cells (L.flatMap ic) 3 r 0 1)) (h0 : 0 < L.length) (hl : L.length ≤ 8) :
    append (prg Tryz.prog) (w.push (.cells [] 3 w.next 0 0)) 24 24 (.slice (some ⟨w.next, 0, none⟩) 0 0) (.slice (some ⟨b, 0, none⟩) L.length L.length) =
      some (.slice (some ⟨w.next + 1, 0, none⟩) L.length L.length, (w.push (.cells [] 3 w.next 0 0)).push (.cells (L.flatMap ic) 3 (w.next + 1) 0 1)) := by
  have hn1 : (w.push (.cells [] 3 w.next 0 0)).next = w.next + 1 := AW.next_push _ _
  have hbk1 : (w.push (.cells [] 3 w.next 0 0)).blk b = some (.cells (L.flatMap ic) 3 r 0 1) := by rw [blk_push_ne hb]; exact hbk
  have htop : (w.push (.cells [] 3 w.next 0 0)).blk w.next = some (.cells [] 3 w.next 0 0) := blk_push_top _ _
  generalize w.push (.cells [] 3 w.next 0 0) = u at *
  have hnew : aFirst u 1 L.length (.slice (some ⟨b, 0, none⟩) L.length L.length) = some (L.flatMap ic) := by
    show aCells u b 0 (L.length * 1) = some (L.flatMap ic)
    rw [Nat.mul_one, ← ic_len L]
    exact aCells_of (L.flatMap ic) 0 fun i y hy => by simp only [AW.cell?, hbk1, Nat.zero_add, getL_eq, hy, ic_one y (List.mem_of_getElem? hy)]
  have hold : aFirst u 1 0 (.slice (some ⟨w.next, 0, none⟩) 0 0) = some [] := rfl
  have cond : (Nat.beq 1 1 && Nat.ble L.length bound && Nat.ble 8 bound && Nat.ble 1 1 && Nat.beq 24 24) = true := by
    have : bound = 1048576 := rfl
    simp only [Bool.and_eq_true]
    exact ⟨⟨⟨⟨rfl, Nat.ble_eq_true_of_le (by omega)⟩, Nat.ble_eq_true_of_le (by omega)⟩, rfl⟩, rfl⟩
  have hle : Nat.ble L.length 0 = false := by
    cases q : Nat.ble L.length 0 with
    | false => rfl
    | true => have := Nat.le_of_ble_eq_true q; omega
  have hfull : u.full = false := rfl
  have hz : (Value.int IntKind.i64 0).cells.size = 1 := rfl
  have h00 : Nat.beq 0 0 = true := rfl
  unfold append
  simp only [Tryz.ty24, Tryz.ty3, hz, cond, hnew, hle, hold, AW.grow, hfull, htop, h00, List.nil_append, Nat.zero_add, hn1]
/-- A list that is kept: its block is none of those that grow. -/
def KeptS (C : Nat → Prop) (w : AW) (v : Value) (L : List Int) : Prop :=
  (v = .slice none 0 0 ∧ L = []) ∨ ∃ b r, v = .slice (some ⟨b, 0, none⟩) L.length L.length ∧ ¬ C b ∧ b < w.next ∧ w.blk b = some (.cells (L.flatMap ic) 3 r 0 1)
theorem KeptS.arr {C : Nat → Prop} {w : AW} {v : Value} {L : List Int} (h : KeptS C w v L) (hl : L.length ≤ 1048576) : ArrOf w 1 icells v L := by
  rcases h with ⟨rfl, rfl⟩ | ⟨b, r, rfl, h2, h3, h6⟩
  · exact ArrOf.nil _ _ _
  · refine ⟨_, _, _, rfl, by simp, Nat.le_refl _, by omega, fun _ => ⟨b, 0, rfl, h3, fun i j row x hi hx => ?_⟩⟩
    rw [List.getElem?_map] at hi
    obtain ⟨z, hz, rfl⟩ := Option.map_eq_some_iff.mp hi
    have hj : j = 0 := by
      cases j with
      | zero => rfl
      | succ j => simp [icells] at hx
    subst hj
    simp [icells] at hx
    subst hx
    have : (L.flatMap ic)[i]? = some (.int .i64 z) := by
      have e : L.flatMap ic = L.map fun n => Value.int .i64 n := flat_icells L
      rw [e, List.getElem?_map, hz]; rfl
    simp only [AW.cell?, h6, getL_eq, Nat.zero_add, Nat.mul_one, Nat.add_zero, this]
    rfl
theorem KeptS.isSlice {C : Nat → Prop} {w : AW} {v : Value} {L : List Int} (h : KeptS C w v L) : ∃ p n c, v = .slice p n c := by
  rcases h with ⟨rfl, _⟩ | ⟨_, _, rfl, _⟩
  · exact ⟨_, _, _, rfl⟩
  · exact ⟨_, _, _, rfl⟩
theorem KeptS.beside {C C' : Nat → Prop} {w w' : AW} {v : Value} {L : List Int} (h : KeptS C w v L) (k : Beside C w C' w') : KeptS C' w' v L := by
  have hn := k.next
  rcases h with h | ⟨b, r, rfl, h2, h3, h6⟩
  · exact .inl h
  · exact .inr ⟨b, r, rfl, fun q => (k.new b q).elim h2 (fun q => by omega), by omega, by rw [(k.same b h3 h2).1]; exact h6⟩
theorem KeptS.keep {C : Nat → Prop} {w w' : AW} {v : Value} {L : List Int} (h : KeptS C w v L) (k : Keep w.next w w') : KeptS C w' v L := by
  have hn := k.next
  rcases h with h | ⟨b, r, rfl, h2, h3, h6⟩
  · exact .inl h
  · exact .inr ⟨b, r, rfl, h2, by omega, by rw [k.blk b h3]; exact h6⟩
theorem KeptS.put {C : Nat → Prop} {w : AW} {v : Value} {L : List Int} (h : KeptS C w v L) {b : Nat} {k : Blk} (hb : ∀ c r, w.blk b ≠ some (.cells c 3 r 0 1)) : KeptS C (w.put b k) v L := by
  rcases h with h | ⟨b0, r, rfl, h2, h3, h6⟩
  · exact .inl h
  · refine .inr ⟨b0, r, rfl, h2, by rw [AW.next_put]; exact h3, ?_⟩
    rw [AW.blk_put _ _ _ _ (Trie.in_ _) (Trie.in_ _), if_neg (by rintro rfl; exact hb _ _ h6)]; exact h6
theorem clone_ok (C : Nat → Prop) (L : List Int) (v : Value) (w : AW) (f : Fresh w) (hC : Chain C w v L) (hl : L.length ≤ 8) (hCn : ∀ j, C j → j < w.next) :
    CallT Tryz.prog Tryz.T (.fn (.func 54) #[]) #[v] w fun s w' => KeptS C w' s L ∧ Grown w w' := by
  rcases hC with ⟨rfl, rfl⟩ | ⟨b, r, rfl, h2, h3, h4, h5, h6, h7⟩
  · refine callT_code rfl Tryz.func54 rfl Tryz.s54_eq rfl ?_
    unfold Tryz.s54
    simp -dsimp -implicitDefEqProofs (maxSteps := 2000000) (disch := first | assumption | omega | (simp only [AW.next_push, AW.next_put]; omega) | ((repeat refine Fresh.push ?_ _); assumption) | (simp only [same_int, same_bool, same_ptr, same_slice, same_sliceP, same_nil, same_agg2, same_string]; done) | (simp [oneCell, AW.next_push]; done) | fail) only [go_sem, Nat.reduceEqDiff, reduceIte, Nat.reduceAdd, Int.toNat_natCast, Nat.add_zero, Owes_true, Tryz.results54, bin_slice, eqQ_slice, fast_bin24, binV_slice, eqNil_none]
    exact ⟨.inl ⟨rfl, rfl⟩, .refl f⟩
  · have happ := clone_append (L := L) f h3 h6
    have happ := happ h2.2 hl
    refine callT_code rfl Tryz.func54 rfl Tryz.s54_eq rfl ?_
    unfold Tryz.s54
    simp -dsimp -implicitDefEqProofs (maxSteps := 2000000) (disch := first | assumption | omega | (simp only [AW.next_push, AW.next_put]; omega) | ((repeat refine Fresh.push ?_ _); assumption) | (simp only [same_int, same_bool, same_ptr, same_slice, same_sliceP, same_nil, same_agg2, same_string]; done) | (simp [oneCell, AW.next_push]; done) | fail) only [go_sem, Nat.reduceEqDiff, reduceIte, Nat.reduceAdd, Int.toNat_natCast, Nat.add_zero, Owes_true, Tryz.results54, bin_slice, eqQ_slice, fast_bin24, binV_slice, eqNil_some, Tryz.bs24x0, bsQ_00, happ]
    have g := ((Grown.refl f).push (.cells [] 3 w.next 0 0)).push (.cells (L.flatMap ic) 3 (w.next + 1) 0 1)
    refine ⟨.inr ⟨w.next + 1, w.next + 1, rfl, fun q => by have := hCn _ q; omega, by simp only [AW.next_push]; omega, ?_⟩, g⟩
    have hn1 : (w.push (.cells [] 3 w.next 0 0)).next = w.next + 1 := AW.next_push _ _
    have := blk_push_top (w.push (.cells [] 3 w.next 0 0)) (.cells (L.flatMap ic) 3 (w.next + 1) 0 1)
    rw [hn1] at this; exact this
end Go.Proofs

/- Least, as the program does it. -/
namespace Go.Proofs
open Go Go.RowKit Go.Sim
set_option maxRecDepth 100000
/-- The best set so far: whether there is one, its labour, the set. -/
def stepL (ms : List (Int × Int)) (rs : List Int) (fss : List (List (Int × Int))) (st : Bool × Int × List Int) (L : List Int) : Bool × Int × List Int :=
  if ((!st.1 || decide (labZ ms L < st.2.1)) && showsB ms rs fss L) = true then (true, labZ ms L, L) else st
def bestOf (ms : List (Int × Int)) (rs : List Int) (fss : List (List (Int × Int))) (seen : List (List Int)) : Bool × Int × List Int := seen.foldl (stepL ms rs fss) (false, 0, [])
theorem bestOf_snoc (ms : List (Int × Int)) (rs : List Int) (fss : List (List (Int × Int))) (seen : List (List Int)) (L : List Int) : bestOf ms rs fss (seen ++ [L]) = stepL ms rs fss (bestOf ms rs fss seen) L := by simp [bestOf]
theorem bestOf_len {ms : List (Int × Int)} {rs : List Int} {fss : List (List (Int × Int))} : ∀ (seen : List (List Int)) (st : Bool × Int × List Int), st.2.2.length ≤ 8 → (∀ L ∈ seen, L.length ≤ 8) → (seen.foldl (stepL ms rs fss) st).2.2.length ≤ 8
  | [], st, h, _ => h
  | L :: seen, st, h, k => by
    rw [List.foldl_cons]
    refine bestOf_len seen _ ?_ fun M hM => k M (List.mem_cons_of_mem _ hM)
    rw [stepL]
    split
    · exact k L List.mem_cons_self
    · exact h
theorem Own.beside {C C' : Nat → Prop} {w w' : AW} {b : Nat} {e : TypeId} {c : List Value} (h : Own w b e c) (hb : ¬ C b) (k : Beside C w C' w') : Own w' b e c :=
  ⟨by rw [(k.same b h.lt hb).1]; exact h.blk, by rw [(k.same b h.lt hb).2]; exact h.fam, by have := h.lt; have := k.next; omega⟩
structure Places where
  b0 : Nat
  b1 : Nat
  b2 : Nat
  b3 : Nat
  b4 : Nat
  b5 : Nat
  d : Nat
  l : Nat
structure LI (ms : List (Int × Int)) (rs : List Int) (fss : List (List (Int × Int))) (mv uv xv : Value) (W0 : AW) (p : Places) (lp : ALoop) (seen : List (List Int)) (C : Nat → Prop) (w : AW) : Prop where
  o0 : Own w p.b0 22 [mv]
  o1 : Own w p.b1 24 [uv]
  o2 : Own w p.b2 36 [xv]
  o3 : ∃ sv, Own w p.b3 24 [sv] ∧ KeptS C w sv (bestOf ms rs fss seen).2.2
  o4 : Own w p.b4 3 [.int .i64 (bestOf ms rs fss seen).2.1]
  o5 : Own w p.b5 4 [.bool (bestOf ms rs fss seen).1]
  loop : w.blk p.l = some (.loop lp)
  mark : w.blk p.d = some (.deferred (some []))
  keep : Keep W0.next W0 w
  small : ∀ j, C j → p.l < j ∧ j < w.next
  lt : p.l < w.next
/-- The places lie one behind the other. -/
def Places.inRow (p : Places) (n : Nat) : Prop := n ≤ p.b0 ∧ p.b0 < p.b1 ∧ p.b1 < p.b2 ∧ p.b2 < p.b3 ∧ p.b3 < p.b4 ∧ p.b4 < p.b5 ∧ p.b5 < p.d ∧ p.d < p.l
theorem LI.stays {ms : List (Int × Int)} {rs : List Int} {fss : List (List (Int × Int))} {mv uv xv : Value} {W0 : AW} {p : Places} {lp : ALoop} (hp : p.inRow W0.next) : Stays (LI ms rs fss mv uv xv W0 p lp) := by
  intro seen C w C' w' h k hf
  obtain ⟨h0, h1, h2, h3, h4, h5, h6, h7⟩ := hp
  have out : ∀ j, j ≤ p.l → ¬ C j := fun j hj q => by have := (h.small j q).1; omega
  have hl := h.lt
  obtain ⟨sv, hs, hk⟩ := h.o3
  exact ⟨Own.beside h.o0 (out _ (by omega)) k, Own.beside h.o1 (out _ (by omega)) k, Own.beside h.o2 (out _ (by omega)) k, ⟨sv, Own.beside hs (out _ (by omega)) k, hk.beside k⟩, Own.beside h.o4 (out _ (by omega)) k, Own.beside h.o5 (out _ (by omega)) k,
    by rw [(k.same p.l hl (out _ (by omega))).1]; exact h.loop, by rw [(k.same p.d (by omega) (out _ (by omega))).1]; exact h.mark,
    ⟨fun i hi => by rw [(k.same i (by omega) (out _ (by omega))).1]; exact h.keep.blk i hi, fun i hi => by rw [(k.same i (by omega) (out _ (by omega))).2]; exact h.keep.fam i hi, Nat.le_trans h.keep.next k.next⟩,
    fun j q => (k.new j q).elim (fun q => by have := h.small j q; have := k.next; omega) (fun q => by omega), by have := k.next; omega⟩
theorem blk_keep {w w' : AW} {b : Nat} {x : Blk} (h : w.blk b = some x) (hb : b < w.next) (k : Keep w.next w w') : w'.blk b = some x := by rw [k.blk b hb]; exact h
theorem blk_ne {w : AW} {b j : Nat} {x k : Blk} (h : w.blk b = some x) (hb : b ≠ j) : (w.put j k).blk b = some x := by rw [AW.blk_put _ _ _ _ (Trie.in_ _) (Trie.in_ _), if_neg hb]; exact h
section
variable {ms : List (Int × Int)} {rs : List Int} {fss : List (List (Int × Int))} {mv uv xv : Value} {W0 : AW} {p : Places} {lp : ALoop} {seen : List (List Int)} {C : Nat → Prop} {w : AW}
theorem LI.relp (h : LI ms rs fss mv uv xv W0 p lp seen C w) (hp : p.inRow W0.next) (lp2 : ALoop) : LI ms rs fss mv uv xv W0 p lp2 seen C (w.put p.l (.loop lp2)) := by
  obtain ⟨h0, h1, h2, h3, h4, h5, h6, h7⟩ := hp
  obtain ⟨sv, hs, hk⟩ := h.o3
  exact ⟨h.o0.put_ne (by omega) _, h.o1.put_ne (by omega) _, h.o2.put_ne (by omega) _, ⟨sv, hs.put_ne (by omega) _, hk.put fun c r q => by rw [h.loop] at q; cases q⟩, h.o4.put_ne (by omega) _, h.o5.put_ne (by omega) _,
    by rw [AW.blk_put _ _ _ _ (Trie.in_ _) (Trie.in_ _), if_pos rfl], blk_ne h.mark (by omega), h.keep.put (by omega) _, fun j q => by rw [AW.next_put]; exact h.small j q, by rw [AW.next_put]; exact h.lt⟩
theorem LI.keepN {w' : AW} (h : LI ms rs fss mv uv xv W0 p lp seen C w) (hp : p.inRow W0.next) (k : Keep w.next w w') : LI ms rs fss mv uv xv W0 p lp seen C w' := by
  obtain ⟨h0, h1, h2, h3, h4, h5, h6, h7⟩ := hp
  obtain ⟨sv, hs, hk⟩ := h.o3
  have hl := h.lt
  have hn := k.next
  have hkn := h.keep.next
  exact ⟨h.o0.keep k, h.o1.keep k, h.o2.keep k, ⟨sv, hs.keep k, hk.keep k⟩, h.o4.keep k, h.o5.keep k, blk_keep h.loop hl k, blk_keep h.mark (by omega) k, h.keep.trans (k.mono hkn), fun j q => by have := h.small j q; omega, by omega⟩
theorem LI.same {seen' : List (List Int)} (h : LI ms rs fss mv uv xv W0 p lp seen C w) (hb : bestOf ms rs fss seen' = bestOf ms rs fss seen) : LI ms rs fss mv uv xv W0 p lp seen' C w :=
  ⟨h.o0, h.o1, h.o2, by rw [hb]; exact h.o3, by rw [hb]; exact h.o4, by rw [hb]; exact h.o5, h.loop, h.mark, h.keep, h.small, h.lt⟩
theorem LI.out (h : LI ms rs fss mv uv xv W0 p lp seen C w) {j : Nat} (hj : j ≤ p.l) : ¬ C j := fun q => by have := (h.small j q).1; omega
theorem LI.best {seen' : List (List Int)} {sv : Value} {L : List Int} {n : Int} (h : LI ms rs fss mv uv xv W0 p lp seen C w) (hp : p.inRow W0.next) (hk : KeptS C w sv L) (hb : bestOf ms rs fss seen' = (true, n, L)) :
    LI ms rs fss mv uv xv W0 p lp seen' C (((w.put p.b3 (.cells [sv] 24 p.b3 0 0)).put p.b4 (.cells [.int .i64 n] 3 p.b4 0 0)).put p.b5 (.cells [.bool true] 4 p.b5 0 0)) := by
  obtain ⟨h0, h1, h2, h3, h4, h5, h6, h7⟩ := hp
  obtain ⟨sv0, hs, _⟩ := h.o3
  have a3 : KeptS C (w.put p.b3 (.cells [sv] 24 p.b3 0 0)) sv L := hk.put fun c r q => by rw [hs.blk] at q; cases q
  have b4 := h.o4.put_ne (b := p.b3) (by omega) (.cells [sv] 24 p.b3 0 0)
  have a4 : KeptS C ((w.put p.b3 (.cells [sv] 24 p.b3 0 0)).put p.b4 (.cells [.int .i64 n] 3 p.b4 0 0)) sv L := a3.put fun c r q => by rw [b4.blk] at q; cases q
  have b5 := (h.o5.put_ne (b := p.b3) (by omega) (.cells [sv] 24 p.b3 0 0)).put_ne (b := p.b4) (by omega) (.cells [.int .i64 n] 3 p.b4 0 0)
  have a5 : KeptS C (((w.put p.b3 (.cells [sv] 24 p.b3 0 0)).put p.b4 (.cells [.int .i64 n] 3 p.b4 0 0)).put p.b5 (.cells [.bool true] 4 p.b5 0 0)) sv L := a4.put fun c r q => by rw [b5.blk] at q; cases q
  refine ⟨((h.o0.put_ne (by omega) _).put_ne (by omega) _).put_ne (by omega) _, ((h.o1.put_ne (by omega) _).put_ne (by omega) _).put_ne (by omega) _, ((h.o2.put_ne (by omega) _).put_ne (by omega) _).put_ne (by omega) _, ⟨sv, ((hs.put [sv]).put_ne (by omega) _).put_ne (by omega) _, by rw [hb]; exact a5⟩,
    by rw [hb]; exact (b4.put [.int .i64 n]).put_ne (by omega) _, by rw [hb]; exact b5.put [.bool true], blk_ne (blk_ne (blk_ne h.loop (by omega)) (by omega)) (by omega), blk_ne (blk_ne (blk_ne h.mark (by omega)) (by omega)) (by omega), ((h.keep.put (by omega) _).put (by omega) _).put (by omega) _,
    fun j q => by simp only [AW.next_put]; exact h.small j q, by simp only [AW.next_put]; exact h.lt⟩
end
set_option maxHeartbeats 4000000 in
theorem takes_ok (ms : List (Int × Int)) (rs : List Int) (fss : List (List (Int × Int))) (mv uv xv : Value) (W0 : AW) (f0 : Fresh W0) (hs : ArrOf W0 2 mcells mv ms) (hr : ArrOf W0 1 icells uv rs) (hF : Fks W0 xv fss) (hG : Good ms rs) (hok : ∀ fs ∈ fss, fs.length = ms.length ∧ ∀ s ∈ fs, okSp s = true)
    (p : Places) (hp : p.inRow W0.next) (t : Tmps) (e3 : ev t (.tmp 3) = .pointer (some ⟨p.b0, 0, none⟩)) (e4 : ev t (.tmp 4) = .pointer (some ⟨p.b1, 0, none⟩)) (e5 : ev t (.tmp 5) = .pointer (some ⟨p.b2, 0, none⟩)) (e6 : ev t (.tmp 6) = .pointer (some ⟨p.b3, 0, none⟩))
    (e7 : ev t (.tmp 7) = .pointer (some ⟨p.b4, 0, none⟩)) (e10 : ev t (.tmp 10) = .pointer (some ⟨p.b5, 0, none⟩)) (seen0 : List (List Int)) (hseen : True) :
    Takes ms.length (.yield p.l) #[] (LI ms rs fss mv uv xv W0 p ⟨.ready, none, 22, t, #[24], codeA Tryz.f22, codeB Tryz.f22, p.d⟩) := by
  intro seen C L v w hI hf hC hL8 hLn
  have hp' := hp
  obtain ⟨h0, h1, h2, h3, h4, h5, h6, h7⟩ := hp'
  have hll := hI.lt
  obtain ⟨vp, vn, vc, rfl⟩ := hC.isSlice
  refine callT_yield (lp := ⟨.ready, none, 22, t, #[24], codeA Tryz.f22, codeB Tryz.f22, p.d⟩) hI.loop rfl ?_
  show CodeT Tryz.prog Tryz.T { fn := 22, round := some p.l } (codeA Tryz.f22) (putTmp t (some 24) (.slice vp vn vc)) [] w _
  refine codeR_codeT (x := .mk) _ ?_
  rw [Tryz.ra22_eq]
  unfold Tryz.ra22
  simp -dsimp -implicitDefEqProofs (maxSteps := 2000000) (disch := first | assumption | omega | (simp only [AW.next_push, AW.next_put]; omega) | ((repeat refine Fresh.push ?_ _); assumption) | (simp only [same_int, same_bool, same_ptr, same_slice, same_sliceP, same_nil, same_agg2, same_string]; done) | (simp [oneCell, AW.next_push]; done) | fail) only [go_sem, Nat.reduceEqDiff, reduceIte, Nat.reduceAdd, Int.toNat_natCast, Nat.add_zero, Owes_true]
  refine ⟨trivial, _, hI.loop, rfl, ?_⟩
  refine codeR_codeT (x := .mk) _ ?_
  rw [Tryz.rb22_eq]
  unfold Tryz.rb22
  have hIb := hI.relp hp ⟨.busy, none, 22, t, #[24], codeA Tryz.f22, codeB Tryz.f22, p.d⟩
  have ha0 : Above C w (w.put p.l (.loop ⟨.busy, none, 22, t, #[24], codeA Tryz.f22, codeB Tryz.f22, p.d⟩)) := .put (hI.out (Nat.le_refl _)) _
  have fb := hf.put hll (.loop ⟨.busy, none, 22, t, #[24], codeA Tryz.f22, codeB Tryz.f22, p.d⟩)
  generalize w.put p.l (.loop ⟨.busy, none, 22, t, #[24], codeA Tryz.f22, codeB Tryz.f22, p.d⟩) = wb at *
  have hC0 := hC.above ha0
  have gb : Grown W0 wb := ⟨hIb.keep, fb⟩
  have hset : ∀ i ∈ L, 0 ≤ i ∧ i < ms.length := fun i hi => hLn i hi
  have hlab : ∀ i ∈ L, 0 ≤ labAt ms i ∧ labAt ms i ≤ 1000 := fun i hi => by
    obtain ⟨a, b⟩ := hLn i hi
    obtain ⟨k, rfl⟩ := Int.eq_ofNat_of_zero_le a
    have hk : k < ms.length := by omega
    have := hG.lab _ (List.getElem_mem hk)
    rw [labAt, Int.toNat_natCast, getD_at hk]; omega
  simp -dsimp -implicitDefEqProofs (maxSteps := 2000000) (disch := first | assumption | omega | (simp only [AW.next_push, AW.next_put]; omega) | ((repeat refine Fresh.push ?_ _); assumption) | (simp only [same_int, same_bool, same_ptr, same_slice, same_sliceP, same_nil, same_agg2, same_string]; done) | (simp [oneCell, AW.next_push]; done) | fail) only [go_sem, Nat.reduceEqDiff, reduceIte, Nat.reduceAdd, Int.toNat_natCast, Nat.add_zero, Owes_true, e3, e4, e5, e6, e7, e10]
  apply callV_of (e := rfl)
  · exact sumInt_ok L _ (.func 53) _ (labAt ms) wb gb.2 (Chain.arr hC0 (by omega)) (count_lab ms mv p.b0 L wb hset hIb.o0 (hs.grown gb)) hlab (by omega)
  rintro _ w1 ⟨rfl, g1⟩
  have G1 := gb.trans g1
  have hI1 := hIb.keepN hp g1.1
  have ha1 := ha0.trans (.of g1.1)
  have q0 := hI1.o0.cell (o := 0) rfl hs.oneCell
  have q1 := hI1.o1.cell (o := 0) rfl hr.oneCell
  have q2 := hI1.o2.cell (o := 0) rfl hF.oneCell
  have q4 := hI1.o4.cell (o := 0) rfl rfl
  have q5 := hI1.o5.cell (o := 0) rfl rfl
  have hC1 := hC.above ha1
  rw [show sumZ (labAt ms) L = labZ ms L from rfl]
  have hn1 := g1.1.next
  -- nothing better
  have stay : ∀ w2, LI ms rs fss mv uv xv W0 p ⟨.busy, none, 22, t, #[24], codeA Tryz.f22, codeB Tryz.f22, p.d⟩ seen C w2 → Fresh w2 → Above C w w2 → ((!(bestOf ms rs fss seen).1 || decide (labZ ms L < (bestOf ms rs fss seen).2.1)) && showsB ms rs fss L) = false →
      LI ms rs fss mv uv xv W0 p ⟨.ready, none, 22, t, #[24], codeA Tryz.f22, codeB Tryz.f22, p.d⟩ (seen ++ [L]) C (w2.put p.l (.loop ⟨.ready, none, 22, t, #[24], codeA Tryz.f22, codeB Tryz.f22, p.d⟩)) ∧ Fresh (w2.put p.l (.loop ⟨.ready, none, 22, t, #[24], codeA Tryz.f22, codeB Tryz.f22, p.d⟩)) ∧ Above C w (w2.put p.l (.loop ⟨.ready, none, 22, t, #[24], codeA Tryz.f22, codeB Tryz.f22, p.d⟩)) := by
    intro w2 hI2 hf2 ha2 hno
    have hbest : bestOf ms rs fss (seen ++ [L]) = bestOf ms rs fss seen := by rw [bestOf_snoc, stepL, hno]; rfl
    exact ⟨(hI2.same hbest).relp hp _, hf2.put hI2.lt _, ha2.trans (.put (hI2.out (Nat.le_refl _)) _)⟩
  by_cases hK : (!(bestOf ms rs fss seen).1 || decide (labZ ms L < (bestOf ms rs fss seen).2.1)) = true
  case neg =>
    rw [Bool.not_eq_true] at hK
    have hno : ((!(bestOf ms rs fss seen).1 || decide (labZ ms L < (bestOf ms rs fss seen).2.1)) && showsB ms rs fss L) = false := by rw [hK]; rfl
    rw [Bool.or_eq_false_iff] at hK
    obtain ⟨hk1, hk2⟩ := hK
    have hk1' : (bestOf ms rs fss seen).1 = true := by simpa using hk1
    rw [hk1'] at q5
    have hk2' : ¬ labZ ms L < (bestOf ms rs fss seen).2.1 := by simpa using hk2
    obtain ⟨r1, r2, r3⟩ := stay w1 hI1 g1.2 ha1 hno
    simp -dsimp -implicitDefEqProofs (maxSteps := 2000000) (disch := first | assumption | omega | (simp only [AW.next_push, AW.next_put]; omega) | ((repeat refine Fresh.push ?_ _); assumption) | (simp only [same_int, same_bool, same_ptr, same_slice, same_sliceP, same_nil, same_agg2, same_string]; done) | (simp [oneCell, AW.next_push]; done) | fail) only [go_sem, Nat.reduceEqDiff, reduceIte, Nat.reduceAdd, Int.toNat_natCast, Nat.add_zero, Owes_true, e3, e4, e5, e6, e7, e10, q4, q5, hk2']
    exact ⟨by trivial, by trivial, _, hI1.loop, by trivial, r1, r2, r3⟩
  have go : True := trivial
  cases hk1 : (bestOf ms rs fss seen).1 with
  | false =>
    rw [hk1] at q5
    simp -dsimp -implicitDefEqProofs (maxSteps := 2000000) (disch := first | assumption | omega | (simp only [AW.next_push, AW.next_put]; omega) | ((repeat refine Fresh.push ?_ _); assumption) | (simp only [same_int, same_bool, same_ptr, same_slice, same_sliceP, same_nil, same_agg2, same_string]; done) | (simp [oneCell, AW.next_push]; done) | fail) only [go_sem, Nat.reduceEqDiff, reduceIte, Nat.reduceAdd, Int.toNat_natCast, Nat.add_zero, Owes_true, e3, e4, e5, e6, e7, e10, q0, q1, q2, q4, q5]
    apply callV_of (e := rfl)
    · exact shows_ok ms rs fss L _ _ _ _ w1 G1.2 (hs.grown G1) (hr.grown G1) (hF.grown G1) (Chain.arr hC1 (by omega)) hG hok hset
    rintro _ w2 ⟨rfl, g2⟩
    have hI2 := hI1.keepN hp g2.1
    have ha2 := ha1.trans (.of g2.1)
    cases hS : showsB ms rs fss L with
    | false =>
      obtain ⟨r1, r2, r3⟩ := stay w2 hI2 g2.2 ha2 (by rw [hS, Bool.and_false])
      simp -dsimp -implicitDefEqProofs (maxSteps := 2000000) (disch := first | assumption | omega | (simp only [AW.next_push, AW.next_put]; omega) | ((repeat refine Fresh.push ?_ _); assumption) | (simp only [same_int, same_bool, same_ptr, same_slice, same_sliceP, same_nil, same_agg2, same_string]; done) | (simp [oneCell, AW.next_push]; done) | fail) only [go_sem, Nat.reduceEqDiff, reduceIte, Nat.reduceAdd, Int.toNat_natCast, Nat.add_zero, Owes_true]
      exact ⟨by trivial, by trivial, _, hI2.loop, by trivial, r1, r2, r3⟩
    | true =>
      simp -dsimp -implicitDefEqProofs (maxSteps := 2000000) (disch := first | assumption | omega | (simp only [AW.next_push, AW.next_put]; omega) | ((repeat refine Fresh.push ?_ _); assumption) | (simp only [same_int, same_bool, same_ptr, same_slice, same_sliceP, same_nil, same_agg2, same_string]; done) | (simp [oneCell, AW.next_push]; done) | fail) only [go_sem, Nat.reduceEqDiff, reduceIte, Nat.reduceAdd, Int.toNat_natCast, Nat.add_zero, Owes_true]
      apply callV_of (e := rfl)
      · exact clone_ok C L _ w2 g2.2 (hC.above ha2) hL8 (fun j q => (hI2.small j q).2)
      rintro sv' w3 ⟨hk3, g3⟩
      have hI3 := hI2.keepN hp g3.1
      have ha3 := ha2.trans (.of g3.1)
      have hbest : bestOf ms rs fss (seen ++ [L]) = (true, labZ ms L, L) := by rw [bestOf_snoc, stepL, if_pos (by rw [hK, hS]; rfl)]
      have hI4 := hI3.best hp hk3 hbest
      have ha4 : Above C w (((w3.put p.b3 (.cells [sv'] 24 p.b3 0 0)).put p.b4 (.cells [.int .i64 (labZ ms L)] 3 p.b4 0 0)).put p.b5 (.cells [.bool true] 4 p.b5 0 0)) := ((ha3.trans (.put (hI3.out (by omega)) _)).trans (.put (hI3.out (by omega)) _)).trans (.put (hI3.out (by omega)) _)
      obtain ⟨sv0, hs3, _⟩ := hI3.o3
      have fl3 := hI3.lt
      have f4 : Fresh (((w3.put p.b3 (.cells [sv'] 24 p.b3 0 0)).put p.b4 (.cells [.int .i64 (labZ ms L)] 3 p.b4 0 0)).put p.b5 (.cells [.bool true] 4 p.b5 0 0)) := ((g3.2.put (by omega) _).put (by rw [AW.next_put]; omega) _).put (by simp only [AW.next_put]; omega) _
      have st3 := storeV_own1 (o := 0) (v := sv') hs3 (by simp) (by obtain ⟨_, _, _, rfl⟩ := hk3.isSlice; rfl)
      have st4 := storeV_own1 (o := 0) (v := .int .i64 (labZ ms L)) (hI3.o4.put_ne (b := p.b3) (by omega) (.cells [sv'] 24 p.b3 0 0)) (by simp) rfl
      have st5 := storeV_own1 (o := 0) (v := .bool true) ((hI3.o5.put_ne (b := p.b3) (by omega) (.cells [sv'] 24 p.b3 0 0)).put_ne (b := p.b4) (by omega) (.cells [.int .i64 (labZ ms L)] 3 p.b4 0 0)) (by simp) rfl
      simp only [setL] at st3 st4 st5
      simp -dsimp -implicitDefEqProofs (maxSteps := 2000000) (disch := first | assumption | omega | (simp only [AW.next_push, AW.next_put]; omega) | ((repeat refine Fresh.push ?_ _); assumption) | (simp only [same_int, same_bool, same_ptr, same_slice, same_sliceP, same_nil, same_agg2, same_string]; done) | (simp [oneCell, AW.next_push]; done) | fail) only [go_sem, Nat.reduceEqDiff, reduceIte, Nat.reduceAdd, Int.toNat_natCast, Nat.add_zero, Owes_true, e3, e4, e5, e6, e7, e10, st3, st4, st5]
      exact ⟨by trivial, by trivial, _, hI4.loop, by trivial, hI4.relp hp _, f4.put hI4.lt _, ha4.trans (.put (hI4.out (Nat.le_refl _)) _)⟩
  | true =>
    rw [hk1] at q5
    have hk2 : labZ ms L < (bestOf ms rs fss seen).2.1 := by rw [hk1] at hK; simpa using hK
    simp -dsimp -implicitDefEqProofs (maxSteps := 2000000) (disch := first | assumption | omega | (simp only [AW.next_push, AW.next_put]; omega) | ((repeat refine Fresh.push ?_ _); assumption) | (simp only [same_int, same_bool, same_ptr, same_slice, same_sliceP, same_nil, same_agg2, same_string]; done) | (simp [oneCell, AW.next_push]; done) | fail) only [go_sem, Nat.reduceEqDiff, reduceIte, Nat.reduceAdd, Int.toNat_natCast, Nat.add_zero, Owes_true, e3, e4, e5, e6, e7, e10, q0, q1, q2, q4, q5, hk2]
    apply callV_of (e := rfl)
    · exact shows_ok ms rs fss L _ _ _ _ w1 G1.2 (hs.grown G1) (hr.grown G1) (hF.grown G1) (Chain.arr hC1 (by omega)) hG hok hset
    rintro _ w2 ⟨rfl, g2⟩
    have hI2 := hI1.keepN hp g2.1
    have ha2 := ha1.trans (.of g2.1)
    cases hS : showsB ms rs fss L with
    | false =>
      obtain ⟨r1, r2, r3⟩ := stay w2 hI2 g2.2 ha2 (by rw [hS, Bool.and_false])
      simp -dsimp -implicitDefEqProofs (maxSteps := 2000000) (disch := first | assumption | omega | (simp only [AW.next_push, AW.next_put]; omega) | ((repeat refine Fresh.push ?_ _); assumption) | (simp only [same_int, same_bool, same_ptr, same_slice, same_sliceP, same_nil, same_agg2, same_string]; done) | (simp [oneCell, AW.next_push]; done) | fail) only [go_sem, Nat.reduceEqDiff, reduceIte, Nat.reduceAdd, Int.toNat_natCast, Nat.add_zero, Owes_true]
      exact ⟨by trivial, by trivial, _, hI2.loop, by trivial, r1, r2, r3⟩
    | true =>
      simp -dsimp -implicitDefEqProofs (maxSteps := 2000000) (disch := first | assumption | omega | (simp only [AW.next_push, AW.next_put]; omega) | ((repeat refine Fresh.push ?_ _); assumption) | (simp only [same_int, same_bool, same_ptr, same_slice, same_sliceP, same_nil, same_agg2, same_string]; done) | (simp [oneCell, AW.next_push]; done) | fail) only [go_sem, Nat.reduceEqDiff, reduceIte, Nat.reduceAdd, Int.toNat_natCast, Nat.add_zero, Owes_true]
      apply callV_of (e := rfl)
      · exact clone_ok C L _ w2 g2.2 (hC.above ha2) hL8 (fun j q => (hI2.small j q).2)
      rintro sv' w3 ⟨hk3, g3⟩
      have hI3 := hI2.keepN hp g3.1
      have ha3 := ha2.trans (.of g3.1)
      have hbest : bestOf ms rs fss (seen ++ [L]) = (true, labZ ms L, L) := by rw [bestOf_snoc, stepL, if_pos (by rw [hK, hS]; rfl)]
      have hI4 := hI3.best hp hk3 hbest
      have ha4 : Above C w (((w3.put p.b3 (.cells [sv'] 24 p.b3 0 0)).put p.b4 (.cells [.int .i64 (labZ ms L)] 3 p.b4 0 0)).put p.b5 (.cells [.bool true] 4 p.b5 0 0)) := ((ha3.trans (.put (hI3.out (by omega)) _)).trans (.put (hI3.out (by omega)) _)).trans (.put (hI3.out (by omega)) _)
      obtain ⟨sv0, hs3, _⟩ := hI3.o3
      have fl3 := hI3.lt
      have f4 : Fresh (((w3.put p.b3 (.cells [sv'] 24 p.b3 0 0)).put p.b4 (.cells [.int .i64 (labZ ms L)] 3 p.b4 0 0)).put p.b5 (.cells [.bool true] 4 p.b5 0 0)) := ((g3.2.put (by omega) _).put (by rw [AW.next_put]; omega) _).put (by simp only [AW.next_put]; omega) _
      have st3 := storeV_own1 (o := 0) (v := sv') hs3 (by simp) (by obtain ⟨_, _, _, rfl⟩ := hk3.isSlice; rfl)
      have st4 := storeV_own1 (o := 0) (v := .int .i64 (labZ ms L)) (hI3.o4.put_ne (b := p.b3) (by omega) (.cells [sv'] 24 p.b3 0 0)) (by simp) rfl
      have st5 := storeV_own1 (o := 0) (v := .bool true) ((hI3.o5.put_ne (b := p.b3) (by omega) (.cells [sv'] 24 p.b3 0 0)).put_ne (b := p.b4) (by omega) (.cells [.int .i64 (labZ ms L)] 3 p.b4 0 0)) (by simp) rfl
      simp only [setL] at st3 st4 st5
      simp -dsimp -implicitDefEqProofs (maxSteps := 2000000) (disch := first | assumption | omega | (simp only [AW.next_push, AW.next_put]; omega) | ((repeat refine Fresh.push ?_ _); assumption) | (simp only [same_int, same_bool, same_ptr, same_slice, same_sliceP, same_nil, same_agg2, same_string]; done) | (simp [oneCell, AW.next_push]; done) | fail) only [go_sem, Nat.reduceEqDiff, reduceIte, Nat.reduceAdd, Int.toNat_natCast, Nat.add_zero, Owes_true, e3, e4, e5, e6, e7, e10, st3, st4, st5]
      exact ⟨by trivial, by trivial, _, hI4.loop, by trivial, hI4.relp hp _, f4.put hI4.lt _, ha4.trans (.put (hI4.out (Nat.le_refl _)) _)⟩
theorem dummy : True := trivial
end Go.Proofs

/- Least, as the program does it: the whole function. -/
namespace Go.Proofs
open Go Go.RowKit Go.Sim
set_option maxRecDepth 100000
def leastOf (ms : List (Int × Int)) (rs : List Int) (fss : List (List (Int × Int))) : Bool × Int × List Int := bestOf ms rs fss (allFrom ms.length ms.length [] 0)
def leastE (ms : List (Int × Int)) (rs : List Int) (fss : List (List (Int × Int))) : Int := if askE ms [rs] fss = 0 then (if (leastOf ms rs fss).1 = true then 0 else 4) else askE ms [rs] fss
def leastN (ms : List (Int × Int)) (rs : List Int) (fss : List (List (Int × Int))) : Int := if leastE ms rs fss = 0 then (leastOf ms rs fss).2.1 else 0
def leastS (ms : List (Int × Int)) (rs : List Int) (fss : List (List (Int × Int))) : List Int := if leastE ms rs fss = 0 then (leastOf ms rs fss).2.2 else []
def LeastPost (ms : List (Int × Int)) (rs : List Int) (fss : List (List (Int × Int))) (w : AW) (v : Value) (w' : AW) : Prop :=
  ∃ s, v = .tuple #[s, .int .i64 (leastN ms rs fss), .int .i64 (leastE ms rs fss)] ∧ ArrOf w' 1 icells s (leastS ms rs fss) ∧ Grown w w'
theorem LeastPost.err {ms : List (Int × Int)} {rs : List Int} {fss : List (List (Int × Int))} {w w' : AW} {e : Int} (h : leastE ms rs fss = e) (h0 : e ≠ 0) (g : Grown w w') : LeastPost ms rs fss w (.tuple #[.slice none 0 0, .int .i64 0, .int .i64 e]) w' := by
  refine ⟨_, by rw [leastN, h, if_neg h0], ?_, g⟩
  rw [leastS, h, if_neg h0]
  exact ArrOf.nil _ _ _
theorem sets_ok (n : Int) (w : AW) (f : Fresh w) : CallT Tryz.prog Tryz.T (.fn (.func 51) #[]) #[.int .i64 n] w fun r w' => r = .func (.func 74) #[] #[.pointer (some ⟨w.next, 0, none⟩)] ∧ w' = w.push (.cells [.int .i64 n] 3 w.next 0 0) := by
  refine callT_code rfl Tryz.func51 rfl Tryz.s51_eq rfl ?_
  unfold Tryz.s51
  simp -dsimp -implicitDefEqProofs (maxSteps := 2000000) (disch := first | assumption | omega | (simp only [AW.next_push, AW.next_put]; omega) | ((repeat refine Fresh.push ?_ _); assumption) | (simp only [same_int, same_bool, same_ptr, same_slice, same_sliceP, same_nil, same_agg2, same_string]; done) | (simp [oneCell, AW.next_push]; done) | fail) only [go_sem, Nat.reduceEqDiff, reduceIte, Nat.reduceAdd, Int.toNat_natCast, Nat.add_zero, Owes_true, Tryz.results51]
  constructor <;> first | rfl | trivial
theorem sets1_ok (n : Nat) (hn : n ≤ 8) (fn : Fn) (cp : Array Value) (I : List (List Int) → (Nat → Prop) → AW → Prop) (hst : Stays I) (hy : Takes n fn cp I) (b : Nat) (w : AW) (f : Fresh w) (hO : Own w b 3 [.int .i64 (n : Int)]) (hI : I [] (fun _ => False) w) :
    CallT Tryz.prog Tryz.T (.fn (.func 74) #[.pointer (some ⟨b, 0, none⟩)]) #[.func fn #[] cp] w fun _ w' => ∃ C' : Nat → Prop, I (allFrom n n [] 0) C' w' ∧ Fresh w' := by
  have c0 := hO.cell (o := 0) rfl rfl
  refine callT_code rfl Tryz.func74 rfl Tryz.s74_eq rfl ?_
  unfold Tryz.s74
  simp -dsimp -implicitDefEqProofs (maxSteps := 2000000) (disch := first | assumption | omega | (simp only [AW.next_push, AW.next_put]; omega) | ((repeat refine Fresh.push ?_ _); assumption) | (simp only [same_int, same_bool, same_ptr, same_slice, same_sliceP, same_nil, same_agg2, same_string]; done) | (simp [oneCell, AW.next_push]; done) | fail) only [go_sem, Nat.reduceEqDiff, reduceIte, Nat.reduceAdd, Int.toNat_natCast, Nat.add_zero, Owes_true, Tryz.results74, c0]
  apply callV_of (e := rfl)
  · exact extend_ok n hn fn cp I hst hy n 0 [] (.slice none 0 0) w [] (fun _ => False) (by omega) (by omega) (by simp; omega) (by simp) (.inl ⟨rfl, rfl⟩) hI f
  rintro _ w' ⟨rfl, C', _, _, hI', hf', _, _⟩
  simp -dsimp -implicitDefEqProofs (maxSteps := 2000000) (disch := first | assumption | omega | (simp only [AW.next_push, AW.next_put]; omega) | ((repeat refine Fresh.push ?_ _); assumption) | (simp only [same_int, same_bool, same_ptr, same_slice, same_sliceP, same_nil, same_agg2, same_string]; done) | (simp [oneCell, AW.next_push]; done) | fail) only [go_sem, Nat.reduceEqDiff, reduceIte, Nat.reduceAdd, Int.toNat_natCast, Nat.add_zero, Owes_true, Tryz.results74]
  exact ⟨C', hI', hf'⟩
theorem allFrom_len (n : Nat) : ∀ (d from_ : Nat) (L : List Int), L.length + d ≤ 8 → ∀ M ∈ allFrom n d L from_, M.length ≤ 8
  | 0, from_, L, h, M, hM => by simp [allFrom] at hM; subst hM; omega
  | d + 1, from_, L, h, M, hM => by
    rw [allFrom] at hM
    rcases List.mem_cons.mp hM with q | q
    · subst q; omega
    · obtain ⟨i, _, hi⟩ := List.mem_flatMap.mp q
      exact allFrom_len n d _ _ (by simp; omega) M hi
theorem least_len {ms : List (Int × Int)} {rs : List Int} {fss : List (List (Int × Int))} (h : ms.length ≤ 8) : (leastOf ms rs fss).2.2.length ≤ 8 := bestOf_len _ _ (by simp) (allFrom_len ms.length ms.length 0 [] (by simp; omega))
theorem LI.over {ms : List (Int × Int)} {rs : List Int} {fss : List (List (Int × Int))} {mv uv xv : Value} {W0 : AW} {p : Places} {lp : ALoop} {seen : List (List Int)} {C : Nat → Prop} {w : AW} (h : LI ms rs fss mv uv xv W0 p lp seen C w) (hp : p.inRow W0.next) (f : Fresh w) :
    LI ms rs fss mv uv xv W0 p { lp with state := .exhausted } seen C (w.put p.l (.loop { lp with state := .exhausted })) ∧ Fresh (w.put p.l (.loop { lp with state := .exhausted })) := ⟨h.relp hp _, f.put h.lt _⟩
theorem range_least (ms : List (Int × Int)) (rs : List Int) (fss : List (List (Int × Int))) (mv uv xv : Value) (w : AW) (f : Fresh w) (hs : ArrOf w 2 mcells mv ms) (hr : ArrOf w 1 icells uv rs) (hF : Fks w xv fss) (hG : Good ms rs) (hok : ∀ fs ∈ fss, fs.length = ms.length ∧ ∀ s ∈ fs, okSp s = true)
    (p : Places) (hp : p.inRow w.next) (w9 : AW) (hd : w9.next = p.d) (hl : p.l = p.d + 1) (g9 : Grown w w9) (bn : Nat) (pn : Own w9 bn 3 [.int .i64 (ms.length : Int)])
    (q0 : Own w9 p.b0 22 [mv]) (q1 : Own w9 p.b1 24 [uv]) (q2 : Own w9 p.b2 36 [xv]) (q3 : Own w9 p.b3 24 [.slice none 0 0]) (q4 : Own w9 p.b4 3 [.int .i64 0]) (q5 : Own w9 p.b5 4 [.bool false])
    (t : Tmps) (e3 : ev t (.tmp 3) = .pointer (some ⟨p.b0, 0, none⟩)) (e4 : ev t (.tmp 4) = .pointer (some ⟨p.b1, 0, none⟩)) (e5 : ev t (.tmp 5) = .pointer (some ⟨p.b2, 0, none⟩)) (e6 : ev t (.tmp 6) = .pointer (some ⟨p.b3, 0, none⟩))
    (e7 : ev t (.tmp 7) = .pointer (some ⟨p.b4, 0, none⟩)) (e10 : ev t (.tmp 10) = .pointer (some ⟨p.b5, 0, none⟩)) :
    CallT Tryz.prog Tryz.T (.fn (.func 74) #[.pointer (some ⟨bn, 0, none⟩)]) #[.func (.yield p.l) #[] #[]] ((w9.push (.deferred (some []))).push (.loop ⟨.ready, none, 22, t, #[24], codeA Tryz.f22, codeB Tryz.f22, p.d⟩))
      fun _ w' => ∃ C' : Nat → Prop, LI ms rs fss mv uv xv w p ⟨.ready, none, 22, t, #[24], codeA Tryz.f22, codeB Tryz.f22, p.d⟩ (allFrom ms.length ms.length [] 0) C' w' ∧ Fresh w' := by
  have hp' := hp
  obtain ⟨h0, h1, h2, h3, h4, h5, h6, h7⟩ := hp'
  have hn1 : (w9.push (.deferred (some []))).next = p.l := by rw [AW.next_push]; omega
  have fd := g9.2.push (.deferred (some []))
  have fl := fd.push (.loop ⟨.ready, none, 22, t, #[24], codeA Tryz.f22, codeB Tryz.f22, p.d⟩)
  refine sets1_ok ms.length hG.len (.yield p.l) #[] _ (LI.stays hp) (takes_ok ms rs fss mv uv xv w f hs hr hF hG hok p hp t e3 e4 e5 e6 e7 e10 [] trivial) bn _ fl ((pn.push _).push _) ?_
  refine ⟨(q0.push _).push _, (q1.push _).push _, (q2.push _).push _, ⟨_, (q3.push _).push _, .inl ⟨rfl, rfl⟩⟩, (q4.push _).push _, (q5.push _).push _, ?_, ?_, ?_, fun j q => q.elim, by rw [AW.next_push, hn1]; omega⟩
  · rw [← hn1]; exact blk_push_top _ _
  · rw [blk_push_ne (by omega), ← hd]; exact blk_push_top _ _
  · exact ((g9.1.push (by have := g9.1.next; omega) _)).push (by rw [hn1]; omega) _
set_option maxHeartbeats 4000000 in
theorem Least_ok (ms : List (Int × Int)) (rs : List Int) (fss : List (List (Int × Int))) (v u x : Value) (w : AW) (f : Fresh w) (hs : ArrOf w 2 mcells v ms) (hr : ArrOf w 1 icells u rs) (hF : Fks w x fss) :
    CallT Tryz.prog Tryz.T (.fn (.func 22) #[]) #[v, u, x] w (LeastPost ms rs fss w) := by
  obtain ⟨vs, hvl, hvs, hrow⟩ := id hF
  obtain ⟨p, cap, rfl, hcap, hmax, hat⟩ := hs.open
  obtain ⟨q, cap2, rfl, hcap2, hmax2, hat2⟩ := hr.open
  obtain ⟨r, cap3, rfl, hcap3, hmax3, hat3⟩ := hvs.open
  have f1 := f.push (.cells [.slice p ms.length cap] 22 w.next 0 0)
  have f2 := f1.push (.cells [.slice q rs.length cap2] 24 (w.next + 1) 0 0)
  have f3 := f2.push (.cells [.slice r vs.length cap3] 36 (w.next + 1 + 1) 0 0)
  have f4 := f3.push (.cells [.slice none 0 0] 24 (w.next + 1 + 1 + 1) 0 0)
  have f5 := f4.push (.cells [.int .i64 0] 3 (w.next + 1 + 1 + 1 + 1) 0 0)
  have o0 := ((((Own.new f 22 [.slice p ms.length cap]).push (.cells [.slice q rs.length cap2] 24 (w.next + 1) 0 0)).push (.cells [.slice r vs.length cap3] 36 (w.next + 1 + 1) 0 0)).push (.cells [.slice none 0 0] 24 (w.next + 1 + 1 + 1) 0 0)).push (.cells [.int .i64 0] 3 (w.next + 1 + 1 + 1 + 1) 0 0)
  have o1 := Own.new f1 24 [.slice q rs.length cap2]
  simp only [AW.next_push] at o1
  have o1 := ((o1.push (.cells [.slice r vs.length cap3] 36 (w.next + 1 + 1) 0 0)).push (.cells [.slice none 0 0] 24 (w.next + 1 + 1 + 1) 0 0)).push (.cells [.int .i64 0] 3 (w.next + 1 + 1 + 1 + 1) 0 0)
  have o2 := Own.new f2 36 [.slice r vs.length cap3]
  simp only [AW.next_push] at o2
  have o2 := (o2.push (.cells [.slice none 0 0] 24 (w.next + 1 + 1 + 1) 0 0)).push (.cells [.int .i64 0] 3 (w.next + 1 + 1 + 1 + 1) 0 0)
  have o3 := Own.new f3 24 [.slice none 0 0]
  simp only [AW.next_push] at o3
  have o3 := o3.push (.cells [.int .i64 0] 3 (w.next + 1 + 1 + 1 + 1) 0 0)
  have o4 := Own.new f4 3 [.int .i64 0]
  simp only [AW.next_push] at o4
  have g5 := (((((Grown.refl f).push (.cells [.slice p ms.length cap] 22 w.next 0 0)).push (.cells [.slice q rs.length cap2] 24 (w.next + 1) 0 0)).push (.cells [.slice r vs.length cap3] 36 (w.next + 1 + 1) 0 0)).push (.cells [.slice none 0 0] 24 (w.next + 1 + 1 + 1) 0 0)).push (.cells [.int .i64 0] 3 (w.next + 1 + 1 + 1 + 1) 0 0)
  have c0 := o0.cell (o := 0) rfl rfl
  have c1 := o1.cell (o := 0) rfl rfl
  have c2 := o2.cell (o := 0) rfl rfl
  have hn5 : (((((w.push (.cells [.slice p ms.length cap] 22 w.next 0 0)).push (.cells [.slice q rs.length cap2] 24 (w.next + 1) 0 0)).push (.cells [.slice r vs.length cap3] 36 (w.next + 1 + 1) 0 0)).push (.cells [.slice none 0 0] 24 (w.next + 1 + 1 + 1) 0 0)).push (.cells [.int .i64 0] 3 (w.next + 1 + 1 + 1 + 1) 0 0)).next = w.next + 1 + 1 + 1 + 1 + 1 := by simp only [AW.next_push]
  refine callT_code rfl Tryz.func22 rfl Tryz.s22_eq rfl ?_
  unfold Tryz.s22
  simp -dsimp -implicitDefEqProofs (maxSteps := 2000000) (disch := first | assumption | omega | (simp only [AW.next_push, AW.next_put]; omega) | ((repeat refine Fresh.push ?_ _); assumption) | (simp only [same_int, same_bool, same_ptr, same_slice, same_sliceP, same_nil, same_agg2, same_string]; done) | (simp [oneCell, AW.next_push]; done) | fail) only [go_sem, Nat.reduceEqDiff, reduceIte, Nat.reduceAdd, Int.toNat_natCast, Nat.add_zero, Owes_true, Tryz.results22, c0, c1, c2]
  generalize ((((w.push (.cells [.slice p ms.length cap] 22 w.next 0 0)).push (.cells [.slice q rs.length cap2] 24 (w.next + 1) 0 0)).push (.cells [.slice r vs.length cap3] 36 (w.next + 1 + 1) 0 0)).push (.cells [.slice none 0 0] 24 (w.next + 1 + 1 + 1) 0 0)).push (.cells [.int .i64 0] 3 (w.next + 1 + 1 + 1 + 1) 0 0) = w5 at *
  have hrw := rows1 g5.2 (hr.grown g5)
  rw [hn5] at hrw
  have g6 := g5.push (.cells [.slice q rs.length cap2] 24 (w.next + 1 + 1 + 1 + 1 + 1) 0 0)
  apply callV_of (e := rfl)
  · exact checkF_ok ms [rs] fss _ _ _ _ g6.2 (hs.grown g6) (hF.grown g6) hrw
  rintro _ w1 ⟨rfl, hg1⟩
  have g7 := g6.trans hg1
  have p0 := (o0.push (.cells [.slice q rs.length cap2] 24 (w.next + 1 + 1 + 1 + 1 + 1) 0 0)).keep hg1.1
  have p1 := (o1.push (.cells [.slice q rs.length cap2] 24 (w.next + 1 + 1 + 1 + 1 + 1) 0 0)).keep hg1.1
  have p2 := (o2.push (.cells [.slice q rs.length cap2] 24 (w.next + 1 + 1 + 1 + 1 + 1) 0 0)).keep hg1.1
  have p3 := (o3.push (.cells [.slice q rs.length cap2] 24 (w.next + 1 + 1 + 1 + 1 + 1) 0 0)).keep hg1.1
  have p4 := (o4.push (.cells [.slice q rs.length cap2] 24 (w.next + 1 + 1 + 1 + 1 + 1) 0 0)).keep hg1.1
  have hn6 := p4.lt
  clear o0 o1 o2 o3 o4 c0 c1 c2 f1 f2 f3 f4 f5
  by_cases hE : askE ms [rs] fss = 0
  case neg =>
    have s3 := storeV_own1 (o := 0) (v := .slice none 0 0) p3 (by simp) rfl
    have s4 := storeV_own1 (o := 0) (v := .int .i64 0) (p4.put_ne (b := w.next + 1 + 1 + 1) (by omega) (.cells [.slice none 0 0] 24 (w.next + 1 + 1 + 1) 0 0)) (by simp) rfl
    simp only [setL] at s3 s4
    have z3 := ((p3.put [.slice none 0 0]).put_ne (b := w.next + 1 + 1 + 1 + 1) (by omega) (.cells [.int .i64 0] 3 (w.next + 1 + 1 + 1 + 1) 0 0)).cell (o := 0) rfl rfl
    have z4 := ((p4.put_ne (b := w.next + 1 + 1 + 1) (by omega) (.cells [.slice none 0 0] 24 (w.next + 1 + 1 + 1) 0 0)).put [.int .i64 0]).cell (o := 0) rfl rfl
    simp -dsimp -implicitDefEqProofs (maxSteps := 2000000) (disch := first | assumption | omega | (simp only [AW.next_push, AW.next_put]; omega) | ((repeat refine Fresh.push ?_ _); assumption) | (simp only [same_int, same_bool, same_ptr, same_slice, same_sliceP, same_nil, same_agg2, same_string]; done) | (simp [oneCell, AW.next_push]; done) | fail) only [go_sem, Nat.reduceEqDiff, reduceIte, Nat.reduceAdd, Int.toNat_natCast, Nat.add_zero, Owes_true, Tryz.results22, hE, s3, s4, z3, z4]
    exact LeastPost.err (by rw [leastE, if_neg hE]) hE ((g7.put (by omega) (by omega) _).put (by omega) (by rw [AW.next_put]; omega) _)
  obtain ⟨hG, hf10, hfs⟩ := askE_zero hE
  have d0 := (p0.push (.cells [.bool false] 4 w1.next 0 0)).cell (o := 0) rfl rfl
  have p5 := Own.new g7.2 4 [.bool false]
  have g8 := g7.push (.cells [.bool false] 4 w1.next 0 0)
  have f7 := g7.2
  have st5 : storeV (w1.push (.cells [.bool false] 4 w1.next 0 0)) false 1 (.pointer (some ⟨w1.next, 0, none⟩)) (.bool false) = some (w1.push (.cells [.bool false] 4 w1.next 0 0)) := by
    have := storeV_own1 (o := 0) (v := .bool false) p5 (by simp) rfl
    rw [put_push] at this
    exact this
  simp -dsimp -implicitDefEqProofs (maxSteps := 2000000) (disch := first | assumption | omega | (simp only [AW.next_push, AW.next_put]; omega) | ((repeat refine Fresh.push ?_ _); assumption) | (simp only [same_int, same_bool, same_ptr, same_slice, same_sliceP, same_nil, same_agg2, same_string]; done) | (simp [oneCell, AW.next_push]; done) | fail) only [go_sem, Nat.reduceEqDiff, reduceIte, Nat.reduceAdd, Int.toNat_natCast, Nat.add_zero, Owes_true, Tryz.results22, hE, d0, st5]
  apply callV_of (e := rfl)
  · exact sets_ok (ms.length : Int) _ g8.2
  rintro _ w2 ⟨rfl, rfl⟩
  have hn8 : (w1.push (.cells [.bool false] 4 w1.next 0 0)).next = w1.next + 1 := AW.next_push _ _
  rw [hn8]
  have g9 := g8.push (.cells [.int .i64 (ms.length : Int)] 3 (w1.next + 1) 0 0)
  have pn := Own.new g8.2 3 [.int .i64 (ms.length : Int)]
  rw [hn8] at pn
  have hn9 : ((w1.push (.cells [.bool false] 4 w1.next 0 0)).push (.cells [.int .i64 (ms.length : Int)] 3 (w1.next + 1) 0 0)).next = w1.next + 1 + 1 := by simp only [AW.next_push]
  have q0 := (p0.push (.cells [.bool false] 4 w1.next 0 0)).push (.cells [.int .i64 (ms.length : Int)] 3 (w1.next + 1) 0 0)
  have q1 := (p1.push (.cells [.bool false] 4 w1.next 0 0)).push (.cells [.int .i64 (ms.length : Int)] 3 (w1.next + 1) 0 0)
  have q2 := (p2.push (.cells [.bool false] 4 w1.next 0 0)).push (.cells [.int .i64 (ms.length : Int)] 3 (w1.next + 1) 0 0)
  have q3 := (p3.push (.cells [.bool false] 4 w1.next 0 0)).push (.cells [.int .i64 (ms.length : Int)] 3 (w1.next + 1) 0 0)
  have q4 := (p4.push (.cells [.bool false] 4 w1.next 0 0)).push (.cells [.int .i64 (ms.length : Int)] 3 (w1.next + 1) 0 0)
  have q5 := p5.push (.cells [.int .i64 (ms.length : Int)] 3 (w1.next + 1) 0 0)
  simp -dsimp -implicitDefEqProofs (maxSteps := 2000000) (disch := first | assumption | omega | (simp only [AW.next_push, AW.next_put]; omega) | ((repeat refine Fresh.push ?_ _); assumption) | (simp only [same_int, same_bool, same_ptr, same_slice, same_sliceP, same_nil, same_agg2, same_string]; done) | (simp [oneCell, AW.next_push]; done) | fail) only [go_sem, Nat.reduceEqDiff, reduceIte, Nat.reduceAdd, Int.toNat_natCast, Nat.add_zero, Owes_true, Tryz.results22]
  generalize ((w1.push (.cells [.bool false] 4 w1.next 0 0)).push (.cells [.int .i64 (ms.length : Int)] 3 (w1.next + 1) 0 0)) = w9 at *
  have hpl : Places.inRow ⟨w.next, w.next + 1, w.next + 1 + 1, w.next + 1 + 1 + 1, w.next + 1 + 1 + 1 + 1, w1.next, w9.next, w9.next + 1⟩ w.next := by
    refine ⟨?_, ?_, ?_, ?_, ?_, ?_, ?_, ?_⟩ <;> simp only [] <;> omega
  refine codeT_range rfl (by simp -dsimp -implicitDefEqProofs (maxSteps := 2000000) (disch := first | assumption | omega | (simp only [AW.next_push, AW.next_put]; omega) | ((repeat refine Fresh.push ?_ _); assumption) | (simp only [same_int, same_bool, same_ptr, same_slice, same_sliceP, same_nil, same_agg2, same_string]; done) | (simp [oneCell, AW.next_push]; done) | fail) only [go_sem, Nat.reduceEqDiff, reduceIte, Nat.reduceAdd, Int.toNat_natCast, Nat.add_zero, Owes_true]; rfl) ?_
  have hd9 : w9.next + 1 = (⟨w.next, w.next + 1, w.next + 1 + 1, w.next + 1 + 1 + 1, w.next + 1 + 1 + 1 + 1, w1.next, w9.next, w9.next + 1⟩ : Places).l := rfl
  refine (range_least ms rs fss _ _ _ w f hs hr hF hG hfs ⟨w.next, w.next + 1, w.next + 1 + 1, w.next + 1 + 1 + 1, w.next + 1 + 1 + 1 + 1, w1.next, w9.next, w9.next + 1⟩ hpl w9 rfl rfl g9 _ pn q0 q1 q2 q3 q4 q5 _ (by simp -dsimp -implicitDefEqProofs (maxSteps := 2000000) (disch := first | assumption | omega | (simp only [AW.next_push, AW.next_put]; omega) | ((repeat refine Fresh.push ?_ _); assumption) | (simp only [same_int, same_bool, same_ptr, same_slice, same_sliceP, same_nil, same_agg2, same_string]; done) | (simp [oneCell, AW.next_push]; done) | fail) only [go_sem, Nat.reduceEqDiff, reduceIte, Nat.reduceAdd, Int.toNat_natCast, Nat.add_zero, Owes_true]) (by simp -dsimp -implicitDefEqProofs (maxSteps := 2000000) (disch := first | assumption | omega | (simp only [AW.next_push, AW.next_put]; omega) | ((repeat refine Fresh.push ?_ _); assumption) | (simp only [same_int, same_bool, same_ptr, same_slice, same_sliceP, same_nil, same_agg2, same_string]; done) | (simp [oneCell, AW.next_push]; done) | fail) only [go_sem, Nat.reduceEqDiff, reduceIte, Nat.reduceAdd, Int.toNat_natCast, Nat.add_zero, Owes_true]) (by simp -dsimp -implicitDefEqProofs (maxSteps := 2000000) (disch := first | assumption | omega | (simp only [AW.next_push, AW.next_put]; omega) | ((repeat refine Fresh.push ?_ _); assumption) | (simp only [same_int, same_bool, same_ptr, same_slice, same_sliceP, same_nil, same_agg2, same_string]; done) | (simp [oneCell, AW.next_push]; done) | fail) only [go_sem, Nat.reduceEqDiff, reduceIte, Nat.reduceAdd, Int.toNat_natCast, Nat.add_zero, Owes_true]) (by simp -dsimp -implicitDefEqProofs (maxSteps := 2000000) (disch := first | assumption | omega | (simp only [AW.next_push, AW.next_put]; omega) | ((repeat refine Fresh.push ?_ _); assumption) | (simp only [same_int, same_bool, same_ptr, same_slice, same_sliceP, same_nil, same_agg2, same_string]; done) | (simp [oneCell, AW.next_push]; done) | fail) only [go_sem, Nat.reduceEqDiff, reduceIte, Nat.reduceAdd, Int.toNat_natCast, Nat.add_zero, Owes_true]) (by simp -dsimp -implicitDefEqProofs (maxSteps := 2000000) (disch := first | assumption | omega | (simp only [AW.next_push, AW.next_put]; omega) | ((repeat refine Fresh.push ?_ _); assumption) | (simp only [same_int, same_bool, same_ptr, same_slice, same_sliceP, same_nil, same_agg2, same_string]; done) | (simp [oneCell, AW.next_push]; done) | fail) only [go_sem, Nat.reduceEqDiff, reduceIte, Nat.reduceAdd, Int.toNat_natCast, Nat.add_zero, Owes_true]) (by simp -dsimp -implicitDefEqProofs (maxSteps := 2000000) (disch := first | assumption | omega | (simp only [AW.next_push, AW.next_put]; omega) | ((repeat refine Fresh.push ?_ _); assumption) | (simp only [same_int, same_bool, same_ptr, same_slice, same_sliceP, same_nil, same_agg2, same_string]; done) | (simp [oneCell, AW.next_push]; done) | fail) only [go_sem, Nat.reduceEqDiff, reduceIte, Nat.reduceAdd, Int.toNat_natCast, Nat.add_zero, Owes_true])).mono ?_
  rintro _ w' ⟨C', hI, hf'⟩
  refine ⟨_, hI.loop, rfl, rfl, ?_⟩
  intro W hW
  obtain ⟨hI2, hf2⟩ := hI.over hpl hf'
  have hfW : Fresh W := by rw [hW]; exact hf2
  have hIW := hI2
  have hWe : W = _ := hW.trans (show _ = w'.put (Places.l ⟨w.next, w.next + 1, w.next + 1 + 1, w.next + 1 + 1 + 1, w.next + 1 + 1 + 1 + 1, w1.next, w9.next, w9.next + 1⟩) _ from rfl)
  rw [← hWe] at hIW
  clear hW hWe hI2 hf2 hI hf'
  obtain ⟨sv, r3, rk⟩ := hIW.o3
  have r4 := hIW.o4
  have r5 := hIW.o5
  have rm := hIW.mark
  have rl := hIW.lt
  have rg := hIW.keep
  obtain ⟨h0, h1, h2, h3, h4, h5, h6, h7⟩ := id hpl
  simp only [] at r3 r4 r5 rm rl h0 h1 h2 h3 h4 h5 h6 h7
  rw [show bestOf ms rs fss (allFrom ms.length ms.length [] 0) = leastOf ms rs fss from rfl] at r4 r5 rk
  have c3 := r3.cell (o := 0) rfl (by obtain ⟨_, _, _, rfl⟩ := rk.isSlice; rfl)
  have c4 := r4.cell (o := 0) rfl rfl
  have c5 := r5.cell (o := 0) rfl rfl
  have gW : Grown w W := ⟨rg, hfW⟩
  cases hB : (leastOf ms rs fss).1 with
  | false =>
    rw [hB] at c5
    have s3 := storeV_own1 (o := 0) (v := .slice none 0 0) r3 (by simp) rfl
    have s4 := storeV_own1 (o := 0) (v := .int .i64 0) (r4.put_ne (b := w.next + 1 + 1 + 1) (by omega) (.cells [.slice none 0 0] 24 (w.next + 1 + 1 + 1) 0 0)) (by simp) rfl
    simp only [setL] at s3 s4
    have z3 := ((r3.put [.slice none 0 0]).put_ne (b := w.next + 1 + 1 + 1 + 1) (by omega) (.cells [.int .i64 0] 3 (w.next + 1 + 1 + 1 + 1) 0 0)).put_ne (b := w9.next) (by omega) (.deferred none)
    have z4 := ((r4.put_ne (b := w.next + 1 + 1 + 1) (by omega) (.cells [.slice none 0 0] 24 (w.next + 1 + 1 + 1) 0 0)).put [.int .i64 0]).put_ne (b := w9.next) (by omega) (.deferred none)
    have z3 := z3.cell (o := 0) rfl rfl
    have z4 := z4.cell (o := 0) rfl rfl
    simp -dsimp -implicitDefEqProofs (maxSteps := 2000000) (disch := first | assumption | omega | (simp only [AW.next_push, AW.next_put]; omega) | ((repeat refine Fresh.push ?_ _); assumption) | (simp only [same_int, same_bool, same_ptr, same_slice, same_sliceP, same_nil, same_agg2, same_string]; done) | (simp [oneCell, AW.next_push]; done) | fail) only [go_sem, Nat.reduceEqDiff, reduceIte, Nat.reduceAdd, Int.toNat_natCast, Nat.add_zero, Owes_true, Tryz.results22, c3, c4, c5, s3, s4]
    refine Left_one (blk_ne (blk_ne rm (by omega)) (by omega)) ?_
    simp -dsimp -implicitDefEqProofs (maxSteps := 2000000) (disch := first | assumption | omega | (simp only [AW.next_push, AW.next_put]; omega) | ((repeat refine Fresh.push ?_ _); assumption) | (simp only [same_int, same_bool, same_ptr, same_slice, same_sliceP, same_nil, same_agg2, same_string]; done) | (simp [oneCell, AW.next_push]; done) | fail) only [go_sem, Nat.reduceEqDiff, reduceIte, Nat.reduceAdd, Int.toNat_natCast, Nat.add_zero, Owes_true, Tryz.results22, z3, z4]
    exact LeastPost.err (by rw [leastE, if_pos hE, hB]; rfl) (by omega) (((gW.put (by omega) (by omega) _).put (by omega) (by rw [AW.next_put]; omega) _).put (by omega) (by simp only [AW.next_put]; omega) _)
  | true =>
    rw [hB] at c5
    have hE0 : leastE ms rs fss = 0 := by rw [leastE, if_pos hE, hB]; rfl
    obtain ⟨sp, sn, sc, rfl⟩ := rk.isSlice
    have s3 := storeV_own1 (o := 0) (v := .slice sp sn sc) r3 (by simp) rfl
    have s4 := storeV_own1 (o := 0) (v := .int .i64 (leastOf ms rs fss).2.1) (r4.put_ne (b := w.next + 1 + 1 + 1) (by omega) (.cells [.slice sp sn sc] 24 (w.next + 1 + 1 + 1) 0 0)) (by simp) rfl
    simp only [setL] at s3 s4
    have z3 := ((r3.put [.slice sp sn sc]).put_ne (b := w.next + 1 + 1 + 1 + 1) (by omega) (.cells [.int .i64 (leastOf ms rs fss).2.1] 3 (w.next + 1 + 1 + 1 + 1) 0 0)).put_ne (b := w9.next) (by omega) (.deferred none)
    have z4 := ((r4.put_ne (b := w.next + 1 + 1 + 1) (by omega) (.cells [.slice sp sn sc] 24 (w.next + 1 + 1 + 1) 0 0)).put [.int .i64 (leastOf ms rs fss).2.1]).put_ne (b := w9.next) (by omega) (.deferred none)
    have z3 := z3.cell (o := 0) rfl rfl
    have z4 := z4.cell (o := 0) rfl rfl
    have hwle : WLe W (W.put (w.next + 1 + 1 + 1) (.cells [.slice sp sn sc] 24 (w.next + 1 + 1 + 1) 0 0)) := fun b x hb => by
      rw [AW.blk_put _ _ _ _ (Trie.in_ _) (Trie.in_ _)]
      split
      · rename_i q; subst q; rw [r3.blk] at hb; exact hb
      · exact hb
    have k1 := rk.put (b := w.next + 1 + 1 + 1) (k := .cells [.slice sp sn sc] 24 (w.next + 1 + 1 + 1) 0 0) (fun c r q => by rw [r3.blk] at q; cases q)
    have k2 := k1.put (b := w.next + 1 + 1 + 1 + 1) (k := .cells [.int .i64 (leastOf ms rs fss).2.1] 3 (w.next + 1 + 1 + 1 + 1) 0 0) (fun c r q => by rw [(r4.put_ne (b := w.next + 1 + 1 + 1) (by omega) (.cells [.slice sp sn sc] 24 (w.next + 1 + 1 + 1) 0 0)).blk] at q; cases q)
    have k3 := k2.put (b := w9.next) (k := .deferred none) (fun c r q => by rw [blk_ne (blk_ne rm (by omega)) (by omega)] at q; cases q)
    simp -dsimp -implicitDefEqProofs (maxSteps := 2000000) (disch := first | assumption | omega | (simp only [AW.next_push, AW.next_put]; omega) | ((repeat refine Fresh.push ?_ _); assumption) | (simp only [same_int, same_bool, same_ptr, same_slice, same_sliceP, same_nil, same_agg2, same_string]; done) | (simp [oneCell, AW.next_push]; done) | fail) only [go_sem, Nat.reduceEqDiff, reduceIte, Nat.reduceAdd, Int.toNat_natCast, Nat.add_zero, Owes_true, Tryz.results22, c3, c4, c5, s3, s4]
    refine Left_one (blk_ne (blk_ne rm (by omega)) (by omega)) ?_
    simp -dsimp -implicitDefEqProofs (maxSteps := 2000000) (disch := first | assumption | omega | (simp only [AW.next_push, AW.next_put]; omega) | ((repeat refine Fresh.push ?_ _); assumption) | (simp only [same_int, same_bool, same_ptr, same_slice, same_sliceP, same_nil, same_agg2, same_string]; done) | (simp [oneCell, AW.next_push]; done) | fail) only [go_sem, Nat.reduceEqDiff, reduceIte, Nat.reduceAdd, Int.toNat_natCast, Nat.add_zero, Owes_true, Tryz.results22, z3, z4]
    refine ⟨_, by rw [leastN, if_pos hE0, hE0], ?_, ((gW.put (by omega) (by omega) _).put (by omega) (by rw [AW.next_put]; omega) _).put (by omega) (by simp only [AW.next_put]; omega) _⟩
    rw [leastS, if_pos hE0]
    exact k3.arr (by have : (leastOf ms rs fss).2.2.length ≤ 8 := least_len hG.len; omega)
end Go.Proofs

/- Two ways through all sets lead to the same: plain facts. -/
namespace Go.Proofs
open Go Go.RowKit Go.Sim
set_option maxRecDepth 100000
def aheadZ : List Int → List Int → Bool
  | [], [] => false
  | [], _ :: _ => true
  | _ :: _, [] => false
  | x :: a, y :: b => if x = y then aheadZ a b else decide (x < y)
theorem aheadZ_trans : ∀ {a b c : List Int}, aheadZ a b = true → aheadZ b c = true → aheadZ a c = true
  | [], [], _, h, _ => by simp [aheadZ] at h
  | [], _ :: _, [], _, h => by simp [aheadZ] at h
  | [], _ :: _, _ :: _, _, _ => rfl
  | _ :: _, [], _, h, _ => by simp [aheadZ] at h
  | _ :: _, _ :: _, [], _, h => by simp [aheadZ] at h
  | x :: a, y :: b, z :: c, h, k => by
    simp only [aheadZ] at h k ⊢
    by_cases h1 : x = y
    · subst h1
      by_cases h2 : x = z
      · subst h2; simp only [if_true] at h k ⊢; exact aheadZ_trans h k
      · rw [if_neg h2] at k ⊢; exact k
    · rw [if_neg h1] at h
      by_cases h2 : y = z
      · subst h2; rw [if_neg h1]; exact h
      · rw [if_neg h2] at k
        simp only [decide_eq_true_eq] at h k
        rw [if_neg (by omega)]
        simp only [decide_eq_true_eq]; omega
theorem aheadZ_irr : ∀ a : List Int, aheadZ a a = false
  | [] => rfl
  | x :: a => by simp only [aheadZ, if_true]; exact aheadZ_irr a
def bitZ (b k : Nat) : Bool := decide (b / 2 ^ k % 2 = 1)
def setOf (n b : Nat) : List Int := ((List.range n).filter (bitZ b)).map fun (i : Nat) => (i : Int)
def allOk (n : Nat) : Bool :=
  ((allFrom n n [] 0).all fun L => ((List.range (2 ^ n)).map (setOf n)).contains L) && (((List.range (2 ^ n)).map (setOf n)).all fun L => (allFrom n n [] 0).contains L) && pairwiseB (allFrom n n [] 0) && decide (setOf n (2 ^ n - 1) = (List.range n).map fun (i : Nat) => (i : Int))
where
  pairwiseB : List (List Int) → Bool
    | [] => true
    | L :: l => (l.all fun M => aheadZ L M) && pairwiseB l
theorem allOk_8 : ((List.range 9).all allOk) = true := by decide +kernel
theorem pairwise_of : ∀ {l : List (List Int)}, allOk.pairwiseB l = true → l.Pairwise fun L M => aheadZ L M = true
  | [], _ => .nil
  | L :: l, h => by
    rw [allOk.pairwiseB, Bool.and_eq_true] at h
    exact .cons (fun M hM => List.all_eq_true.mp h.1 M hM) (pairwise_of h.2)
theorem all_sets {n : Nat} (h : n ≤ 8) : (∀ L, L ∈ allFrom n n [] 0 ↔ ∃ b, b < 2 ^ n ∧ setOf n b = L) ∧ (allFrom n n [] 0).Pairwise (fun L M => aheadZ L M = true) ∧ setOf n (2 ^ n - 1) = (List.range n).map fun (i : Nat) => (i : Int) := by
  have := List.all_eq_true.mp allOk_8 n (by simp; omega)
  simp only [allOk, Bool.and_eq_true, List.all_eq_true, List.contains_iff_mem, decide_eq_true_eq] at this
  obtain ⟨⟨⟨h1, h2⟩, h3⟩, h4⟩ := this
  refine ⟨fun L => ⟨fun hL => ?_, ?_⟩, pairwise_of h3, h4⟩
  · obtain ⟨b, hb, e⟩ := List.mem_map.mp (h1 L hL)
    exact ⟨b, by simpa using hb, e⟩
  · rintro ⟨b, hb, rfl⟩
    exact h2 _ (List.mem_map.mpr ⟨b, by simpa using hb, rfl⟩)
section
variable (ms : List (Int × Int)) (rs : List Int) (fss : List (List (Int × Int)))
def betterZ (x y : List Int) : Bool := decide (labZ ms x < labZ ms y) || (decide (labZ ms x = labZ ms y) && aheadZ x y)
theorem betterZ_trans {x y z : List Int} (h : betterZ ms x y = true) (k : betterZ ms y z = true) : betterZ ms x z = true := by
  simp only [betterZ, Bool.or_eq_true, Bool.and_eq_true, decide_eq_true_eq] at h k ⊢
  rcases h with h | ⟨h, h'⟩
  · rcases k with k | ⟨k, _⟩
    · exact .inl (by omega)
    · exact .inl (by omega)
  · rcases k with k | ⟨k, k'⟩
    · exact .inl (by omega)
    · exact .inr ⟨by omega, aheadZ_trans h' k'⟩
/-- What the program's way comes to: the first of those with the least labour. -/
theorem bestOf_ok : ∀ (l : List (List Int)) (seen : List (List Int)), (seen ++ l).Pairwise (fun L M => aheadZ L M = true) → ∀ st : Bool × Int × List Int,
    ((st.1 = false ∧ ∀ L ∈ seen, showsB ms rs fss L = false) ∨ (st.1 = true ∧ st.2.2 ∈ seen ∧ st.2.1 = labZ ms st.2.2 ∧ showsB ms rs fss st.2.2 = true ∧ ∀ L ∈ seen, showsB ms rs fss L = true → L = st.2.2 ∨ betterZ ms st.2.2 L = true)) →
    let r := l.foldl (stepL ms rs fss) st
    ((r.1 = false ∧ ∀ L ∈ seen ++ l, showsB ms rs fss L = false) ∨ (r.1 = true ∧ r.2.2 ∈ seen ++ l ∧ r.2.1 = labZ ms r.2.2 ∧ showsB ms rs fss r.2.2 = true ∧ ∀ L ∈ seen ++ l, showsB ms rs fss L = true → L = r.2.2 ∨ betterZ ms r.2.2 L = true))
  | [], seen, _, st, h => by simpa using h
  | X :: l, seen, hp, st, h => by
    have e : seen ++ X :: l = (seen ++ [X]) ++ l := by simp
    rw [List.foldl_cons, e]
    rw [e] at hp
    refine bestOf_ok l (seen ++ [X]) hp _ ?_
    have hX : ∀ L ∈ seen, aheadZ L X = true := fun L hL => by
      have := (List.pairwise_append.mp (List.pairwise_append.mp hp).1).2.2 L hL X (by simp)
      exact this
    by_cases hs : showsB ms rs fss X = true
    case neg =>
      have hst : stepL ms rs fss st X = st := by rw [stepL, if_neg (by rw [Bool.and_eq_true]; exact fun q => hs q.2)]
      rw [hst]
      rw [Bool.not_eq_true] at hs
      rcases h with ⟨h1, h2⟩ | ⟨h1, h2, h3, h4, h5⟩
      · exact .inl ⟨h1, fun L hL => (List.mem_append.mp hL).elim (h2 L) fun q => by simp at q; subst q; exact hs⟩
      · exact .inr ⟨h1, List.mem_append_left _ h2, h3, h4, fun L hL hL2 => (List.mem_append.mp hL).elim (fun q => h5 L q hL2) fun q => by simp at q; subst q; rw [hs] at hL2; cases hL2⟩
    rcases h with ⟨h1, h2⟩ | ⟨h1, h2, h3, h4, h5⟩
    · have hst : stepL ms rs fss st X = (true, labZ ms X, X) := by rw [stepL, if_pos (by rw [h1, hs]; rfl)]
      rw [hst]
      exact .inr ⟨rfl, by simp, rfl, hs, fun L hL hL2 => (List.mem_append.mp hL).elim (fun q => by rw [h2 L q] at hL2; cases hL2) fun q => .inl (by simpa using q)⟩
    · by_cases hlt : labZ ms X < st.2.1
      · have hst : stepL ms rs fss st X = (true, labZ ms X, X) := by rw [stepL, if_pos (by rw [decide_eq_true hlt, hs]; simp)]
        rw [hst]
        refine .inr ⟨rfl, by simp, rfl, hs, fun L hL hL2 => (List.mem_append.mp hL).elim (fun q => ?_) fun q => .inl (by simpa using q)⟩
        right
        have hb : betterZ ms X st.2.2 = true := by simp only [betterZ, Bool.or_eq_true, decide_eq_true_eq]; exact .inl (by omega)
        rcases h5 L q hL2 with e | e
        · rw [e]; exact hb
        · exact betterZ_trans ms hb e
      · have hst : stepL ms rs fss st X = st := by rw [stepL, if_neg (by rw [h1, decide_eq_false hlt]; simp)]
        rw [hst]
        refine .inr ⟨h1, List.mem_append_left _ h2, h3, h4, fun L hL hL2 => (List.mem_append.mp hL).elim (fun q => h5 L q hL2) fun q => .inr ?_⟩
        simp at q; subst q
        simp only [betterZ, Bool.or_eq_true, Bool.and_eq_true, decide_eq_true_eq]
        by_cases he : labZ ms st.2.2 < labZ ms L
        · exact .inl he
        · exact .inr ⟨by omega, hX _ h2⟩
/-- The papers' way. -/
def stepR (n : Nat) (best : List Int) (b : Nat) : List Int := if (showsB ms rs fss (setOf n b) && betterZ ms (setOf n b) best) = true then setOf n b else best
theorem stepR_ok (n : Nat) : ∀ (l : List Nat) (done : List Nat) (best : List Int), (∀ b ∈ l, b < 2 ^ n) → (showsB ms rs fss best = true ∧ (∃ b, b < 2 ^ n ∧ setOf n b = best) ∧ ∀ b ∈ done, showsB ms rs fss (setOf n b) = true → betterZ ms (setOf n b) best = false) →
    let r := l.foldl (stepR ms rs fss n) best
    (showsB ms rs fss r = true ∧ (∃ b, b < 2 ^ n ∧ setOf n b = r) ∧ ∀ b ∈ done ++ l, showsB ms rs fss (setOf n b) = true → betterZ ms (setOf n b) r = false)
  | [], done, best, _, h => by simpa using h
  | x :: l, done, best, hl, ⟨h1, h2, h3⟩ => by
    have e : done ++ x :: l = (done ++ [x]) ++ l := by simp
    rw [List.foldl_cons, e]
    refine stepR_ok n l (done ++ [x]) _ (fun b hb => hl b (List.mem_cons_of_mem _ hb)) ?_
    rw [stepR]
    split
    · rename_i q
      rw [Bool.and_eq_true] at q
      refine ⟨q.1, ⟨x, hl x List.mem_cons_self, rfl⟩, fun b hb hs => ?_⟩
      rw [← Bool.not_eq_true]
      intro hc
      rcases List.mem_append.mp hb with p | p
      · have := betterZ_trans ms hc q.2
        rw [h3 b p hs] at this; cases this
      · simp at p; subst p
        simp only [betterZ, Bool.or_eq_true, Bool.and_eq_true, decide_eq_true_eq] at hc
        rcases hc with hc | ⟨_, hc⟩
        · omega
        · rw [aheadZ_irr] at hc; cases hc
    · rename_i q
      refine ⟨h1, h2, fun b hb hs => ?_⟩
      rcases List.mem_append.mp hb with p | p
      · exact h3 b p hs
      · simp at p; subst p
        rw [hs, Bool.true_and] at q
        simpa using q
theorem shows_full {n : Nat} {L : List Int} (hL : ∀ i ∈ L, 0 ≤ i ∧ i < (n : Int)) (h : showsB ms rs fss L = true) : showsB ms rs fss ((List.range n).map fun (i : Nat) => (i : Int)) = true := by
  simp only [showsB, List.all_eq_true] at h ⊢
  intro fs hfs
  obtain ⟨i, hi, hf⟩ := List.any_eq_true.mp (h fs hfs)
  obtain ⟨h0, h1⟩ := hL i hi
  obtain ⟨k, rfl⟩ := Int.eq_ofNat_of_zero_le h0
  exact List.any_eq_true.mpr ⟨(k : Int), List.mem_map.mpr ⟨k, by simp; omega, rfl⟩, hf⟩
theorem setOf_in (n b : Nat) : ∀ i ∈ setOf n b, 0 ≤ i ∧ i < (n : Int) := by
  intro i hi
  obtain ⟨k, hk, rfl⟩ := List.mem_map.mp hi
  simp only [List.mem_filter, List.mem_range] at hk
  omega
/-- Both ways come to the same. -/
theorem ways_same (h8 : ms.length ≤ 8) :
    ((leastOf ms rs fss).1 = showsB ms rs fss (setOf ms.length (2 ^ ms.length - 1))) ∧
    ((leastOf ms rs fss).1 = true → (leastOf ms rs fss).2.2 = (List.range (2 ^ ms.length)).foldl (stepR ms rs fss ms.length) (setOf ms.length (2 ^ ms.length - 1)) ∧ (leastOf ms rs fss).2.1 = labZ ms (leastOf ms rs fss).2.2) := by
  obtain ⟨hall, hpair, hfull⟩ := all_sets h8
  have hb := bestOf_ok ms rs fss (allFrom ms.length ms.length [] 0) [] (by simpa using hpair) (false, 0, []) (.inl ⟨rfl, fun L hL => by cases hL⟩)
  simp only [List.nil_append] at hb
  rw [show (allFrom ms.length ms.length [] 0).foldl (stepL ms rs fss) (false, 0, []) = leastOf ms rs fss from rfl] at hb
  have hpos : 0 < 2 ^ ms.length := Nat.two_pow_pos _
  rcases hb with ⟨h1, h2⟩ | ⟨h1, h2, h3, h4, h5⟩
  · refine ⟨?_, fun q => by rw [h1] at q; cases q⟩
    rw [h1, h2 _ ((hall _).2 ⟨2 ^ ms.length - 1, by omega, rfl⟩)]
  · have hs : showsB ms rs fss (setOf ms.length (2 ^ ms.length - 1)) = true := by
      rw [hfull]
      obtain ⟨b, hb, e⟩ := (hall _).1 h2
      exact shows_full ms rs fss (by rw [← e]; exact setOf_in _ _) h4
    refine ⟨by rw [h1, hs], fun _ => ⟨?_, h3⟩⟩
    have hr := stepR_ok ms rs fss ms.length (List.range (2 ^ ms.length)) [] (setOf ms.length (2 ^ ms.length - 1)) (fun b hb => by simpa using hb) ⟨hs, ⟨_, by omega, rfl⟩, fun b hb => by cases hb⟩
    simp only [List.nil_append] at hr
    obtain ⟨r1, ⟨b, hb, e⟩, r3⟩ := hr
    obtain ⟨b2, hb2, e2⟩ := (hall _).1 h2
    rcases h5 _ ((hall _).2 ⟨b, hb, e⟩) r1 with q | q
    · exact q.symm
    · have := r3 b2 (by simpa using hb2) (by rw [e2]; exact h4)
      rw [e2, q] at this; cases this
end
end Go.Proofs

/- Least, as the papers have it. -/
namespace Go.Proofs
open Go Go.RowKit Go.Sim
set_option maxRecDepth 100000
theorem bit_ok (b k : Nat) (hb : b ≤ 256) (hk : k ≤ 8) (w : AW) : CallT Tryz.prog Tryz.T (.fn (.func 76) #[]) #[.int .i64 (b : Int), .int .i64 (k : Int)] w (Ret (.bool (bitZ b k)) fun w' => w = w') := by
  have h0 : ¬ (k : Int) < 0 := by omega
  have hm : min k IntKind.i64.bits = k := by have : IntKind.i64.bits = 64 := rfl; omega
  have h1 : Int.fdiv (b : Int) (2 ^ k) = ((b / 2 ^ k : Nat) : Int) := by
    rw [show ((2 : Int) ^ k) = ((2 ^ k : Nat) : Int) by simp, Int.ofNat_fdiv]
  have h2 : ¬ (2 : Int) = 0 := by omega
  have h3 : Int.tmod ((b / 2 ^ k : Nat) : Int) 2 = ((b / 2 ^ k % 2 : Nat) : Int) := by
    rw [Int.tmod_eq_emod_of_nonneg (Int.natCast_nonneg _)]; simp
  refine callT_code rfl Tryz.func76 rfl Tryz.s76_eq rfl ?_
  unfold Tryz.s76
  simp -dsimp -implicitDefEqProofs (maxSteps := 2000000) (disch := first | assumption | omega | (simp only [AW.next_push, AW.next_put]; omega) | ((repeat refine Fresh.push ?_ _); assumption) | (simp only [same_int, same_bool, same_ptr, same_slice, same_sliceP, same_nil, same_agg2, same_string]; done) | (simp [oneCell, AW.next_push]; done) | fail) only [go_sem, Nat.reduceEqDiff, reduceIte, Nat.reduceAdd, Int.toNat_natCast, Nat.add_zero, Owes_true, Tryz.results76, h0, hm, h1, h2, h3]
  exact ⟨by rw [bitZ]; congr 1; exact decide_eq_decide.2 (by rw [show min k 64 = k by omega, h1, h3]; generalize b / 2 ^ k % 2 = z; omega), by first | rfl | trivial⟩
def setTo (b n : Nat) : List Int := setOf n b
theorem setOf_succ (n b : Nat) : setOf (n + 1) b = setOf n b ++ (if bitZ b n = true then [(n : Int)] else []) := by
  simp only [setOf, List.range_succ, List.filter_append, List.map_append]
  congr 1
  cases h : bitZ b n <;> simp only [List.filter_cons, List.filter_nil, h] <;> rfl
theorem setOf_len (n b : Nat) : (setOf n b).length ≤ n := by
  simp only [setOf, List.length_map]
  exact Nat.le_trans (List.length_filter_le _ _) (by simp)
theorem set_ok (ms : List (Int × Int)) (b : Nat) (v : Value) (w : AW) (f : Fresh w) (hs : ArrOf w 2 mcells v ms) (hb : b ≤ 256) (h8 : ms.length ≤ 8) :
    CallT Tryz.prog Tryz.T (.fn (.func 55) #[]) #[v, .int .i64 (b : Int)] w fun s w' => ArrOf w' 1 icells s (setOf ms.length b) ∧ Grown w w' := by
  obtain ⟨p, cap, rfl, hcap, hmax, hat⟩ := hs.open
  refine callT_code rfl Tryz.func55 rfl Tryz.s55_eq rfl ?_
  unfold Tryz.s55
  simp -dsimp -implicitDefEqProofs (maxSteps := 2000000) (disch := first | assumption | omega | (simp only [AW.next_push, AW.next_put]; omega) | ((repeat refine Fresh.push ?_ _); assumption) | (simp only [same_int, same_bool, same_ptr, same_slice, same_sliceP, same_nil, same_agg2, same_string]; done) | (simp [oneCell, AW.next_push]; done) | fail) only [go_sem, Nat.reduceEqDiff, reduceIte, Nat.reduceAdd, Int.toNat_natCast, Nat.add_zero, Owes_true, Tryz.results55]
  refine loopR (fun k t ds w1 => ∃ i : Nat, i ≤ ms.length ∧ k = ms.length - i ∧ ds = [] ∧ ev t (.tmp 0) = .slice p ms.length cap ∧ ev t (.tmp 1) = .int .i64 (b : Int) ∧ ev t (.tmp 6) = .int .i64 (i : Int) ∧ (∃ s, ev t (.tmp 5) = s ∧ AOwn w.next w1 3 1 s (setOf i b).length ((setOf i b).flatMap icells)) ∧ Grown w w1) (ms.length) ?_ ?_
  · refine ⟨0, by omega, by omega, rfl, ?_, ?_, ?_, ⟨.slice none 0 0, by simp -dsimp -implicitDefEqProofs (maxSteps := 2000000) (disch := first | assumption | omega | (simp only [AW.next_push, AW.next_put]; omega) | ((repeat refine Fresh.push ?_ _); assumption) | (simp only [same_int, same_bool, same_ptr, same_slice, same_sliceP, same_nil, same_agg2, same_string]; done) | (simp [oneCell, AW.next_push]; done) | fail) only [go_sem, Nat.reduceEqDiff, reduceIte, Nat.reduceAdd, Int.toNat_natCast, Nat.add_zero, Owes_true], .inl ⟨rfl, rfl, rfl⟩⟩, .refl f⟩ <;> simp -dsimp -implicitDefEqProofs (maxSteps := 2000000) (disch := first | assumption | omega | (simp only [AW.next_push, AW.next_put]; omega) | ((repeat refine Fresh.push ?_ _); assumption) | (simp only [same_int, same_bool, same_ptr, same_slice, same_sliceP, same_nil, same_agg2, same_string]; done) | (simp [oneCell, AW.next_push]; done) | fail) only [go_sem, Nat.reduceEqDiff, reduceIte, Nat.reduceAdd, Int.toNat_natCast, Nat.add_zero, Owes_true] <;> rfl
  rintro k t ds w1 ⟨i, hii, rfl, rfl, e0, e1, e6, hA, hg⟩
  obtain ⟨s, e5, hA⟩ := hA
  obtain ⟨hk, hf⟩ := id hg
  by_cases hlt : (i : Int) < (ms.length : Int)
  case neg =>
    obtain rfl : i = ms.length := by omega
    simp -dsimp -implicitDefEqProofs (maxSteps := 2000000) (disch := first | assumption | omega | (simp only [AW.next_push, AW.next_put]; omega) | ((repeat refine Fresh.push ?_ _); assumption) | (simp only [same_int, same_bool, same_ptr, same_slice, same_sliceP, same_nil, same_agg2, same_string]; done) | (simp [oneCell, AW.next_push]; done) | fail) only [go_sem, Nat.reduceEqDiff, reduceIte, Nat.reduceAdd, Int.toNat_natCast, Nat.add_zero, Owes_true, Tryz.results55, e0, e1, e5, e6, hlt]
    exact ⟨hA.arr icells_len (by have := setOf_len ms.length b; omega), hg⟩
  simp -dsimp -implicitDefEqProofs (maxSteps := 2000000) (disch := first | assumption | omega | (simp only [AW.next_push, AW.next_put]; omega) | ((repeat refine Fresh.push ?_ _); assumption) | (simp only [same_int, same_bool, same_ptr, same_slice, same_sliceP, same_nil, same_agg2, same_string]; done) | (simp [oneCell, AW.next_push]; done) | fail) only [go_sem, Nat.reduceEqDiff, reduceIte, Nat.reduceAdd, Int.toNat_natCast, Nat.add_zero, Owes_true, Tryz.results55, e0, e1, e5, e6, hlt]
  apply callV_of (e := rfl)
  · exact bit_ok b i hb (by omega) w1
  rintro _ _ ⟨rfl, rfl⟩
  have hlen := setOf_len i b
  cases hB : bitZ b i with
  | false =>
    simp -dsimp -implicitDefEqProofs (maxSteps := 2000000) (disch := first | assumption | omega | (simp only [AW.next_push, AW.next_put]; omega) | ((repeat refine Fresh.push ?_ _); assumption) | (simp only [same_int, same_bool, same_ptr, same_slice, same_sliceP, same_nil, same_agg2, same_string]; done) | (simp [oneCell, AW.next_push]; done) | fail) only [go_sem, Nat.reduceEqDiff, reduceIte, Nat.reduceAdd, Int.toNat_natCast, Nat.add_zero, Owes_true, Tryz.results55, e0, e1, e5, e6]
    refine ⟨_, by omega, i + 1, by omega, rfl, rfl, by (simp -dsimp -implicitDefEqProofs (maxSteps := 2000000) (disch := first | assumption | omega | (simp only [AW.next_push, AW.next_put]; omega) | ((repeat refine Fresh.push ?_ _); assumption) | (simp only [same_int, same_bool, same_ptr, same_slice, same_sliceP, same_nil, same_agg2, same_string]; done) | (simp [oneCell, AW.next_push]; done) | fail) only [go_sem, Nat.reduceEqDiff, reduceIte, Nat.reduceAdd, Int.toNat_natCast, Nat.add_zero, Owes_true, e0]; try rfl), by (simp -dsimp -implicitDefEqProofs (maxSteps := 2000000) (disch := first | assumption | omega | (simp only [AW.next_push, AW.next_put]; omega) | ((repeat refine Fresh.push ?_ _); assumption) | (simp only [same_int, same_bool, same_ptr, same_slice, same_sliceP, same_nil, same_agg2, same_string]; done) | (simp [oneCell, AW.next_push]; done) | fail) only [go_sem, Nat.reduceEqDiff, reduceIte, Nat.reduceAdd, Int.toNat_natCast, Nat.add_zero, Owes_true, e1]; try rfl), by (simp -dsimp -implicitDefEqProofs (maxSteps := 2000000) (disch := first | assumption | omega | (simp only [AW.next_push, AW.next_put]; omega) | ((repeat refine Fresh.push ?_ _); assumption) | (simp only [same_int, same_bool, same_ptr, same_slice, same_sliceP, same_nil, same_agg2, same_string]; done) | (simp [oneCell, AW.next_push]; done) | fail) only [go_sem, Nat.reduceEqDiff, reduceIte, Nat.reduceAdd, Int.toNat_natCast, Nat.add_zero, Owes_true, e6]; try rfl), ⟨s, by simp -dsimp -implicitDefEqProofs (maxSteps := 2000000) (disch := first | assumption | omega | (simp only [AW.next_push, AW.next_put]; omega) | ((repeat refine Fresh.push ?_ _); assumption) | (simp only [same_int, same_bool, same_ptr, same_slice, same_sliceP, same_nil, same_agg2, same_string]; done) | (simp [oneCell, AW.next_push]; done) | fail) only [go_sem, Nat.reduceEqDiff, reduceIte, Nat.reduceAdd, Int.toNat_natCast, Nat.add_zero, Owes_true, e5], by rw [setOf_succ, hB]; simpa using hA⟩, hg⟩
  | true =>
    obtain ⟨s', w3, happ, hA3, hk3, hf3, hn3⟩ := append_one (e' := 3) Tryz.ty24 Tryz.ty3 rfl (by omega) (by omega) hA hf hk.next (icells_len (i : Int)) (icells_one _) (by omega)
    simp only [icells] at happ
    simp -dsimp -implicitDefEqProofs (maxSteps := 2000000) (disch := first | assumption | omega | (simp only [AW.next_push, AW.next_put]; omega) | ((repeat refine Fresh.push ?_ _); assumption) | (simp only [same_int, same_bool, same_ptr, same_slice, same_sliceP, same_nil, same_agg2, same_string]; done) | (simp [oneCell, AW.next_push]; done) | fail) only [go_sem, Nat.reduceEqDiff, reduceIte, Nat.reduceAdd, Int.toNat_natCast, Nat.add_zero, Owes_true, Tryz.results55, e0, e1, e5, e6, happ]
    refine ⟨_, by omega, i + 1, by omega, rfl, rfl, by (simp -dsimp -implicitDefEqProofs (maxSteps := 2000000) (disch := first | assumption | omega | (simp only [AW.next_push, AW.next_put]; omega) | ((repeat refine Fresh.push ?_ _); assumption) | (simp only [same_int, same_bool, same_ptr, same_slice, same_sliceP, same_nil, same_agg2, same_string]; done) | (simp [oneCell, AW.next_push]; done) | fail) only [go_sem, Nat.reduceEqDiff, reduceIte, Nat.reduceAdd, Int.toNat_natCast, Nat.add_zero, Owes_true, e0]; try rfl), by (simp -dsimp -implicitDefEqProofs (maxSteps := 2000000) (disch := first | assumption | omega | (simp only [AW.next_push, AW.next_put]; omega) | ((repeat refine Fresh.push ?_ _); assumption) | (simp only [same_int, same_bool, same_ptr, same_slice, same_sliceP, same_nil, same_agg2, same_string]; done) | (simp [oneCell, AW.next_push]; done) | fail) only [go_sem, Nat.reduceEqDiff, reduceIte, Nat.reduceAdd, Int.toNat_natCast, Nat.add_zero, Owes_true, e1]; try rfl), by (simp -dsimp -implicitDefEqProofs (maxSteps := 2000000) (disch := first | assumption | omega | (simp only [AW.next_push, AW.next_put]; omega) | ((repeat refine Fresh.push ?_ _); assumption) | (simp only [same_int, same_bool, same_ptr, same_slice, same_sliceP, same_nil, same_agg2, same_string]; done) | (simp [oneCell, AW.next_push]; done) | fail) only [go_sem, Nat.reduceEqDiff, reduceIte, Nat.reduceAdd, Int.toNat_natCast, Nat.add_zero, Owes_true, e6]; try rfl), ⟨s', by simp -dsimp -implicitDefEqProofs (maxSteps := 2000000) (disch := first | assumption | omega | (simp only [AW.next_push, AW.next_put]; omega) | ((repeat refine Fresh.push ?_ _); assumption) | (simp only [same_int, same_bool, same_ptr, same_slice, same_sliceP, same_nil, same_agg2, same_string]; done) | (simp [oneCell, AW.next_push]; done) | fail) only [go_sem, Nat.reduceEqDiff, reduceIte, Nat.reduceAdd, Int.toNat_natCast, Nat.add_zero, Owes_true], by rw [setOf_succ, hB, if_pos rfl, List.length_append, List.flatMap_append]; simpa using hA3⟩, ⟨hk.trans hk3, hf3⟩⟩
theorem labour_ok (ms : List (Int × Int)) (L : List Int) (v u : Value) (w : AW) (f : Fresh w) (hs : ArrOf w 2 mcells v ms) (hr : ArrOf w 1 icells u L) (hL : ∀ i ∈ L, 0 ≤ i ∧ i < (ms.length : Int)) (hlab : ∀ m ∈ ms, 1 ≤ m.2 ∧ m.2 ≤ 1000) (hl : L.length ≤ 1000) :
    CallT Tryz.prog Tryz.T (.fn (.func 56) #[]) #[v, u] w (Ret (.int .i64 (labZ ms L)) fun w' => w = w') := by
  obtain ⟨p, cap, rfl, hcap, hmax, hat⟩ := hs.open
  obtain ⟨q, cap2, rfl, hcap2, hmax2, hat2⟩ := hr.open
  have hin : ∀ i ∈ L, 0 ≤ labAt ms i ∧ labAt ms i ≤ 1000 := fun i hi => by
    obtain ⟨a, b⟩ := hL i hi
    obtain ⟨k, rfl⟩ := Int.eq_ofNat_of_zero_le a
    have hk : k < ms.length := by omega
    have := hlab _ (List.getElem_mem hk)
    rw [labAt, Int.toNat_natCast, getD_at hk]; omega
  refine callT_code rfl Tryz.func56 rfl Tryz.s56_eq rfl ?_
  unfold Tryz.s56
  simp -dsimp -implicitDefEqProofs (maxSteps := 2000000) (disch := first | assumption | omega | (simp only [AW.next_push, AW.next_put]; omega) | ((repeat refine Fresh.push ?_ _); assumption) | (simp only [same_int, same_bool, same_ptr, same_slice, same_sliceP, same_nil, same_agg2, same_string]; done) | (simp [oneCell, AW.next_push]; done) | fail) only [go_sem, Nat.reduceEqDiff, reduceIte, Nat.reduceAdd, Int.toNat_natCast, Nat.add_zero, Owes_true, Tryz.results56]
  refine loopR (fun k t ds w1 => ∃ i : Nat, i ≤ L.length ∧ k = L.length - i ∧ ds = [] ∧ ev t (.tmp 0) = .slice p ms.length cap ∧ ev t (.tmp 1) = .slice q L.length cap2 ∧ ev t (.tmp 5) = .int .i64 (labZ ms (L.take i)) ∧ ev t (.tmp 6) = .int .i64 (i : Int) ∧ w = w1) (L.length) ?_ ?_
  · refine ⟨0, by omega, by omega, rfl, ?_, ?_, ?_, ?_, rfl⟩ <;> simp -dsimp -implicitDefEqProofs (maxSteps := 2000000) (disch := first | assumption | omega | (simp only [AW.next_push, AW.next_put]; omega) | ((repeat refine Fresh.push ?_ _); assumption) | (simp only [same_int, same_bool, same_ptr, same_slice, same_sliceP, same_nil, same_agg2, same_string]; done) | (simp [oneCell, AW.next_push]; done) | fail) only [go_sem, Nat.reduceEqDiff, reduceIte, Nat.reduceAdd, Int.toNat_natCast, Nat.add_zero, Owes_true] <;> rfl
  rintro k t ds w1 ⟨i, hii, rfl, rfl, e0, e1, e5, e6, hw⟩
  subst hw
  by_cases hlt : (i : Int) < (L.length : Int)
  case neg =>
    have h2 : L.take i = L := List.take_of_length_le (by omega)
    rw [h2] at e5
    simp -dsimp -implicitDefEqProofs (maxSteps := 2000000) (disch := first | assumption | omega | (simp only [AW.next_push, AW.next_put]; omega) | ((repeat refine Fresh.push ?_ _); assumption) | (simp only [same_int, same_bool, same_ptr, same_slice, same_sliceP, same_nil, same_agg2, same_string]; done) | (simp [oneCell, AW.next_push]; done) | fail) only [go_sem, Nat.reduceEqDiff, reduceIte, Nat.reduceAdd, Int.toNat_natCast, Nat.add_zero, Owes_true, Tryz.results56, e0, e1, e5, e6, hlt]
    exact ⟨rfl, by first | rfl | trivial⟩
  have hlt' : i < L.length := by omega
  obtain ⟨b2, o2, rfl, hb2, hcell2⟩ := hat2 i hlt'
  have hx0 := hcell2 w (.refl _ _) 0 _ rfl
  obtain ⟨a, b⟩ := hL L[i] (List.getElem_mem hlt')
  have hini := hin L[i] (List.getElem_mem hlt')
  have hs1 := sumZ_in (g := labAt ms) (xs := L.take i) fun x hx => hin x (List.mem_of_mem_take hx)
  have hlen : (L.take i).length = i := by rw [List.length_take]; omega
  have hn : labZ ms (L.take (i + 1)) = labZ ms (L.take i) + labAt ms L[i] := by rw [labZ, List.take_succ_eq_append_getElem hlt', sumZ_snoc]; rfl
  rw [show sumZ (labAt ms) (L.take i) = labZ ms (L.take i) from rfl] at hs1
  generalize L[i] = li at *
  obtain ⟨k, rfl⟩ := Int.eq_ofNat_of_zero_le a
  have hk : k < ms.length := by omega
  have hk' : (k : Int) < (ms.length : Int) := by omega
  obtain ⟨b1, o1, rfl, hb1, hcell⟩ := hat k hk
  have hc1 := hcell w (.refl _ _) 1 _ rfl
  have hla : labAt ms (k : Int) = ms[k].2 := by rw [labAt, Int.toNat_natCast, getD_at hk]
  rw [hla] at hn hini
  have hx0' : w.cell? ⟨b2, o2 + i * 1, none⟩ = some (.int .i64 (k : Int)) := by rw [Nat.add_zero] at hx0; exact hx0
  simp -dsimp -implicitDefEqProofs (maxSteps := 2000000) (disch := first | assumption | omega | (simp only [AW.next_push, AW.next_put]; omega) | ((repeat refine Fresh.push ?_ _); assumption) | (simp only [same_int, same_bool, same_ptr, same_slice, same_sliceP, same_nil, same_agg2, same_string]; done) | (simp [oneCell, AW.next_push]; done) | fail) only [go_sem, Nat.reduceEqDiff, reduceIte, Nat.reduceAdd, Int.toNat_natCast, Nat.add_zero, Owes_true, Tryz.results56, e0, e1, e5, e6, hlt, hk', indexV_eq, hx0', hc1]
  refine ⟨_, by omega, i + 1, by omega, rfl, rfl, by (simp -dsimp -implicitDefEqProofs (maxSteps := 2000000) (disch := first | assumption | omega | (simp only [AW.next_push, AW.next_put]; omega) | ((repeat refine Fresh.push ?_ _); assumption) | (simp only [same_int, same_bool, same_ptr, same_slice, same_sliceP, same_nil, same_agg2, same_string]; done) | (simp [oneCell, AW.next_push]; done) | fail) only [go_sem, Nat.reduceEqDiff, reduceIte, Nat.reduceAdd, Int.toNat_natCast, Nat.add_zero, Owes_true, e0, hn]; try rfl), by (simp -dsimp -implicitDefEqProofs (maxSteps := 2000000) (disch := first | assumption | omega | (simp only [AW.next_push, AW.next_put]; omega) | ((repeat refine Fresh.push ?_ _); assumption) | (simp only [same_int, same_bool, same_ptr, same_slice, same_sliceP, same_nil, same_agg2, same_string]; done) | (simp [oneCell, AW.next_push]; done) | fail) only [go_sem, Nat.reduceEqDiff, reduceIte, Nat.reduceAdd, Int.toNat_natCast, Nat.add_zero, Owes_true, e1, hn]; try rfl), by (simp -dsimp -implicitDefEqProofs (maxSteps := 2000000) (disch := first | assumption | omega | (simp only [AW.next_push, AW.next_put]; omega) | ((repeat refine Fresh.push ?_ _); assumption) | (simp only [same_int, same_bool, same_ptr, same_slice, same_sliceP, same_nil, same_agg2, same_string]; done) | (simp [oneCell, AW.next_push]; done) | fail) only [go_sem, Nat.reduceEqDiff, reduceIte, Nat.reduceAdd, Int.toNat_natCast, Nat.add_zero, Owes_true, e5, hn]; try rfl), by (simp -dsimp -implicitDefEqProofs (maxSteps := 2000000) (disch := first | assumption | omega | (simp only [AW.next_push, AW.next_put]; omega) | ((repeat refine Fresh.push ?_ _); assumption) | (simp only [same_int, same_bool, same_ptr, same_slice, same_sliceP, same_nil, same_agg2, same_string]; done) | (simp [oneCell, AW.next_push]; done) | fail) only [go_sem, Nat.reduceEqDiff, reduceIte, Nat.reduceAdd, Int.toNat_natCast, Nat.add_zero, Owes_true, e6, hn]; try rfl), rfl⟩
theorem aheadZ_take : ∀ (a b : List Int) (i : Nat), a.take i = b.take i → i ≤ a.length → i ≤ b.length → aheadZ a b = aheadZ (a.drop i) (b.drop i)
  | _, _, 0, _, _, _ => by simp
  | [], _, i + 1, _, h, _ => by simp at h
  | _ :: _, [], i + 1, _, _, h => by simp at h
  | x :: a, y :: b, i + 1, h, h1, h2 => by
    simp only [List.take_succ_cons, List.cons.injEq] at h
    obtain ⟨rfl, h⟩ := h
    simp only [List.drop_succ_cons, aheadZ, if_true]
    exact aheadZ_take a b i h (by simpa using h1) (by simpa using h2)
theorem ahead_ok (xs ys : List Int) (v u : Value) (w : AW) (f : Fresh w) (hx : ArrOf w 1 icells v xs) (hy : ArrOf w 1 icells u ys) :
    CallT Tryz.prog Tryz.T (.fn (.func 57) #[]) #[v, u] w (Ret (.bool (aheadZ xs ys)) fun w' => w = w') := by
  obtain ⟨p, cap, rfl, hcap, hmax, hat⟩ := hx.open
  obtain ⟨q, cap2, rfl, hcap2, hmax2, hat2⟩ := hy.open
  refine callT_code rfl Tryz.func57 rfl Tryz.s57_eq rfl ?_
  unfold Tryz.s57
  simp -dsimp -implicitDefEqProofs (maxSteps := 2000000) (disch := first | assumption | omega | (simp only [AW.next_push, AW.next_put]; omega) | ((repeat refine Fresh.push ?_ _); assumption) | (simp only [same_int, same_bool, same_ptr, same_slice, same_sliceP, same_nil, same_agg2, same_string]; done) | (simp [oneCell, AW.next_push]; done) | fail) only [go_sem, Nat.reduceEqDiff, reduceIte, Nat.reduceAdd, Int.toNat_natCast, Nat.add_zero, Owes_true, Tryz.results57]
  refine loopR (fun k t ds w1 => ∃ i : Nat, i ≤ xs.length ∧ k = xs.length - i ∧ ds = [] ∧ ev t (.tmp 0) = .slice p xs.length cap ∧ ev t (.tmp 1) = .slice q ys.length cap2 ∧ ev t (.tmp 5) = .int .i64 (i : Int) ∧ w = w1 ∧ i ≤ ys.length ∧ xs.take i = ys.take i) (xs.length) ?_ ?_
  · refine ⟨0, by omega, by omega, rfl, ?_, ?_, ?_, rfl, by omega, rfl⟩ <;> simp -dsimp -implicitDefEqProofs (maxSteps := 2000000) (disch := first | assumption | omega | (simp only [AW.next_push, AW.next_put]; omega) | ((repeat refine Fresh.push ?_ _); assumption) | (simp only [same_int, same_bool, same_ptr, same_slice, same_sliceP, same_nil, same_agg2, same_string]; done) | (simp [oneCell, AW.next_push]; done) | fail) only [go_sem, Nat.reduceEqDiff, reduceIte, Nat.reduceAdd, Int.toNat_natCast, Nat.add_zero, Owes_true] <;> rfl
  rintro k t ds w1 ⟨i, hii, rfl, rfl, e0, e1, e5, hw, hiy, heq⟩
  subst hw
  have hdrop := aheadZ_take xs ys i heq hii hiy
  by_cases hlt : (i : Int) < (xs.length : Int)
  case neg =>
    simp -dsimp -implicitDefEqProofs (maxSteps := 2000000) (disch := first | assumption | omega | (simp only [AW.next_push, AW.next_put]; omega) | ((repeat refine Fresh.push ?_ _); assumption) | (simp only [same_int, same_bool, same_ptr, same_slice, same_sliceP, same_nil, same_agg2, same_string]; done) | (simp [oneCell, AW.next_push]; done) | fail) only [go_sem, Nat.reduceEqDiff, reduceIte, Nat.reduceAdd, Int.toNat_natCast, Nat.add_zero, Owes_true, Tryz.results57, e0, e1, e5, hlt]
    refine ⟨?_, by first | rfl | trivial⟩
    rw [hdrop, List.drop_eq_nil_of_le (show xs.length ≤ i by omega)]
    congr 1
    by_cases h : ys.length ≤ i
    · rw [List.drop_eq_nil_of_le h]; simp only [aheadZ, decide_eq_false_iff_not]; omega
    · rw [List.drop_eq_getElem_cons (by omega)]; simp only [aheadZ, decide_eq_true_eq]; omega
  have hlt' : i < xs.length := by omega
  by_cases hly : (i : Int) < (ys.length : Int)
  case neg =>
    simp -dsimp -implicitDefEqProofs (maxSteps := 2000000) (disch := first | assumption | omega | (simp only [AW.next_push, AW.next_put]; omega) | ((repeat refine Fresh.push ?_ _); assumption) | (simp only [same_int, same_bool, same_ptr, same_slice, same_sliceP, same_nil, same_agg2, same_string]; done) | (simp [oneCell, AW.next_push]; done) | fail) only [go_sem, Nat.reduceEqDiff, reduceIte, Nat.reduceAdd, Int.toNat_natCast, Nat.add_zero, Owes_true, Tryz.results57, e0, e1, e5, hlt, hly]
    refine ⟨?_, by first | rfl | trivial⟩
    rw [hdrop, List.drop_eq_getElem_cons hlt', List.drop_eq_nil_of_le (show ys.length ≤ i by omega)]
    congr 1
    simp only [aheadZ, decide_eq_false_iff_not]; omega
  have hly' : i < ys.length := by omega
  obtain ⟨b1, o1, rfl, hb1, hcell⟩ := hat i hlt'
  obtain ⟨b2, o2, rfl, hb2, hcell2⟩ := hat2 i hly'
  have hc0 := hcell w (.refl _ _) 0 _ rfl
  have hd0 := hcell2 w (.refl _ _) 0 _ rfl
  rw [Nat.add_zero] at hc0 hd0
  rw [List.drop_eq_getElem_cons hlt', List.drop_eq_getElem_cons hly', aheadZ] at hdrop
  by_cases hq : xs[i] = ys[i]
  · simp -dsimp -implicitDefEqProofs (maxSteps := 2000000) (disch := first | assumption | omega | (simp only [AW.next_push, AW.next_put]; omega) | ((repeat refine Fresh.push ?_ _); assumption) | (simp only [same_int, same_bool, same_ptr, same_slice, same_sliceP, same_nil, same_agg2, same_string]; done) | (simp [oneCell, AW.next_push]; done) | fail) only [go_sem, Nat.reduceEqDiff, reduceIte, Nat.reduceAdd, Int.toNat_natCast, Nat.add_zero, Owes_true, Tryz.results57, e0, e1, e5, hlt, hly, indexV_eq, hc0, hd0, hq]
    refine ⟨_, by omega, i + 1, by omega, rfl, rfl, by (simp -dsimp -implicitDefEqProofs (maxSteps := 2000000) (disch := first | assumption | omega | (simp only [AW.next_push, AW.next_put]; omega) | ((repeat refine Fresh.push ?_ _); assumption) | (simp only [same_int, same_bool, same_ptr, same_slice, same_sliceP, same_nil, same_agg2, same_string]; done) | (simp [oneCell, AW.next_push]; done) | fail) only [go_sem, Nat.reduceEqDiff, reduceIte, Nat.reduceAdd, Int.toNat_natCast, Nat.add_zero, Owes_true, e0]; try rfl), by (simp -dsimp -implicitDefEqProofs (maxSteps := 2000000) (disch := first | assumption | omega | (simp only [AW.next_push, AW.next_put]; omega) | ((repeat refine Fresh.push ?_ _); assumption) | (simp only [same_int, same_bool, same_ptr, same_slice, same_sliceP, same_nil, same_agg2, same_string]; done) | (simp [oneCell, AW.next_push]; done) | fail) only [go_sem, Nat.reduceEqDiff, reduceIte, Nat.reduceAdd, Int.toNat_natCast, Nat.add_zero, Owes_true, e1]; try rfl), by (simp -dsimp -implicitDefEqProofs (maxSteps := 2000000) (disch := first | assumption | omega | (simp only [AW.next_push, AW.next_put]; omega) | ((repeat refine Fresh.push ?_ _); assumption) | (simp only [same_int, same_bool, same_ptr, same_slice, same_sliceP, same_nil, same_agg2, same_string]; done) | (simp [oneCell, AW.next_push]; done) | fail) only [go_sem, Nat.reduceEqDiff, reduceIte, Nat.reduceAdd, Int.toNat_natCast, Nat.add_zero, Owes_true, e5]; try rfl), rfl, by omega, by rw [List.take_succ_eq_append_getElem hlt', List.take_succ_eq_append_getElem hly', heq, hq]⟩
  · rw [if_neg hq] at hdrop
    simp -dsimp -implicitDefEqProofs (maxSteps := 2000000) (disch := first | assumption | omega | (simp only [AW.next_push, AW.next_put]; omega) | ((repeat refine Fresh.push ?_ _); assumption) | (simp only [same_int, same_bool, same_ptr, same_slice, same_sliceP, same_nil, same_agg2, same_string]; done) | (simp [oneCell, AW.next_push]; done) | fail) only [go_sem, Nat.reduceEqDiff, reduceIte, Nat.reduceAdd, Int.toNat_natCast, Nat.add_zero, Owes_true, Tryz.results57, e0, e1, e5, hlt, hly, indexV_eq, hc0, hd0, hq]
    exact ⟨by rw [hdrop], by first | rfl | trivial⟩
end Go.Proofs
