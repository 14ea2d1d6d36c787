/- Contracts of the chapters portions. -/
import Derived.Test.YtbmgalmnjaimeaaLf
set_option linter.unusedVariables false
set_option linter.unusedSimpArgs false
/- Lots: the chapter's portions; two lists of portions compared. -/
namespace Go.Proofs
open Go Go.RowKit Go.Sim
set_option maxRecDepth 100000
def scellsT (s : ByteArray) : List Value := [.string s]
theorem scellsT_len (s : ByteArray) : (scellsT s).length = 1 := rfl
theorem scellsT_one (s : ByteArray) : ∀ v ∈ scellsT s, oneCell v = true := by intro v hv; simp [scellsT] at hv; subst hv; rfl
theorem SeekText_ok (l : List ByteArray) (kk : ByteArray) (v : Value) (w : AW) (hs : ArrOf w 1 scellsT v l) (hl : l.length ≤ 1000) : CallT Try.prog Try.T1 (.fn (.func 64) #[]) #[v, .string kk] w (fun r w' => w = w' ∧ ∃ n : Int, r = .int .i64 n ∧ decide (n < 0) = !hasB l kk) := by
  obtain ⟨p, cap, rfl, _, _, hat⟩ := hs.open
  refine callT_code rfl Try.func64 rfl Try.s64_eq rfl ?_
  unfold Try.s64
  simp -dsimp -implicitDefEqProofs (maxSteps := 2000000) (disch := first | assumption | omega | (simp only [AW.next_push, AW.next_put]; omega) | ((repeat refine Fresh.push ?_ _); assumption) | (simp only [same_int, same_bool, same_ptr, same_slice, same_sliceP, same_nil, same_agg2, same_string]; done) | (simp [oneCell, AW.next_push]; done) | fail) only [go_sem, Nat.reduceEqDiff, reduceIte, Nat.reduceAdd, Int.toNat_natCast, Nat.add_zero, Owes_true, Try.results64]
  refine loopR (fun k t ds w1 => ∃ i : Nat, i ≤ l.length ∧ k = l.length - i ∧ ds = [] ∧ ev t (.tmp 0) = .slice p l.length cap ∧ ev t (.tmp 1) = .string kk ∧ ev t (.tmp 5) = .int .i64 (i : Int) ∧ w = w1 ∧ hasB (l.take i) kk = false) (l.length) ?_ ?_
  · refine ⟨0, by omega, by omega, rfl, ?_, ?_, ?_, rfl, rfl⟩ <;> simp -dsimp -implicitDefEqProofs (maxSteps := 2000000) (disch := first | assumption | omega | (simp only [AW.next_push, AW.next_put]; omega) | ((repeat refine Fresh.push ?_ _); assumption) | (simp only [same_int, same_bool, same_ptr, same_slice, same_sliceP, same_nil, same_agg2, same_string]; done) | (simp [oneCell, AW.next_push]; done) | fail) only [go_sem, Nat.reduceEqDiff, reduceIte, Nat.reduceAdd, Int.toNat_natCast, Nat.add_zero, Owes_true] <;> rfl
  rintro k t ds w1 ⟨i, hii, rfl, rfl, e0, e1, e5, hw, hall⟩
  subst hw
  by_cases hlt : (i : Int) < (l.length : Int)
  case neg =>
    obtain rfl : i = l.length := by omega
    rw [List.take_of_length_le (Nat.le_refl _)] at hall
    simp -dsimp -implicitDefEqProofs (maxSteps := 2000000) (disch := first | assumption | omega | (simp only [AW.next_push, AW.next_put]; omega) | ((repeat refine Fresh.push ?_ _); assumption) | (simp only [same_int, same_bool, same_ptr, same_slice, same_sliceP, same_nil, same_agg2, same_string]; done) | (simp [oneCell, AW.next_push]; done) | fail) only [go_sem, Nat.reduceEqDiff, reduceIte, Nat.reduceAdd, Int.toNat_natCast, Nat.add_zero, Owes_true, Try.results64, e0, e1, e5, hlt]
    exact ⟨trivial, _, rfl, by rw [hall]; rfl⟩
  have hlt' : i < l.length := by omega
  obtain ⟨b1, o1, rfl, hb1, hcell⟩ := hat i hlt'
  have a0 := hcell w (.refl _ _) 0 _ rfl
  rw [Nat.add_zero] at a0
  have hnx : hasB (l.take (i + 1)) kk = sEq kk l[i] := by
    rw [List.take_succ_eq_append_getElem hlt']
    rw [hasB] at hall ⊢
    rw [List.any_append, hall]; simp
  have hsym : sEq l[i] kk = sEq kk l[i] := by
    rw [Bool.eq_iff_iff, sEq_iff, sEq_iff]; exact eq_comm
  cases hq : sEq kk l[i] with
  | true =>
    rw [hq] at hsym
    simp -dsimp -implicitDefEqProofs (maxSteps := 2000000) (disch := first | assumption | omega | (simp only [AW.next_push, AW.next_put]; omega) | ((repeat refine Fresh.push ?_ _); assumption) | (simp only [same_int, same_bool, same_ptr, same_slice, same_sliceP, same_nil, same_agg2, same_string]; done) | (simp [oneCell, AW.next_push]; done) | fail) only [go_sem, Nat.reduceEqDiff, reduceIte, Nat.reduceAdd, Int.toNat_natCast, Nat.add_zero, Owes_true, Try.results64, e0, e1, e5, hlt, indexV_eq, a0, hsym]
    refine ⟨trivial, _, rfl, ?_⟩
    have : hasB l kk = true := by
      rw [hasB_iff, (sEq_iff _ _).1 hq]; exact List.getElem_mem hlt'
    rw [this, decide_eq_false (by omega)]; rfl
  | false =>
    rw [hq] at hsym
    simp -dsimp -implicitDefEqProofs (maxSteps := 2000000) (disch := first | assumption | omega | (simp only [AW.next_push, AW.next_put]; omega) | ((repeat refine Fresh.push ?_ _); assumption) | (simp only [same_int, same_bool, same_ptr, same_slice, same_sliceP, same_nil, same_agg2, same_string]; done) | (simp [oneCell, AW.next_push]; done) | fail) only [go_sem, Nat.reduceEqDiff, reduceIte, Nat.reduceAdd, Int.toNat_natCast, Nat.add_zero, Owes_true, Try.results64, e0, e1, e5, hlt, indexV_eq, a0, hsym]
    refine ⟨_, by omega, i + 1, by omega, rfl, rfl, by (simp -dsimp -implicitDefEqProofs (maxSteps := 2000000) (disch := first | assumption | omega | (simp only [AW.next_push, AW.next_put]; omega) | ((repeat refine Fresh.push ?_ _); assumption) | (simp only [same_int, same_bool, same_ptr, same_slice, same_sliceP, same_nil, same_agg2, same_string]; done) | (simp [oneCell, AW.next_push]; done) | fail) only [go_sem, Nat.reduceEqDiff, reduceIte, Nat.reduceAdd, Int.toNat_natCast, Nat.add_zero, Owes_true, e0]; try rfl), by (simp -dsimp -implicitDefEqProofs (maxSteps := 2000000) (disch := first | assumption | omega | (simp only [AW.next_push, AW.next_put]; omega) | ((repeat refine Fresh.push ?_ _); assumption) | (simp only [same_int, same_bool, same_ptr, same_slice, same_sliceP, same_nil, same_agg2, same_string]; done) | (simp [oneCell, AW.next_push]; done) | fail) only [go_sem, Nat.reduceEqDiff, reduceIte, Nat.reduceAdd, Int.toNat_natCast, Nat.add_zero, Owes_true, e1]; try rfl), by (simp -dsimp -implicitDefEqProofs (maxSteps := 2000000) (disch := first | assumption | omega | (simp only [AW.next_push, AW.next_put]; omega) | ((repeat refine Fresh.push ?_ _); assumption) | (simp only [same_int, same_bool, same_ptr, same_slice, same_sliceP, same_nil, same_agg2, same_string]; done) | (simp [oneCell, AW.next_push]; done) | fail) only [go_sem, Nat.reduceEqDiff, reduceIte, Nat.reduceAdd, Int.toNat_natCast, Nat.add_zero, Owes_true, e5]; try rfl), rfl, by rw [hnx, hq]⟩
theorem Try.bs112 (t : Tmps) (l : List (Nat × Operand)) : makes (prg Try.prog) t (.buildSlice 112 1 ⟨l⟩) = bsQ 9 1 1 [.string ⟨#[]⟩] (l.map fun p => (p.1, ev t p.2)) := makes_bs Try.ty112 Try.ty9 rfl (by kernel_rfl)
theorem bsQ_1s {e : TypeId} {z : Value} (s : ByteArray) : bsQ e 1 1 [z] [(0, .string s)] = some ([.string s], e, fun n => .slice (some ⟨n, 0, none⟩) 1 1) := by
  simp [bsQ, Instr.fill, Value.cells]
attribute [go_sem] Try.bs112 bsQ_1s
set_option maxHeartbeats 4000000 in
theorem SamePortions_ok (Q : List Int) (Ds : List (List DueN)) (zs ys : List PortV) (u v : Value) (w : AW) (f : Fresh w) (hA : ArrOf w 3 pcells u zs) (hB : ArrOf w 3 pcells v ys) (hl : zs.length = ys.length) (hz : zs.length ≤ 1000) (h1 : PortOk w Q Ds zs) (h2 : PortOk w Q Ds ys) :
    CallT Try.prog Try.T1 (.fn (.func 22) #[]) #[u, v] w (Ret (.bool true) (Grown w)) := by
  obtain ⟨p1, c1, rfl, hat1⟩ := port_at hA h1
  obtain ⟨p2, c2, rfl, hat2⟩ := port_at hB h2
  have hlI : (zs.length : Int) = (ys.length : Int) := by omega
  refine callT_code rfl Try.func22 rfl Try.s22_eq rfl ?_
  unfold Try.s22
  simp -dsimp -implicitDefEqProofs (maxSteps := 2000000) (disch := first | assumption | omega | (simp only [AW.next_push, AW.next_put]; omega) | ((repeat refine Fresh.push ?_ _); assumption) | (simp only [same_int, same_bool, same_ptr, same_slice, same_sliceP, same_nil, same_agg2, same_string]; done) | (simp [oneCell, AW.next_push]; done) | fail) only [go_sem, Nat.reduceEqDiff, reduceIte, Nat.reduceAdd, Int.toNat_natCast, Nat.add_zero, Owes_true, Try.results22, hlI]
  refine loopR (fun k t ds w1 => ∃ i : Nat, i ≤ zs.length ∧ k = zs.length - i ∧ ds = [] ∧ ev t (.tmp 0) = .slice p1 zs.length c1 ∧ ev t (.tmp 1) = .slice p2 ys.length c2 ∧ ev t (.tmp 5) = .int .i64 (i : Int) ∧ Grown w w1) (zs.length) ?_ ?_
  · refine ⟨0, by omega, by omega, rfl, ?_, ?_, ?_, Grown.refl f⟩ <;> simp -dsimp -implicitDefEqProofs (maxSteps := 2000000) (disch := first | assumption | omega | (simp only [AW.next_push, AW.next_put]; omega) | ((repeat refine Fresh.push ?_ _); assumption) | (simp only [same_int, same_bool, same_ptr, same_slice, same_sliceP, same_nil, same_agg2, same_string]; done) | (simp [oneCell, AW.next_push]; done) | fail) only [go_sem, Nat.reduceEqDiff, reduceIte, Nat.reduceAdd, Int.toNat_natCast, Nat.add_zero, Owes_true] <;> rfl
  rintro k t ds w1 ⟨i, hii, rfl, rfl, e0, e1, e5, hg⟩
  by_cases hlt : (i : Int) < (zs.length : Int)
  case neg =>
    simp -dsimp -implicitDefEqProofs (maxSteps := 2000000) (disch := first | assumption | omega | (simp only [AW.next_push, AW.next_put]; omega) | ((repeat refine Fresh.push ?_ _); assumption) | (simp only [same_int, same_bool, same_ptr, same_slice, same_sliceP, same_nil, same_agg2, same_string]; done) | (simp [oneCell, AW.next_push]; done) | fail) only [go_sem, Nat.reduceEqDiff, reduceIte, Nat.reduceAdd, Int.toNat_natCast, Nat.add_zero, Owes_true, Try.results22, e0, e1, e5, hlt]
    exact ⟨rfl, hg⟩
  have hlt1 : i < zs.length := by omega
  have hlt2 : (i : Int) < (ys.length : Int) := by omega
  obtain ⟨b1, o1, q1, m1, k1, rfl, hP1, hcell1⟩ := hat1 i hlt1
  obtain ⟨b2, o2, q2, m2, k2, rfl, hP2, hcell2⟩ := hat2 i (by omega)
  obtain ⟨a0, a1, a2⟩ := hcell1 w1 hg.1
  obtain ⟨d0, d1, d2⟩ := hcell2 w1 hg.1
  generalize hlf : leftN (Ds.getD i []) (W Q i) 10 = lf at *
  generalize paidN (Ds.getD i []) (W Q i) 10 = P at *
  simp -dsimp -implicitDefEqProofs (maxSteps := 2000000) (disch := first | assumption | omega | (simp only [AW.next_push, AW.next_put]; omega) | ((repeat refine Fresh.push ?_ _); assumption) | (simp only [same_int, same_bool, same_ptr, same_slice, same_sliceP, same_nil, same_agg2, same_string]; done) | (simp [oneCell, AW.next_push]; done) | fail) only [go_sem, Nat.reduceEqDiff, reduceIte, Nat.reduceAdd, Int.toNat_natCast, Nat.add_zero, Owes_true, Try.results22, e0, e1, e5, hlt, hlt2, indexV_eq, a0, a1, a2, d0, d1, d2]
  apply callV_of (e := rfl)
  · exact same_ok _ _ _ _ w1 hg.2 (hP1.grown hg) (hP2.grown hg)
  rintro _ w2 ⟨rfl, hg2⟩
  have e : decide (P = P) = true := decide_eq_true rfl
  rw [e]
  simp -dsimp -implicitDefEqProofs (maxSteps := 2000000) (disch := first | assumption | omega | (simp only [AW.next_push, AW.next_put]; omega) | ((repeat refine Fresh.push ?_ _); assumption) | (simp only [same_int, same_bool, same_ptr, same_slice, same_sliceP, same_nil, same_agg2, same_string]; done) | (simp [oneCell, AW.next_push]; done) | fail) only [go_sem, Nat.reduceEqDiff, reduceIte, Nat.reduceAdd, Int.toNat_natCast, Nat.add_zero, Owes_true, Try.results22, e0, e1, e5]
  refine ⟨_, by omega, i + 1, by omega, rfl, rfl, by (simp -dsimp -implicitDefEqProofs (maxSteps := 2000000) (disch := first | assumption | omega | (simp only [AW.next_push, AW.next_put]; omega) | ((repeat refine Fresh.push ?_ _); assumption) | (simp only [same_int, same_bool, same_ptr, same_slice, same_sliceP, same_nil, same_agg2, same_string]; done) | (simp [oneCell, AW.next_push]; done) | fail) only [go_sem, Nat.reduceEqDiff, reduceIte, Nat.reduceAdd, Int.toNat_natCast, Nat.add_zero, Owes_true, e0]; try rfl), by (simp -dsimp -implicitDefEqProofs (maxSteps := 2000000) (disch := first | assumption | omega | (simp only [AW.next_push, AW.next_put]; omega) | ((repeat refine Fresh.push ?_ _); assumption) | (simp only [same_int, same_bool, same_ptr, same_slice, same_sliceP, same_nil, same_agg2, same_string]; done) | (simp [oneCell, AW.next_push]; done) | fail) only [go_sem, Nat.reduceEqDiff, reduceIte, Nat.reduceAdd, Int.toNat_natCast, Nat.add_zero, Owes_true, e1]; try rfl), by (simp -dsimp -implicitDefEqProofs (maxSteps := 2000000) (disch := first | assumption | omega | (simp only [AW.next_push, AW.next_put]; omega) | ((repeat refine Fresh.push ?_ _); assumption) | (simp only [same_int, same_bool, same_ptr, same_slice, same_sliceP, same_nil, same_agg2, same_string]; done) | (simp [oneCell, AW.next_push]; done) | fail) only [go_sem, Nat.reduceEqDiff, reduceIte, Nat.reduceAdd, Int.toNat_natCast, Nat.add_zero, Owes_true, e5]; try rfl), hg.trans hg2⟩
end Go.Proofs

/- Lots: the chapter's portions. -/
namespace Go.Proofs
open Go Go.RowKit Go.Sim
set_option maxRecDepth 100000
theorem same_tup2 (p : Option Addr) (n c : Nat) (a : Int) : same 12 (.tuple #[.slice p n c, .int .i64 a]) (.tuple #[.slice p n c, .int .i64 a]) = true := by
  have h := same_sliceN 10 p n c
  simp only [same, same.all, h]
  simp [same, intEq_eq]
theorem firstOf1 {u : AW} {b : Nat} {x : Value} (hx : u.cell? ⟨b, 0, none⟩ = some x) : aFirst u 1 1 (.slice (some ⟨b, 0, none⟩) 1 1) = some [x] := by
  show aCells u b 0 (1 * 1) = _
  exact aCells_of [x] 0 fun k v hv => by
    rw [Nat.zero_add]
    match k with
    | 0 => simp at hv; subst hv; exact hx
    | k + 1 => simp at hv
theorem isOne {x : Value} (h : oneCell x = true) : ∀ y ∈ [x], oneCell y = true := by intro y hy; simp at hy; subst hy; exact h
set_option maxHeartbeats 16000000 in
theorem refPortions_ok (price : Int) (xs : List PartV) (Ds : List (List DueN)) (v : Value) (w : AW) (f : Fresh w) (hs : PartsAt w v xs Ds) (hsz : ∀ x ∈ xs, x.s.size ≤ 140737488355328) :
    CallT Try.prog Try.T1 (.fn (.func 21) #[]) #[.int .i64 price, v] w (fun r w' => ∃ u zs, r = .tuple #[u, .int .i64 (portE price xs Ds)] ∧ PortRes w' price xs Ds u zs ∧ Grown w w') := by
  obtain ⟨p, cc, rfl, hat⟩ := hs.at
  refine callT_code rfl Try.func21 rfl Try.s21_eq rfl ?_
  unfold Try.s21
  simp -dsimp -implicitDefEqProofs (maxSteps := 2000000) (disch := first | assumption | omega | (simp only [AW.next_push, AW.next_put]; omega) | ((repeat refine Fresh.push ?_ _); assumption) | (simp only [same_int, same_bool, same_ptr, same_slice, same_sliceP, same_nil, same_agg2, same_string]; done) | (simp [oneCell, AW.next_push]; done) | fail) only [go_sem, Nat.reduceEqDiff, reduceIte, Nat.reduceAdd, Int.toNat_natCast, Nat.add_zero, Owes_true, Try.results21]
  apply callV_of (e := rfl)
  · exact From_ok _ _ _ _
  rintro _ _ ⟨rfl, rfl⟩
  cases h1 : inR 0 price 67108864 with
  | false =>
    have hE : portE price xs Ds = 7 := by rw [portE, if_pos h1]
    simp -dsimp -implicitDefEqProofs (maxSteps := 2000000) (disch := first | assumption | omega | (simp only [AW.next_push, AW.next_put]; omega) | ((repeat refine Fresh.push ?_ _); assumption) | (simp only [same_int, same_bool, same_ptr, same_slice, same_sliceP, same_nil, same_agg2, same_string]; done) | (simp [oneCell, AW.next_push]; done) | fail) only [go_sem, Nat.reduceEqDiff, reduceIte, Nat.reduceAdd, Int.toNat_natCast, Nat.add_zero, Owes_true, Try.results21]
    exact ⟨_, [], by rw [hE], PortRes.nil (by rw [hE]; decide), .refl f⟩
  | true =>
  simp -dsimp -implicitDefEqProofs (maxSteps := 2000000) (disch := first | assumption | omega | (simp only [AW.next_push, AW.next_put]; omega) | ((repeat refine Fresh.push ?_ _); assumption) | (simp only [same_int, same_bool, same_ptr, same_slice, same_sliceP, same_nil, same_agg2, same_string]; done) | (simp [oneCell, AW.next_push]; done) | fail) only [go_sem, Nat.reduceEqDiff, reduceIte, Nat.reduceAdd, Int.toNat_natCast, Nat.add_zero, Owes_true, Try.results21]
  apply callV_of (e := rfl)
  · exact From_ok _ _ _ _
  rintro _ _ ⟨rfl, rfl⟩
  have hbadP : partsB xs = false → portE price xs Ds = 72 := fun q => by rw [portE, if_neg (by rw [h1]; simp), if_pos q]
  generalize hB0 : inR 1 (xs.length : Int) 8 = B0 at *
  have hB0l : B0 = true → 1 ≤ xs.length ∧ xs.length ≤ 8 := fun q => by rw [q, inR_iff] at hB0; omega
  have hn0 : (B0 && namesTo xs 0) = B0 := by simp [namesTo]
  simp -dsimp -implicitDefEqProofs (maxSteps := 2000000) (disch := first | assumption | omega | (simp only [AW.next_push, AW.next_put]; omega) | ((repeat refine Fresh.push ?_ _); assumption) | (simp only [same_int, same_bool, same_ptr, same_slice, same_sliceP, same_nil, same_agg2, same_string]; done) | (simp [oneCell, AW.next_push]; done) | fail) only [go_sem, Nat.reduceEqDiff, reduceIte, Nat.reduceAdd, Int.toNat_natCast, Nat.add_zero, Owes_true, Try.results21]
  refine loopR (fun k t ds w1 => ∃ i : Nat, i ≤ xs.length ∧ k = xs.length - i ∧ ds = [] ∧ ev t (.tmp 0) = .int .i64 price ∧ ev t (.tmp 1) = .slice p xs.length cc ∧ ev t (.tmp 8) = .bool (B0 && namesTo xs i) ∧ ev t (.tmp 9) = .int .i64 (i : Int) ∧ (∃ (us ug : Value) (S1 S2 : Nat → Prop), ev t (.tmp 6) = us ∧ ev t (.tmp 7) = ug ∧ AOwnS S1 w1 9 1 us ((xs.take i).map PartV.s).length (((xs.take i).map PartV.s).flatMap scellsT) ∧ AOwnS S2 w1 3 1 ug ((xs.take i).map PartV.v).length (((xs.take i).map PartV.v).flatMap icells) ∧ (∀ j, S1 j → w.next ≤ j ∧ j < w1.next ∧ ¬ S2 j) ∧ (∀ j, S2 j → w.next ≤ j ∧ j < w1.next)) ∧ Grown w w1) (xs.length) ?_ ?_
  · refine ⟨0, by omega, by omega, rfl, ?_, ?_, ?_, ?_, ⟨_, _, fun _ => False, fun _ => False, (by simp -dsimp -implicitDefEqProofs (maxSteps := 2000000) (disch := first | assumption | omega | (simp only [AW.next_push, AW.next_put]; omega) | ((repeat refine Fresh.push ?_ _); assumption) | (simp only [same_int, same_bool, same_ptr, same_slice, same_sliceP, same_nil, same_agg2, same_string]; done) | (simp [oneCell, AW.next_push]; done) | fail) only [go_sem, Nat.reduceEqDiff, reduceIte, Nat.reduceAdd, Int.toNat_natCast, Nat.add_zero, Owes_true]; try rfl), (by simp -dsimp -implicitDefEqProofs (maxSteps := 2000000) (disch := first | assumption | omega | (simp only [AW.next_push, AW.next_put]; omega) | ((repeat refine Fresh.push ?_ _); assumption) | (simp only [same_int, same_bool, same_ptr, same_slice, same_sliceP, same_nil, same_agg2, same_string]; done) | (simp [oneCell, AW.next_push]; done) | fail) only [go_sem, Nat.reduceEqDiff, reduceIte, Nat.reduceAdd, Int.toNat_natCast, Nat.add_zero, Owes_true]; try rfl), .inl ⟨rfl, rfl, rfl⟩, .inl ⟨rfl, rfl, rfl⟩, by simp, by simp⟩, Grown.refl f⟩ <;> simp -dsimp -implicitDefEqProofs (maxSteps := 2000000) (disch := first | assumption | omega | (simp only [AW.next_push, AW.next_put]; omega) | ((repeat refine Fresh.push ?_ _); assumption) | (simp only [same_int, same_bool, same_ptr, same_slice, same_sliceP, same_nil, same_agg2, same_string]; done) | (simp [oneCell, AW.next_push]; done) | fail) only [go_sem, Nat.reduceEqDiff, reduceIte, Nat.reduceAdd, Int.toNat_natCast, Nat.add_zero, Owes_true, hn0] <;> rfl
  rintro k t ds w1 ⟨i, hii, rfl, rfl, e0, e1, e8, e9, hS, g1⟩
  obtain ⟨us, ug, S1, S2, e6, e7, hA, hB, hd1, hd2⟩ := hS
  obtain ⟨ps, ns, cs, rfl⟩ := hA.isSlice
  obtain ⟨pg, ng, cg, rfl⟩ := hB.isSlice
  cases hok : (B0 && namesTo xs i) with
  | false =>
    have hP : partsB xs = false := by
      rw [partsB, hB0]
      cases hb : B0 with
      | false => rfl
      | true =>
        rw [hb, Bool.true_and] at hok
        have : namesTo xs xs.length = false := by
          rw [namesTo, List.all_eq_false] at hok ⊢
          obtain ⟨k, hk1, hk2⟩ := hok
          exact ⟨k, by rw [List.mem_range] at hk1 ⊢; omega, hk2⟩
        rw [this]; rfl
    rw [hok] at e8
    simp -dsimp -implicitDefEqProofs (maxSteps := 2000000) (disch := first | assumption | omega | (simp only [AW.next_push, AW.next_put]; omega) | ((repeat refine Fresh.push ?_ _); assumption) | (simp only [same_int, same_bool, same_ptr, same_slice, same_sliceP, same_nil, same_agg2, same_string]; done) | (simp [oneCell, AW.next_push]; done) | fail) only [go_sem, Nat.reduceEqDiff, reduceIte, Nat.reduceAdd, Int.toNat_natCast, Nat.add_zero, Owes_true, Try.results21, e0, e1, e6, e7, e8, e9]
    exact ⟨_, [], by rw [hbadP hP], PortRes.nil (by rw [hbadP hP]; decide), g1⟩
  | true =>
  have hok' := hok
  rw [Bool.and_eq_true] at hok'
  have hl8 := hB0l hok'.1
  have hnames := hok'.2
  rw [hok] at e8
  by_cases hlt : (i : Int) < (xs.length : Int)
  case pos =>
    have hlt' : i < xs.length := by omega
    obtain ⟨b1, o1, q, m, c, rfl, hdu, hcell⟩ := hat i hlt'
    obtain ⟨a0, a1, a2⟩ := hcell w1 g1.1
    have hl1 : ((xs.take i).map PartV.s).length = i := by simp; omega
    have hl2 : ((xs.take i).map PartV.v).length = i := by simp; omega
    have htk1 : (xs.take (i + 1)).map PartV.s = (xs.take i).map PartV.s ++ [xs[i].s] := by rw [List.take_succ_eq_append_getElem hlt', List.map_append]; rfl
    have htk2 : (xs.take (i + 1)).map PartV.v = (xs.take i).map PartV.v ++ [xs[i].v] := by rw [List.take_succ_eq_append_getElem hlt', List.map_append]; rfl
    have hnm := nameB_at hlt'
    have hnx : (B0 && namesTo xs (i + 1)) = (wordB xs[i].s && !hasB ((xs.take i).map PartV.s) xs[i].s) := by rw [namesTo_succ, hok'.1, hok'.2, hnm]; rfl
    have hszi := hsz _ (List.getElem_mem hlt')
    have a3 := (hcell _ (g1.push (.cells [.string xs[i].s] 9 w1.next 0 0)).1).2.1
    have hAarr : ArrOf w1 1 scellsT (.slice ps ns cs) ((xs.take i).map PartV.s) := hA.own.arr scellsT_len (by omega)
    generalize xs[i].s = S at *
    generalize xs[i].v = V at *
    have fP := g1.2.push (.cells [.string S] 9 w1.next 0 0)
    have hP1 := (Own.new g1.2 9 [.string S]).push (.cells [.int .i64 V] 3 (w1.next + 1) 0 0)
    have hP2 := Own.new fP 3 [.int .i64 V]
    rw [AW.next_push] at hP2
    have fu := fP.push (.cells [.int .i64 V] 3 (w1.next + 1) 0 0)
    have kU : Keep w1.next w1 ((w1.push (.cells [.string S] 9 w1.next 0 0)).push (.cells [.int .i64 V] 3 (w1.next + 1) 0 0)) := ((Keep.refl w1.next w1).push (Nat.le_refl _) _).push (by rw [AW.next_push]; omega) _
    have hAu := hA.keep kU
    have hBu := hB.keep kU
    have hun : ((w1.push (.cells [.string S] 9 w1.next 0 0)).push (.cells [.int .i64 V] 3 (w1.next + 1) 0 0)).next = w1.next + 2 := by simp only [AW.next_push]
    have hfw := g1.2
    obtain ⟨us', w3, hap1, hA3, f3, hn3, hbk3, hfm3, hwl3⟩ := append_anyS Try.ty112 Try.ty9 rfl (by omega) (by omega) hAu fu (firstOf1 (hP1.cell (o := 0) rfl rfl)) rfl (isOne rfl) (by omega)
    have hB3 := hBu.keepS hbk3 (fun j hj hj2 => hfm3 j hj (fun q => (hd1 j q).2.2 hj2)) (by omega)
    have hP23 : w3.cell? ⟨w1.next + 1, 0, none⟩ = some (.int .i64 V) := by
      have := hP2.cell (o := 0) rfl rfl
      rw [← this]
      simp only [AW.cell?, hbk3 (w1.next + 1) (by omega)]
    obtain ⟨ug', w4, hap2, hB4, f4, hn4, hbk4, hfm4, hwl4⟩ := append_anyS Try.ty22 Try.ty3 rfl (by omega) (by omega) hB3 f3 (firstOf1 hP23) rfl (isOne rfl) (by omega)
    have hA4 := hA3.keepS hbk4 (fun j hj hj2 => hfm4 j hj (fun q => by
      rcases hj2 with z | z
      · exact (hd1 j z).2.2 q
      · have := hd2 j q; omega)) (by omega)
    have hkk : Keep w.next w w4 := g1.1.trans ⟨fun j hj => by rw [hbk4 j (by have := g1.1.next; omega), hbk3 j (by have := g1.1.next; omega)]; exact kU.blk j (by have := g1.1.next; omega), fun j hj => by
      have hle := g1.1.next
      rw [hfm4 j (by omega) (fun q => by have := hd2 j q; omega), hfm3 j (by omega) (fun q => by have := hd1 j q; omega)]
      exact kU.fam j (by omega), by omega⟩
    obtain ⟨ps', ns', cs', rfl⟩ := hA3.isSlice
    obtain ⟨pg', ng', cg', rfl⟩ := hB4.isSlice
    have hw12 := g1.1.next
    have j5 : AOwnS (fun k => S1 k ∨ k = ((w1.push (.cells [.string S] 9 w1.next 0 0)).push (.cells [.int .i64 V] 3 (w1.next + 1) 0 0)).next) w4 9 1 (.slice ps' ns' cs') ((xs.take (i + 1)).map PartV.s).length (((xs.take (i + 1)).map PartV.s).flatMap scellsT) := by rw [htk1, List.length_append, List.flatMap_append]; exact hA4
    have j6 : AOwnS (fun k => S2 k ∨ k = w3.next) w4 3 1 (.slice pg' ng' cg') ((xs.take (i + 1)).map PartV.v).length (((xs.take (i + 1)).map PartV.v).flatMap icells) := by rw [htk2, List.length_append, List.flatMap_append]; exact hB4
    have j7 : ∀ k, (S1 k ∨ k = ((w1.push (.cells [.string S] 9 w1.next 0 0)).push (.cells [.int .i64 V] 3 (w1.next + 1) 0 0)).next) → w.next ≤ k ∧ k < w4.next ∧ ¬ (S2 k ∨ k = w3.next) := fun k hk => by
      rcases hk with z | z
      · have y := hd1 k z
        refine ⟨y.1, by omega, fun q => ?_⟩
        rcases q with q | q
        · exact y.2.2 q
        · omega
      · refine ⟨by omega, by omega, fun q => ?_⟩
        rcases q with q | q
        · have := hd2 k q; omega
        · omega
    have j8 : ∀ k, (S2 k ∨ k = w3.next) → w.next ≤ k ∧ k < w4.next := fun k hk => by
      rcases hk with z | z
      · have := hd2 k z; omega
      · omega
    simp -dsimp -implicitDefEqProofs (maxSteps := 2000000) (disch := first | assumption | omega | (simp only [AW.next_push, AW.next_put]; omega) | ((repeat refine Fresh.push ?_ _); assumption) | (simp only [same_int, same_bool, same_ptr, same_slice, same_sliceP, same_nil, same_agg2, same_string]; done) | (simp [oneCell, AW.next_push]; done) | fail) only [go_sem, Nat.reduceEqDiff, reduceIte, Nat.reduceAdd, Int.toNat_natCast, Nat.add_zero, Owes_true, Try.results21, e0, e1, e6, e7, e8, e9, hlt, indexV_eq, a0, a1, a2]
    apply callV_of (e := rfl)
    · exact IsWord_ok S hszi _
    rintro _ _ ⟨rfl, rfl⟩
    cases hw : wordB S with
    | false =>
      rw [hw] at hnx
      simp -dsimp -implicitDefEqProofs (maxSteps := 2000000) (disch := first | assumption | omega | (simp only [AW.next_push, AW.next_put]; omega) | ((repeat refine Fresh.push ?_ _); assumption) | (simp only [same_int, same_bool, same_ptr, same_slice, same_sliceP, same_nil, same_agg2, same_string]; done) | (simp [oneCell, AW.next_push]; done) | fail) only [go_sem, Nat.reduceEqDiff, reduceIte, Nat.reduceAdd, Int.toNat_natCast, Nat.add_zero, Owes_true, Try.results21, e0, e1, e6, e7, e8, e9, hlt, indexV_eq, a0, a1, a2, a3, hap1, hwl3, hap2, hfw, fP]
      refine ⟨_, by omega, i + 1, by omega, rfl, rfl, by (simp -dsimp -implicitDefEqProofs (maxSteps := 2000000) (disch := first | assumption | omega | (simp only [AW.next_push, AW.next_put]; omega) | ((repeat refine Fresh.push ?_ _); assumption) | (simp only [same_int, same_bool, same_ptr, same_slice, same_sliceP, same_nil, same_agg2, same_string]; done) | (simp [oneCell, AW.next_push]; done) | fail) only [go_sem, Nat.reduceEqDiff, reduceIte, Nat.reduceAdd, Int.toNat_natCast, Nat.add_zero, Owes_true, e0, hnx]; try rfl), by (simp -dsimp -implicitDefEqProofs (maxSteps := 2000000) (disch := first | assumption | omega | (simp only [AW.next_push, AW.next_put]; omega) | ((repeat refine Fresh.push ?_ _); assumption) | (simp only [same_int, same_bool, same_ptr, same_slice, same_sliceP, same_nil, same_agg2, same_string]; done) | (simp [oneCell, AW.next_push]; done) | fail) only [go_sem, Nat.reduceEqDiff, reduceIte, Nat.reduceAdd, Int.toNat_natCast, Nat.add_zero, Owes_true, e1, hnx]; try rfl), by (simp -dsimp -implicitDefEqProofs (maxSteps := 2000000) (disch := first | assumption | omega | (simp only [AW.next_push, AW.next_put]; omega) | ((repeat refine Fresh.push ?_ _); assumption) | (simp only [same_int, same_bool, same_ptr, same_slice, same_sliceP, same_nil, same_agg2, same_string]; done) | (simp [oneCell, AW.next_push]; done) | fail) only [go_sem, Nat.reduceEqDiff, reduceIte, Nat.reduceAdd, Int.toNat_natCast, Nat.add_zero, Owes_true, e8, hnx]; try rfl), by (simp -dsimp -implicitDefEqProofs (maxSteps := 2000000) (disch := first | assumption | omega | (simp only [AW.next_push, AW.next_put]; omega) | ((repeat refine Fresh.push ?_ _); assumption) | (simp only [same_int, same_bool, same_ptr, same_slice, same_sliceP, same_nil, same_agg2, same_string]; done) | (simp [oneCell, AW.next_push]; done) | fail) only [go_sem, Nat.reduceEqDiff, reduceIte, Nat.reduceAdd, Int.toNat_natCast, Nat.add_zero, Owes_true, e9, hnx]; try rfl), ⟨_, _, _, _, (by simp -dsimp -implicitDefEqProofs (maxSteps := 2000000) (disch := first | assumption | omega | (simp only [AW.next_push, AW.next_put]; omega) | ((repeat refine Fresh.push ?_ _); assumption) | (simp only [same_int, same_bool, same_ptr, same_slice, same_sliceP, same_nil, same_agg2, same_string]; done) | (simp [oneCell, AW.next_push]; done) | fail) only [go_sem, Nat.reduceEqDiff, reduceIte, Nat.reduceAdd, Int.toNat_natCast, Nat.add_zero, Owes_true]; try rfl), (by simp -dsimp -implicitDefEqProofs (maxSteps := 2000000) (disch := first | assumption | omega | (simp only [AW.next_push, AW.next_put]; omega) | ((repeat refine Fresh.push ?_ _); assumption) | (simp only [same_int, same_bool, same_ptr, same_slice, same_sliceP, same_nil, same_agg2, same_string]; done) | (simp [oneCell, AW.next_push]; done) | fail) only [go_sem, Nat.reduceEqDiff, reduceIte, Nat.reduceAdd, Int.toNat_natCast, Nat.add_zero, Owes_true]; try rfl), j5, j6, j7, j8⟩, ⟨hkk, f4⟩⟩
    | true =>
    rw [hw] at hnx
    simp -dsimp -implicitDefEqProofs (maxSteps := 2000000) (disch := first | assumption | omega | (simp only [AW.next_push, AW.next_put]; omega) | ((repeat refine Fresh.push ?_ _); assumption) | (simp only [same_int, same_bool, same_ptr, same_slice, same_sliceP, same_nil, same_agg2, same_string]; done) | (simp [oneCell, AW.next_push]; done) | fail) only [go_sem, Nat.reduceEqDiff, reduceIte, Nat.reduceAdd, Int.toNat_natCast, Nat.add_zero, Owes_true, Try.results21, e0, e1, e6, e7, e8, e9, hlt, indexV_eq, a0, a1, a2]
    apply callV_of (e := rfl)
    · exact SeekText_ok _ S _ w1 hAarr (by omega)
    rintro _ _ ⟨rfl, n, rfl, hn⟩
    rw [← hn, Bool.true_and] at hnx
    simp -dsimp -implicitDefEqProofs (maxSteps := 2000000) (disch := first | assumption | omega | (simp only [AW.next_push, AW.next_put]; omega) | ((repeat refine Fresh.push ?_ _); assumption) | (simp only [same_int, same_bool, same_ptr, same_slice, same_sliceP, same_nil, same_agg2, same_string]; done) | (simp [oneCell, AW.next_push]; done) | fail) only [go_sem, Nat.reduceEqDiff, reduceIte, Nat.reduceAdd, Int.toNat_natCast, Nat.add_zero, Owes_true, Try.results21, e0, e1, e6, e7, e8, e9, hlt, indexV_eq, a0, a1, a2, a3, hap1, hwl3, hap2, hfw, fP]
    refine ⟨_, by omega, i + 1, by omega, rfl, rfl, by (simp -dsimp -implicitDefEqProofs (maxSteps := 2000000) (disch := first | assumption | omega | (simp only [AW.next_push, AW.next_put]; omega) | ((repeat refine Fresh.push ?_ _); assumption) | (simp only [same_int, same_bool, same_ptr, same_slice, same_sliceP, same_nil, same_agg2, same_string]; done) | (simp [oneCell, AW.next_push]; done) | fail) only [go_sem, Nat.reduceEqDiff, reduceIte, Nat.reduceAdd, Int.toNat_natCast, Nat.add_zero, Owes_true, e0, hnx]; try rfl), by (simp -dsimp -implicitDefEqProofs (maxSteps := 2000000) (disch := first | assumption | omega | (simp only [AW.next_push, AW.next_put]; omega) | ((repeat refine Fresh.push ?_ _); assumption) | (simp only [same_int, same_bool, same_ptr, same_slice, same_sliceP, same_nil, same_agg2, same_string]; done) | (simp [oneCell, AW.next_push]; done) | fail) only [go_sem, Nat.reduceEqDiff, reduceIte, Nat.reduceAdd, Int.toNat_natCast, Nat.add_zero, Owes_true, e1, hnx]; try rfl), by (simp -dsimp -implicitDefEqProofs (maxSteps := 2000000) (disch := first | assumption | omega | (simp only [AW.next_push, AW.next_put]; omega) | ((repeat refine Fresh.push ?_ _); assumption) | (simp only [same_int, same_bool, same_ptr, same_slice, same_sliceP, same_nil, same_agg2, same_string]; done) | (simp [oneCell, AW.next_push]; done) | fail) only [go_sem, Nat.reduceEqDiff, reduceIte, Nat.reduceAdd, Int.toNat_natCast, Nat.add_zero, Owes_true, e8, hnx]; try rfl), by (simp -dsimp -implicitDefEqProofs (maxSteps := 2000000) (disch := first | assumption | omega | (simp only [AW.next_push, AW.next_put]; omega) | ((repeat refine Fresh.push ?_ _); assumption) | (simp only [same_int, same_bool, same_ptr, same_slice, same_sliceP, same_nil, same_agg2, same_string]; done) | (simp [oneCell, AW.next_push]; done) | fail) only [go_sem, Nat.reduceEqDiff, reduceIte, Nat.reduceAdd, Int.toNat_natCast, Nat.add_zero, Owes_true, e9, hnx]; try rfl), ⟨_, _, _, _, (by simp -dsimp -implicitDefEqProofs (maxSteps := 2000000) (disch := first | assumption | omega | (simp only [AW.next_push, AW.next_put]; omega) | ((repeat refine Fresh.push ?_ _); assumption) | (simp only [same_int, same_bool, same_ptr, same_slice, same_sliceP, same_nil, same_agg2, same_string]; done) | (simp [oneCell, AW.next_push]; done) | fail) only [go_sem, Nat.reduceEqDiff, reduceIte, Nat.reduceAdd, Int.toNat_natCast, Nat.add_zero, Owes_true]; try rfl), (by simp -dsimp -implicitDefEqProofs (maxSteps := 2000000) (disch := first | assumption | omega | (simp only [AW.next_push, AW.next_put]; omega) | ((repeat refine Fresh.push ?_ _); assumption) | (simp only [same_int, same_bool, same_ptr, same_slice, same_sliceP, same_nil, same_agg2, same_string]; done) | (simp [oneCell, AW.next_push]; done) | fail) only [go_sem, Nat.reduceEqDiff, reduceIte, Nat.reduceAdd, Int.toNat_natCast, Nat.add_zero, Owes_true]; try rfl), j5, j6, j7, j8⟩, ⟨hkk, f4⟩⟩
  obtain rfl : i = xs.length := by omega
  rw [List.take_of_length_le (Nat.le_refl _)] at hA hB
  have hvl : (xs.map PartV.v).length = xs.length := List.length_map _
  have hVarr : ArrOf w1 1 icells (.slice pg ng cg) (xs.map PartV.v) := hB.own.arr icells_len (by omega)
  simp -dsimp -implicitDefEqProofs (maxSteps := 2000000) (disch := first | assumption | omega | (simp only [AW.next_push, AW.next_put]; omega) | ((repeat refine Fresh.push ?_ _); assumption) | (simp only [same_int, same_bool, same_ptr, same_slice, same_sliceP, same_nil, same_agg2, same_string]; done) | (simp [oneCell, AW.next_push]; done) | fail) only [go_sem, Nat.reduceEqDiff, reduceIte, Nat.reduceAdd, Int.toNat_natCast, Nat.add_zero, Owes_true, Try.results21, e0, e1, e6, e7, e8, e9, hlt]
  apply callV_of (e := rfl)
  · exact Weights_ok _ _ w1 g1.2 hVarr
  rintro _ _ ⟨rfl, rfl⟩
  have hparts : partsB xs = wgtB (xs.map PartV.v) := by rw [partsB, hB0, hok]; simp
  cases hw : wgtB (xs.map PartV.v) with
  | false =>
    rw [hw] at hparts
    simp -dsimp -implicitDefEqProofs (maxSteps := 2000000) (disch := first | assumption | omega | (simp only [AW.next_push, AW.next_put]; omega) | ((repeat refine Fresh.push ?_ _); assumption) | (simp only [same_int, same_bool, same_ptr, same_slice, same_sliceP, same_nil, same_agg2, same_string]; done) | (simp [oneCell, AW.next_push]; done) | fail) only [go_sem, Nat.reduceEqDiff, reduceIte, Nat.reduceAdd, Int.toNat_natCast, Nat.add_zero, Owes_true, Try.results21, e0, e1, e6, e7, e8, e9]
    exact ⟨_, [], by rw [hbadP hparts], PortRes.nil (by rw [hbadP hparts]; decide), g1⟩
  | true =>
  rw [hw] at hparts
  have hdl := hs.len
  have hbadD : Ds.all duesB = false → portE price xs Ds = 71 := fun q => by rw [portE, if_neg (by rw [h1]; simp), if_neg (by rw [hparts]; simp), if_pos q]
  simp -dsimp -implicitDefEqProofs (maxSteps := 2000000) (disch := first | assumption | omega | (simp only [AW.next_push, AW.next_put]; omega) | ((repeat refine Fresh.push ?_ _); assumption) | (simp only [same_int, same_bool, same_ptr, same_slice, same_sliceP, same_nil, same_agg2, same_string]; done) | (simp [oneCell, AW.next_push]; done) | fail) only [go_sem, Nat.reduceEqDiff, reduceIte, Nat.reduceAdd, Int.toNat_natCast, Nat.add_zero, Owes_true, Try.results21, e0, e1, e6, e7, e8, e9]
  refine loopR (fun k t ds w2 => ∃ i : Nat, i ≤ xs.length ∧ k = xs.length - i ∧ ds = [] ∧ ev t (.tmp 0) = .int .i64 price ∧ ev t (.tmp 1) = .slice p xs.length cc ∧ ev t (.tmp 7) = .slice pg ng cg ∧ ev t (.tmp 10) = .int .i64 (i : Int) ∧ w1 = w2 ∧ ((Ds.take i).all duesB) = true) (xs.length) ?_ ?_
  · refine ⟨0, by omega, by omega, rfl, ?_, ?_, ?_, ?_, rfl, rfl⟩ <;> simp -dsimp -implicitDefEqProofs (maxSteps := 2000000) (disch := first | assumption | omega | (simp only [AW.next_push, AW.next_put]; omega) | ((repeat refine Fresh.push ?_ _); assumption) | (simp only [same_int, same_bool, same_ptr, same_slice, same_sliceP, same_nil, same_agg2, same_string]; done) | (simp [oneCell, AW.next_push]; done) | fail) only [go_sem, Nat.reduceEqDiff, reduceIte, Nat.reduceAdd, Int.toNat_natCast, Nat.add_zero, Owes_true, e0, e1, e7] <;> rfl
  rintro k t ds w2 ⟨i, hii, rfl, rfl, e0, e1, e7, e10, hw2, hall⟩
  subst hw2
  by_cases hlt : (i : Int) < (xs.length : Int)
  case pos =>
    have hlt' : i < xs.length := by omega
    have hltD : i < Ds.length := by omega
    obtain ⟨b1, o1, q, m, c, rfl, hdu, hcell⟩ := hat i hlt'
    obtain ⟨a0, a1, a2⟩ := hcell w1 g1.1
    have hD := (hs.dues i hlt' hltD).grown g1
    rw [hdu] at hD
    have hnx : (Ds.take (i + 1)).all duesB = duesB Ds[i] := by rw [List.take_succ_eq_append_getElem hltD, List.all_append, hall]; simp
    simp -dsimp -implicitDefEqProofs (maxSteps := 2000000) (disch := first | assumption | omega | (simp only [AW.next_push, AW.next_put]; omega) | ((repeat refine Fresh.push ?_ _); assumption) | (simp only [same_int, same_bool, same_ptr, same_slice, same_sliceP, same_nil, same_agg2, same_string]; done) | (simp [oneCell, AW.next_push]; done) | fail) only [go_sem, Nat.reduceEqDiff, reduceIte, Nat.reduceAdd, Int.toNat_natCast, Nat.add_zero, Owes_true, Try.results21, e0, e1, e7, e10, hlt, indexV_eq, a2]
    apply callV_of (e := rfl)
    · exact dues_ok Ds[i] _ w1 g1.2 hD
    rintro _ _ ⟨rfl, rfl⟩
    cases hq : duesB Ds[i] with
    | true =>
      simp -dsimp -implicitDefEqProofs (maxSteps := 2000000) (disch := first | assumption | omega | (simp only [AW.next_push, AW.next_put]; omega) | ((repeat refine Fresh.push ?_ _); assumption) | (simp only [same_int, same_bool, same_ptr, same_slice, same_sliceP, same_nil, same_agg2, same_string]; done) | (simp [oneCell, AW.next_push]; done) | fail) only [go_sem, Nat.reduceEqDiff, reduceIte, Nat.reduceAdd, Int.toNat_natCast, Nat.add_zero, Owes_true, Try.results21, e0, e1, e7, e10]
      refine ⟨_, by omega, i + 1, by omega, rfl, rfl, by (simp -dsimp -implicitDefEqProofs (maxSteps := 2000000) (disch := first | assumption | omega | (simp only [AW.next_push, AW.next_put]; omega) | ((repeat refine Fresh.push ?_ _); assumption) | (simp only [same_int, same_bool, same_ptr, same_slice, same_sliceP, same_nil, same_agg2, same_string]; done) | (simp [oneCell, AW.next_push]; done) | fail) only [go_sem, Nat.reduceEqDiff, reduceIte, Nat.reduceAdd, Int.toNat_natCast, Nat.add_zero, Owes_true, e0]; try rfl), by (simp -dsimp -implicitDefEqProofs (maxSteps := 2000000) (disch := first | assumption | omega | (simp only [AW.next_push, AW.next_put]; omega) | ((repeat refine Fresh.push ?_ _); assumption) | (simp only [same_int, same_bool, same_ptr, same_slice, same_sliceP, same_nil, same_agg2, same_string]; done) | (simp [oneCell, AW.next_push]; done) | fail) only [go_sem, Nat.reduceEqDiff, reduceIte, Nat.reduceAdd, Int.toNat_natCast, Nat.add_zero, Owes_true, e1]; try rfl), by (simp -dsimp -implicitDefEqProofs (maxSteps := 2000000) (disch := first | assumption | omega | (simp only [AW.next_push, AW.next_put]; omega) | ((repeat refine Fresh.push ?_ _); assumption) | (simp only [same_int, same_bool, same_ptr, same_slice, same_sliceP, same_nil, same_agg2, same_string]; done) | (simp [oneCell, AW.next_push]; done) | fail) only [go_sem, Nat.reduceEqDiff, reduceIte, Nat.reduceAdd, Int.toNat_natCast, Nat.add_zero, Owes_true, e7]; try rfl), by (simp -dsimp -implicitDefEqProofs (maxSteps := 2000000) (disch := first | assumption | omega | (simp only [AW.next_push, AW.next_put]; omega) | ((repeat refine Fresh.push ?_ _); assumption) | (simp only [same_int, same_bool, same_ptr, same_slice, same_sliceP, same_nil, same_agg2, same_string]; done) | (simp [oneCell, AW.next_push]; done) | fail) only [go_sem, Nat.reduceEqDiff, reduceIte, Nat.reduceAdd, Int.toNat_natCast, Nat.add_zero, Owes_true, e10]; try rfl), rfl, by rw [hnx, hq]⟩
    | false =>
      have : Ds.all duesB = false := by rw [List.all_eq_false]; exact ⟨Ds[i], List.getElem_mem hltD, by rw [hq]; simp⟩
      simp -dsimp -implicitDefEqProofs (maxSteps := 2000000) (disch := first | assumption | omega | (simp only [AW.next_push, AW.next_put]; omega) | ((repeat refine Fresh.push ?_ _); assumption) | (simp only [same_int, same_bool, same_ptr, same_slice, same_sliceP, same_nil, same_agg2, same_string]; done) | (simp [oneCell, AW.next_push]; done) | fail) only [go_sem, Nat.reduceEqDiff, reduceIte, Nat.reduceAdd, Int.toNat_natCast, Nat.add_zero, Owes_true, Try.results21, e0, e1, e7, e10]
      exact ⟨_, [], by rw [hbadD this], PortRes.nil (by rw [hbadD this]; decide), g1⟩
  obtain rfl : i = xs.length := by omega
  rw [List.take_of_length_le (by omega)] at hall
  have hE : portE price xs Ds = 0 := by rw [portE, if_neg (by rw [h1]; simp), if_neg (by rw [hparts]; simp), if_neg (by rw [hall]; simp)]
  have hI := portE_in hE
  have hpr := hI.pr
  simp -dsimp -implicitDefEqProofs (maxSteps := 2000000) (disch := first | assumption | omega | (simp only [AW.next_push, AW.next_put]; omega) | ((repeat refine Fresh.push ?_ _); assumption) | (simp only [same_int, same_bool, same_ptr, same_slice, same_sliceP, same_nil, same_agg2, same_string]; done) | (simp [oneCell, AW.next_push]; done) | fail) only [go_sem, Nat.reduceEqDiff, reduceIte, Nat.reduceAdd, Int.toNat_natCast, Nat.add_zero, Owes_true, Try.results21, e0, e1, e7, e10, hlt]
  apply callV_of (e := rfl)
  · exact refshare_ok (xs.map PartV.v) _ price w1 g1.2 hVarr hI.wgt hpr.1 (by omega)
  rintro r4 w4 ⟨hQA, hQl, hg4⟩
  have g4 := g1.trans hg4
  obtain ⟨hsh, hsum⟩ := share_is hI.wgt.nn hI.wgt.sum.1 hpr.1
  have hle := fun i => W_le_sum hsh.nn i
  have hfin : ∀ (w' : AW) (u : Value) (zs : List PortV), ArrOf w' 3 pcells u zs → zs.length = xs.length → PortOk w' (shareL (xs.map PartV.v) price) Ds zs → PortRes w' price xs Ds u zs := fun w' u zs q1 q2 q3 => ⟨q1, fun _ => ⟨q2, q3⟩, fun z => absurd hE z⟩
  generalize shareL (xs.map PartV.v) price = Q at *
  rw [← hQl] at hQA
  rw [hvl] at hQl
  have hQarr := hQA.arr icells_len (by omega)
  obtain ⟨pQ, cQ, rfl, _, _, hatQ⟩ := id hQarr.open
  simp -dsimp -implicitDefEqProofs (maxSteps := 2000000) (disch := first | assumption | omega | (simp only [AW.next_push, AW.next_put]; omega) | ((repeat refine Fresh.push ?_ _); assumption) | (simp only [same_int, same_bool, same_ptr, same_slice, same_sliceP, same_nil, same_agg2, same_string]; done) | (simp [oneCell, AW.next_push]; done) | fail) only [go_sem, Nat.reduceEqDiff, reduceIte, Nat.reduceAdd, Int.toNat_natCast, Nat.add_zero, Owes_true, Try.results21, e0, e1, e7, e10]
  refine loopR (fun k t ds w5 => ∃ i : Nat, i ≤ xs.length ∧ k = xs.length - i ∧ ds = [] ∧ ev t (.tmp 1) = .slice p xs.length cc ∧ ev t (.tmp 11) = .slice pQ Q.length cQ ∧ ev t (.tmp 13) = .int .i64 (i : Int) ∧ (∃ (u : Value) (zs : List PortV), ev t (.tmp 12) = u ∧ AOwn w4.next w5 81 3 u zs.length (zs.flatMap pcells) ∧ zs.length = i ∧ PortOk w5 Q Ds zs) ∧ Grown w4 w5) (xs.length) ?_ ?_
  · refine ⟨0, by omega, by omega, rfl, ?_, ?_, ?_, ⟨_, [], (by simp -dsimp -implicitDefEqProofs (maxSteps := 2000000) (disch := first | assumption | omega | (simp only [AW.next_push, AW.next_put]; omega) | ((repeat refine Fresh.push ?_ _); assumption) | (simp only [same_int, same_bool, same_ptr, same_slice, same_sliceP, same_nil, same_agg2, same_string]; done) | (simp [oneCell, AW.next_push]; done) | fail) only [go_sem, Nat.reduceEqDiff, reduceIte, Nat.reduceAdd, Int.toNat_natCast, Nat.add_zero, Owes_true]; try rfl), .inl ⟨rfl, rfl, rfl⟩, rfl, fun k hk => by simp at hk⟩, Grown.refl g4.2⟩ <;> simp -dsimp -implicitDefEqProofs (maxSteps := 2000000) (disch := first | assumption | omega | (simp only [AW.next_push, AW.next_put]; omega) | ((repeat refine Fresh.push ?_ _); assumption) | (simp only [same_int, same_bool, same_ptr, same_slice, same_sliceP, same_nil, same_agg2, same_string]; done) | (simp [oneCell, AW.next_push]; done) | fail) only [go_sem, Nat.reduceEqDiff, reduceIte, Nat.reduceAdd, Int.toNat_natCast, Nat.add_zero, Owes_true, e1] <;> rfl
  rintro k t ds w5 ⟨i, hii, rfl, rfl, e1, e11, e13, hZ, hg⟩
  obtain ⟨u, zs, e12, hZ, hzl, hzok⟩ := hZ
  have gg := g4.trans hg
  by_cases hlt : (i : Int) < (xs.length : Int)
  case neg =>
    obtain rfl : i = xs.length := by omega
    have hA := hZ.arr pcells_len (by omega)
    simp -dsimp -implicitDefEqProofs (maxSteps := 2000000) (disch := first | assumption | omega | (simp only [AW.next_push, AW.next_put]; omega) | ((repeat refine Fresh.push ?_ _); assumption) | (simp only [same_int, same_bool, same_ptr, same_slice, same_sliceP, same_nil, same_agg2, same_string]; done) | (simp [oneCell, AW.next_push]; done) | fail) only [go_sem, Nat.reduceEqDiff, reduceIte, Nat.reduceAdd, Int.toNat_natCast, Nat.add_zero, Owes_true, Try.results21, e1, e11, e12, e13, hlt]
    exact ⟨_, zs, by rw [hE], hfin _ _ _ hA hzl hzok, gg⟩
  have hlt' : i < xs.length := by omega
  have hltD : i < Ds.length := by omega
  have hltQ : (i : Int) < (Q.length : Int) := by omega
  obtain ⟨b1, o1, q, m, c, rfl, hdu, hcell⟩ := hat i hlt'
  obtain ⟨_, _, a2⟩ := hcell w5 gg.1
  have hD := (hs.dues i hlt' hltD).grown gg
  rw [hdu] at hD
  have hDi := hI.dues _ (List.getElem_mem hltD)
  obtain ⟨bQ, oQ, rfl, hbQ, hcQ⟩ := hatQ i (by omega)
  have z0 := hcQ w5 hg.1 0 _ rfl
  rw [Nat.add_zero, ← W_at (show i < Q.length by omega)] at z0
  have hq0 := hsh.nn i
  have hq1 := hle i
  simp -dsimp -implicitDefEqProofs (maxSteps := 2000000) (disch := first | assumption | omega | (simp only [AW.next_push, AW.next_put]; omega) | ((repeat refine Fresh.push ?_ _); assumption) | (simp only [same_int, same_bool, same_ptr, same_slice, same_sliceP, same_nil, same_agg2, same_string]; done) | (simp [oneCell, AW.next_push]; done) | fail) only [go_sem, Nat.reduceEqDiff, reduceIte, Nat.reduceAdd, Int.toNat_natCast, Nat.add_zero, Owes_true, Try.results21, e1, e11, e12, e13, hlt, hltQ, indexV_eq, z0, a2]
  apply callV_of (e := rfl)
  · exact refspread_ok Ds[i] _ (W Q i) w5 gg.2 hD hDi.1 hDi.2 hq0 (by omega)
  rintro _ w6 ⟨u6, rfl, hP, hg6⟩
  obtain ⟨q', c', rfl, _⟩ := id hP.open
  have htp := same_tup2 q' (paidN Ds[i] (W Q i) 10).length c' (leftN Ds[i] (W Q i) 10)
  have hZ6 := hZ.keep hg6.1 (Nat.le_refl _)
  have hok6 := hzok.grown hg6
  have z1 := hcQ w6 (hg.trans hg6).1 0 _ rfl
  rw [Nat.add_zero, ← W_at (show i < Q.length by omega)] at z1
  have hn6 := hg.1.next
  have hn7 := hg6.1.next
  obtain ⟨u', w7, happ, hZ7, hk7, hf7, hn8, hap⟩ := append_one (e' := 81) Try.ty33 Try.ty81 rfl (by omega) (by omega) hZ6 (gg.trans hg6).2 (by omega) (pcells_len ⟨W Q i, .slice q' (paidN Ds[i] (W Q i) 10).length c', leftN Ds[i] (W Q i) 10⟩) (pcells_one rfl) (by omega)
  simp only [pcells] at happ
  have hgd : Ds.getD i [] = Ds[i] := getD_at hltD
  have hok7 := (hok6.snoc ⟨W Q i, .slice q' (paidN Ds[i] (W Q i) 10).length c', leftN Ds[i] (W Q i) 10⟩ (by rw [hzl]) (by rw [hzl, hgd]) (by rw [hzl, hgd]; exact hP)).app hap
  simp -dsimp -implicitDefEqProofs (maxSteps := 2000000) (disch := first | assumption | omega | (simp only [AW.next_push, AW.next_put]; omega) | ((repeat refine Fresh.push ?_ _); assumption) | (simp only [same_int, same_bool, same_ptr, same_slice, same_sliceP, same_nil, same_agg2, same_string]; done) | (simp [oneCell, AW.next_push]; done) | fail) only [go_sem, Nat.reduceEqDiff, reduceIte, Nat.reduceAdd, Int.toNat_natCast, Nat.add_zero, Owes_true, Try.results21, e1, e11, e12, e13, htp, hltQ, indexV_eq, z1, happ]
  refine ⟨_, by omega, i + 1, by omega, rfl, rfl, by (simp -dsimp -implicitDefEqProofs (maxSteps := 2000000) (disch := first | assumption | omega | (simp only [AW.next_push, AW.next_put]; omega) | ((repeat refine Fresh.push ?_ _); assumption) | (simp only [same_int, same_bool, same_ptr, same_slice, same_sliceP, same_nil, same_agg2, same_string]; done) | (simp [oneCell, AW.next_push]; done) | fail) only [go_sem, Nat.reduceEqDiff, reduceIte, Nat.reduceAdd, Int.toNat_natCast, Nat.add_zero, Owes_true, e1]; try rfl), by (simp -dsimp -implicitDefEqProofs (maxSteps := 2000000) (disch := first | assumption | omega | (simp only [AW.next_push, AW.next_put]; omega) | ((repeat refine Fresh.push ?_ _); assumption) | (simp only [same_int, same_bool, same_ptr, same_slice, same_sliceP, same_nil, same_agg2, same_string]; done) | (simp [oneCell, AW.next_push]; done) | fail) only [go_sem, Nat.reduceEqDiff, reduceIte, Nat.reduceAdd, Int.toNat_natCast, Nat.add_zero, Owes_true, e11]; try rfl), by (simp -dsimp -implicitDefEqProofs (maxSteps := 2000000) (disch := first | assumption | omega | (simp only [AW.next_push, AW.next_put]; omega) | ((repeat refine Fresh.push ?_ _); assumption) | (simp only [same_int, same_bool, same_ptr, same_slice, same_sliceP, same_nil, same_agg2, same_string]; done) | (simp [oneCell, AW.next_push]; done) | fail) only [go_sem, Nat.reduceEqDiff, reduceIte, Nat.reduceAdd, Int.toNat_natCast, Nat.add_zero, Owes_true, e13]; try rfl), ⟨u', zs ++ [⟨W Q i, .slice q' (paidN Ds[i] (W Q i) 10).length c', leftN Ds[i] (W Q i) 10⟩], (by simp -dsimp -implicitDefEqProofs (maxSteps := 2000000) (disch := first | assumption | omega | (simp only [AW.next_push, AW.next_put]; omega) | ((repeat refine Fresh.push ?_ _); assumption) | (simp only [same_int, same_bool, same_ptr, same_slice, same_sliceP, same_nil, same_agg2, same_string]; done) | (simp [oneCell, AW.next_push]; done) | fail) only [go_sem, Nat.reduceEqDiff, reduceIte, Nat.reduceAdd, Int.toNat_natCast, Nat.add_zero, Owes_true]), (by rw [List.length_append, List.flatMap_append]; exact hZ7), (by rw [List.length_append, hzl]; rfl), hok7⟩, ⟨(hg.trans hg6).1.trans (hk7.mono (by omega)), hf7⟩⟩
end Go.Proofs
