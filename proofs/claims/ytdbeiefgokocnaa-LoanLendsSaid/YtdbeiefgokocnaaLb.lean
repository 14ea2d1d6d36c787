/- Rules: contracts of For, of the program and of the papers. -/
import Derived.Test.YtdbeiefgokocnaaLa
import Derived.Test.YtdbeiefgokocnaaTa
set_option linter.unusedVariables false
set_option linter.unusedSimpArgs false
/- Rules: For of the program. -/
namespace Go.Proofs
open Go Go.RowKit Go.Sim
set_option maxRecDepth 100000
structure RuleN where
  s : ByteArray
  (F L C : Int)
def rcells (r : RuleN) : List Value := [.string r.s, .int .i64 r.F, .int .i64 r.L, .int .i64 r.C]
def rAt (rs : List RuleN) (k : Nat) : RuleN := rs.getD k ⟨ByteArray.empty, 0, 0, 0⟩
theorem rAt_eq {rs : List RuleN} {k : Nat} (h : k < rs.length) : rAt rs k = rs[k] := getD_at h
def okRule (rs : List RuleN) (k : Nat) : Bool := !hasB ((rs.take k).map (·.s)) (rAt rs k).s && wordB (rAt rs k).s && termsB (rAt rs k).F (rAt rs k).L (rAt rs k).C
def rulesTo (rs : List RuleN) (n : Nat) : Bool := (List.range n).all (okRule rs)
def rulesB (rs : List RuleN) : Bool := decide (rs.length ≤ 16) && rulesTo rs rs.length
theorem rulesTo_succ (rs : List RuleN) (n : Nat) : rulesTo rs (n + 1) = (rulesTo rs n && okRule rs n) := by simp [rulesTo, List.range_succ]
theorem rulesTo_bad {rs : List RuleN} {n m : Nat} (hn : n < m) (hb : okRule rs n = false) : rulesTo rs m = false := by
  rw [rulesTo, List.all_eq_false]; exact ⟨n, List.mem_range.mpr hn, by rw [hb]; simp⟩
set_option maxHeartbeats 1000000 in
theorem areRules_ok (rs : List RuleN) (v : Value) (w : AW) (f : Fresh w) (hs : ArrOf w 4 rcells v rs) : CallT Try.prog Try.T1 (.fn (.func 56) #[]) #[v] w (Ret (.bool (rulesB rs)) (Grown w)) := by
  obtain ⟨p, cap, rfl, hcap, hmax, hat⟩ := id hs.open
  have g := (Grown.refl f).push (.map #[] 0)
  have hM0 := MapS.new w
  refine callT_code rfl Try.func56 rfl Try.s56_eq rfl ?_
  unfold Try.s56
  by_cases h16 : 16 < (rs.length : Int)
  · simp -dsimp -implicitDefEqProofs (maxSteps := 2000000) (disch := first | assumption | omega | (simp only [AW.next_push, AW.next_put]; omega) | ((repeat refine Fresh.push ?_ _); assumption) | (simp only [same_int, same_bool, same_ptr, same_slice, same_sliceP, same_nil, same_agg2, same_string]; done) | (simp [oneCell, AW.next_push]; done) | fail) only [go_sem, Nat.reduceEqDiff, reduceIte, Nat.reduceAdd, Int.toNat_natCast, Nat.add_zero, Owes_true, Try.results56, h16]
    exact ⟨by rw [rulesB, decide_eq_false (by omega)]; rfl, .refl f⟩
  simp -dsimp -implicitDefEqProofs (maxSteps := 2000000) (disch := first | assumption | omega | (simp only [AW.next_push, AW.next_put]; omega) | ((repeat refine Fresh.push ?_ _); assumption) | (simp only [same_int, same_bool, same_ptr, same_slice, same_sliceP, same_nil, same_agg2, same_string]; done) | (simp [oneCell, AW.next_push]; done) | fail) only [go_sem, Nat.reduceEqDiff, reduceIte, Nat.reduceAdd, Int.toNat_natCast, Nat.add_zero, Owes_true, Try.results56, h16]
  refine loopR (fun k t ds w1 => ∃ i : Nat, i ≤ rs.length ∧ k = rs.length - i ∧ ds = [] ∧ ev t (.tmp 3) = .map (some w.next) ∧ ev t (.tmp 10) = .slice p rs.length cap ∧ ev t (.tmp 11) = .int .i64 (rs.length : Int) ∧ ev t (.tmp 12) = .int .i64 (i : Int) ∧ MapS w1 w.next ((rs.take i).map (·.s)) ∧ Grown w w1 ∧ rulesTo rs i = true) (rs.length) ?_ ?_
  · refine ⟨0, by omega, by omega, rfl, ?_, ?_, ?_, ?_, hM0, g, rfl⟩ <;> simp -dsimp -implicitDefEqProofs (maxSteps := 2000000) (disch := first | assumption | omega | (simp only [AW.next_push, AW.next_put]; omega) | ((repeat refine Fresh.push ?_ _); assumption) | (simp only [same_int, same_bool, same_ptr, same_slice, same_sliceP, same_nil, same_agg2, same_string]; done) | (simp [oneCell, AW.next_push]; done) | fail) only [go_sem, Nat.reduceEqDiff, reduceIte, Nat.reduceAdd, Int.toNat_natCast, Nat.add_zero, Owes_true] <;> rfl
  rintro k t ds w1 ⟨i, hii, rfl, rfl, e3, e10, e11, e12, hM, g1, hall⟩
  by_cases hlt : (i : Int) < (rs.length : Int)
  case neg =>
    obtain rfl : i = rs.length := by omega
    simp -dsimp -implicitDefEqProofs (maxSteps := 2000000) (disch := first | assumption | omega | (simp only [AW.next_push, AW.next_put]; omega) | ((repeat refine Fresh.push ?_ _); assumption) | (simp only [same_int, same_bool, same_ptr, same_slice, same_sliceP, same_nil, same_agg2, same_string]; done) | (simp [oneCell, AW.next_push]; done) | fail) only [go_sem, Nat.reduceEqDiff, reduceIte, Nat.reduceAdd, Int.toNat_natCast, Nat.add_zero, Owes_true, Try.results56, e3, e10, e11, e12, hlt]
    exact ⟨by rw [rulesB, hall, decide_eq_true (by omega)]; rfl, g1⟩
  have hlt' : i < rs.length := by omega
  obtain ⟨b1, o1, rfl, hb1, hcell⟩ := hat i hlt'
  have f1 := g1.2
  have a0 := hcell w1 g1.1 0 _ rfl
  have a1 := hcell w1 g1.1 1 _ rfl
  have a2 := hcell w1 g1.1 2 _ rfl
  have a3 := hcell w1 g1.1 3 _ rfl
  rw [Nat.add_zero] at a0
  have hri : rAt rs i = rs[i] := rAt_eq hlt'
  have htake : (rs.take (i + 1)).map (·.s) = (rs.take i).map (·.s) ++ [rs[i].s] := by rw [List.take_succ_eq_append_getElem hlt', List.map_append]; rfl
  have hbad : okRule rs i = false → rulesB rs = false := fun q => by rw [rulesB, rulesTo_bad hlt' q, Bool.and_false]
  have hnext := rulesTo_succ rs i
  rw [okRule, hri] at hbad hnext
  rw [hall, Bool.true_and] at hnext
  have gp := g1.push (.cells [.string rs[i].s, .int .i64 rs[i].F, .int .i64 rs[i].L, .int .i64 rs[i].C] 94 w1.next 0 0)
  have hMp := hM.push (.cells [.string rs[i].s, .int .i64 rs[i].F, .int .i64 rs[i].L, .int .i64 rs[i].C] 94 w1.next 0 0)
  have hT := Own.new g1.2 94 [.string rs[i].s, .int .i64 rs[i].F, .int .i64 rs[i].L, .int .i64 rs[i].C]
  have hlk := hMp.lookup rs[i].s
  generalize hR : rs[i] = R at *
  cases hdup : hasB ((rs.take i).map (·.s)) R.s with
  | true =>
    rw [hdup] at hlk
    simp -dsimp -implicitDefEqProofs (maxSteps := 2000000) (disch := first | assumption | omega | (simp only [AW.next_push, AW.next_put]; omega) | ((repeat refine Fresh.push ?_ _); assumption) | (simp only [same_int, same_bool, same_ptr, same_slice, same_sliceP, same_nil, same_agg2, same_string]; done) | (simp [oneCell, AW.next_push]; done) | fail) only [go_sem, Nat.reduceEqDiff, reduceIte, Nat.reduceAdd, Int.toNat_natCast, Nat.add_zero, Owes_true, Try.results56, e3, e10, e11, e12, hlt, indexV_eq, a0, a1, a2, a3, Nat.zero_add, hlk]
    exact ⟨by rw [hbad (by rw [hdup]; rfl)], gp⟩
  | false =>
  rw [hdup] at hlk
  simp -dsimp -implicitDefEqProofs (maxSteps := 2000000) (disch := first | assumption | omega | (simp only [AW.next_push, AW.next_put]; omega) | ((repeat refine Fresh.push ?_ _); assumption) | (simp only [same_int, same_bool, same_ptr, same_slice, same_sliceP, same_nil, same_agg2, same_string]; done) | (simp [oneCell, AW.next_push]; done) | fail) only [go_sem, Nat.reduceEqDiff, reduceIte, Nat.reduceAdd, Int.toNat_natCast, Nat.add_zero, Owes_true, Try.results56, e3, e10, e11, e12, hlt, indexV_eq, a0, a1, a2, a3, Nat.zero_add, hlk]
  apply callV_of (e := rfl)
  · exact isWord_ok R.s _
  rintro _ _ ⟨rfl, rfl⟩
  cases hw : wordB R.s with
  | false =>
    simp -dsimp -implicitDefEqProofs (maxSteps := 2000000) (disch := first | assumption | omega | (simp only [AW.next_push, AW.next_put]; omega) | ((repeat refine Fresh.push ?_ _); assumption) | (simp only [same_int, same_bool, same_ptr, same_slice, same_sliceP, same_nil, same_agg2, same_string]; done) | (simp [oneCell, AW.next_push]; done) | fail) only [go_sem, Nat.reduceEqDiff, reduceIte, Nat.reduceAdd, Int.toNat_natCast, Nat.add_zero, Owes_true, Try.results56]
    exact ⟨by rw [hbad (by rw [hw, Bool.and_false]; rfl)], gp⟩
  | true =>
  simp -dsimp -implicitDefEqProofs (maxSteps := 2000000) (disch := first | assumption | omega | (simp only [AW.next_push, AW.next_put]; omega) | ((repeat refine Fresh.push ?_ _); assumption) | (simp only [same_int, same_bool, same_ptr, same_slice, same_sliceP, same_nil, same_agg2, same_string]; done) | (simp [oneCell, AW.next_push]; done) | fail) only [go_sem, Nat.reduceEqDiff, reduceIte, Nat.reduceAdd, Int.toNat_natCast, Nat.add_zero, Owes_true, Try.results56, Nat.zero_add]
  apply callV_of (e := rfl)
  · exact CheckTerms_ok R.F R.L R.C _ gp.2
  rintro _ w2 ⟨rfl, hg2⟩
  have g2 := gp.trans hg2
  cases ht : termsB R.F R.L R.C with
  | false =>
    have hE : termsE R.F R.L R.C = 22 := termsE_bad ht
    have h220 : ¬ (22 : Int) = 0 := by decide
    simp -dsimp -implicitDefEqProofs (maxSteps := 2000000) (disch := first | assumption | omega | (simp only [AW.next_push, AW.next_put]; omega) | ((repeat refine Fresh.push ?_ _); assumption) | (simp only [same_int, same_bool, same_ptr, same_slice, same_sliceP, same_nil, same_agg2, same_string]; done) | (simp [oneCell, AW.next_push]; done) | fail) only [go_sem, Nat.reduceEqDiff, reduceIte, Nat.reduceAdd, Int.toNat_natCast, Nat.add_zero, Owes_true, Try.results56, hE, h220]
    exact ⟨by rw [hbad (by rw [ht, Bool.and_false])], g2⟩
  | true =>
  have hE : termsE R.F R.L R.C = 0 := by rw [termsE, ht]; rfl
  have hM2 := hMp.keep hg2.1
  have hT2 := hT.keep hg2.1
  have c0 := hT2.cell (o := 0) rfl rfl
  obtain ⟨B, hup, hM3⟩ := hM2.add Try.ty130 Try.ty9 R.s (fun q => by have := (hasB_iff _ _).2 q; rw [hdup] at this; cases this)
  have hn2 := g2.1.next
  have g3 : Grown w (w2.put w.next B) := ⟨g2.1.put (Nat.le_refl _) _, g2.2.put hM2.lt _⟩
  simp -dsimp -implicitDefEqProofs (maxSteps := 2000000) (disch := first | assumption | omega | (simp only [AW.next_push, AW.next_put]; omega) | ((repeat refine Fresh.push ?_ _); assumption) | (simp only [same_int, same_bool, same_ptr, same_slice, same_sliceP, same_nil, same_agg2, same_string]; done) | (simp [oneCell, AW.next_push]; done) | fail) only [go_sem, Nat.reduceEqDiff, reduceIte, Nat.reduceAdd, Int.toNat_natCast, Nat.add_zero, Owes_true, Try.results56, e3, e10, e11, e12, hE, Nat.zero_add, c0, hup, ne_eq, not_true]
  refine ⟨_, by omega, i + 1, by omega, rfl, rfl, by (simp -dsimp -implicitDefEqProofs (maxSteps := 2000000) (disch := first | assumption | omega | (simp only [AW.next_push, AW.next_put]; omega) | ((repeat refine Fresh.push ?_ _); assumption) | (simp only [same_int, same_bool, same_ptr, same_slice, same_sliceP, same_nil, same_agg2, same_string]; done) | (simp [oneCell, AW.next_push]; done) | fail) only [go_sem, Nat.reduceEqDiff, reduceIte, Nat.reduceAdd, Int.toNat_natCast, Nat.add_zero, Owes_true, e3]; try rfl), by (simp -dsimp -implicitDefEqProofs (maxSteps := 2000000) (disch := first | assumption | omega | (simp only [AW.next_push, AW.next_put]; omega) | ((repeat refine Fresh.push ?_ _); assumption) | (simp only [same_int, same_bool, same_ptr, same_slice, same_sliceP, same_nil, same_agg2, same_string]; done) | (simp [oneCell, AW.next_push]; done) | fail) only [go_sem, Nat.reduceEqDiff, reduceIte, Nat.reduceAdd, Int.toNat_natCast, Nat.add_zero, Owes_true, e10]; try rfl), by (simp -dsimp -implicitDefEqProofs (maxSteps := 2000000) (disch := first | assumption | omega | (simp only [AW.next_push, AW.next_put]; omega) | ((repeat refine Fresh.push ?_ _); assumption) | (simp only [same_int, same_bool, same_ptr, same_slice, same_sliceP, same_nil, same_agg2, same_string]; done) | (simp [oneCell, AW.next_push]; done) | fail) only [go_sem, Nat.reduceEqDiff, reduceIte, Nat.reduceAdd, Int.toNat_natCast, Nat.add_zero, Owes_true, e11]; try rfl), by (simp -dsimp -implicitDefEqProofs (maxSteps := 2000000) (disch := first | assumption | omega | (simp only [AW.next_push, AW.next_put]; omega) | ((repeat refine Fresh.push ?_ _); assumption) | (simp only [same_int, same_bool, same_ptr, same_slice, same_sliceP, same_nil, same_agg2, same_string]; done) | (simp [oneCell, AW.next_push]; done) | fail) only [go_sem, Nat.reduceEqDiff, reduceIte, Nat.reduceAdd, Int.toNat_natCast, Nat.add_zero, Owes_true, e12]; try rfl), by rw [htake]; exact hM3, g3, by rw [hnext, hdup, hw, ht]; rfl⟩
def ForCase (rs : List RuleN) (q : ByteArray) (F L C E : Int) : Prop :=
  (rulesB rs = false ∧ F = 0 ∧ L = 0 ∧ C = 0 ∧ E = 22) ∨ (rulesB rs = true ∧ (∀ k, k < rs.length → sEq (rAt rs k).s q = false) ∧ F = 0 ∧ L = 0 ∧ C = 0 ∧ E = 4) ∨
  (rulesB rs = true ∧ ∃ i, i < rs.length ∧ sEq (rAt rs i).s q = true ∧ (∀ k, k < i → sEq (rAt rs k).s q = false) ∧ F = (rAt rs i).F ∧ L = (rAt rs i).L ∧ C = (rAt rs i).C ∧ E = 0)
theorem ForCase.one {rs : List RuleN} {q : ByteArray} {F L C E F' L' C' E' : Int} (h : ForCase rs q F L C E) (k : ForCase rs q F' L' C' E') : F = F' ∧ L = L' ∧ C = C' ∧ E = E' := by
  rcases h with ⟨a1, a2, a3, a4, a5⟩ | ⟨a1, a0, a2, a3, a4, a5⟩ | ⟨a1, i, ai, ah, an, a2, a3, a4, a5⟩ <;>
    rcases k with ⟨b1, b2, b3, b4, b5⟩ | ⟨b1, b0, b2, b3, b4, b5⟩ | ⟨b1, j, bj, bh, bn, b2, b3, b4, b5⟩ <;> try (rw [a1] at b1; cases b1; done)
  · exact ⟨by omega, by omega, by omega, by omega⟩
  · exact ⟨by omega, by omega, by omega, by omega⟩
  · rw [a0 j bj] at bh; cases bh
  · rw [b0 i ai] at ah; cases ah
  · have : i = j := by
      rcases Nat.lt_trichotomy i j with x | x | x
      · rw [bn i x] at ah; cases ah
      · exact x
      · rw [an j x] at bh; cases bh
    subst this
    exact ⟨by omega, by omega, by omega, by omega⟩
def ForPost (rs : List RuleN) (q : ByteArray) (w : AW) : Value → AW → Prop := fun r w' => ∃ F L C E, r = .tuple #[.agg #[.int .i64 F, .int .i64 L, .int .i64 C], .int .i64 E] ∧ Grown w w' ∧ ForCase rs q F L C E
end Go.Proofs

/- Rules: For, of the program and of the chapter. -/
namespace Go.Proofs
open Go Go.RowKit Go.Sim
set_option maxRecDepth 100000
def zed : List Value := [.int .i64 0, .int .i64 0, .int .i64 0]
theorem put_terms {w u : AW} {b : Nat} {x y z : Value} (hg : Grown w u) (hb : w.next ≤ b) (hO : Own u b 40 [x, y, z]) (F L C : Int) :
    storeV u true 3 (.pointer (some ⟨b, 0, none⟩)) (.agg #[.int .i64 F, .int .i64 L, .int .i64 C]) = some (u.put b (.cells [.int .i64 F, .int .i64 L, .int .i64 C] 40 b 0 0)) ∧
    Grown w (u.put b (.cells [.int .i64 F, .int .i64 L, .int .i64 C] 40 b 0 0)) ∧ (u.put b (.cells [.int .i64 F, .int .i64 L, .int .i64 C] 40 b 0 0)).cell? ⟨b, 0, none⟩ = some (.int .i64 F) ∧
    (u.put b (.cells [.int .i64 F, .int .i64 L, .int .i64 C] 40 b 0 0)).cell? ⟨b, 1, none⟩ = some (.int .i64 L) ∧ (u.put b (.cells [.int .i64 F, .int .i64 L, .int .i64 C] 40 b 0 0)).cell? ⟨b, 2, none⟩ = some (.int .i64 C) := by
  have h1 := storeV_own (o := 0) (l := [Value.int .i64 F, .int .i64 L, .int .i64 C]) (size := 3) hO rfl (by omega) (by simp) rfl
  have h2 : setsL [x, y, z] 0 [Value.int .i64 F, .int .i64 L, .int .i64 C] = [.int .i64 F, .int .i64 L, .int .i64 C] := rfl
  rw [h2] at h1
  have hP := hO.put [Value.int .i64 F, .int .i64 L, .int .i64 C]
  exact ⟨h1, ⟨hg.1.put hb _, hg.2.put hO.lt _⟩, hP.cell (o := 0) rfl rfl, hP.cell (o := 1) rfl rfl, hP.cell (o := 2) rfl rfl⟩
set_option maxHeartbeats 1000000 in
theorem For_ok (rs : List RuleN) (q : ByteArray) (v : Value) (w : AW) (f : Fresh w) (hs : ArrOf w 4 rcells v rs) : CallT Try.prog Try.T1 (.fn (.func 28) #[]) #[v, .string q] w (ForPost rs q w) := by
  obtain ⟨p, cap, rfl, hcap, hmax, hat⟩ := id hs.open
  have g := (Grown.refl f).push (.cells zed 40 w.next 0 0)
  have hO := Own.new f 40 zed
  unfold zed at g hO
  refine callT_code rfl Try.func28 rfl Try.s28_eq rfl ?_
  unfold Try.s28
  simp -dsimp -implicitDefEqProofs (maxSteps := 2000000) (disch := first | assumption | omega | (simp only [AW.next_push, AW.next_put]; omega) | ((repeat refine Fresh.push ?_ _); assumption) | (simp only [same_int, same_bool, same_ptr, same_slice, same_sliceP, same_nil, same_agg2, same_string]; done) | (simp [oneCell, AW.next_push]; done) | fail) only [go_sem, Nat.reduceEqDiff, reduceIte, Nat.reduceAdd, Int.toNat_natCast, Nat.add_zero, Owes_true, Try.results28]
  apply callV_of (e := rfl)
  · exact areRules_ok rs _ _ g.2 (hs.grown g)
  rintro _ w1 ⟨rfl, hg1⟩
  have g1 := g.trans hg1
  have hO1 := hO.keep hg1.1
  cases hB : rulesB rs with
  | false =>
    obtain ⟨p1, p2, p3, p4, p5⟩ := put_terms g1 (Nat.le_refl _) hO1 0 0 0
    simp -dsimp -implicitDefEqProofs (maxSteps := 2000000) (disch := first | assumption | omega | (simp only [AW.next_push, AW.next_put]; omega) | ((repeat refine Fresh.push ?_ _); assumption) | (simp only [same_int, same_bool, same_ptr, same_slice, same_sliceP, same_nil, same_agg2, same_string]; done) | (simp [oneCell, AW.next_push]; done) | fail) only [go_sem, Nat.reduceEqDiff, reduceIte, Nat.reduceAdd, Int.toNat_natCast, Nat.add_zero, Owes_true, Try.results28, p1, p3, p4, p5]
    exact ⟨_, _, _, _, rfl, p2, .inl ⟨hB, rfl, rfl, rfl, rfl⟩⟩
  | true =>
  simp -dsimp -implicitDefEqProofs (maxSteps := 2000000) (disch := first | assumption | omega | (simp only [AW.next_push, AW.next_put]; omega) | ((repeat refine Fresh.push ?_ _); assumption) | (simp only [same_int, same_bool, same_ptr, same_slice, same_sliceP, same_nil, same_agg2, same_string]; done) | (simp [oneCell, AW.next_push]; done) | fail) only [go_sem, Nat.reduceEqDiff, reduceIte, Nat.reduceAdd, Int.toNat_natCast, Nat.add_zero, Owes_true, Try.results28]
  refine loopR (fun k t ds w2 => ∃ i : Nat, i ≤ rs.length ∧ k = rs.length - i ∧ ds = [] ∧ ev t (.tmp 1) = .string q ∧ ev t (.tmp 4) = .pointer (some ⟨w.next, 0, none⟩) ∧ ev t (.tmp 12) = .slice p rs.length cap ∧ ev t (.tmp 13) = .int .i64 (rs.length : Int) ∧ ev t (.tmp 14) = .int .i64 (i : Int) ∧ Own w2 w.next 40 [.int .i64 0, .int .i64 0, .int .i64 0] ∧ Grown w w2 ∧ (∀ k, k < i → sEq (rAt rs k).s q = false)) (rs.length) ?_ ?_
  · refine ⟨0, by omega, by omega, rfl, ?_, ?_, ?_, ?_, ?_, hO1, g1, fun k hk => by omega⟩ <;> simp -dsimp -implicitDefEqProofs (maxSteps := 2000000) (disch := first | assumption | omega | (simp only [AW.next_push, AW.next_put]; omega) | ((repeat refine Fresh.push ?_ _); assumption) | (simp only [same_int, same_bool, same_ptr, same_slice, same_sliceP, same_nil, same_agg2, same_string]; done) | (simp [oneCell, AW.next_push]; done) | fail) only [go_sem, Nat.reduceEqDiff, reduceIte, Nat.reduceAdd, Int.toNat_natCast, Nat.add_zero, Owes_true] <;> rfl
  rintro k t ds w2 ⟨i, hii, rfl, rfl, e1, e4, e12, e13, e14, hO2, g2, hno⟩
  by_cases hlt : (i : Int) < (rs.length : Int)
  case neg =>
    obtain ⟨p1, p2, p3, p4, p5⟩ := put_terms g2 (Nat.le_refl _) hO2 0 0 0
    simp -dsimp -implicitDefEqProofs (maxSteps := 2000000) (disch := first | assumption | omega | (simp only [AW.next_push, AW.next_put]; omega) | ((repeat refine Fresh.push ?_ _); assumption) | (simp only [same_int, same_bool, same_ptr, same_slice, same_sliceP, same_nil, same_agg2, same_string]; done) | (simp [oneCell, AW.next_push]; done) | fail) only [go_sem, Nat.reduceEqDiff, reduceIte, Nat.reduceAdd, Int.toNat_natCast, Nat.add_zero, Owes_true, Try.results28, e1, e4, e12, e13, e14, hlt, p1, p3, p4, p5]
    exact ⟨_, _, _, _, rfl, p2, .inr (.inl ⟨hB, fun k hk => hno k (by omega), rfl, rfl, rfl, rfl⟩)⟩
  have hlt' : i < rs.length := by omega
  obtain ⟨b1, o1, rfl, hb1, hcell⟩ := hat i hlt'
  have f2 := g2.2
  have a0 := hcell w2 g2.1 0 _ rfl
  have a1 := hcell w2 g2.1 1 _ rfl
  have a2 := hcell w2 g2.1 2 _ rfl
  have a3 := hcell w2 g2.1 3 _ rfl
  rw [Nat.add_zero] at a0
  have hri : rAt rs i = rs[i] := rAt_eq hlt'
  generalize hR : rs[i] = R at *
  have g3 := g2.push (.cells [.string R.s, .int .i64 R.F, .int .i64 R.L, .int .i64 R.C] 94 w2.next 0 0)
  have hO3 := hO2.push (.cells [.string R.s, .int .i64 R.F, .int .i64 R.L, .int .i64 R.C] 94 w2.next 0 0)
  cases hq : sEq R.s q with
  | true =>
    obtain ⟨p1, p2, p3, p4, p5⟩ := put_terms g3 (Nat.le_refl _) hO3 R.F R.L R.C
    simp -dsimp -implicitDefEqProofs (maxSteps := 2000000) (disch := first | assumption | omega | (simp only [AW.next_push, AW.next_put]; omega) | ((repeat refine Fresh.push ?_ _); assumption) | (simp only [same_int, same_bool, same_ptr, same_slice, same_sliceP, same_nil, same_agg2, same_string]; done) | (simp [oneCell, AW.next_push]; done) | fail) only [go_sem, Nat.reduceEqDiff, reduceIte, Nat.reduceAdd, Int.toNat_natCast, Nat.add_zero, Owes_true, Try.results28, e1, e4, e12, e13, e14, hlt, indexV_eq, a0, a1, a2, a3, Nat.zero_add, hq, p1, p3, p4, p5]
    exact ⟨_, _, _, _, rfl, p2, .inr (.inr ⟨hB, i, hlt', by rw [hri]; exact hq, hno, by rw [hri], by rw [hri], by rw [hri], rfl⟩)⟩
  | false =>
    have hno2 : ∀ k, k < i + 1 → sEq (rAt rs k).s q = false := fun k hk => by
      by_cases x : k = i
      · rw [x, hri]; exact hq
      · exact hno k (by omega)
    simp -dsimp -implicitDefEqProofs (maxSteps := 2000000) (disch := first | assumption | omega | (simp only [AW.next_push, AW.next_put]; omega) | ((repeat refine Fresh.push ?_ _); assumption) | (simp only [same_int, same_bool, same_ptr, same_slice, same_sliceP, same_nil, same_agg2, same_string]; done) | (simp [oneCell, AW.next_push]; done) | fail) only [go_sem, Nat.reduceEqDiff, reduceIte, Nat.reduceAdd, Int.toNat_natCast, Nat.add_zero, Owes_true, Try.results28, e1, e4, e12, e13, e14, hlt, indexV_eq, a0, a1, a2, a3, Nat.zero_add, hq]
    refine ⟨_, by omega, i + 1, by omega, rfl, rfl, by (simp -dsimp -implicitDefEqProofs (maxSteps := 2000000) (disch := first | assumption | omega | (simp only [AW.next_push, AW.next_put]; omega) | ((repeat refine Fresh.push ?_ _); assumption) | (simp only [same_int, same_bool, same_ptr, same_slice, same_sliceP, same_nil, same_agg2, same_string]; done) | (simp [oneCell, AW.next_push]; done) | fail) only [go_sem, Nat.reduceEqDiff, reduceIte, Nat.reduceAdd, Int.toNat_natCast, Nat.add_zero, Owes_true, e1]; try rfl), by (simp -dsimp -implicitDefEqProofs (maxSteps := 2000000) (disch := first | assumption | omega | (simp only [AW.next_push, AW.next_put]; omega) | ((repeat refine Fresh.push ?_ _); assumption) | (simp only [same_int, same_bool, same_ptr, same_slice, same_sliceP, same_nil, same_agg2, same_string]; done) | (simp [oneCell, AW.next_push]; done) | fail) only [go_sem, Nat.reduceEqDiff, reduceIte, Nat.reduceAdd, Int.toNat_natCast, Nat.add_zero, Owes_true, e4]; try rfl), by (simp -dsimp -implicitDefEqProofs (maxSteps := 2000000) (disch := first | assumption | omega | (simp only [AW.next_push, AW.next_put]; omega) | ((repeat refine Fresh.push ?_ _); assumption) | (simp only [same_int, same_bool, same_ptr, same_slice, same_sliceP, same_nil, same_agg2, same_string]; done) | (simp [oneCell, AW.next_push]; done) | fail) only [go_sem, Nat.reduceEqDiff, reduceIte, Nat.reduceAdd, Int.toNat_natCast, Nat.add_zero, Owes_true, e12]; try rfl), by (simp -dsimp -implicitDefEqProofs (maxSteps := 2000000) (disch := first | assumption | omega | (simp only [AW.next_push, AW.next_put]; omega) | ((repeat refine Fresh.push ?_ _); assumption) | (simp only [same_int, same_bool, same_ptr, same_slice, same_sliceP, same_nil, same_agg2, same_string]; done) | (simp [oneCell, AW.next_push]; done) | fail) only [go_sem, Nat.reduceEqDiff, reduceIte, Nat.reduceAdd, Int.toNat_natCast, Nat.add_zero, Owes_true, e13]; try rfl), by (simp -dsimp -implicitDefEqProofs (maxSteps := 2000000) (disch := first | assumption | omega | (simp only [AW.next_push, AW.next_put]; omega) | ((repeat refine Fresh.push ?_ _); assumption) | (simp only [same_int, same_bool, same_ptr, same_slice, same_sliceP, same_nil, same_agg2, same_string]; done) | (simp [oneCell, AW.next_push]; done) | fail) only [go_sem, Nat.reduceEqDiff, reduceIte, Nat.reduceAdd, Int.toNat_natCast, Nat.add_zero, Owes_true, e14]; try rfl), hO3, g3, hno2⟩
end Go.Proofs

/- Rules: For as the chapter has it. -/
namespace Go.Proofs
open Go Go.RowKit Go.Sim
set_option maxRecDepth 100000
def refTo (rs : List RuleN) (n : Nat) : Bool := decide ((rs.length : Int) ≤ 16) && rulesTo rs n
def noTo (rs : List RuleN) (i n : Nat) : Bool := (List.range n).all fun k => !sEq (rAt rs k).s (rAt rs i).s
theorem noTo_succ (rs : List RuleN) (i n : Nat) : noTo rs i (n + 1) = (noTo rs i n && !sEq (rAt rs n).s (rAt rs i).s) := by simp [noTo, List.range_succ]
theorem sEq_comm (a b : ByteArray) : sEq a b = sEq b a := by rw [Bool.eq_iff_iff, sEq_iff, sEq_iff]; exact eq_comm
theorem noTo_eq (rs : List RuleN) (i : Nat) : ∀ n, n ≤ rs.length → noTo rs i n = !hasB ((rs.take n).map (·.s)) (rAt rs i).s
  | 0, _ => rfl
  | n + 1, h => by
    have hn : n < rs.length := by omega
    rw [noTo_succ, noTo_eq rs i n (by omega), List.take_succ_eq_append_getElem hn, List.map_append, hasB, hasB, List.any_append, Bool.not_or, rAt_eq hn]
    simp [sEq_comm]
theorem refTo_succ (rs : List RuleN) (n : Nat) : refTo rs (n + 1) = (refTo rs n && okRule rs n) := by rw [refTo, refTo, rulesTo_succ, Bool.and_assoc]
set_option maxHeartbeats 2000000 in
theorem refFor_ok (rs : List RuleN) (q : ByteArray) (v : Value) (w : AW) (f : Fresh w) (hs : ArrOf w 4 rcells v rs) (hsz : ∀ r ∈ rs, r.s.size ≤ 140737488355328) : CallT Try.prog Try.T1 (.fn (.func 29) #[]) #[v, .string q] w (ForPost rs q w) := by
  obtain ⟨p, cap, rfl, hcap, hmax, hat⟩ := id hs.open
  have g := (Grown.refl f).push (.cells zed 40 w.next 0 0)
  have hO := Own.new f 40 zed
  unfold zed at g hO
  refine callT_code rfl Try.func29 rfl Try.s29_eq rfl ?_
  unfold Try.s29
  simp -dsimp -implicitDefEqProofs (maxSteps := 2000000) (disch := first | assumption | omega | (simp only [AW.next_push, AW.next_put]; omega) | ((repeat refine Fresh.push ?_ _); assumption) | (simp only [same_int, same_bool, same_ptr, same_slice, same_sliceP, same_nil, same_agg2, same_string]; done) | (simp [oneCell, AW.next_push]; done) | fail) only [go_sem, Nat.reduceEqDiff, reduceIte, Nat.reduceAdd, Int.toNat_natCast, Nat.add_zero, Owes_true, Try.results29]
  refine loopR (fun k t ds w2 => ∃ i : Nat, i ≤ rs.length ∧ k = rs.length - i ∧ ds = [] ∧ ev t (.tmp 0) = .slice p rs.length cap ∧ ev t (.tmp 1) = .string q ∧ ev t (.tmp 4) = .pointer (some ⟨w.next, 0, none⟩) ∧ ev t (.tmp 6) = .bool (refTo rs i) ∧ ev t (.tmp 7) = .int .i64 (i : Int) ∧ Own w2 w.next 40 [.int .i64 0, .int .i64 0, .int .i64 0] ∧ Grown w w2) (rs.length) ?_ ?_
  · refine ⟨0, by omega, by omega, rfl, ?_, ?_, ?_, ?_, ?_, hO, g⟩ <;> simp -dsimp -implicitDefEqProofs (maxSteps := 2000000) (disch := first | assumption | omega | (simp only [AW.next_push, AW.next_put]; omega) | ((repeat refine Fresh.push ?_ _); assumption) | (simp only [same_int, same_bool, same_ptr, same_slice, same_sliceP, same_nil, same_agg2, same_string]; done) | (simp [oneCell, AW.next_push]; done) | fail) only [go_sem, Nat.reduceEqDiff, reduceIte, Nat.reduceAdd, Int.toNat_natCast, Nat.add_zero, Owes_true, refTo, rulesTo, List.range_zero, List.all_nil, Bool.and_true] <;> rfl
  rintro k t ds w2 ⟨i, hii, rfl, rfl, e0, e1, e4, e6, e7, hO2, g2⟩
  by_cases hlt : (i : Int) < (rs.length : Int)
  case pos =>
    have hlt' : i < rs.length := by omega
    obtain ⟨b1, o1, rfl, hb1, hcell⟩ := hat i hlt'
    have a0 := hcell w2 g2.1 0 _ rfl
    have a1 := hcell w2 g2.1 1 _ rfl
    have a2 := hcell w2 g2.1 2 _ rfl
    have a3 := hcell w2 g2.1 3 _ rfl
    rw [Nat.add_zero] at a0
    have hri : rAt rs i = rs[i] := rAt_eq hlt'
    have hszi := hsz rs[i] (List.getElem_mem hlt')
    have hnext := refTo_succ rs i
    rw [okRule, ← noTo_eq rs i i (by omega), hri] at hnext
    cases hr : refTo rs i with
    | false =>
      rw [hr] at e6 hnext
      rw [Bool.false_and] at hnext
      simp -dsimp -implicitDefEqProofs (maxSteps := 2000000) (disch := first | assumption | omega | (simp only [AW.next_push, AW.next_put]; omega) | ((repeat refine Fresh.push ?_ _); assumption) | (simp only [same_int, same_bool, same_ptr, same_slice, same_sliceP, same_nil, same_agg2, same_string]; done) | (simp [oneCell, AW.next_push]; done) | fail) only [go_sem, Nat.reduceEqDiff, reduceIte, Nat.reduceAdd, Int.toNat_natCast, Nat.add_zero, Owes_true, Try.results29, e0, e1, e4, e6, e7, hlt]
      refine loopR (fun k t ds w3 => ∃ j : Nat, j ≤ i ∧ k = i - j ∧ ds = [] ∧ ev t (.tmp 0) = .slice (some ⟨b1, o1, none⟩) rs.length cap ∧ ev t (.tmp 1) = .string q ∧ ev t (.tmp 4) = .pointer (some ⟨w.next, 0, none⟩) ∧ ev t (.tmp 6) = .bool false ∧ ev t (.tmp 7) = .int .i64 (i : Int) ∧ ev t (.tmp 8) = .int .i64 (j : Int) ∧ w3 = w2) (i) ?_ ?_
      · refine ⟨0, by omega, by omega, rfl, ?_, ?_, ?_, ?_, ?_, ?_, rfl⟩ <;> simp -dsimp -implicitDefEqProofs (maxSteps := 2000000) (disch := first | assumption | omega | (simp only [AW.next_push, AW.next_put]; omega) | ((repeat refine Fresh.push ?_ _); assumption) | (simp only [same_int, same_bool, same_ptr, same_slice, same_sliceP, same_nil, same_agg2, same_string]; done) | (simp [oneCell, AW.next_push]; done) | fail) only [go_sem, Nat.reduceEqDiff, reduceIte, Nat.reduceAdd, Int.toNat_natCast, Nat.add_zero, Owes_true, e0, e1, e4, e7] <;> rfl
      rintro k t ds w3 ⟨j, hij, rfl, rfl, e0, e1, e4, e6, e7, e8, hw⟩
      subst hw
      by_cases hlj : (j : Int) < (i : Int)
      case neg =>
        simp -dsimp -implicitDefEqProofs (maxSteps := 2000000) (disch := first | assumption | omega | (simp only [AW.next_push, AW.next_put]; omega) | ((repeat refine Fresh.push ?_ _); assumption) | (simp only [same_int, same_bool, same_ptr, same_slice, same_sliceP, same_nil, same_agg2, same_string]; done) | (simp [oneCell, AW.next_push]; done) | fail) only [go_sem, Nat.reduceEqDiff, reduceIte, Nat.reduceAdd, Int.toNat_natCast, Nat.add_zero, Owes_true, Try.results29, e0, e1, e4, e6, e7, e8, hlj]
        refine ⟨_, by omega, i + 1, by omega, rfl, rfl, by (simp -dsimp -implicitDefEqProofs (maxSteps := 2000000) (disch := first | assumption | omega | (simp only [AW.next_push, AW.next_put]; omega) | ((repeat refine Fresh.push ?_ _); assumption) | (simp only [same_int, same_bool, same_ptr, same_slice, same_sliceP, same_nil, same_agg2, same_string]; done) | (simp [oneCell, AW.next_push]; done) | fail) only [go_sem, Nat.reduceEqDiff, reduceIte, Nat.reduceAdd, Int.toNat_natCast, Nat.add_zero, Owes_true, e0, hnext]; try rfl), by (simp -dsimp -implicitDefEqProofs (maxSteps := 2000000) (disch := first | assumption | omega | (simp only [AW.next_push, AW.next_put]; omega) | ((repeat refine Fresh.push ?_ _); assumption) | (simp only [same_int, same_bool, same_ptr, same_slice, same_sliceP, same_nil, same_agg2, same_string]; done) | (simp [oneCell, AW.next_push]; done) | fail) only [go_sem, Nat.reduceEqDiff, reduceIte, Nat.reduceAdd, Int.toNat_natCast, Nat.add_zero, Owes_true, e1, hnext]; try rfl), by (simp -dsimp -implicitDefEqProofs (maxSteps := 2000000) (disch := first | assumption | omega | (simp only [AW.next_push, AW.next_put]; omega) | ((repeat refine Fresh.push ?_ _); assumption) | (simp only [same_int, same_bool, same_ptr, same_slice, same_sliceP, same_nil, same_agg2, same_string]; done) | (simp [oneCell, AW.next_push]; done) | fail) only [go_sem, Nat.reduceEqDiff, reduceIte, Nat.reduceAdd, Int.toNat_natCast, Nat.add_zero, Owes_true, e4, hnext]; try rfl), by (simp -dsimp -implicitDefEqProofs (maxSteps := 2000000) (disch := first | assumption | omega | (simp only [AW.next_push, AW.next_put]; omega) | ((repeat refine Fresh.push ?_ _); assumption) | (simp only [same_int, same_bool, same_ptr, same_slice, same_sliceP, same_nil, same_agg2, same_string]; done) | (simp [oneCell, AW.next_push]; done) | fail) only [go_sem, Nat.reduceEqDiff, reduceIte, Nat.reduceAdd, Int.toNat_natCast, Nat.add_zero, Owes_true, e6, hnext]; try rfl), by (simp -dsimp -implicitDefEqProofs (maxSteps := 2000000) (disch := first | assumption | omega | (simp only [AW.next_push, AW.next_put]; omega) | ((repeat refine Fresh.push ?_ _); assumption) | (simp only [same_int, same_bool, same_ptr, same_slice, same_sliceP, same_nil, same_agg2, same_string]; done) | (simp [oneCell, AW.next_push]; done) | fail) only [go_sem, Nat.reduceEqDiff, reduceIte, Nat.reduceAdd, Int.toNat_natCast, Nat.add_zero, Owes_true, e7, hnext]; try rfl), hO2, g2⟩
      simp -dsimp -implicitDefEqProofs (maxSteps := 2000000) (disch := first | assumption | omega | (simp only [AW.next_push, AW.next_put]; omega) | ((repeat refine Fresh.push ?_ _); assumption) | (simp only [same_int, same_bool, same_ptr, same_slice, same_sliceP, same_nil, same_agg2, same_string]; done) | (simp [oneCell, AW.next_push]; done) | fail) only [go_sem, Nat.reduceEqDiff, reduceIte, Nat.reduceAdd, Int.toNat_natCast, Nat.add_zero, Owes_true, Try.results29, e0, e1, e4, e6, e7, e8, hlj]
      refine ⟨_, by omega, j + 1, by omega, rfl, rfl, by (simp -dsimp -implicitDefEqProofs (maxSteps := 2000000) (disch := first | assumption | omega | (simp only [AW.next_push, AW.next_put]; omega) | ((repeat refine Fresh.push ?_ _); assumption) | (simp only [same_int, same_bool, same_ptr, same_slice, same_sliceP, same_nil, same_agg2, same_string]; done) | (simp [oneCell, AW.next_push]; done) | fail) only [go_sem, Nat.reduceEqDiff, reduceIte, Nat.reduceAdd, Int.toNat_natCast, Nat.add_zero, Owes_true, e0]; try rfl), by (simp -dsimp -implicitDefEqProofs (maxSteps := 2000000) (disch := first | assumption | omega | (simp only [AW.next_push, AW.next_put]; omega) | ((repeat refine Fresh.push ?_ _); assumption) | (simp only [same_int, same_bool, same_ptr, same_slice, same_sliceP, same_nil, same_agg2, same_string]; done) | (simp [oneCell, AW.next_push]; done) | fail) only [go_sem, Nat.reduceEqDiff, reduceIte, Nat.reduceAdd, Int.toNat_natCast, Nat.add_zero, Owes_true, e1]; try rfl), by (simp -dsimp -implicitDefEqProofs (maxSteps := 2000000) (disch := first | assumption | omega | (simp only [AW.next_push, AW.next_put]; omega) | ((repeat refine Fresh.push ?_ _); assumption) | (simp only [same_int, same_bool, same_ptr, same_slice, same_sliceP, same_nil, same_agg2, same_string]; done) | (simp [oneCell, AW.next_push]; done) | fail) only [go_sem, Nat.reduceEqDiff, reduceIte, Nat.reduceAdd, Int.toNat_natCast, Nat.add_zero, Owes_true, e4]; try rfl), by (simp -dsimp -implicitDefEqProofs (maxSteps := 2000000) (disch := first | assumption | omega | (simp only [AW.next_push, AW.next_put]; omega) | ((repeat refine Fresh.push ?_ _); assumption) | (simp only [same_int, same_bool, same_ptr, same_slice, same_sliceP, same_nil, same_agg2, same_string]; done) | (simp [oneCell, AW.next_push]; done) | fail) only [go_sem, Nat.reduceEqDiff, reduceIte, Nat.reduceAdd, Int.toNat_natCast, Nat.add_zero, Owes_true, e6]; try rfl), by (simp -dsimp -implicitDefEqProofs (maxSteps := 2000000) (disch := first | assumption | omega | (simp only [AW.next_push, AW.next_put]; omega) | ((repeat refine Fresh.push ?_ _); assumption) | (simp only [same_int, same_bool, same_ptr, same_slice, same_sliceP, same_nil, same_agg2, same_string]; done) | (simp [oneCell, AW.next_push]; done) | fail) only [go_sem, Nat.reduceEqDiff, reduceIte, Nat.reduceAdd, Int.toNat_natCast, Nat.add_zero, Owes_true, e7]; try rfl), by (simp -dsimp -implicitDefEqProofs (maxSteps := 2000000) (disch := first | assumption | omega | (simp only [AW.next_push, AW.next_put]; omega) | ((repeat refine Fresh.push ?_ _); assumption) | (simp only [same_int, same_bool, same_ptr, same_slice, same_sliceP, same_nil, same_agg2, same_string]; done) | (simp [oneCell, AW.next_push]; done) | fail) only [go_sem, Nat.reduceEqDiff, reduceIte, Nat.reduceAdd, Int.toNat_natCast, Nat.add_zero, Owes_true, e8]; try rfl), rfl⟩
    | true =>
    rw [hr, Bool.true_and] at hnext
    rw [hr] at e6
    generalize hR : rs[i] = R at *
    simp -dsimp -implicitDefEqProofs (maxSteps := 2000000) (disch := first | assumption | omega | (simp only [AW.next_push, AW.next_put]; omega) | ((repeat refine Fresh.push ?_ _); assumption) | (simp only [same_int, same_bool, same_ptr, same_slice, same_sliceP, same_nil, same_agg2, same_string]; done) | (simp [oneCell, AW.next_push]; done) | fail) only [go_sem, Nat.reduceEqDiff, reduceIte, Nat.reduceAdd, Int.toNat_natCast, Nat.add_zero, Owes_true, Try.results29, e0, e1, e4, e6, e7, hlt, indexV_eq, a0, Nat.add_zero]
    apply callV_of (e := rfl)
    · exact IsWord_ok R.s hszi _
    rintro _ _ ⟨rfl, rfl⟩
    cases hw : wordB R.s with
    | false =>
      rw [hw, Bool.and_false, Bool.false_and] at hnext
      simp -dsimp -implicitDefEqProofs (maxSteps := 2000000) (disch := first | assumption | omega | (simp only [AW.next_push, AW.next_put]; omega) | ((repeat refine Fresh.push ?_ _); assumption) | (simp only [same_int, same_bool, same_ptr, same_slice, same_sliceP, same_nil, same_agg2, same_string]; done) | (simp [oneCell, AW.next_push]; done) | fail) only [go_sem, Nat.reduceEqDiff, reduceIte, Nat.reduceAdd, Int.toNat_natCast, Nat.add_zero, Owes_true, Try.results29, e0, e1, e4, e7]
      refine loopR (fun k t ds w3 => ∃ j : Nat, j ≤ i ∧ k = i - j ∧ ds = [] ∧ ev t (.tmp 0) = .slice (some ⟨b1, o1, none⟩) rs.length cap ∧ ev t (.tmp 1) = .string q ∧ ev t (.tmp 4) = .pointer (some ⟨w.next, 0, none⟩) ∧ ev t (.tmp 6) = .bool false ∧ ev t (.tmp 7) = .int .i64 (i : Int) ∧ ev t (.tmp 8) = .int .i64 (j : Int) ∧ w3 = w2) (i) ?_ ?_
      · refine ⟨0, by omega, by omega, rfl, ?_, ?_, ?_, ?_, ?_, ?_, rfl⟩ <;> simp -dsimp -implicitDefEqProofs (maxSteps := 2000000) (disch := first | assumption | omega | (simp only [AW.next_push, AW.next_put]; omega) | ((repeat refine Fresh.push ?_ _); assumption) | (simp only [same_int, same_bool, same_ptr, same_slice, same_sliceP, same_nil, same_agg2, same_string]; done) | (simp [oneCell, AW.next_push]; done) | fail) only [go_sem, Nat.reduceEqDiff, reduceIte, Nat.reduceAdd, Int.toNat_natCast, Nat.add_zero, Owes_true, e0, e1, e4, e7] <;> rfl
      rintro k t ds w3 ⟨j, hij, rfl, rfl, e0, e1, e4, e6, e7, e8, hw⟩
      subst hw
      by_cases hlj : (j : Int) < (i : Int)
      case neg =>
        simp -dsimp -implicitDefEqProofs (maxSteps := 2000000) (disch := first | assumption | omega | (simp only [AW.next_push, AW.next_put]; omega) | ((repeat refine Fresh.push ?_ _); assumption) | (simp only [same_int, same_bool, same_ptr, same_slice, same_sliceP, same_nil, same_agg2, same_string]; done) | (simp [oneCell, AW.next_push]; done) | fail) only [go_sem, Nat.reduceEqDiff, reduceIte, Nat.reduceAdd, Int.toNat_natCast, Nat.add_zero, Owes_true, Try.results29, e0, e1, e4, e6, e7, e8, hlj]
        refine ⟨_, by omega, i + 1, by omega, rfl, rfl, by (simp -dsimp -implicitDefEqProofs (maxSteps := 2000000) (disch := first | assumption | omega | (simp only [AW.next_push, AW.next_put]; omega) | ((repeat refine Fresh.push ?_ _); assumption) | (simp only [same_int, same_bool, same_ptr, same_slice, same_sliceP, same_nil, same_agg2, same_string]; done) | (simp [oneCell, AW.next_push]; done) | fail) only [go_sem, Nat.reduceEqDiff, reduceIte, Nat.reduceAdd, Int.toNat_natCast, Nat.add_zero, Owes_true, e0, hnext]; try rfl), by (simp -dsimp -implicitDefEqProofs (maxSteps := 2000000) (disch := first | assumption | omega | (simp only [AW.next_push, AW.next_put]; omega) | ((repeat refine Fresh.push ?_ _); assumption) | (simp only [same_int, same_bool, same_ptr, same_slice, same_sliceP, same_nil, same_agg2, same_string]; done) | (simp [oneCell, AW.next_push]; done) | fail) only [go_sem, Nat.reduceEqDiff, reduceIte, Nat.reduceAdd, Int.toNat_natCast, Nat.add_zero, Owes_true, e1, hnext]; try rfl), by (simp -dsimp -implicitDefEqProofs (maxSteps := 2000000) (disch := first | assumption | omega | (simp only [AW.next_push, AW.next_put]; omega) | ((repeat refine Fresh.push ?_ _); assumption) | (simp only [same_int, same_bool, same_ptr, same_slice, same_sliceP, same_nil, same_agg2, same_string]; done) | (simp [oneCell, AW.next_push]; done) | fail) only [go_sem, Nat.reduceEqDiff, reduceIte, Nat.reduceAdd, Int.toNat_natCast, Nat.add_zero, Owes_true, e4, hnext]; try rfl), by (simp -dsimp -implicitDefEqProofs (maxSteps := 2000000) (disch := first | assumption | omega | (simp only [AW.next_push, AW.next_put]; omega) | ((repeat refine Fresh.push ?_ _); assumption) | (simp only [same_int, same_bool, same_ptr, same_slice, same_sliceP, same_nil, same_agg2, same_string]; done) | (simp [oneCell, AW.next_push]; done) | fail) only [go_sem, Nat.reduceEqDiff, reduceIte, Nat.reduceAdd, Int.toNat_natCast, Nat.add_zero, Owes_true, e6, hnext]; try rfl), by (simp -dsimp -implicitDefEqProofs (maxSteps := 2000000) (disch := first | assumption | omega | (simp only [AW.next_push, AW.next_put]; omega) | ((repeat refine Fresh.push ?_ _); assumption) | (simp only [same_int, same_bool, same_ptr, same_slice, same_sliceP, same_nil, same_agg2, same_string]; done) | (simp [oneCell, AW.next_push]; done) | fail) only [go_sem, Nat.reduceEqDiff, reduceIte, Nat.reduceAdd, Int.toNat_natCast, Nat.add_zero, Owes_true, e7, hnext]; try rfl), hO2, g2⟩
      simp -dsimp -implicitDefEqProofs (maxSteps := 2000000) (disch := first | assumption | omega | (simp only [AW.next_push, AW.next_put]; omega) | ((repeat refine Fresh.push ?_ _); assumption) | (simp only [same_int, same_bool, same_ptr, same_slice, same_sliceP, same_nil, same_agg2, same_string]; done) | (simp [oneCell, AW.next_push]; done) | fail) only [go_sem, Nat.reduceEqDiff, reduceIte, Nat.reduceAdd, Int.toNat_natCast, Nat.add_zero, Owes_true, Try.results29, e0, e1, e4, e6, e7, e8, hlj]
      refine ⟨_, by omega, j + 1, by omega, rfl, rfl, by (simp -dsimp -implicitDefEqProofs (maxSteps := 2000000) (disch := first | assumption | omega | (simp only [AW.next_push, AW.next_put]; omega) | ((repeat refine Fresh.push ?_ _); assumption) | (simp only [same_int, same_bool, same_ptr, same_slice, same_sliceP, same_nil, same_agg2, same_string]; done) | (simp [oneCell, AW.next_push]; done) | fail) only [go_sem, Nat.reduceEqDiff, reduceIte, Nat.reduceAdd, Int.toNat_natCast, Nat.add_zero, Owes_true, e0]; try rfl), by (simp -dsimp -implicitDefEqProofs (maxSteps := 2000000) (disch := first | assumption | omega | (simp only [AW.next_push, AW.next_put]; omega) | ((repeat refine Fresh.push ?_ _); assumption) | (simp only [same_int, same_bool, same_ptr, same_slice, same_sliceP, same_nil, same_agg2, same_string]; done) | (simp [oneCell, AW.next_push]; done) | fail) only [go_sem, Nat.reduceEqDiff, reduceIte, Nat.reduceAdd, Int.toNat_natCast, Nat.add_zero, Owes_true, e1]; try rfl), by (simp -dsimp -implicitDefEqProofs (maxSteps := 2000000) (disch := first | assumption | omega | (simp only [AW.next_push, AW.next_put]; omega) | ((repeat refine Fresh.push ?_ _); assumption) | (simp only [same_int, same_bool, same_ptr, same_slice, same_sliceP, same_nil, same_agg2, same_string]; done) | (simp [oneCell, AW.next_push]; done) | fail) only [go_sem, Nat.reduceEqDiff, reduceIte, Nat.reduceAdd, Int.toNat_natCast, Nat.add_zero, Owes_true, e4]; try rfl), by (simp -dsimp -implicitDefEqProofs (maxSteps := 2000000) (disch := first | assumption | omega | (simp only [AW.next_push, AW.next_put]; omega) | ((repeat refine Fresh.push ?_ _); assumption) | (simp only [same_int, same_bool, same_ptr, same_slice, same_sliceP, same_nil, same_agg2, same_string]; done) | (simp [oneCell, AW.next_push]; done) | fail) only [go_sem, Nat.reduceEqDiff, reduceIte, Nat.reduceAdd, Int.toNat_natCast, Nat.add_zero, Owes_true, e6]; try rfl), by (simp -dsimp -implicitDefEqProofs (maxSteps := 2000000) (disch := first | assumption | omega | (simp only [AW.next_push, AW.next_put]; omega) | ((repeat refine Fresh.push ?_ _); assumption) | (simp only [same_int, same_bool, same_ptr, same_slice, same_sliceP, same_nil, same_agg2, same_string]; done) | (simp [oneCell, AW.next_push]; done) | fail) only [go_sem, Nat.reduceEqDiff, reduceIte, Nat.reduceAdd, Int.toNat_natCast, Nat.add_zero, Owes_true, e7]; try rfl), by (simp -dsimp -implicitDefEqProofs (maxSteps := 2000000) (disch := first | assumption | omega | (simp only [AW.next_push, AW.next_put]; omega) | ((repeat refine Fresh.push ?_ _); assumption) | (simp only [same_int, same_bool, same_ptr, same_slice, same_sliceP, same_nil, same_agg2, same_string]; done) | (simp [oneCell, AW.next_push]; done) | fail) only [go_sem, Nat.reduceEqDiff, reduceIte, Nat.reduceAdd, Int.toNat_natCast, Nat.add_zero, Owes_true, e8]; try rfl), rfl⟩
    | true =>
    simp -dsimp -implicitDefEqProofs (maxSteps := 2000000) (disch := first | assumption | omega | (simp only [AW.next_push, AW.next_put]; omega) | ((repeat refine Fresh.push ?_ _); assumption) | (simp only [same_int, same_bool, same_ptr, same_slice, same_sliceP, same_nil, same_agg2, same_string]; done) | (simp [oneCell, AW.next_push]; done) | fail) only [go_sem, Nat.reduceEqDiff, reduceIte, Nat.reduceAdd, Int.toNat_natCast, Nat.add_zero, Owes_true, Try.results29, e0, e1, e4, e7, hlt, indexV_eq, a1, a2, a3]
    apply callV_of (e := rfl)
    · exact refCheckTerms_ok R.F R.L R.C w2 g2.2
    rintro _ w3 ⟨rfl, hg3⟩
    have g3 := g2.trans hg3
    have hO2 := hO2.keep hg3.1
    cases ht : termsB R.F R.L R.C with
    | false =>
      have hE : termsE R.F R.L R.C = 22 := termsE_bad ht
      have h220 : ¬ (22 : Int) = 0 := by decide
      rw [ht, Bool.and_false] at hnext
      simp -dsimp -implicitDefEqProofs (maxSteps := 2000000) (disch := first | assumption | omega | (simp only [AW.next_push, AW.next_put]; omega) | ((repeat refine Fresh.push ?_ _); assumption) | (simp only [same_int, same_bool, same_ptr, same_slice, same_sliceP, same_nil, same_agg2, same_string]; done) | (simp [oneCell, AW.next_push]; done) | fail) only [go_sem, Nat.reduceEqDiff, reduceIte, Nat.reduceAdd, Int.toNat_natCast, Nat.add_zero, Owes_true, Try.results29, e0, e1, e4, e7, hE, h220]
      refine loopR (fun k t ds w4 => ∃ j : Nat, j ≤ i ∧ k = i - j ∧ ds = [] ∧ ev t (.tmp 0) = .slice (some ⟨b1, o1, none⟩) rs.length cap ∧ ev t (.tmp 1) = .string q ∧ ev t (.tmp 4) = .pointer (some ⟨w.next, 0, none⟩) ∧ ev t (.tmp 6) = .bool false ∧ ev t (.tmp 7) = .int .i64 (i : Int) ∧ ev t (.tmp 8) = .int .i64 (j : Int) ∧ w4 = w3) (i) ?_ ?_
      · refine ⟨0, by omega, by omega, rfl, ?_, ?_, ?_, ?_, ?_, ?_, rfl⟩ <;> simp -dsimp -implicitDefEqProofs (maxSteps := 2000000) (disch := first | assumption | omega | (simp only [AW.next_push, AW.next_put]; omega) | ((repeat refine Fresh.push ?_ _); assumption) | (simp only [same_int, same_bool, same_ptr, same_slice, same_sliceP, same_nil, same_agg2, same_string]; done) | (simp [oneCell, AW.next_push]; done) | fail) only [go_sem, Nat.reduceEqDiff, reduceIte, Nat.reduceAdd, Int.toNat_natCast, Nat.add_zero, Owes_true, e0, e1, e4, e7] <;> rfl
      rintro k t ds w4 ⟨j, hij, rfl, rfl, e0, e1, e4, e6, e7, e8, hw⟩
      subst hw
      by_cases hlj : (j : Int) < (i : Int)
      case neg =>
        simp -dsimp -implicitDefEqProofs (maxSteps := 2000000) (disch := first | assumption | omega | (simp only [AW.next_push, AW.next_put]; omega) | ((repeat refine Fresh.push ?_ _); assumption) | (simp only [same_int, same_bool, same_ptr, same_slice, same_sliceP, same_nil, same_agg2, same_string]; done) | (simp [oneCell, AW.next_push]; done) | fail) only [go_sem, Nat.reduceEqDiff, reduceIte, Nat.reduceAdd, Int.toNat_natCast, Nat.add_zero, Owes_true, Try.results29, e0, e1, e4, e6, e7, e8, hlj]
        refine ⟨_, by omega, i + 1, by omega, rfl, rfl, by (simp -dsimp -implicitDefEqProofs (maxSteps := 2000000) (disch := first | assumption | omega | (simp only [AW.next_push, AW.next_put]; omega) | ((repeat refine Fresh.push ?_ _); assumption) | (simp only [same_int, same_bool, same_ptr, same_slice, same_sliceP, same_nil, same_agg2, same_string]; done) | (simp [oneCell, AW.next_push]; done) | fail) only [go_sem, Nat.reduceEqDiff, reduceIte, Nat.reduceAdd, Int.toNat_natCast, Nat.add_zero, Owes_true, e0, hnext]; try rfl), by (simp -dsimp -implicitDefEqProofs (maxSteps := 2000000) (disch := first | assumption | omega | (simp only [AW.next_push, AW.next_put]; omega) | ((repeat refine Fresh.push ?_ _); assumption) | (simp only [same_int, same_bool, same_ptr, same_slice, same_sliceP, same_nil, same_agg2, same_string]; done) | (simp [oneCell, AW.next_push]; done) | fail) only [go_sem, Nat.reduceEqDiff, reduceIte, Nat.reduceAdd, Int.toNat_natCast, Nat.add_zero, Owes_true, e1, hnext]; try rfl), by (simp -dsimp -implicitDefEqProofs (maxSteps := 2000000) (disch := first | assumption | omega | (simp only [AW.next_push, AW.next_put]; omega) | ((repeat refine Fresh.push ?_ _); assumption) | (simp only [same_int, same_bool, same_ptr, same_slice, same_sliceP, same_nil, same_agg2, same_string]; done) | (simp [oneCell, AW.next_push]; done) | fail) only [go_sem, Nat.reduceEqDiff, reduceIte, Nat.reduceAdd, Int.toNat_natCast, Nat.add_zero, Owes_true, e4, hnext]; try rfl), by (simp -dsimp -implicitDefEqProofs (maxSteps := 2000000) (disch := first | assumption | omega | (simp only [AW.next_push, AW.next_put]; omega) | ((repeat refine Fresh.push ?_ _); assumption) | (simp only [same_int, same_bool, same_ptr, same_slice, same_sliceP, same_nil, same_agg2, same_string]; done) | (simp [oneCell, AW.next_push]; done) | fail) only [go_sem, Nat.reduceEqDiff, reduceIte, Nat.reduceAdd, Int.toNat_natCast, Nat.add_zero, Owes_true, e6, hnext]; try rfl), by (simp -dsimp -implicitDefEqProofs (maxSteps := 2000000) (disch := first | assumption | omega | (simp only [AW.next_push, AW.next_put]; omega) | ((repeat refine Fresh.push ?_ _); assumption) | (simp only [same_int, same_bool, same_ptr, same_slice, same_sliceP, same_nil, same_agg2, same_string]; done) | (simp [oneCell, AW.next_push]; done) | fail) only [go_sem, Nat.reduceEqDiff, reduceIte, Nat.reduceAdd, Int.toNat_natCast, Nat.add_zero, Owes_true, e7, hnext]; try rfl), hO2, g3⟩
      simp -dsimp -implicitDefEqProofs (maxSteps := 2000000) (disch := first | assumption | omega | (simp only [AW.next_push, AW.next_put]; omega) | ((repeat refine Fresh.push ?_ _); assumption) | (simp only [same_int, same_bool, same_ptr, same_slice, same_sliceP, same_nil, same_agg2, same_string]; done) | (simp [oneCell, AW.next_push]; done) | fail) only [go_sem, Nat.reduceEqDiff, reduceIte, Nat.reduceAdd, Int.toNat_natCast, Nat.add_zero, Owes_true, Try.results29, e0, e1, e4, e6, e7, e8, hlj]
      refine ⟨_, by omega, j + 1, by omega, rfl, rfl, by (simp -dsimp -implicitDefEqProofs (maxSteps := 2000000) (disch := first | assumption | omega | (simp only [AW.next_push, AW.next_put]; omega) | ((repeat refine Fresh.push ?_ _); assumption) | (simp only [same_int, same_bool, same_ptr, same_slice, same_sliceP, same_nil, same_agg2, same_string]; done) | (simp [oneCell, AW.next_push]; done) | fail) only [go_sem, Nat.reduceEqDiff, reduceIte, Nat.reduceAdd, Int.toNat_natCast, Nat.add_zero, Owes_true, e0]; try rfl), by (simp -dsimp -implicitDefEqProofs (maxSteps := 2000000) (disch := first | assumption | omega | (simp only [AW.next_push, AW.next_put]; omega) | ((repeat refine Fresh.push ?_ _); assumption) | (simp only [same_int, same_bool, same_ptr, same_slice, same_sliceP, same_nil, same_agg2, same_string]; done) | (simp [oneCell, AW.next_push]; done) | fail) only [go_sem, Nat.reduceEqDiff, reduceIte, Nat.reduceAdd, Int.toNat_natCast, Nat.add_zero, Owes_true, e1]; try rfl), by (simp -dsimp -implicitDefEqProofs (maxSteps := 2000000) (disch := first | assumption | omega | (simp only [AW.next_push, AW.next_put]; omega) | ((repeat refine Fresh.push ?_ _); assumption) | (simp only [same_int, same_bool, same_ptr, same_slice, same_sliceP, same_nil, same_agg2, same_string]; done) | (simp [oneCell, AW.next_push]; done) | fail) only [go_sem, Nat.reduceEqDiff, reduceIte, Nat.reduceAdd, Int.toNat_natCast, Nat.add_zero, Owes_true, e4]; try rfl), by (simp -dsimp -implicitDefEqProofs (maxSteps := 2000000) (disch := first | assumption | omega | (simp only [AW.next_push, AW.next_put]; omega) | ((repeat refine Fresh.push ?_ _); assumption) | (simp only [same_int, same_bool, same_ptr, same_slice, same_sliceP, same_nil, same_agg2, same_string]; done) | (simp [oneCell, AW.next_push]; done) | fail) only [go_sem, Nat.reduceEqDiff, reduceIte, Nat.reduceAdd, Int.toNat_natCast, Nat.add_zero, Owes_true, e6]; try rfl), by (simp -dsimp -implicitDefEqProofs (maxSteps := 2000000) (disch := first | assumption | omega | (simp only [AW.next_push, AW.next_put]; omega) | ((repeat refine Fresh.push ?_ _); assumption) | (simp only [same_int, same_bool, same_ptr, same_slice, same_sliceP, same_nil, same_agg2, same_string]; done) | (simp [oneCell, AW.next_push]; done) | fail) only [go_sem, Nat.reduceEqDiff, reduceIte, Nat.reduceAdd, Int.toNat_natCast, Nat.add_zero, Owes_true, e7]; try rfl), by (simp -dsimp -implicitDefEqProofs (maxSteps := 2000000) (disch := first | assumption | omega | (simp only [AW.next_push, AW.next_put]; omega) | ((repeat refine Fresh.push ?_ _); assumption) | (simp only [same_int, same_bool, same_ptr, same_slice, same_sliceP, same_nil, same_agg2, same_string]; done) | (simp [oneCell, AW.next_push]; done) | fail) only [go_sem, Nat.reduceEqDiff, reduceIte, Nat.reduceAdd, Int.toNat_natCast, Nat.add_zero, Owes_true, e8]; try rfl), rfl⟩
    | true =>
    have hE : termsE R.F R.L R.C = 0 := by rw [termsE, ht]; rfl
    rw [hw, ht, Bool.and_true, Bool.and_true] at hnext
    have b0 := hcell w3 g3.1 0 _ rfl
    rw [Nat.add_zero] at b0
    simp -dsimp -implicitDefEqProofs (maxSteps := 2000000) (disch := first | assumption | omega | (simp only [AW.next_push, AW.next_put]; omega) | ((repeat refine Fresh.push ?_ _); assumption) | (simp only [same_int, same_bool, same_ptr, same_slice, same_sliceP, same_nil, same_agg2, same_string]; done) | (simp [oneCell, AW.next_push]; done) | fail) only [go_sem, Nat.reduceEqDiff, reduceIte, Nat.reduceAdd, Int.toNat_natCast, Nat.add_zero, Owes_true, Try.results29, e0, e1, e4, e7, hE]
    refine loopR (fun k t ds w4 => ∃ j : Nat, j ≤ i ∧ k = i - j ∧ ds = [] ∧ ev t (.tmp 0) = .slice (some ⟨b1, o1, none⟩) rs.length cap ∧ ev t (.tmp 1) = .string q ∧ ev t (.tmp 4) = .pointer (some ⟨w.next, 0, none⟩) ∧ ev t (.tmp 6) = .bool (noTo rs i j) ∧ ev t (.tmp 7) = .int .i64 (i : Int) ∧ ev t (.tmp 8) = .int .i64 (j : Int) ∧ w4 = w3) (i) ?_ ?_
    · refine ⟨0, by omega, by omega, rfl, ?_, ?_, ?_, ?_, ?_, ?_, rfl⟩ <;> simp -dsimp -implicitDefEqProofs (maxSteps := 2000000) (disch := first | assumption | omega | (simp only [AW.next_push, AW.next_put]; omega) | ((repeat refine Fresh.push ?_ _); assumption) | (simp only [same_int, same_bool, same_ptr, same_slice, same_sliceP, same_nil, same_agg2, same_string]; done) | (simp [oneCell, AW.next_push]; done) | fail) only [go_sem, Nat.reduceEqDiff, reduceIte, Nat.reduceAdd, Int.toNat_natCast, Nat.add_zero, Owes_true, e0, e1, e4, e7, noTo, List.range_zero, List.all_nil] <;> rfl
    rintro k t ds w4 ⟨j, hij, rfl, rfl, e0, e1, e4, e6, e7, e8, hw4⟩
    subst hw4
    by_cases hlj : (j : Int) < (i : Int)
    case neg =>
      have hji : j = i := by omega
      rw [hji] at e6
      simp -dsimp -implicitDefEqProofs (maxSteps := 2000000) (disch := first | assumption | omega | (simp only [AW.next_push, AW.next_put]; omega) | ((repeat refine Fresh.push ?_ _); assumption) | (simp only [same_int, same_bool, same_ptr, same_slice, same_sliceP, same_nil, same_agg2, same_string]; done) | (simp [oneCell, AW.next_push]; done) | fail) only [go_sem, Nat.reduceEqDiff, reduceIte, Nat.reduceAdd, Int.toNat_natCast, Nat.add_zero, Owes_true, Try.results29, e0, e1, e4, e6, e7, e8, hlj]
      refine ⟨_, by omega, i + 1, by omega, rfl, rfl, by (simp -dsimp -implicitDefEqProofs (maxSteps := 2000000) (disch := first | assumption | omega | (simp only [AW.next_push, AW.next_put]; omega) | ((repeat refine Fresh.push ?_ _); assumption) | (simp only [same_int, same_bool, same_ptr, same_slice, same_sliceP, same_nil, same_agg2, same_string]; done) | (simp [oneCell, AW.next_push]; done) | fail) only [go_sem, Nat.reduceEqDiff, reduceIte, Nat.reduceAdd, Int.toNat_natCast, Nat.add_zero, Owes_true, e0, hnext]; try rfl), by (simp -dsimp -implicitDefEqProofs (maxSteps := 2000000) (disch := first | assumption | omega | (simp only [AW.next_push, AW.next_put]; omega) | ((repeat refine Fresh.push ?_ _); assumption) | (simp only [same_int, same_bool, same_ptr, same_slice, same_sliceP, same_nil, same_agg2, same_string]; done) | (simp [oneCell, AW.next_push]; done) | fail) only [go_sem, Nat.reduceEqDiff, reduceIte, Nat.reduceAdd, Int.toNat_natCast, Nat.add_zero, Owes_true, e1, hnext]; try rfl), by (simp -dsimp -implicitDefEqProofs (maxSteps := 2000000) (disch := first | assumption | omega | (simp only [AW.next_push, AW.next_put]; omega) | ((repeat refine Fresh.push ?_ _); assumption) | (simp only [same_int, same_bool, same_ptr, same_slice, same_sliceP, same_nil, same_agg2, same_string]; done) | (simp [oneCell, AW.next_push]; done) | fail) only [go_sem, Nat.reduceEqDiff, reduceIte, Nat.reduceAdd, Int.toNat_natCast, Nat.add_zero, Owes_true, e4, hnext]; try rfl), by (simp -dsimp -implicitDefEqProofs (maxSteps := 2000000) (disch := first | assumption | omega | (simp only [AW.next_push, AW.next_put]; omega) | ((repeat refine Fresh.push ?_ _); assumption) | (simp only [same_int, same_bool, same_ptr, same_slice, same_sliceP, same_nil, same_agg2, same_string]; done) | (simp [oneCell, AW.next_push]; done) | fail) only [go_sem, Nat.reduceEqDiff, reduceIte, Nat.reduceAdd, Int.toNat_natCast, Nat.add_zero, Owes_true, e6, hnext]; try rfl), by (simp -dsimp -implicitDefEqProofs (maxSteps := 2000000) (disch := first | assumption | omega | (simp only [AW.next_push, AW.next_put]; omega) | ((repeat refine Fresh.push ?_ _); assumption) | (simp only [same_int, same_bool, same_ptr, same_slice, same_sliceP, same_nil, same_agg2, same_string]; done) | (simp [oneCell, AW.next_push]; done) | fail) only [go_sem, Nat.reduceEqDiff, reduceIte, Nat.reduceAdd, Int.toNat_natCast, Nat.add_zero, Owes_true, e7, hnext]; try rfl), hO2, g3⟩
    have hlj' : j < rs.length := by omega
    have hljr : (j : Int) < (rs.length : Int) := by omega
    obtain ⟨b2, o2, hp2, hb2, hcell2⟩ := hat j hlj'
    injection hp2 with hp2
    injection hp2 with hp3 hp4 hp5
    subst hp3 hp4
    have d0 := hcell2 w4 g3.1 0 _ rfl
    rw [Nat.add_zero] at d0
    have hrj : rAt rs j = rs[j] := rAt_eq hlj'
    have hn2 := noTo_succ rs i j
    rw [hrj, hri] at hn2
    cases hno : noTo rs i j with
    | false =>
      rw [hno] at e6 hn2
      rw [Bool.false_and] at hn2
      simp -dsimp -implicitDefEqProofs (maxSteps := 2000000) (disch := first | assumption | omega | (simp only [AW.next_push, AW.next_put]; omega) | ((repeat refine Fresh.push ?_ _); assumption) | (simp only [same_int, same_bool, same_ptr, same_slice, same_sliceP, same_nil, same_agg2, same_string]; done) | (simp [oneCell, AW.next_push]; done) | fail) only [go_sem, Nat.reduceEqDiff, reduceIte, Nat.reduceAdd, Int.toNat_natCast, Nat.add_zero, Owes_true, Try.results29, e0, e1, e4, e6, e7, e8, hlj]
      refine ⟨_, by omega, j + 1, by omega, rfl, rfl, by (simp -dsimp -implicitDefEqProofs (maxSteps := 2000000) (disch := first | assumption | omega | (simp only [AW.next_push, AW.next_put]; omega) | ((repeat refine Fresh.push ?_ _); assumption) | (simp only [same_int, same_bool, same_ptr, same_slice, same_sliceP, same_nil, same_agg2, same_string]; done) | (simp [oneCell, AW.next_push]; done) | fail) only [go_sem, Nat.reduceEqDiff, reduceIte, Nat.reduceAdd, Int.toNat_natCast, Nat.add_zero, Owes_true, e0, hn2]; try rfl), by (simp -dsimp -implicitDefEqProofs (maxSteps := 2000000) (disch := first | assumption | omega | (simp only [AW.next_push, AW.next_put]; omega) | ((repeat refine Fresh.push ?_ _); assumption) | (simp only [same_int, same_bool, same_ptr, same_slice, same_sliceP, same_nil, same_agg2, same_string]; done) | (simp [oneCell, AW.next_push]; done) | fail) only [go_sem, Nat.reduceEqDiff, reduceIte, Nat.reduceAdd, Int.toNat_natCast, Nat.add_zero, Owes_true, e1, hn2]; try rfl), by (simp -dsimp -implicitDefEqProofs (maxSteps := 2000000) (disch := first | assumption | omega | (simp only [AW.next_push, AW.next_put]; omega) | ((repeat refine Fresh.push ?_ _); assumption) | (simp only [same_int, same_bool, same_ptr, same_slice, same_sliceP, same_nil, same_agg2, same_string]; done) | (simp [oneCell, AW.next_push]; done) | fail) only [go_sem, Nat.reduceEqDiff, reduceIte, Nat.reduceAdd, Int.toNat_natCast, Nat.add_zero, Owes_true, e4, hn2]; try rfl), by (simp -dsimp -implicitDefEqProofs (maxSteps := 2000000) (disch := first | assumption | omega | (simp only [AW.next_push, AW.next_put]; omega) | ((repeat refine Fresh.push ?_ _); assumption) | (simp only [same_int, same_bool, same_ptr, same_slice, same_sliceP, same_nil, same_agg2, same_string]; done) | (simp [oneCell, AW.next_push]; done) | fail) only [go_sem, Nat.reduceEqDiff, reduceIte, Nat.reduceAdd, Int.toNat_natCast, Nat.add_zero, Owes_true, e6, hn2]; try rfl), by (simp -dsimp -implicitDefEqProofs (maxSteps := 2000000) (disch := first | assumption | omega | (simp only [AW.next_push, AW.next_put]; omega) | ((repeat refine Fresh.push ?_ _); assumption) | (simp only [same_int, same_bool, same_ptr, same_slice, same_sliceP, same_nil, same_agg2, same_string]; done) | (simp [oneCell, AW.next_push]; done) | fail) only [go_sem, Nat.reduceEqDiff, reduceIte, Nat.reduceAdd, Int.toNat_natCast, Nat.add_zero, Owes_true, e7, hn2]; try rfl), by (simp -dsimp -implicitDefEqProofs (maxSteps := 2000000) (disch := first | assumption | omega | (simp only [AW.next_push, AW.next_put]; omega) | ((repeat refine Fresh.push ?_ _); assumption) | (simp only [same_int, same_bool, same_ptr, same_slice, same_sliceP, same_nil, same_agg2, same_string]; done) | (simp [oneCell, AW.next_push]; done) | fail) only [go_sem, Nat.reduceEqDiff, reduceIte, Nat.reduceAdd, Int.toNat_natCast, Nat.add_zero, Owes_true, e8, hn2]; try rfl), rfl⟩
    | true =>
      rw [hno, Bool.true_and] at hn2
      rw [hno] at e6
      generalize hQ : rs[j] = Q at *
      simp -dsimp -implicitDefEqProofs (maxSteps := 2000000) (disch := first | assumption | omega | (simp only [AW.next_push, AW.next_put]; omega) | ((repeat refine Fresh.push ?_ _); assumption) | (simp only [same_int, same_bool, same_ptr, same_slice, same_sliceP, same_nil, same_agg2, same_string]; done) | (simp [oneCell, AW.next_push]; done) | fail) only [go_sem, Nat.reduceEqDiff, reduceIte, Nat.reduceAdd, Int.toNat_natCast, Nat.add_zero, Owes_true, Try.results29, e0, e1, e4, e6, e7, e8, hlj, hljr, hlt, indexV_eq, b0, d0, Nat.add_zero]
      refine ⟨_, by omega, j + 1, by omega, rfl, rfl, by (simp -dsimp -implicitDefEqProofs (maxSteps := 2000000) (disch := first | assumption | omega | (simp only [AW.next_push, AW.next_put]; omega) | ((repeat refine Fresh.push ?_ _); assumption) | (simp only [same_int, same_bool, same_ptr, same_slice, same_sliceP, same_nil, same_agg2, same_string]; done) | (simp [oneCell, AW.next_push]; done) | fail) only [go_sem, Nat.reduceEqDiff, reduceIte, Nat.reduceAdd, Int.toNat_natCast, Nat.add_zero, Owes_true, e0, hn2]; try rfl), by (simp -dsimp -implicitDefEqProofs (maxSteps := 2000000) (disch := first | assumption | omega | (simp only [AW.next_push, AW.next_put]; omega) | ((repeat refine Fresh.push ?_ _); assumption) | (simp only [same_int, same_bool, same_ptr, same_slice, same_sliceP, same_nil, same_agg2, same_string]; done) | (simp [oneCell, AW.next_push]; done) | fail) only [go_sem, Nat.reduceEqDiff, reduceIte, Nat.reduceAdd, Int.toNat_natCast, Nat.add_zero, Owes_true, e1, hn2]; try rfl), by (simp -dsimp -implicitDefEqProofs (maxSteps := 2000000) (disch := first | assumption | omega | (simp only [AW.next_push, AW.next_put]; omega) | ((repeat refine Fresh.push ?_ _); assumption) | (simp only [same_int, same_bool, same_ptr, same_slice, same_sliceP, same_nil, same_agg2, same_string]; done) | (simp [oneCell, AW.next_push]; done) | fail) only [go_sem, Nat.reduceEqDiff, reduceIte, Nat.reduceAdd, Int.toNat_natCast, Nat.add_zero, Owes_true, e4, hn2]; try rfl), by (simp -dsimp -implicitDefEqProofs (maxSteps := 2000000) (disch := first | assumption | omega | (simp only [AW.next_push, AW.next_put]; omega) | ((repeat refine Fresh.push ?_ _); assumption) | (simp only [same_int, same_bool, same_ptr, same_slice, same_sliceP, same_nil, same_agg2, same_string]; done) | (simp [oneCell, AW.next_push]; done) | fail) only [go_sem, Nat.reduceEqDiff, reduceIte, Nat.reduceAdd, Int.toNat_natCast, Nat.add_zero, Owes_true, e6, hn2]; try rfl), by (simp -dsimp -implicitDefEqProofs (maxSteps := 2000000) (disch := first | assumption | omega | (simp only [AW.next_push, AW.next_put]; omega) | ((repeat refine Fresh.push ?_ _); assumption) | (simp only [same_int, same_bool, same_ptr, same_slice, same_sliceP, same_nil, same_agg2, same_string]; done) | (simp [oneCell, AW.next_push]; done) | fail) only [go_sem, Nat.reduceEqDiff, reduceIte, Nat.reduceAdd, Int.toNat_natCast, Nat.add_zero, Owes_true, e7, hn2]; try rfl), by (simp -dsimp -implicitDefEqProofs (maxSteps := 2000000) (disch := first | assumption | omega | (simp only [AW.next_push, AW.next_put]; omega) | ((repeat refine Fresh.push ?_ _); assumption) | (simp only [same_int, same_bool, same_ptr, same_slice, same_sliceP, same_nil, same_agg2, same_string]; done) | (simp [oneCell, AW.next_push]; done) | fail) only [go_sem, Nat.reduceEqDiff, reduceIte, Nat.reduceAdd, Int.toNat_natCast, Nat.add_zero, Owes_true, e8, hn2]; try rfl), rfl⟩
  obtain rfl : i = rs.length := by omega
  have hB : rulesB rs = refTo rs rs.length := by
    rw [rulesB, refTo]; congr 1
    exact decide_eq_decide.2 (by omega)
  cases hr : refTo rs rs.length with
  | false =>
    rw [hr] at e6 hB
    obtain ⟨p1, p2, p3, p4, p5⟩ := put_terms g2 (Nat.le_refl _) hO2 0 0 0
    simp -dsimp -implicitDefEqProofs (maxSteps := 2000000) (disch := first | assumption | omega | (simp only [AW.next_push, AW.next_put]; omega) | ((repeat refine Fresh.push ?_ _); assumption) | (simp only [same_int, same_bool, same_ptr, same_slice, same_sliceP, same_nil, same_agg2, same_string]; done) | (simp [oneCell, AW.next_push]; done) | fail) only [go_sem, Nat.reduceEqDiff, reduceIte, Nat.reduceAdd, Int.toNat_natCast, Nat.add_zero, Owes_true, Try.results29, e0, e1, e4, e6, e7, hlt, p1, p3, p4, p5]
    exact ⟨_, _, _, _, rfl, p2, .inl ⟨hB, rfl, rfl, rfl, rfl⟩⟩
  | true =>
  rw [hr] at e6 hB
  simp -dsimp -implicitDefEqProofs (maxSteps := 2000000) (disch := first | assumption | omega | (simp only [AW.next_push, AW.next_put]; omega) | ((repeat refine Fresh.push ?_ _); assumption) | (simp only [same_int, same_bool, same_ptr, same_slice, same_sliceP, same_nil, same_agg2, same_string]; done) | (simp [oneCell, AW.next_push]; done) | fail) only [go_sem, Nat.reduceEqDiff, reduceIte, Nat.reduceAdd, Int.toNat_natCast, Nat.add_zero, Owes_true, Try.results29, e0, e1, e4, e6, e7, hlt]
  refine loopR (fun k t ds w3 => ∃ a : Nat, a ≤ rs.length ∧ k = rs.length - a ∧ ds = [] ∧ ev t (.tmp 0) = .slice p rs.length cap ∧ ev t (.tmp 1) = .string q ∧ ev t (.tmp 4) = .pointer (some ⟨w.next, 0, none⟩) ∧ ev t (.tmp 9) = .int .i64 (a : Int) ∧ w3 = w2 ∧ (∀ k, k < a → sEq (rAt rs k).s q = false)) (rs.length) ?_ ?_
  · refine ⟨0, by omega, by omega, rfl, ?_, ?_, ?_, ?_, rfl, fun k hk => by omega⟩ <;> simp -dsimp -implicitDefEqProofs (maxSteps := 2000000) (disch := first | assumption | omega | (simp only [AW.next_push, AW.next_put]; omega) | ((repeat refine Fresh.push ?_ _); assumption) | (simp only [same_int, same_bool, same_ptr, same_slice, same_sliceP, same_nil, same_agg2, same_string]; done) | (simp [oneCell, AW.next_push]; done) | fail) only [go_sem, Nat.reduceEqDiff, reduceIte, Nat.reduceAdd, Int.toNat_natCast, Nat.add_zero, Owes_true, e0, e1, e4] <;> rfl
  rintro k t ds w3 ⟨a, hia, rfl, rfl, e0, e1, e4, e9, hw, hno⟩
  subst hw
  by_cases hla : (a : Int) < (rs.length : Int)
  case neg =>
    obtain ⟨p1, p2, p3, p4, p5⟩ := put_terms g2 (Nat.le_refl _) hO2 0 0 0
    simp -dsimp -implicitDefEqProofs (maxSteps := 2000000) (disch := first | assumption | omega | (simp only [AW.next_push, AW.next_put]; omega) | ((repeat refine Fresh.push ?_ _); assumption) | (simp only [same_int, same_bool, same_ptr, same_slice, same_sliceP, same_nil, same_agg2, same_string]; done) | (simp [oneCell, AW.next_push]; done) | fail) only [go_sem, Nat.reduceEqDiff, reduceIte, Nat.reduceAdd, Int.toNat_natCast, Nat.add_zero, Owes_true, Try.results29, e0, e1, e4, e9, hla, p1, p3, p4, p5]
    exact ⟨_, _, _, _, rfl, p2, .inr (.inl ⟨hB, fun k hk => hno k (by omega), rfl, rfl, rfl, rfl⟩)⟩
  have hla' : a < rs.length := by omega
  obtain ⟨b1, o1, rfl, hb1, hcell⟩ := hat a hla'
  have a0 := hcell w3 g2.1 0 _ rfl
  have a1 := hcell w3 g2.1 1 _ rfl
  have a2 := hcell w3 g2.1 2 _ rfl
  have a3 := hcell w3 g2.1 3 _ rfl
  rw [Nat.add_zero] at a0
  have hri : rAt rs a = rs[a] := rAt_eq hla'
  generalize hR : rs[a] = R at *
  cases hq : sEq R.s q with
  | true =>
    obtain ⟨p1, p2, p3, p4, p5⟩ := put_terms g2 (Nat.le_refl _) hO2 R.F R.L R.C
    simp -dsimp -implicitDefEqProofs (maxSteps := 2000000) (disch := first | assumption | omega | (simp only [AW.next_push, AW.next_put]; omega) | ((repeat refine Fresh.push ?_ _); assumption) | (simp only [same_int, same_bool, same_ptr, same_slice, same_sliceP, same_nil, same_agg2, same_string]; done) | (simp [oneCell, AW.next_push]; done) | fail) only [go_sem, Nat.reduceEqDiff, reduceIte, Nat.reduceAdd, Int.toNat_natCast, Nat.add_zero, Owes_true, Try.results29, e0, e1, e4, e9, hla, indexV_eq, a0, a1, a2, a3, Nat.add_zero, hq, p1, p3, p4, p5]
    exact ⟨_, _, _, _, rfl, p2, .inr (.inr ⟨hB, a, hla', by rw [hri]; exact hq, hno, by rw [hri], by rw [hri], by rw [hri], rfl⟩)⟩
  | false =>
    have hno2 : ∀ k, k < a + 1 → sEq (rAt rs k).s q = false := fun k hk => by
      by_cases x : k = a
      · rw [x, hri]; exact hq
      · exact hno k (by omega)
    simp -dsimp -implicitDefEqProofs (maxSteps := 2000000) (disch := first | assumption | omega | (simp only [AW.next_push, AW.next_put]; omega) | ((repeat refine Fresh.push ?_ _); assumption) | (simp only [same_int, same_bool, same_ptr, same_slice, same_sliceP, same_nil, same_agg2, same_string]; done) | (simp [oneCell, AW.next_push]; done) | fail) only [go_sem, Nat.reduceEqDiff, reduceIte, Nat.reduceAdd, Int.toNat_natCast, Nat.add_zero, Owes_true, Try.results29, e0, e1, e4, e9, hla, indexV_eq, a0, Nat.add_zero, hq]
    refine ⟨_, by omega, a + 1, by omega, rfl, rfl, by (simp -dsimp -implicitDefEqProofs (maxSteps := 2000000) (disch := first | assumption | omega | (simp only [AW.next_push, AW.next_put]; omega) | ((repeat refine Fresh.push ?_ _); assumption) | (simp only [same_int, same_bool, same_ptr, same_slice, same_sliceP, same_nil, same_agg2, same_string]; done) | (simp [oneCell, AW.next_push]; done) | fail) only [go_sem, Nat.reduceEqDiff, reduceIte, Nat.reduceAdd, Int.toNat_natCast, Nat.add_zero, Owes_true, e0]; try rfl), by (simp -dsimp -implicitDefEqProofs (maxSteps := 2000000) (disch := first | assumption | omega | (simp only [AW.next_push, AW.next_put]; omega) | ((repeat refine Fresh.push ?_ _); assumption) | (simp only [same_int, same_bool, same_ptr, same_slice, same_sliceP, same_nil, same_agg2, same_string]; done) | (simp [oneCell, AW.next_push]; done) | fail) only [go_sem, Nat.reduceEqDiff, reduceIte, Nat.reduceAdd, Int.toNat_natCast, Nat.add_zero, Owes_true, e1]; try rfl), by (simp -dsimp -implicitDefEqProofs (maxSteps := 2000000) (disch := first | assumption | omega | (simp only [AW.next_push, AW.next_put]; omega) | ((repeat refine Fresh.push ?_ _); assumption) | (simp only [same_int, same_bool, same_ptr, same_slice, same_sliceP, same_nil, same_agg2, same_string]; done) | (simp [oneCell, AW.next_push]; done) | fail) only [go_sem, Nat.reduceEqDiff, reduceIte, Nat.reduceAdd, Int.toNat_natCast, Nat.add_zero, Owes_true, e4]; try rfl), by (simp -dsimp -implicitDefEqProofs (maxSteps := 2000000) (disch := first | assumption | omega | (simp only [AW.next_push, AW.next_put]; omega) | ((repeat refine Fresh.push ?_ _); assumption) | (simp only [same_int, same_bool, same_ptr, same_slice, same_sliceP, same_nil, same_agg2, same_string]; done) | (simp [oneCell, AW.next_push]; done) | fail) only [go_sem, Nat.reduceEqDiff, reduceIte, Nat.reduceAdd, Int.toNat_natCast, Nat.add_zero, Owes_true, e9]; try rfl), rfl, hno2⟩
end Go.Proofs
