/- A fake that is returned, and the law of it on the machine. -/
import Derived.Test.YteeheldahpoppaaGreatNb
import Derived.Test.YteeheldahpoppaaGreatFa
import Derived.Test.YteeheldahpoppaaGreatUa
set_option linter.unusedVariables false
set_option linter.unusedSimpArgs false
/- Several rows of one's own beside each other: which blocks are whose. -/
namespace Go.Sim
open Go Go.RowKit
def AOwnS (S : Nat → Prop) (w : AW) (e : TypeId) (size : Nat) (v : Value) (n : Nat) (cells : List Value) : Prop :=
  (v = .slice none 0 0 ∧ n = 0 ∧ cells = []) ∨
  ∃ b r, v = .slice (some ⟨b, 0, none⟩) n n ∧ S b ∧ b < w.next ∧ S r ∧ r < w.next ∧ w.blk b = some (.cells cells e r 0 size) ∧ cells.length = n * size ∧ (∀ x ∈ cells, oneCell x = true) ∧
    ∀ j ∈ members (w.family r) r, S j ∧ j < w.next ∧ ∃ c e', w.blk j = some (.cells c e' r 0 size) ∧ c.length ≤ n * size
theorem AOwnS.own {S : Nat → Prop} {w : AW} {e : TypeId} {size n : Nat} {v : Value} {cells : List Value} (h : AOwnS S w e size v n cells) : AOwn 0 w e size v n cells := by
  rcases h with h | ⟨b, r, a1, a2, a3, a4, a5, a6, a7, a9, a8⟩
  · exact .inl h
  · exact .inr ⟨b, r, a1, Nat.zero_le _, a3, Nat.zero_le _, a5, a6, a7, a9, fun j hj => let ⟨_, c, d⟩ := a8 j hj; ⟨Nat.zero_le _, c, d⟩⟩
/-- What is not touched stays. -/
theorem AOwnS.keepS {S : Nat → Prop} {w w' : AW} {e : TypeId} {size n : Nat} {v : Value} {cells : List Value} (h : AOwnS S w e size v n cells) (hb : ∀ j, j < w.next → w'.blk j = w.blk j) (hf : ∀ j, j < w.next → S j → w'.family j = w.family j) (hn : w.next ≤ w'.next) : AOwnS S w' e size v n cells := by
  rcases h with h | ⟨b, r, a1, a2, a3, a4, a5, a6, a7, a9, a8⟩
  · exact .inl h
  · refine .inr ⟨b, r, a1, a2, by omega, a4, by omega, by rw [hb b a3]; exact a6, a7, a9, fun j hj => ?_⟩
    rw [hf r a5 a4] at hj
    obtain ⟨c1, c2, c, e', c3, c4⟩ := a8 j hj
    exact ⟨c1, by omega, c, e', by rw [hb j c2]; exact c3, c4⟩
theorem AOwnS.keep {S : Nat → Prop} {w w' : AW} {e : TypeId} {size n : Nat} {v : Value} {cells : List Value} (h : AOwnS S w e size v n cells) (k : Keep w.next w w') : AOwnS S w' e size v n cells :=
  h.keepS (fun j hj => k.blk j hj) (fun j hj _ => k.fam j hj) k.next
theorem AOwnS.isSlice {S : Nat → Prop} {w : AW} {e : TypeId} {size n : Nat} {v : Value} {cells : List Value} (h : AOwnS S w e size v n cells) : ∃ p n c, v = .slice p n c := by
  rcases h with ⟨rfl, _⟩ | ⟨_, _, rfl, _⟩
  · exact ⟨_, _, _, rfl⟩
  · exact ⟨_, _, _, rfl⟩
/-- One element, appended from a new block, to a row whose blocks are known. -/
theorem append_oneS {g : Prg} {w : AW} {S : Nat → Prop} {ty e e' : TypeId} {a1 a2 : Bool} {n1 b1 size b2 : Nat} {d2 : TypeDesc} {z1 z2 : Value} (h : g.ty ty = some ⟨a1, .slice e, n1, b1, z1⟩) (h2 : g.ty e = some ⟨a2, d2, size, b2, z2⟩) (hz : z2.cells.size = size) (hb2 : b2 ≤ 1048576) (hs : 1 ≤ size)
    {v : Value} {n : Nat} {cells : List Value} (hv : AOwnS S w e size v n cells) (f : Fresh w) {new : List Value} (hlen : new.length = size) (h1 : ∀ y ∈ new, oneCell y = true) (hroom : n + 1 ≤ 1048576) :
    ∃ v' w', append g (w.push (.cells new e' w.next 0 0)) ty ty v (.slice (some ⟨w.next, 0, none⟩) 1 1) = some (v', w') ∧ AOwnS (fun j => S j ∨ j = w.next + 1) w' e size v' (n + 1) (cells ++ new) ∧ Fresh w' ∧ w'.next = w.next + 2 ∧
      (∀ j, j < w.next → w'.blk j = w.blk j) ∧ (∀ j, j < w.next → ¬ S j → w'.family j = w.family j) ∧ Apnd w w' := by
  have hv1 := hv.keep ((Keep.refl w.next w).push (Nat.le_refl _) (.cells new e' w.next 0 0))
  have f1 := f.push (.cells new e' w.next 0 0)
  have hO := Own.new f e' new
  have hap := Apnd.push w (.cells new e' w.next 0 0)
  have hn1 : (w.push (.cells new e' w.next 0 0)).next = w.next + 1 := AW.next_push _ _
  have hfa : ∀ j, (w.push (.cells new e' w.next 0 0)).family j = w.family j := fun j => AW.family_push _ _ _
  generalize w.push (.cells new e' w.next 0 0) = u at *
  have hnew : aFirst u size 1 (.slice (some ⟨w.next, 0, none⟩) 1 1) = some new := by
    show aCells _ w.next 0 (1 * size) = _
    rw [Nat.one_mul, ← hlen]
    exact aCells_of new 0 fun k v hv => by rw [Nat.zero_add]; exact hO.cell hv (h1 v (List.mem_of_getElem? hv))
  have cond : (Nat.beq z2.cells.size size && Nat.ble (n + 1) bound && Nat.ble b2 bound && Nat.ble 1 size && Nat.beq ty ty) = true := by
    have : bound = 1048576 := rfl
    simp only [Bool.and_eq_true]
    exact ⟨⟨⟨⟨by rw [hz]; exact Nat.beq_refl _, Nat.ble_eq_true_of_le (by omega)⟩, Nat.ble_eq_true_of_le (by omega)⟩, Nat.ble_eq_true_of_le hs⟩, Nat.beq_refl _⟩
  have hle : ∀ k, Nat.ble (k + 1) k = false := fun k => by
    cases q : Nat.ble (k + 1) k with
    | false => rfl
    | true => have := Nat.le_of_ble_eq_true q; omega
  have hfull : u.full = false := rfl
  rcases hv1 with ⟨rfl, rfl, rfl⟩ | ⟨b, r, rfl, q1, q2, q3, q4, q5, q6, q8, q7⟩
  · refine ⟨.slice (some ⟨u.next, 0, none⟩) (0 + 1) (0 + 1), u.push (.cells ([] ++ new) e u.next 0 size), ?_, .inr ⟨u.next, u.next, rfl, .inr hn1, by rw [AW.next_push]; omega, .inr hn1, by rw [AW.next_push]; omega, blk_push_top _ _, by simp [hlen], by simpa using h1, fun j hj => ?_⟩, f1.push _, by rw [AW.next_push]; omega,
      fun j hj => by rw [blk_push_ne (by omega)]; exact hap.blk j hj, fun j hj _ => by rw [AW.family_push]; exact hfa j, hap.trans (Apnd.push u _)⟩
    · have hnil : aFirst u size 0 (.slice none 0 0) = some [] := rfl
      unfold append
      simp only [h, h2, cond, hnew, hle, hnil, AW.grow, hfull]
    · rw [AW.family_push, f1.2 _ (Nat.le_refl _)] at hj
      simp only [members, List.mem_singleton] at hj
      subst hj
      exact ⟨.inr hn1, by rw [AW.next_push]; omega, _, _, blk_push_top _ _, by simp [hlen]⟩
  · have hsz0 : Nat.beq size 0 = false := by rw [nbeq]; simp; omega
    have hszz : Nat.beq size size = true := Nat.beq_refl _
    have hold : aFirst u size n (.slice (some ⟨b, 0, none⟩) n n) = some cells := by
      show aCells u b 0 (n * size) = some cells
      rw [← q6]
      exact aCells_of cells 0 fun i y hy => by simp only [AW.cell?, q5, Nat.zero_add, getL_eq, hy, q8 y (List.mem_of_getElem? hy)]
    have hstr : struckOver u.next (members (u.family r) r) (1 * size) (0 + 0 + n * size) u = u := struckOver_none _ _ _ _ _ fun j hj => by
      obtain ⟨_, _, c, e', a, b⟩ := q7 j hj
      exact ⟨c, e', r, size, a, by omega⟩
    have hbk : ∀ j, (u.lay r (members (u.family r) r) (.cells (cells ++ new) e r (0 + 0) size)).blk j = if j = u.next then some (.cells (cells ++ new) e r (0 + 0) size) else u.blk j := fun j => AW.blk_lay _ _ _ _ _ (Trie.in_ _) (Trie.in_ _)
    have hfm : ∀ j, (u.lay r (members (u.family r) r) (.cells (cells ++ new) e r (0 + 0) size)).family j = if j = r then u.next :: members (u.family r) r else u.family j := fun j => AW.family_lay _ _ _ _ _ (Trie.in_ _) (Trie.in_ _)
    refine ⟨.slice (some ⟨u.next, 0, none⟩) (n + 1) (n + 1), u.lay r (members (u.family r) r) (.cells (cells ++ new) e r (0 + 0) size), ?_, .inr ⟨u.next, r, rfl, .inr hn1, by rw [AW.next_lay]; omega, .inl q3, by rw [AW.next_lay]; omega, by rw [hbk, if_pos rfl], by rw [List.length_append, q6, hlen, Nat.add_mul, Nat.one_mul], fun y hy => ?_, fun j hj => ?_⟩, ⟨fun i hi => ?_, fun i hi => ?_⟩, by rw [AW.next_lay]; omega,
      fun j hj => by rw [hbk, if_neg (by omega)]; exact hap.blk j hj, fun j hj hS => ?_, hap.trans ⟨fun j hj => by rw [hbk, if_neg (by omega)], fun j c e' hj hb hfam => ?_, by rw [AW.next_lay]; omega⟩⟩
    · unfold append
      simp only [h, h2, cond, hnew, hle, hold, AW.grow, hfull, q5, hsz0, hszz, hstr]
    · rcases List.mem_append.mp hy with q | q
      · exact q8 y q
      · exact h1 y q
    · rw [hfm, if_pos rfl] at hj
      simp only [members] at hj
      rcases List.mem_cons.mp hj with q | q
      · subst q
        exact ⟨.inr hn1, by rw [AW.next_lay]; omega, _, _, by rw [hbk, if_pos rfl], by rw [List.length_append, q6, hlen, Nat.add_mul]; omega⟩
      · obtain ⟨c1, c2, c, e', c3, c4⟩ := q7 j q
        exact ⟨.inl c1, by rw [AW.next_lay]; omega, c, e', by rw [hbk, if_neg (by omega)]; exact c3, by rw [Nat.add_mul]; omega⟩
    · rw [AW.next_lay] at hi
      rw [hbk, if_neg (by omega)]; exact f1.1 i (by omega)
    · rw [AW.next_lay] at hi
      rw [hfm, if_neg (by omega)]; exact f1.2 i (by omega)
    · rw [hfm, if_neg (fun q => hS (by subst q; exact q3))]; exact hfa j
    · rw [hfm]
      split
      · rename_i hjr
        subst hjr
        obtain ⟨_, _, c2, e2, hc2, _⟩ := q7 j (by rw [hfam]; simp [members])
        rw [hb] at hc2
        injection hc2 with hc2
        injection hc2 with _ _ _ _ hz0
        omega
      · rfl
end Go.Sim

/- A fake that is returned: what is said of it. -/
namespace Go.Proofs
open Go Go.RowKit Go.Sim
set_option maxRecDepth 100000
theorem seek_ok (xs : List Int) (x : Int) (u : Value) (w : AW) (hx : ArrOf w 1 icells u xs) :
    CallT Tryz.prog Tryz.T (.fn (.func 30) #[]) #[u, .int .i64 x] w (fun v w' => ∃ n : Int, v = .int .i64 n ∧ decide (0 ≤ n) = decide (x ∈ xs) ∧ w = w') := by
  obtain ⟨p, cap, rfl, hcap, hmax, hat⟩ := hx.open
  refine callT_code rfl Tryz.func30 rfl Tryz.s30_eq rfl ?_
  unfold Tryz.s30
  simp -dsimp -implicitDefEqProofs (maxSteps := 2000000) (disch := first | assumption | omega | (simp only [AW.next_push, AW.next_put]; omega) | ((repeat refine Fresh.push ?_ _); assumption) | (simp only [same_int, same_bool, same_ptr, same_slice, same_sliceP, same_nil, same_agg2, same_string]; done) | (simp [oneCell, AW.next_push]; done) | fail) only [go_sem, Nat.reduceEqDiff, reduceIte, Nat.reduceAdd, Int.toNat_natCast, Nat.add_zero, Owes_true, Tryz.results30]
  refine loopR (fun k t ds w1 => ∃ i : Nat, i ≤ xs.length ∧ k = xs.length - i ∧ ds = [] ∧ ev t (.tmp 0) = .slice p xs.length cap ∧ ev t (.tmp 1) = .int .i64 x ∧ ev t (.tmp 5) = .int .i64 (i : Int) ∧ w = w1 ∧ ¬ x ∈ xs.take i) (xs.length) ?_ ?_
  · refine ⟨0, by omega, by omega, rfl, ?_, ?_, ?_, rfl, by simp⟩ <;> simp -dsimp -implicitDefEqProofs (maxSteps := 2000000) (disch := first | assumption | omega | (simp only [AW.next_push, AW.next_put]; omega) | ((repeat refine Fresh.push ?_ _); assumption) | (simp only [same_int, same_bool, same_ptr, same_slice, same_sliceP, same_nil, same_agg2, same_string]; done) | (simp [oneCell, AW.next_push]; done) | fail) only [go_sem, Nat.reduceEqDiff, reduceIte, Nat.reduceAdd, Int.toNat_natCast, Nat.add_zero, Owes_true] <;> rfl
  rintro k t ds w1 ⟨i, hii, rfl, rfl, e0, e1, e5, hw, hall⟩
  subst hw
  by_cases hlt : (i : Int) < (xs.length : Int)
  case neg =>
    have h2 : xs.take i = xs := List.take_of_length_le (by omega)
    rw [h2] at hall
    simp -dsimp -implicitDefEqProofs (maxSteps := 2000000) (disch := first | assumption | omega | (simp only [AW.next_push, AW.next_put]; omega) | ((repeat refine Fresh.push ?_ _); assumption) | (simp only [same_int, same_bool, same_ptr, same_slice, same_sliceP, same_nil, same_agg2, same_string]; done) | (simp [oneCell, AW.next_push]; done) | fail) only [go_sem, Nat.reduceEqDiff, reduceIte, Nat.reduceAdd, Int.toNat_natCast, Nat.add_zero, Owes_true, Tryz.results30, e0, e1, e5, hlt]
    exact ⟨-1, rfl, by rw [decide_eq_false hall]; rfl, trivial⟩
  have hlt' : i < xs.length := by omega
  obtain ⟨b1, o1, rfl, hb1, hcell⟩ := hat i hlt'
  have hc0 := hcell w (.refl _ _) 0 _ rfl
  rw [Nat.add_zero] at hc0
  by_cases hq : xs[i] = x
  · simp -dsimp -implicitDefEqProofs (maxSteps := 2000000) (disch := first | assumption | omega | (simp only [AW.next_push, AW.next_put]; omega) | ((repeat refine Fresh.push ?_ _); assumption) | (simp only [same_int, same_bool, same_ptr, same_slice, same_sliceP, same_nil, same_agg2, same_string]; done) | (simp [oneCell, AW.next_push]; done) | fail) only [go_sem, Nat.reduceEqDiff, reduceIte, Nat.reduceAdd, Int.toNat_natCast, Nat.add_zero, Owes_true, Tryz.results30, e0, e1, e5, hlt, indexV_eq, hc0, hq]
    exact ⟨(i : Int), rfl, by rw [decide_eq_true (show x ∈ xs from hq ▸ List.getElem_mem hlt')]; exact decide_eq_true (Int.natCast_nonneg i), trivial⟩
  · simp -dsimp -implicitDefEqProofs (maxSteps := 2000000) (disch := first | assumption | omega | (simp only [AW.next_push, AW.next_put]; omega) | ((repeat refine Fresh.push ?_ _); assumption) | (simp only [same_int, same_bool, same_ptr, same_slice, same_sliceP, same_nil, same_agg2, same_string]; done) | (simp [oneCell, AW.next_push]; done) | fail) only [go_sem, Nat.reduceEqDiff, reduceIte, Nat.reduceAdd, Int.toNat_natCast, Nat.add_zero, Owes_true, Tryz.results30, e0, e1, e5, hlt, indexV_eq, hc0, hq]
    refine ⟨_, by omega, i + 1, by omega, rfl, rfl, by (simp -dsimp -implicitDefEqProofs (maxSteps := 2000000) (disch := first | assumption | omega | (simp only [AW.next_push, AW.next_put]; omega) | ((repeat refine Fresh.push ?_ _); assumption) | (simp only [same_int, same_bool, same_ptr, same_slice, same_sliceP, same_nil, same_agg2, same_string]; done) | (simp [oneCell, AW.next_push]; done) | fail) only [go_sem, Nat.reduceEqDiff, reduceIte, Nat.reduceAdd, Int.toNat_natCast, Nat.add_zero, Owes_true, e0]; try rfl), by (simp -dsimp -implicitDefEqProofs (maxSteps := 2000000) (disch := first | assumption | omega | (simp only [AW.next_push, AW.next_put]; omega) | ((repeat refine Fresh.push ?_ _); assumption) | (simp only [same_int, same_bool, same_ptr, same_slice, same_sliceP, same_nil, same_agg2, same_string]; done) | (simp [oneCell, AW.next_push]; done) | fail) only [go_sem, Nat.reduceEqDiff, reduceIte, Nat.reduceAdd, Int.toNat_natCast, Nat.add_zero, Owes_true, e1]; try rfl), by (simp -dsimp -implicitDefEqProofs (maxSteps := 2000000) (disch := first | assumption | omega | (simp only [AW.next_push, AW.next_put]; omega) | ((repeat refine Fresh.push ?_ _); assumption) | (simp only [same_int, same_bool, same_ptr, same_slice, same_sliceP, same_nil, same_agg2, same_string]; done) | (simp [oneCell, AW.next_push]; done) | fail) only [go_sem, Nat.reduceEqDiff, reduceIte, Nat.reduceAdd, Int.toNat_natCast, Nat.add_zero, Owes_true, e5]; try rfl), rfl, by rw [List.take_succ_eq_append_getElem hlt']; simp only [List.mem_append, List.mem_singleton]; rintro (h | h); exact hall h; exact hq h.symm⟩

def retZ (ms : List (Int × Int)) (fs : List (Int × Int)) (set bits : List Int) (k : Nat) : Int :=
  if (k : Int) ∈ set then readZ (ms.getD k (0, 0)).1 ((fs.getD k (0, 0)).1 + ringZ (pickZ bits ((k : Int) + 1)) ((fs.getD k (0, 0)).2 - (fs.getD k (0, 0)).1 + 1)) (pickZ bits (3 * (k : Int) + 2)) else -1
def nearZ (ms : List (Int × Int)) (rs : List Int) (fs : List (Int × Int)) (k : Nat) : Int :=
  min (max (rs.getD k 0) (max 0 ((fs.getD k (0, 0)).1 - (ms.getD k (0, 0)).1))) (min 100000 ((fs.getD k (0, 0)).2 + (ms.getD k (0, 0)).1))
def retTo (ms : List (Int × Int)) (fs : List (Int × Int)) (set bits : List Int) (n : Nat) : List Int := (List.range n).map (retZ ms fs set bits)
def nearTo (ms : List (Int × Int)) (rs : List Int) (fs : List (Int × Int)) (n : Nat) : List Int := (List.range n).map (nearZ ms rs fs)
theorem retTo_succ (ms : List (Int × Int)) (fs : List (Int × Int)) (set bits : List Int) (n : Nat) : retTo ms fs set bits (n + 1) = retTo ms fs set bits n ++ [retZ ms fs set bits n] := by simp [retTo, List.range_succ]
theorem nearTo_succ (ms : List (Int × Int)) (rs : List Int) (fs : List (Int × Int)) (n : Nat) : nearTo ms rs fs (n + 1) = nearTo ms rs fs n ++ [nearZ ms rs fs n] := by simp [nearTo, List.range_succ]
theorem retTo_len (ms : List (Int × Int)) (fs : List (Int × Int)) (set bits : List Int) (n : Nat) : (retTo ms fs set bits n).length = n := by simp [retTo]
theorem nearTo_len (ms : List (Int × Int)) (rs : List Int) (fs : List (Int × Int)) (n : Nat) : (nearTo ms rs fs n).length = n := by simp [nearTo]
structure Fk (ms : List (Int × Int)) (rs : List Int) (fs : List (Int × Int)) : Prop where
  good : Good ms rs
  meas : okMs ms = true
  rds : okRs ms.length rs = true
  len : fs.length = ms.length
  spans : ∀ s ∈ fs, okSp s = true
theorem Fk.at {ms : List (Int × Int)} {rs : List Int} {fs : List (Int × Int)} (h : Fk ms rs fs) {k : Nat} (hk : k < ms.length) :
    (0 ≤ (ms.getD k (0, 0)).1 ∧ (ms.getD k (0, 0)).1 ≤ 1000) ∧ (-1 ≤ rs.getD k 0 ∧ rs.getD k 0 ≤ 100000) ∧ 0 ≤ (fs.getD k (0, 0)).1 ∧ (fs.getD k (0, 0)).1 ≤ (fs.getD k (0, 0)).2 ∧ (fs.getD k (0, 0)).2 ≤ 100000 := by
  have h1 : k < rs.length := by have := h.good.rlen; omega
  have h2 : k < fs.length := by have := h.len; omega
  rw [getD_at hk, getD_at h1, getD_at h2]
  refine ⟨h.good.tol _ (List.getElem_mem hk), h.good.rd _ (List.getElem_mem h1), ?_⟩
  have := h.spans _ (List.getElem_mem h2)
  simp only [okSp, Bool.and_eq_true, decide_eq_true_eq] at this
  exact ⟨this.1.1, this.1.2, this.2⟩
theorem retZ_in {ms : List (Int × Int)} {rs : List Int} {fs : List (Int × Int)} (h : Fk ms rs fs) (set bits : List Int) {k : Nat} (hk : k < ms.length) :
    (¬ (k : Int) ∈ set ∧ retZ ms fs set bits k = -1) ∨ (0 ≤ retZ ms fs set bits k ∧ retZ ms fs set bits k ≤ 100000 ∧ (fs.getD k (0, 0)).1 - (ms.getD k (0, 0)).1 ≤ retZ ms fs set bits k ∧ retZ ms fs set bits k ≤ (fs.getD k (0, 0)).2 + (ms.getD k (0, 0)).1) := by
  obtain ⟨h1, h2, h3, h4, h5⟩ := h.at hk
  rw [retZ]
  split
  · have hr := ringZ_lt (n := pickZ bits ((k : Int) + 1)) (m := (fs.getD k (0, 0)).2 - (fs.getD k (0, 0)).1 + 1) (by omega)
    have := readZ_true (tol := (ms.getD k (0, 0)).1) (size := (fs.getD k (0, 0)).1 + ringZ (pickZ bits ((k : Int) + 1)) ((fs.getD k (0, 0)).2 - (fs.getD k (0, 0)).1 + 1)) (bit := pickZ bits (3 * (k : Int) + 2)) h1.1 (by omega)
    exact .inr (by omega)
  · rename_i hn
    exact .inl ⟨hn, rfl⟩
theorem nearZ_in {ms : List (Int × Int)} {rs : List Int} {fs : List (Int × Int)} (h : Fk ms rs fs) {k : Nat} (hk : k < ms.length) : 0 ≤ nearZ ms rs fs k ∧ nearZ ms rs fs k ≤ 100000 := by
  obtain ⟨h1, h2, h3, h4, h5⟩ := h.at hk
  simp only [nearZ]; omega
theorem okRs_map {n : Nat} {g : Nat → Int} (h : ∀ k, k < n → -1 ≤ g k ∧ g k ≤ 100000) : okRs n ((List.range n).map g) = true := by
  simp only [okRs, List.length_map, List.length_range, decide_true, Bool.true_and, List.all_eq_true]
  intro r hr
  obtain ⟨k, hk, rfl⟩ := List.mem_map.mp hr
  rw [inR_iff]
  exact h k (by simpa using hk)
theorem ret_ok {ms : List (Int × Int)} {rs : List Int} {fs : List (Int × Int)} (h : Fk ms rs fs) (set bits : List Int) : checkE ms [rs, retTo ms fs set bits ms.length] = 0 := by
  have : okRs ms.length (retTo ms fs set bits ms.length) = true := okRs_map fun k hk => by rcases retZ_in h set bits hk with q | q <;> omega
  simp [checkE, h.meas, h.rds, this]
theorem near_ok {ms : List (Int × Int)} {rs : List Int} {fs : List (Int × Int)} (h : Fk ms rs fs) : checkE ms [rs, nearTo ms rs fs ms.length] = 0 := by
  have : okRs ms.length (nearTo ms rs fs ms.length) = true := okRs_map fun k hk => by have := nearZ_in h hk; omega
  simp [checkE, h.meas, h.rds, this]
theorem ret_dis {ms : List (Int × Int)} {rs : List Int} {fs : List (Int × Int)} (h : Fk ms rs fs) {set bits : List Int} (hset : ∀ i ∈ set, 0 ≤ i ∧ i < ms.length) (hf : set.any (findAt ms rs fs) = true) : agreeB ms rs (retTo ms fs set bits ms.length) = false := by
  obtain ⟨i, hi, hfi⟩ := List.any_eq_true.mp hf
  obtain ⟨h0, h1⟩ := hset i hi
  obtain ⟨k, rfl⟩ := Int.eq_ofNat_of_zero_le h0
  have hk : k < ms.length := by omega
  rw [agreeB, if_pos (ret_ok h set bits)]
  refine agreeTo_not hk ?_
  obtain ⟨a1, a2, a3, a4, a5⟩ := h.at hk
  have e : (retTo ms fs set bits ms.length).getD k 0 = retZ ms fs set bits k := by
    rw [getD_at (by rw [retTo_len]; exact hk)]; simp [retTo]
  rw [dis, e]
  simp only [findAt, find1, Int.toNat_natCast, Bool.and_eq_true, Bool.or_eq_true, decide_eq_true_eq] at hfi
  rcases retZ_in h set bits hk with q | q
  · exact absurd hi q.1
  · simp only [dis1, Bool.and_eq_true, decide_eq_true_eq]
    omega
theorem near_agree {ms : List (Int × Int)} {rs : List Int} {fs : List (Int × Int)} (h : Fk ms rs fs) : agreeB ms rs (nearTo ms rs fs ms.length) = decide ((foundTo ms rs fs ms.length).length = 0) := by
  have key : ∀ k, k < ms.length → dis ms rs (nearTo ms rs fs ms.length) k = find1 (ms.getD k (0, 0)) (rs.getD k 0) (fs.getD k (0, 0)) := by
    intro k hk
    obtain ⟨a1, a2, a3, a4, a5⟩ := h.at hk
    have e : (nearTo ms rs fs ms.length).getD k 0 = nearZ ms rs fs k := by
      rw [getD_at (by rw [nearTo_len]; exact hk)]; simp [nearTo]
    rw [dis, e, Bool.eq_iff_iff]
    have hN : nearZ ms rs fs k = min (max (rs.getD k 0) (max 0 ((fs.getD k (0, 0)).1 - (ms.getD k (0, 0)).1))) (min 100000 ((fs.getD k (0, 0)).2 + (ms.getD k (0, 0)).1)) := rfl
    simp only [dis1, find1, Bool.and_eq_true, Bool.or_eq_true, decide_eq_true_eq]
    omega
  rw [agreeB, if_pos (near_ok h), agreeTo, foundTo, Bool.eq_iff_iff]
  simp only [List.all_eq_true, List.mem_range, List.length_map, decide_eq_true_eq, List.length_eq_zero_iff, List.filter_eq_nil_iff, Bool.not_eq_true']
  constructor
  · intro q k hk; rw [← key k hk, q k hk]; simp
  · intro q k hk; rw [key k hk]; simpa using q k hk
end Go.Proofs

/- No fake passes: the law on the machine. -/
namespace Go.Proofs
open Go Go.RowKit Go.Sim
set_option maxRecDepth 100000
theorem same_sliceN (m : Nat) (p : Option Addr) (n c : Nat) : same (m + 1) (.slice p n c) (.slice p n c) = true := by
  cases p with
  | none => simp [same]
  | some a => obtain ⟨b, o, s⟩ := a; cases s <;> simp [same]
theorem same_agg1 (p : Option Addr) (n c : Nat) : same 12 (.agg #[.slice p n c]) (.agg #[.slice p n c]) = true := by
  show same.all 11 [_] [_] = true
  simp only [same.all, same_sliceN 10, Bool.and_self]
theorem askE_parts {ms : List (Int × Int)} {rs : List Int} {fss : List (List (Int × Int))} (h : askE ms [rs] fss = 0) : okMs ms = true ∧ okRs ms.length rs = true ∧ okFs ms.length fss = true := by
  by_cases hM : okMs ms = true
  case neg => simp [askE, hM] at h
  by_cases hR : okRs ms.length rs = true
  case neg => simp [askE, hM, hR] at h
  by_cases hF : okFs ms.length fss = true
  case neg => simp [askE, hM, hR, hF] at h
  exact ⟨hM, hR, hF⟩
theorem askE_one {ms : List (Int × Int)} {rs : List Int} {fss : List (List (Int × Int))} (h : askE ms [rs] fss = 0) {fs : List (Int × Int)} (hf : fs ∈ fss) : askE ms [rs] [fs] = 0 := by
  obtain ⟨hM, hR, hF⟩ := askE_parts h
  simp only [okFs, Bool.and_eq_true, decide_eq_true_eq, List.all_eq_true] at hF
  have : okFs ms.length [fs] = true := by simp [okFs, hF.2 fs hf]
  simp [askE, hM, hR, this]
theorem showsE_zero {ms : List (Int × Int)} {rs : List Int} {fss : List (List (Int × Int))} {set : List Int} (h : showsE ms rs fss set = 0) : askE ms [rs] fss = 0 ∧ okTo ms.length set set.length = true := by
  by_cases hE : askE ms [rs] fss = 0
  case neg => rw [showsE, if_neg hE] at h; exact absurd h hE
  by_cases hO : okTo ms.length set set.length = true
  case neg => rw [showsE, if_pos hE, if_neg hO] at h; omega
  exact ⟨hE, hO⟩
theorem Grown.appS {w W w' : AW} (h : Grown w W) {S : Nat → Prop} (hS : ∀ j, S j → w.next ≤ j) (hf : Fresh w') (hb : ∀ j, j < W.next → w'.blk j = W.blk j) (hfa : ∀ j, j < W.next → ¬ S j → w'.family j = W.family j) (hn : W.next ≤ w'.next) : Grown w w' := by
  have := h.1.next
  exact ⟨⟨fun i hi => (hb i (by omega)).trans (h.1.blk i hi), fun i hi => (hfa i (by omega) (fun q => by have := hS i q; omega)).trans (h.1.fam i hi), by omega⟩, hf⟩
set_option maxHeartbeats 4000000 in
theorem swap_law (w : AW) (xs : List Value) (f : Fresh w) (h : HdAll Tryz.prog w [38, 24, 24] xs) : CallT Tryz.prog Tryz.T (.fn (.func 7) #[]) xs.toArray w fun v _ => v = .bool true := by
  cases h with
  | cons n1 h1 h =>
  cases h with
  | cons n2 h2 h =>
  cases h with
  | cons n3 h3 h =>
  cases h
  obtain ⟨a, b, c, ms, rs, fss, rfl, hs, hr, hF⟩ := given_skill h1
  obtain ⟨set, hS⟩ := given_intsV h2
  obtain ⟨bits, hb⟩ := given_intsV h3
  clear h1 h2 h3
  rename_i y z
  show CallT Tryz.prog Tryz.T (.fn (.func 7) #[]) #[.agg #[a, b, c], y, z] w _
  obtain ⟨vs, hvl, hvs, hvr⟩ := id hF
  obtain ⟨p, cap, rfl, hcap, hmax, hat⟩ := hs.open
  obtain ⟨q, cap2, rfl, hcap2, hmax2, hat2⟩ := hr.open
  obtain ⟨r, cap3, rfl, hcap3, hmax3, hat3⟩ := hvs.open
  obtain ⟨py, capy, rfl, hcapy, hmaxy, haty⟩ := hS.open
  obtain ⟨pz, capz, rfl, hcapz, hmaxz, hatz⟩ := hb.open
  have hO := Own.new f 38 [.slice p ms.length cap, .slice q rs.length cap2, .slice r vs.length cap3]
  have g0 := (Grown.refl f).push (.cells [.slice p ms.length cap, .slice q rs.length cap2, .slice r vs.length cap3] 38 w.next 0 0)
  have c0 := hO.cell (o := 0) rfl rfl
  have c1 := hO.cell (o := 1) rfl rfl
  have c2 := hO.cell (o := 2) rfl rfl
  refine callT_code rfl Tryz.func7 rfl Tryz.s7_eq rfl ?_
  unfold Tryz.s7
  simp -dsimp -implicitDefEqProofs (maxSteps := 2000000) (disch := first | assumption | omega | (simp only [AW.next_push, AW.next_put]; omega) | ((repeat refine Fresh.push ?_ _); assumption) | (simp only [same_int, same_bool, same_ptr, same_slice, same_sliceP, same_nil, same_agg2, same_string]; done) | (simp [oneCell, AW.next_push]; done) | fail) only [go_sem, Nat.reduceEqDiff, reduceIte, Nat.reduceAdd, Int.toNat_natCast, Nat.add_zero, Owes_true, Tryz.results7, Nat.zero_add, c0, c1, c2]
  apply callV_of (e := rfl)
  · exact Shows_ok ms rs fss set _ _ _ _ _ g0.2 (hs.grown g0) (hr.grown g0) (hF.grown g0) (hS.grown g0)
  rintro _ w1 ⟨rfl, hg1⟩
  have g1 := g0.trans hg1
  have hf1 := g1.2
  have hO1 := hO.keep hg1.1
  clear c0 c1 c2
  have c0 := hO1.cell (o := 0) rfl rfl
  have c1 := hO1.cell (o := 1) rfl rfl
  have c2 := hO1.cell (o := 2) rfl rfl
  by_cases hE : showsE ms rs fss set = 0
  case neg =>
    have hR : showsR ms rs fss set = false := by rw [showsR, decide_eq_false hE]; rfl
    rw [hR]
    simp -dsimp -implicitDefEqProofs (maxSteps := 2000000) (disch := first | assumption | omega | (simp only [AW.next_push, AW.next_put]; omega) | ((repeat refine Fresh.push ?_ _); assumption) | (simp only [same_int, same_bool, same_ptr, same_slice, same_sliceP, same_nil, same_agg2, same_string]; done) | (simp [oneCell, AW.next_push]; done) | fail) only [go_sem, Nat.reduceEqDiff, reduceIte, Nat.reduceAdd, Int.toNat_natCast, Nat.add_zero, Owes_true, Tryz.results7, hE]
    apply callV_of (e := rfl)
    · exact callT_told (Q := fun v w' => v = .bool true ∧ w1 = w') (v := .bool true) (w' := w1) rfl ⟨rfl, rfl⟩
    rintro _ w8 ⟨rfl, rfl⟩
    simp -dsimp -implicitDefEqProofs (maxSteps := 2000000) (disch := first | assumption | omega | (simp only [AW.next_push, AW.next_put]; omega) | ((repeat refine Fresh.push ?_ _); assumption) | (simp only [same_int, same_bool, same_ptr, same_slice, same_sliceP, same_nil, same_agg2, same_string]; done) | (simp [oneCell, AW.next_push]; done) | fail) only [go_sem, Nat.reduceEqDiff, reduceIte, Nat.reduceAdd, Int.toNat_natCast, Nat.add_zero, Owes_true, Tryz.results7]
  by_cases h0 : (vs.length : Int) = 0
  · simp -dsimp -implicitDefEqProofs (maxSteps := 2000000) (disch := first | assumption | omega | (simp only [AW.next_push, AW.next_put]; omega) | ((repeat refine Fresh.push ?_ _); assumption) | (simp only [same_int, same_bool, same_ptr, same_slice, same_sliceP, same_nil, same_agg2, same_string]; done) | (simp [oneCell, AW.next_push]; done) | fail) only [go_sem, Nat.reduceEqDiff, reduceIte, Nat.reduceAdd, Int.toNat_natCast, Nat.add_zero, Owes_true, Tryz.results7, Nat.zero_add, c0, c1, c2, hE, h0]
    apply callV_of (e := rfl)
    · exact callT_told (Q := fun v w' => v = .bool true ∧ w1 = w') (v := .bool true) (w' := w1) rfl ⟨rfl, rfl⟩
    rintro _ w8 ⟨rfl, rfl⟩
    simp -dsimp -implicitDefEqProofs (maxSteps := 2000000) (disch := first | assumption | omega | (simp only [AW.next_push, AW.next_put]; omega) | ((repeat refine Fresh.push ?_ _); assumption) | (simp only [same_int, same_bool, same_ptr, same_slice, same_sliceP, same_nil, same_agg2, same_string]; done) | (simp [oneCell, AW.next_push]; done) | fail) only [go_sem, Nat.reduceEqDiff, reduceIte, Nat.reduceAdd, Int.toNat_natCast, Nat.add_zero, Owes_true, Tryz.results7]
  obtain ⟨hA, hok⟩ := showsE_zero hE
  obtain ⟨hM, hRd, hFk⟩ := askE_parts hA
  obtain ⟨hG, hf10, hfs⟩ := askE_zero hA
  have h8 : ¬ 8 < (ms.length : Int) := by have := hG.len; omega
  have hrl : (rs.length : Int) = (ms.length : Int) := by have := hG.rlen; omega
  have hidx := ringZ_lt (n := pickZ bits 0) (m := (vs.length : Int)) (by omega)
  obtain ⟨k0, hk0⟩ := Int.eq_ofNat_of_zero_le hidx.1
  have hk0l : k0 < vs.length := by omega
  have hk0l' : (k0 : Int) < (vs.length : Int) := by omega
  have hk0f : k0 < fss.length := by omega
  have gp := g1.push (.cells [.slice none 0 0] 40 w1.next 0 0)
  have hlep : WLe (w1.push (.cells [.slice none 0 0] 40 w1.next 0 0)) (w1.push (.cells [.slice none 0 0] 40 w1.next 0 0)) := .refl _
  have hOp := hO1.push (.cells [.slice none 0 0] 40 w1.next 0 0)
  have d2 := hOp.cell (o := 2) rfl rfl
  simp -dsimp -implicitDefEqProofs (maxSteps := 2000000) (disch := first | assumption | omega | (simp only [AW.next_push, AW.next_put]; omega) | ((repeat refine Fresh.push ?_ _); assumption) | (simp only [same_int, same_bool, same_ptr, same_slice, same_sliceP, same_nil, same_agg2, same_string]; done) | (simp [oneCell, AW.next_push]; done) | fail) only [go_sem, Nat.reduceEqDiff, reduceIte, Nat.reduceAdd, Int.toNat_natCast, Nat.add_zero, Owes_true, Tryz.results7, Nat.zero_add, c0, c1, c2, hE, h0, h8, hrl]
  apply callV_of (e := rfl)
  · exact pick_ok bits 0 _ _ (hb.grown gp)
  rintro _ _ ⟨rfl, rfl⟩
  simp -dsimp -implicitDefEqProofs (maxSteps := 2000000) (disch := first | assumption | omega | (simp only [AW.next_push, AW.next_put]; omega) | ((repeat refine Fresh.push ?_ _); assumption) | (simp only [same_int, same_bool, same_ptr, same_slice, same_sliceP, same_nil, same_agg2, same_string]; done) | (simp [oneCell, AW.next_push]; done) | fail) only [go_sem, Nat.reduceEqDiff, reduceIte, Nat.reduceAdd, Int.toNat_natCast, Nat.add_zero, Owes_true, Tryz.results7]
  apply callV_of (e := rfl)
  · exact ring_ok _ (vs.length : Int) (by omega) _
  rintro _ _ ⟨rfl, rfl⟩
  rw [hk0]
  obtain ⟨b3, o3, rfl, hb3, hcell3⟩ := hat3 k0 hk0l
  have hrow := hvr k0 vs[k0] fss[k0] (by simp [hk0l]) (by simp [hk0f])
  obtain ⟨hfl, hsp⟩ := hfs fss[k0] (List.getElem_mem hk0f)
  have hone := askE_one hA (List.getElem_mem hk0f)
  have hshow : showsR ms rs fss set = true → set.any (findAt ms rs fss[k0]) = true := fun hR => by
    rw [showsR, Bool.and_eq_true] at hR
    exact List.all_eq_true.mp hR.2 _ (List.getElem_mem hk0f)
  have z0 := hcell3 _ gp.1 0 _ rfl
  rw [Nat.add_zero] at z0
  obtain ⟨p4, cap4, hv4, hcap4, hmax4, hat4⟩ := hrow.open
  rw [hv4] at z0 hrow
  generalize fss[k0] = fs at *
  rw [hfl] at z0 hrow
  have hFk : Fk ms rs fs := ⟨hG, hM, hRd, hfl, hsp⟩
  have hQ := Own.new hf1 40 [.slice p4 ms.length cap4]
  have gq := g1.push (.cells [.slice p4 ms.length cap4] 40 w1.next 0 0)
  have hOq := hO1.push (.cells [.slice p4 ms.length cap4] 40 w1.next 0 0)
  have q0 := hQ.cell (o := 0) rfl rfl
  have s0 := hOq.cell (o := 0) rfl rfl
  have hsa := same_agg1 p4 ms.length cap4
  simp -dsimp -implicitDefEqProofs (maxSteps := 2000000) (disch := first | assumption | omega | (simp only [AW.next_push, AW.next_put]; omega) | ((repeat refine Fresh.push ?_ _); assumption) | (simp only [same_int, same_bool, same_ptr, same_slice, same_sliceP, same_nil, same_agg2, same_string]; done) | (simp [oneCell, AW.next_push]; done) | fail) only [go_sem, Nat.reduceEqDiff, reduceIte, Nat.reduceAdd, Int.toNat_natCast, Nat.add_zero, Owes_true, Tryz.results7, Nat.zero_add, indexV_eq, z0, q0, s0]
  have hn1 := g1.1.next
  refine loopR (fun k t ds w3 => ∃ i : Nat, i ≤ ms.length ∧ k = ms.length - i ∧ ds = [] ∧ ev t (.tmp 7) = .bool (showsR ms rs fss set) ∧ ev t (.tmp 1) = .slice py set.length capy ∧ ev t (.tmp 2) = .slice pz bits.length capz ∧ ev t (.tmp 3) = .pointer (some ⟨w.next, 0, none⟩) ∧ ev t (.tmp 9) = .pointer (some ⟨w1.next, 0, none⟩) ∧ ev t (.tmp 12) = .int .i64 (i : Int) ∧ (∃ l1 l2 S1 S2, ev t (.tmp 10) = l1 ∧ ev t (.tmp 11) = l2 ∧ AOwnS S1 w3 3 1 l1 i ((retTo ms fs set bits i).flatMap icells) ∧ AOwnS S2 w3 3 1 l2 i ((nearTo ms rs fs i).flatMap icells) ∧ (∀ j, S1 j → S2 j → False) ∧ (∀ j, S1 j → w1.next < j ∧ j < w3.next) ∧ (∀ j, S2 j → w1.next < j ∧ j < w3.next)) ∧ Own w3 w.next 38 [.slice p ms.length cap, .slice q rs.length cap2, .slice (some ⟨b3, o3, none⟩) vs.length cap3] ∧ Own w3 w1.next 40 [.slice p4 ms.length cap4] ∧ Grown w w3) (ms.length) ?_ ?_
  · refine ⟨0, by omega, by omega, rfl, ?_, ?_, ?_, ?_, ?_, ?_, ⟨.slice none 0 0, .slice none 0 0, fun _ => False, fun _ => False, by simp -dsimp -implicitDefEqProofs (maxSteps := 2000000) (disch := first | assumption | omega | (simp only [AW.next_push, AW.next_put]; omega) | ((repeat refine Fresh.push ?_ _); assumption) | (simp only [same_int, same_bool, same_ptr, same_slice, same_sliceP, same_nil, same_agg2, same_string]; done) | (simp [oneCell, AW.next_push]; done) | fail) only [go_sem, Nat.reduceEqDiff, reduceIte, Nat.reduceAdd, Int.toNat_natCast, Nat.add_zero, Owes_true], by simp -dsimp -implicitDefEqProofs (maxSteps := 2000000) (disch := first | assumption | omega | (simp only [AW.next_push, AW.next_put]; omega) | ((repeat refine Fresh.push ?_ _); assumption) | (simp only [same_int, same_bool, same_ptr, same_slice, same_sliceP, same_nil, same_agg2, same_string]; done) | (simp [oneCell, AW.next_push]; done) | fail) only [go_sem, Nat.reduceEqDiff, reduceIte, Nat.reduceAdd, Int.toNat_natCast, Nat.add_zero, Owes_true], .inl ⟨rfl, rfl, rfl⟩, .inl ⟨rfl, rfl, rfl⟩, fun _ q _ => q, fun _ q => q.elim, fun _ q => q.elim⟩, hOq, hQ, gq⟩ <;> simp -dsimp -implicitDefEqProofs (maxSteps := 2000000) (disch := first | assumption | omega | (simp only [AW.next_push, AW.next_put]; omega) | ((repeat refine Fresh.push ?_ _); assumption) | (simp only [same_int, same_bool, same_ptr, same_slice, same_sliceP, same_nil, same_agg2, same_string]; done) | (simp [oneCell, AW.next_push]; done) | fail) only [go_sem, Nat.reduceEqDiff, reduceIte, Nat.reduceAdd, Int.toNat_natCast, Nat.add_zero, Owes_true] <;> rfl
  rintro k t ds w3 ⟨i, hii, rfl, rfl, e7, e1, e2, e3, e9, e12, hAll, hO3, hQ3, hg3⟩
  obtain ⟨l1, l2, S1, S2, e10, e11, hS1, hS2, hdis, hlo1, hlo2⟩ := hAll
  obtain ⟨lp1, ln1, lc1, rfl⟩ := hS1.isSlice
  obtain ⟨lp2, ln2, lc2, rfl⟩ := hS2.isSlice
  obtain ⟨hk, hf⟩ := id hg3
  clear c0 c1 c2 d2 q0 s0
  have c0 := hO3.cell (o := 0) rfl rfl
  by_cases hilt : (i : Int) < (ms.length : Int)
  · have hi : i < ms.length := by omega
    have hir : i < rs.length := by omega
    have hif : i < fs.length := by omega
    have hrlt : (i : Int) < (rs.length : Int) := by omega
    have h8' := hG.len
    obtain ⟨b5, o5, rfl, hb5, hcell⟩ := hat i hi
    obtain ⟨b6, o6, rfl, hb6, hcell2⟩ := hat2 i hir
    obtain ⟨b7, o7, rfl, hb7, hcell4⟩ := hat4 i hif
    have q0 := hQ3.cell (o := 0) rfl rfl
    have y0 := hcell4 w3 hk 0 _ rfl
    have y1 := hcell4 w3 hk 1 _ rfl
    rw [Nat.add_zero] at y0
    obtain ⟨t1, t2, t3, t4, t5⟩ := hFk.at hi
    have hret : retZ ms fs set bits i = if (i : Int) ∈ set then readZ ms[i].1 (fs[i].1 + ringZ (pickZ bits ((i : Int) + 1)) (fs[i].2 - fs[i].1 + 1)) (pickZ bits (3 * (i : Int) + 2)) else -1 := by rw [retZ, getD_at hi, getD_at hif]
    have hnear : nearZ ms rs fs i = min (max rs[i] (max 0 (fs[i].1 - ms[i].1))) (min 100000 (fs[i].2 + ms[i].1)) := by rw [nearZ, getD_at hi, getD_at hif, getD_at hir]
    rw [getD_at hi, getD_at hif, getD_at hir] at *
    have gwp := hg3.push (.cells [.int .i64 fs[i].1, .int .i64 fs[i].2] 58 w3.next 0 0)
    have hXp := Own.new hf 58 [.int .i64 fs[i].1, .int .i64 fs[i].2]
    have hOp := hO3.push (.cells [.int .i64 fs[i].1, .int .i64 fs[i].2] 58 w3.next 0 0)
    have hQp := hQ3.push (.cells [.int .i64 fs[i].1, .int .i64 fs[i].2] 58 w3.next 0 0)
    have hkp := (Keep.refl w3.next w3).push (Nat.le_refl _) (.cells [.int .i64 fs[i].1, .int .i64 fs[i].2] 58 w3.next 0 0)
    have hS1p := hS1.keep hkp
    have hS2p := hS2.keep hkp
    have hnp : (w3.push (.cells [.int .i64 fs[i].1, .int .i64 fs[i].2] 58 w3.next 0 0)).next = w3.next + 1 := AW.next_push _ _
    simp -dsimp -implicitDefEqProofs (maxSteps := 2000000) (disch := first | assumption | omega | (simp only [AW.next_push, AW.next_put]; omega) | ((repeat refine Fresh.push ?_ _); assumption) | (simp only [same_int, same_bool, same_ptr, same_slice, same_sliceP, same_nil, same_agg2, same_string]; done) | (simp [oneCell, AW.next_push]; done) | fail) only [go_sem, Nat.reduceEqDiff, reduceIte, Nat.reduceAdd, Int.toNat_natCast, Nat.add_zero, Owes_true, Tryz.results7, e7, e1, e2, e3, e9, e10, e11, e12, Nat.zero_add, c0, hilt, q0, indexV_eq, y0, y1]
    apply callV_of (e := rfl)
    · exact seek_ok set (i : Int) _ _ (hS.grown gwp)
    rintro _ _ ⟨n, rfl, hn, rfl⟩
    generalize hwp : w3.push (.cells [.int .i64 fs[i].1, .int .i64 fs[i].2] 58 w3.next 0 0) = wp at *
    by_cases hin : (i : Int) ∈ set
    · rw [decide_eq_true hin, decide_eq_true_eq] at hn
      rw [if_pos hin] at hret
      have hrr := ringZ_lt (n := pickZ bits ((i : Int) + 1)) (m := fs[i].2 - fs[i].1 + 1) (by omega)
      have hle : WLe wp wp := .refl _
      have cc0 := hOp.cell (o := 0) rfl rfl
      have x0 := hXp.cell (o := 0) rfl rfl
      have x1 := hXp.cell (o := 1) rfl rfl
      have m0 := hcell wp gwp.1 0 _ rfl
      have m1 := hcell wp gwp.1 1 _ rfl
      rw [Nat.add_zero] at m0
      simp -dsimp -implicitDefEqProofs (maxSteps := 2000000) (disch := first | assumption | omega | (simp only [AW.next_push, AW.next_put]; omega) | ((repeat refine Fresh.push ?_ _); assumption) | (simp only [same_int, same_bool, same_ptr, same_slice, same_sliceP, same_nil, same_agg2, same_string]; done) | (simp [oneCell, AW.next_push]; done) | fail) only [go_sem, Nat.reduceEqDiff, reduceIte, Nat.reduceAdd, Int.toNat_natCast, Nat.add_zero, Owes_true, Tryz.results7, e7, e1, e2, e3, e9, e10, e11, e12, Nat.zero_add, hn, hilt, indexV_eq, cc0, x0, x1, m0, m1]
      apply callV_of (e := rfl)
      · exact pick_ok bits ((i : Int) + 1) _ wp (hb.grown gwp)
      rintro _ _ ⟨rfl, rfl⟩
      simp -dsimp -implicitDefEqProofs (maxSteps := 2000000) (disch := first | assumption | omega | (simp only [AW.next_push, AW.next_put]; omega) | ((repeat refine Fresh.push ?_ _); assumption) | (simp only [same_int, same_bool, same_ptr, same_slice, same_sliceP, same_nil, same_agg2, same_string]; done) | (simp [oneCell, AW.next_push]; done) | fail) only [go_sem, Nat.reduceEqDiff, reduceIte, Nat.reduceAdd, Int.toNat_natCast, Nat.add_zero, Owes_true, Tryz.results7]
      apply callV_of (e := rfl)
      · exact ring_ok _ _ (by omega) wp
      rintro _ _ ⟨rfl, rfl⟩
      simp -dsimp -implicitDefEqProofs (maxSteps := 2000000) (disch := first | assumption | omega | (simp only [AW.next_push, AW.next_put]; omega) | ((repeat refine Fresh.push ?_ _); assumption) | (simp only [same_int, same_bool, same_ptr, same_slice, same_sliceP, same_nil, same_agg2, same_string]; done) | (simp [oneCell, AW.next_push]; done) | fail) only [go_sem, Nat.reduceEqDiff, reduceIte, Nat.reduceAdd, Int.toNat_natCast, Nat.add_zero, Owes_true, Tryz.results7]
      apply callV_of (e := rfl)
      · exact pick_ok bits (3 * (i : Int) + 2) _ wp (hb.grown gwp)
      rintro _ _ ⟨rfl, rfl⟩
      simp -dsimp -implicitDefEqProofs (maxSteps := 2000000) (disch := first | assumption | omega | (simp only [AW.next_push, AW.next_put]; omega) | ((repeat refine Fresh.push ?_ _); assumption) | (simp only [same_int, same_bool, same_ptr, same_slice, same_sliceP, same_nil, same_agg2, same_string]; done) | (simp [oneCell, AW.next_push]; done) | fail) only [go_sem, Nat.reduceEqDiff, reduceIte, Nat.reduceAdd, Int.toNat_natCast, Nat.add_zero, Owes_true, Tryz.results7]
      apply callV_of (e := rfl)
      · exact read_ok ms[i] (fs[i].1 + ringZ (pickZ bits ((i : Int) + 1)) (fs[i].2 - fs[i].1 + 1)) (pickZ bits (3 * (i : Int) + 2)) t1 (by omega) wp gwp.2
      rintro _ w4 ⟨rfl, hg4⟩
      have hle4 := hg4.1.wle gwp.2
      have gW := gwp.trans hg4
      have hOW := hOp.keep hg4.1
      have hQW := hQp.keep hg4.1
      have hXW := hXp.keep hg4.1
      have hS1W := hS1p.keep hg4.1
      have hS2W := hS2p.keep hg4.1
      have hnW := hg4.1.next
      have hq3 := hQ3.lt
      obtain ⟨l1', w5, happ1, hA5, hf5, hn5, hb5, hfa5, hap5⟩ := append_oneS (e' := 3) Tryz.ty24 Tryz.ty3 rfl (by omega) (by omega) hS1W gW.2 (icells_len (readZ ms[i].1 (fs[i].1 + ringZ (pickZ bits ((i : Int) + 1)) (fs[i].2 - fs[i].1 + 1)) (pickZ bits (3 * (i : Int) + 2)))) (icells_one _) (by omega)
      have hB5 := hS2W.keepS hb5 (fun j hj hj2 => hfa5 j hj (fun q => hdis j q hj2)) (by omega)
      have hO5 := hOW.app hap5
      have hQ5 := hQW.app hap5
      have hX5 := hXW.app hap5
      have g5 : Grown w w5 := gW.appS (fun j q => by have := hlo1 j q; omega) hf5 hb5 hfa5 (by omega)
      have c0 := hO5.cell (o := 0) rfl rfl
      have c1 := hO5.cell (o := 1) rfl rfl
      have x0 := hX5.cell (o := 0) rfl rfl
      have x1 := hX5.cell (o := 1) rfl rfl
      have m0 := hcell w5 g5.1 0 _ rfl
      have r0 := hcell2 w5 g5.1 0 _ rfl
      rw [Nat.add_zero] at m0 r0
      obtain ⟨l2', w6, happ2, hB6, hf6, hn6, hb6, hfa6, hap6⟩ := append_oneS (e' := 3) Tryz.ty24 Tryz.ty3 rfl (by omega) (by omega) hB5 hf5 (icells_len (min (max rs[i] (max 0 (fs[i].1 - ms[i].1))) (min 100000 (fs[i].2 + ms[i].1)))) (icells_one _) (by omega)
      obtain ⟨vp, vn, vc, rfl⟩ := hB6.isSlice
      have hA6 := hA5.keepS hb6 (fun j hj hj2 => hfa6 j hj (fun q => by
        rcases hj2 with hj2 | hj2
        · exact hdis j hj2 q
        · have := hlo2 j q; omega)) (by omega)
      simp only [icells] at happ1 happ2
      simp -dsimp -implicitDefEqProofs (maxSteps := 2000000) (disch := first | assumption | omega | (simp only [AW.next_push, AW.next_put]; omega) | ((repeat refine Fresh.push ?_ _); assumption) | (simp only [same_int, same_bool, same_ptr, same_slice, same_sliceP, same_nil, same_agg2, same_string]; done) | (simp [oneCell, AW.next_push]; done) | fail) only [go_sem, Nat.reduceEqDiff, reduceIte, Nat.reduceAdd, Int.toNat_natCast, Nat.add_zero, Owes_true, Tryz.results7, e7, e1, e2, e3, e9, e10, e11, e12, Nat.zero_add, hilt, hrlt, indexV_eq, happ1, happ2, c0, c1, x0, x1, m0, r0]
      refine ⟨_, by omega, i + 1, by omega, rfl, rfl, by (simp -dsimp -implicitDefEqProofs (maxSteps := 2000000) (disch := first | assumption | omega | (simp only [AW.next_push, AW.next_put]; omega) | ((repeat refine Fresh.push ?_ _); assumption) | (simp only [same_int, same_bool, same_ptr, same_slice, same_sliceP, same_nil, same_agg2, same_string]; done) | (simp [oneCell, AW.next_push]; done) | fail) only [go_sem, Nat.reduceEqDiff, reduceIte, Nat.reduceAdd, Int.toNat_natCast, Nat.add_zero, Owes_true, e7]; try rfl), by (simp -dsimp -implicitDefEqProofs (maxSteps := 2000000) (disch := first | assumption | omega | (simp only [AW.next_push, AW.next_put]; omega) | ((repeat refine Fresh.push ?_ _); assumption) | (simp only [same_int, same_bool, same_ptr, same_slice, same_sliceP, same_nil, same_agg2, same_string]; done) | (simp [oneCell, AW.next_push]; done) | fail) only [go_sem, Nat.reduceEqDiff, reduceIte, Nat.reduceAdd, Int.toNat_natCast, Nat.add_zero, Owes_true, e1]; try rfl), by (simp -dsimp -implicitDefEqProofs (maxSteps := 2000000) (disch := first | assumption | omega | (simp only [AW.next_push, AW.next_put]; omega) | ((repeat refine Fresh.push ?_ _); assumption) | (simp only [same_int, same_bool, same_ptr, same_slice, same_sliceP, same_nil, same_agg2, same_string]; done) | (simp [oneCell, AW.next_push]; done) | fail) only [go_sem, Nat.reduceEqDiff, reduceIte, Nat.reduceAdd, Int.toNat_natCast, Nat.add_zero, Owes_true, e2]; try rfl), by (simp -dsimp -implicitDefEqProofs (maxSteps := 2000000) (disch := first | assumption | omega | (simp only [AW.next_push, AW.next_put]; omega) | ((repeat refine Fresh.push ?_ _); assumption) | (simp only [same_int, same_bool, same_ptr, same_slice, same_sliceP, same_nil, same_agg2, same_string]; done) | (simp [oneCell, AW.next_push]; done) | fail) only [go_sem, Nat.reduceEqDiff, reduceIte, Nat.reduceAdd, Int.toNat_natCast, Nat.add_zero, Owes_true, e3]; try rfl), by (simp -dsimp -implicitDefEqProofs (maxSteps := 2000000) (disch := first | assumption | omega | (simp only [AW.next_push, AW.next_put]; omega) | ((repeat refine Fresh.push ?_ _); assumption) | (simp only [same_int, same_bool, same_ptr, same_slice, same_sliceP, same_nil, same_agg2, same_string]; done) | (simp [oneCell, AW.next_push]; done) | fail) only [go_sem, Nat.reduceEqDiff, reduceIte, Nat.reduceAdd, Int.toNat_natCast, Nat.add_zero, Owes_true, e9]; try rfl), by (simp -dsimp -implicitDefEqProofs (maxSteps := 2000000) (disch := first | assumption | omega | (simp only [AW.next_push, AW.next_put]; omega) | ((repeat refine Fresh.push ?_ _); assumption) | (simp only [same_int, same_bool, same_ptr, same_slice, same_sliceP, same_nil, same_agg2, same_string]; done) | (simp [oneCell, AW.next_push]; done) | fail) only [go_sem, Nat.reduceEqDiff, reduceIte, Nat.reduceAdd, Int.toNat_natCast, Nat.add_zero, Owes_true, e12]; try rfl), ⟨l1', .slice vp vn vc, _, _, by simp -dsimp -implicitDefEqProofs (maxSteps := 2000000) (disch := first | assumption | omega | (simp only [AW.next_push, AW.next_put]; omega) | ((repeat refine Fresh.push ?_ _); assumption) | (simp only [same_int, same_bool, same_ptr, same_slice, same_sliceP, same_nil, same_agg2, same_string]; done) | (simp [oneCell, AW.next_push]; done) | fail) only [go_sem, Nat.reduceEqDiff, reduceIte, Nat.reduceAdd, Int.toNat_natCast, Nat.add_zero, Owes_true], by simp -dsimp -implicitDefEqProofs (maxSteps := 2000000) (disch := first | assumption | omega | (simp only [AW.next_push, AW.next_put]; omega) | ((repeat refine Fresh.push ?_ _); assumption) | (simp only [same_int, same_bool, same_ptr, same_slice, same_sliceP, same_nil, same_agg2, same_string]; done) | (simp [oneCell, AW.next_push]; done) | fail) only [go_sem, Nat.reduceEqDiff, reduceIte, Nat.reduceAdd, Int.toNat_natCast, Nat.add_zero, Owes_true], by rw [retTo_succ, List.flatMap_append, hret]; simpa using hA6, by rw [nearTo_succ, List.flatMap_append, hnear]; simpa using hB6, ?_, ?_, ?_⟩, hO5.app hap6, hQ5.app hap6, g5.appS (fun j q => by have := hlo2 j q; omega) hf6 hb6 hfa6 (by omega)⟩
      · intro j q1 q2
        rcases q1 with q1 | q1
        · rcases q2 with q2 | q2
          · exact hdis j q1 q2
          · have := hlo1 j q1; omega
        · rcases q2 with q2 | q2
          · have := hlo2 j q2; omega
          · omega
      · intro j q
        rcases q with q | q
        · have := hlo1 j q; omega
        · omega
      · intro j q
        rcases q with q | q
        · have := hlo2 j q; omega
        · omega
    · rw [decide_eq_false hin, decide_eq_false_iff_not] at hn
      rw [if_neg hin] at hret
      have hg4 := Grown.refl gwp.2
      simp -dsimp -implicitDefEqProofs (maxSteps := 2000000) (disch := first | assumption | omega | (simp only [AW.next_push, AW.next_put]; omega) | ((repeat refine Fresh.push ?_ _); assumption) | (simp only [same_int, same_bool, same_ptr, same_slice, same_sliceP, same_nil, same_agg2, same_string]; done) | (simp [oneCell, AW.next_push]; done) | fail) only [go_sem, Nat.reduceEqDiff, reduceIte, Nat.reduceAdd, Int.toNat_natCast, Nat.add_zero, Owes_true, Tryz.results7, hn]
      have gW := gwp.trans hg4
      have hOW := hOp.keep hg4.1
      have hQW := hQp.keep hg4.1
      have hXW := hXp.keep hg4.1
      have hS1W := hS1p.keep hg4.1
      have hS2W := hS2p.keep hg4.1
      have hnW := hg4.1.next
      have hq3 := hQ3.lt
      obtain ⟨l1', w5, happ1, hA5, hf5, hn5, hb5, hfa5, hap5⟩ := append_oneS (e' := 3) Tryz.ty24 Tryz.ty3 rfl (by omega) (by omega) hS1W gW.2 (icells_len (-1)) (icells_one _) (by omega)
      have hB5 := hS2W.keepS hb5 (fun j hj hj2 => hfa5 j hj (fun q => hdis j q hj2)) (by omega)
      have hO5 := hOW.app hap5
      have hQ5 := hQW.app hap5
      have hX5 := hXW.app hap5
      have g5 : Grown w w5 := gW.appS (fun j q => by have := hlo1 j q; omega) hf5 hb5 hfa5 (by omega)
      have c0 := hO5.cell (o := 0) rfl rfl
      have c1 := hO5.cell (o := 1) rfl rfl
      have x0 := hX5.cell (o := 0) rfl rfl
      have x1 := hX5.cell (o := 1) rfl rfl
      have m0 := hcell w5 g5.1 0 _ rfl
      have r0 := hcell2 w5 g5.1 0 _ rfl
      rw [Nat.add_zero] at m0 r0
      obtain ⟨l2', w6, happ2, hB6, hf6, hn6, hb6, hfa6, hap6⟩ := append_oneS (e' := 3) Tryz.ty24 Tryz.ty3 rfl (by omega) (by omega) hB5 hf5 (icells_len (min (max rs[i] (max 0 (fs[i].1 - ms[i].1))) (min 100000 (fs[i].2 + ms[i].1)))) (icells_one _) (by omega)
      obtain ⟨vp, vn, vc, rfl⟩ := hB6.isSlice
      have hA6 := hA5.keepS hb6 (fun j hj hj2 => hfa6 j hj (fun q => by
        rcases hj2 with hj2 | hj2
        · exact hdis j hj2 q
        · have := hlo2 j q; omega)) (by omega)
      simp only [icells] at happ1 happ2
      simp -dsimp -implicitDefEqProofs (maxSteps := 2000000) (disch := first | assumption | omega | (simp only [AW.next_push, AW.next_put]; omega) | ((repeat refine Fresh.push ?_ _); assumption) | (simp only [same_int, same_bool, same_ptr, same_slice, same_sliceP, same_nil, same_agg2, same_string]; done) | (simp [oneCell, AW.next_push]; done) | fail) only [go_sem, Nat.reduceEqDiff, reduceIte, Nat.reduceAdd, Int.toNat_natCast, Nat.add_zero, Owes_true, Tryz.results7, e7, e1, e2, e3, e9, e10, e11, e12, Nat.zero_add, hilt, hrlt, indexV_eq, happ1, happ2, c0, c1, x0, x1, m0, r0]
      refine ⟨_, by omega, i + 1, by omega, rfl, rfl, by (simp -dsimp -implicitDefEqProofs (maxSteps := 2000000) (disch := first | assumption | omega | (simp only [AW.next_push, AW.next_put]; omega) | ((repeat refine Fresh.push ?_ _); assumption) | (simp only [same_int, same_bool, same_ptr, same_slice, same_sliceP, same_nil, same_agg2, same_string]; done) | (simp [oneCell, AW.next_push]; done) | fail) only [go_sem, Nat.reduceEqDiff, reduceIte, Nat.reduceAdd, Int.toNat_natCast, Nat.add_zero, Owes_true, e7]; try rfl), by (simp -dsimp -implicitDefEqProofs (maxSteps := 2000000) (disch := first | assumption | omega | (simp only [AW.next_push, AW.next_put]; omega) | ((repeat refine Fresh.push ?_ _); assumption) | (simp only [same_int, same_bool, same_ptr, same_slice, same_sliceP, same_nil, same_agg2, same_string]; done) | (simp [oneCell, AW.next_push]; done) | fail) only [go_sem, Nat.reduceEqDiff, reduceIte, Nat.reduceAdd, Int.toNat_natCast, Nat.add_zero, Owes_true, e1]; try rfl), by (simp -dsimp -implicitDefEqProofs (maxSteps := 2000000) (disch := first | assumption | omega | (simp only [AW.next_push, AW.next_put]; omega) | ((repeat refine Fresh.push ?_ _); assumption) | (simp only [same_int, same_bool, same_ptr, same_slice, same_sliceP, same_nil, same_agg2, same_string]; done) | (simp [oneCell, AW.next_push]; done) | fail) only [go_sem, Nat.reduceEqDiff, reduceIte, Nat.reduceAdd, Int.toNat_natCast, Nat.add_zero, Owes_true, e2]; try rfl), by (simp -dsimp -implicitDefEqProofs (maxSteps := 2000000) (disch := first | assumption | omega | (simp only [AW.next_push, AW.next_put]; omega) | ((repeat refine Fresh.push ?_ _); assumption) | (simp only [same_int, same_bool, same_ptr, same_slice, same_sliceP, same_nil, same_agg2, same_string]; done) | (simp [oneCell, AW.next_push]; done) | fail) only [go_sem, Nat.reduceEqDiff, reduceIte, Nat.reduceAdd, Int.toNat_natCast, Nat.add_zero, Owes_true, e3]; try rfl), by (simp -dsimp -implicitDefEqProofs (maxSteps := 2000000) (disch := first | assumption | omega | (simp only [AW.next_push, AW.next_put]; omega) | ((repeat refine Fresh.push ?_ _); assumption) | (simp only [same_int, same_bool, same_ptr, same_slice, same_sliceP, same_nil, same_agg2, same_string]; done) | (simp [oneCell, AW.next_push]; done) | fail) only [go_sem, Nat.reduceEqDiff, reduceIte, Nat.reduceAdd, Int.toNat_natCast, Nat.add_zero, Owes_true, e9]; try rfl), by (simp -dsimp -implicitDefEqProofs (maxSteps := 2000000) (disch := first | assumption | omega | (simp only [AW.next_push, AW.next_put]; omega) | ((repeat refine Fresh.push ?_ _); assumption) | (simp only [same_int, same_bool, same_ptr, same_slice, same_sliceP, same_nil, same_agg2, same_string]; done) | (simp [oneCell, AW.next_push]; done) | fail) only [go_sem, Nat.reduceEqDiff, reduceIte, Nat.reduceAdd, Int.toNat_natCast, Nat.add_zero, Owes_true, e12]; try rfl), ⟨l1', .slice vp vn vc, _, _, by simp -dsimp -implicitDefEqProofs (maxSteps := 2000000) (disch := first | assumption | omega | (simp only [AW.next_push, AW.next_put]; omega) | ((repeat refine Fresh.push ?_ _); assumption) | (simp only [same_int, same_bool, same_ptr, same_slice, same_sliceP, same_nil, same_agg2, same_string]; done) | (simp [oneCell, AW.next_push]; done) | fail) only [go_sem, Nat.reduceEqDiff, reduceIte, Nat.reduceAdd, Int.toNat_natCast, Nat.add_zero, Owes_true], by simp -dsimp -implicitDefEqProofs (maxSteps := 2000000) (disch := first | assumption | omega | (simp only [AW.next_push, AW.next_put]; omega) | ((repeat refine Fresh.push ?_ _); assumption) | (simp only [same_int, same_bool, same_ptr, same_slice, same_sliceP, same_nil, same_agg2, same_string]; done) | (simp [oneCell, AW.next_push]; done) | fail) only [go_sem, Nat.reduceEqDiff, reduceIte, Nat.reduceAdd, Int.toNat_natCast, Nat.add_zero, Owes_true], by rw [retTo_succ, List.flatMap_append, hret]; simpa using hA6, by rw [nearTo_succ, List.flatMap_append, hnear]; simpa using hB6, ?_, ?_, ?_⟩, hO5.app hap6, hQ5.app hap6, g5.appS (fun j q => by have := hlo2 j q; omega) hf6 hb6 hfa6 (by omega)⟩
      · intro j q1 q2
        rcases q1 with q1 | q1
        · rcases q2 with q2 | q2
          · exact hdis j q1 q2
          · have := hlo1 j q1; omega
        · rcases q2 with q2 | q2
          · have := hlo2 j q2; omega
          · omega
      · intro j q
        rcases q with q | q
        · have := hlo1 j q; omega
        · omega
      · intro j q
        rcases q with q | q
        · have := hlo2 j q; omega
        · omega
  obtain rfl : i = ms.length := by omega
  have hl1 : ArrOf w3 1 icells (.slice lp1 ln1 lc1) (retTo ms fs set bits ms.length) := AOwn.arr (by rw [retTo_len]; exact hS1.own) icells_len (by rw [retTo_len]; have := hG.len; omega)
  have hl2 : ArrOf w3 1 icells (.slice lp2 ln2 lc2) (nearTo ms rs fs ms.length) := AOwn.arr (by rw [nearTo_len]; exact hS2.own) icells_len (by rw [nearTo_len]; have := hG.len; omega)
  have c1 := hO3.cell (o := 1) rfl rfl
  simp -dsimp -implicitDefEqProofs (maxSteps := 2000000) (disch := first | assumption | omega | (simp only [AW.next_push, AW.next_put]; omega) | ((repeat refine Fresh.push ?_ _); assumption) | (simp only [same_int, same_bool, same_ptr, same_slice, same_sliceP, same_nil, same_agg2, same_string]; done) | (simp [oneCell, AW.next_push]; done) | fail) only [go_sem, Nat.reduceEqDiff, reduceIte, Nat.reduceAdd, Int.toNat_natCast, Nat.add_zero, Owes_true, Tryz.results7, e7, e1, e2, e3, e9, e10, e11, e12, Nat.zero_add, c0, c1, hilt]
  apply callV_of (e := rfl)
  · exact agree_ok ms rs (retTo ms fs set bits ms.length) _ _ _ w3 hf (hs.grown hg3) (hr.grown hg3) hl1
  rintro _ w4 ⟨rfl, hg4⟩
  have g4 := hg3.trans hg4
  have hO4 := hO3.keep hg4.1
  have hQ4 := hQ3.keep hg4.1
  clear c0 c1
  have c0 := hO4.cell (o := 0) rfl rfl
  have c1 := hO4.cell (o := 1) rfl rfl
  have q0 := hQ4.cell (o := 0) rfl rfl
  have eR := ret_ok hFk set bits
  have eN := near_ok hFk
  rw [eR]
  simp -dsimp -implicitDefEqProofs (maxSteps := 2000000) (disch := first | assumption | omega | (simp only [AW.next_push, AW.next_put]; omega) | ((repeat refine Fresh.push ?_ _); assumption) | (simp only [same_int, same_bool, same_ptr, same_slice, same_sliceP, same_nil, same_agg2, same_string]; done) | (simp [oneCell, AW.next_push]; done) | fail) only [go_sem, Nat.reduceEqDiff, reduceIte, Nat.reduceAdd, Int.toNat_natCast, Nat.add_zero, Owes_true, Tryz.results7, e7, e1, e2, e3, e9, e10, e11, e12, Nat.zero_add, c0, c1, q0]
  apply callV_of (e := rfl)
  · exact Finds_ok ms rs fs _ _ _ w4 g4.2 (hs.grown g4) (hr.grown g4) (hrow.grown ⟨g4.1, g4.2⟩)
  rintro _ w5 ⟨s5, rfl, hs5, hg5⟩
  have g5 := g4.trans hg5
  have hO5 := hO4.keep hg5.1
  rw [hone]
  rw [findsE, if_pos hone] at hs5
  obtain ⟨p5, cap5, rfl, _, _, _⟩ := hs5.open
  clear c0 c1 q0
  have c0 := hO5.cell (o := 0) rfl rfl
  have c1 := hO5.cell (o := 1) rfl rfl
  simp -dsimp -implicitDefEqProofs (maxSteps := 2000000) (disch := first | assumption | omega | (simp only [AW.next_push, AW.next_put]; omega) | ((repeat refine Fresh.push ?_ _); assumption) | (simp only [same_int, same_bool, same_ptr, same_slice, same_sliceP, same_nil, same_agg2, same_string]; done) | (simp [oneCell, AW.next_push]; done) | fail) only [go_sem, Nat.reduceEqDiff, reduceIte, Nat.reduceAdd, Int.toNat_natCast, Nat.add_zero, Owes_true, Tryz.results7, e7, e1, e2, e3, e9, e10, e11, e12, Nat.zero_add, c0, c1]
  apply callV_of (e := rfl)
  · exact agree_ok ms rs (nearTo ms rs fs ms.length) _ _ _ w5 g5.2 (hs.grown g5) (hr.grown g5) ((hl2.grown hg4).grown hg5)
  rintro _ w6 ⟨rfl, hg6⟩
  rw [eN, near_agree hFk]
  cases hP : agreeB ms rs (retTo ms fs set bits ms.length) with
  | true =>
    have hR : showsR ms rs fss set = false := by
      cases hR : showsR ms rs fss set with
      | false => rfl
      | true => rw [ret_dis hFk (okTo_all hok) (hshow hR)] at hP; cases hP
    rw [hR] at e7
    have hlen : decide (((foundTo ms rs fs ms.length).length : Int) = 0) = decide ((foundTo ms rs fs ms.length).length = 0) := decide_eq_decide.2 (by omega)
    simp -dsimp -implicitDefEqProofs (maxSteps := 2000000) (disch := first | assumption | omega | (simp only [AW.next_push, AW.next_put]; omega) | ((repeat refine Fresh.push ?_ _); assumption) | (simp only [same_int, same_bool, same_ptr, same_slice, same_sliceP, same_nil, same_agg2, same_string]; done) | (simp [oneCell, AW.next_push]; done) | fail) only [go_sem, Nat.reduceEqDiff, reduceIte, Nat.reduceAdd, Int.toNat_natCast, Nat.add_zero, Owes_true, Tryz.results7, e7, hlen, beq_self_eq_true]
    apply callV_of (e := rfl)
    · exact callT_told (Q := fun v w' => v = .bool true ∧ w6 = w') (v := .bool true) (w' := w6) rfl ⟨rfl, rfl⟩
    rintro _ w8 ⟨rfl, rfl⟩
    simp -dsimp -implicitDefEqProofs (maxSteps := 2000000) (disch := first | assumption | omega | (simp only [AW.next_push, AW.next_put]; omega) | ((repeat refine Fresh.push ?_ _); assumption) | (simp only [same_int, same_bool, same_ptr, same_slice, same_sliceP, same_nil, same_agg2, same_string]; done) | (simp [oneCell, AW.next_push]; done) | fail) only [go_sem, Nat.reduceEqDiff, reduceIte, Nat.reduceAdd, Int.toNat_natCast, Nat.add_zero, Owes_true, Tryz.results7]
  | false =>
    have hlen : decide (((foundTo ms rs fs ms.length).length : Int) = 0) = decide ((foundTo ms rs fs ms.length).length = 0) := decide_eq_decide.2 (by omega)
    simp -dsimp -implicitDefEqProofs (maxSteps := 2000000) (disch := first | assumption | omega | (simp only [AW.next_push, AW.next_put]; omega) | ((repeat refine Fresh.push ?_ _); assumption) | (simp only [same_int, same_bool, same_ptr, same_slice, same_sliceP, same_nil, same_agg2, same_string]; done) | (simp [oneCell, AW.next_push]; done) | fail) only [go_sem, Nat.reduceEqDiff, reduceIte, Nat.reduceAdd, Int.toNat_natCast, Nat.add_zero, Owes_true, Tryz.results7, e7, hlen, beq_self_eq_true]
    apply callV_of (e := rfl)
    · exact callT_told (Q := fun v w' => v = .bool true ∧ w6 = w') (v := .bool true) (w' := w6) rfl ⟨rfl, rfl⟩
    rintro _ w8 ⟨rfl, rfl⟩
    simp -dsimp -implicitDefEqProofs (maxSteps := 2000000) (disch := first | assumption | omega | (simp only [AW.next_push, AW.next_put]; omega) | ((repeat refine Fresh.push ?_ _); assumption) | (simp only [same_int, same_bool, same_ptr, same_slice, same_sliceP, same_nil, same_agg2, same_string]; done) | (simp [oneCell, AW.next_push]; done) | fail) only [go_sem, Nat.reduceEqDiff, reduceIte, Nat.reduceAdd, Int.toNat_natCast, Nat.add_zero, Owes_true, Tryz.results7]
end Go.Proofs
