/- What some get together, shared out among these alone: the law on the machine. -/
import Derived.Test.YtbmgalmnjaimeaaLd
import Derived.Test.YtbmgalmnjaimeaaSh
set_option linter.unusedVariables false
set_option linter.unusedSimpArgs false
/- What some get together, shared out among these alone: the law on the machine. -/
namespace Go.Proofs
open Go Go.RowKit Go.Sim
set_option maxRecDepth 100000
theorem Pick_ok (l : List Int) (v : Value) (i : Int) (w : AW) (hs : ArrOf w 1 icells v l) : CallT Try.prog Try.T1 (.fn (.func 40) #[]) #[v, .int .i64 i] w (fun r w' => ∃ k : Int, r = .int .i64 k ∧ w = w') := by
  obtain ⟨p, cap, rfl, hcap, hmax, hat⟩ := hs.open
  refine callT_code rfl Try.func40 rfl Try.s40_eq rfl ?_
  unfold Try.s40
  by_cases h0 : (l.length : Int) = 0
  · have h0' : decide ((l.length : Int) = 0) = true := decide_eq_true h0
    simp -dsimp -implicitDefEqProofs (maxSteps := 2000000) (disch := first | assumption | omega | (simp only [AW.next_push, AW.next_put]; omega) | ((repeat refine Fresh.push ?_ _); assumption) | (simp only [same_int, same_bool, same_ptr, same_slice, same_sliceP, same_nil, same_agg2, same_string]; done) | (simp [oneCell, AW.next_push]; done) | fail) only [go_sem, Nat.reduceEqDiff, reduceIte, Nat.reduceAdd, Int.toNat_natCast, Nat.add_zero, Owes_true, Try.results40, h0']
    exact ⟨_, rfl, trivial⟩
  simp -dsimp -implicitDefEqProofs (maxSteps := 2000000) (disch := first | assumption | omega | (simp only [AW.next_push, AW.next_put]; omega) | ((repeat refine Fresh.push ?_ _); assumption) | (simp only [same_int, same_bool, same_ptr, same_slice, same_sliceP, same_nil, same_agg2, same_string]; done) | (simp [oneCell, AW.next_push]; done) | fail) only [go_sem, Nat.reduceEqDiff, reduceIte, Nat.reduceAdd, Int.toNat_natCast, Nat.add_zero, Owes_true, Try.results40, h0]
  apply callV_of (e := rfl)
  · exact Ring_ok i (l.length : Int) (by omega) (by omega) w
  rintro _ _ ⟨k, rfl, hk0, hk1, rfl⟩
  obtain ⟨K, rfl⟩ := Int.eq_ofNat_of_zero_le hk0
  have hK : K < l.length := by omega
  obtain ⟨b1, o1, rfl, hb1, hcell⟩ := hat K hK
  have a0 := hcell _ (.refl _ _) 0 _ rfl
  rw [Nat.add_zero] at a0
  simp -dsimp -implicitDefEqProofs (maxSteps := 2000000) (disch := first | assumption | omega | (simp only [AW.next_push, AW.next_put]; omega) | ((repeat refine Fresh.push ?_ _); assumption) | (simp only [same_int, same_bool, same_ptr, same_slice, same_sliceP, same_nil, same_agg2, same_string]; done) | (simp [oneCell, AW.next_push]; done) | fail) only [go_sem, Nat.reduceEqDiff, reduceIte, Nat.reduceAdd, Int.toNat_natCast, Nat.add_zero, Owes_true, Try.results40, indexV_eq, hk1, a0]
  exact ⟨_, rfl, trivial⟩
theorem aOwnS_arr {S : Nat → Prop} {w : AW} {v : Value} {L : List Int} (h : AOwnS S w 3 1 v L.length (L.flatMap icells)) (hl : L.length ≤ 1048576) : ArrOf w 1 icells v L := h.own.arr icells_len hl
set_option maxHeartbeats 8000000 in
theorem alone_law (w : AW) (xs : List Value) (f : Fresh w) (h : HdAll Try.prog w [22, 3, 22] xs) : CallT Try.prog Try.T1 (.fn (.func 8) #[]) xs.toArray w fun v _ => v = .bool true := by
  cases h with
  | cons n1 h1 h =>
  cases h with
  | cons n2 h2 h =>
  cases h with
  | cons n3 h3 h =>
  cases h
  rename_i v1 v2 v3
  obtain ⟨ws, hs⟩ := given_intsV h1
  obtain ⟨s, rfl⟩ := given_num h2
  obtain ⟨bits, hb⟩ := given_intsV h3
  clear h1 h2 h3
  obtain ⟨p, cap, rfl, _, _, hat⟩ := id hs.open
  obtain ⟨pb, capb, rfl, _⟩ := id hb.open
  show CallT Try.prog Try.T1 (.fn (.func 8) #[]) #[.slice p ws.length cap, .int .i64 s, .slice pb bits.length capb] w _
  refine callT_code rfl Try.func8 rfl Try.s8_eq rfl ?_
  unfold Try.s8
  simp -dsimp -implicitDefEqProofs (maxSteps := 2000000) (disch := first | assumption | omega | (simp only [AW.next_push, AW.next_put]; omega) | ((repeat refine Fresh.push ?_ _); assumption) | (simp only [same_int, same_bool, same_ptr, same_slice, same_sliceP, same_nil, same_agg2, same_string]; done) | (simp [oneCell, AW.next_push]; done) | fail) only [go_sem, Nat.reduceEqDiff, reduceIte, Nat.reduceAdd, Int.toNat_natCast, Nat.add_zero, Owes_true, Try.results8]
  apply callV_of (e := rfl)
  · exact Share_ok ws _ s w f hs
  rintro _ w1 ⟨u1, rfl, hA1, g1⟩
  by_cases hE : shareE ws s = 0
  case neg =>
    simp -dsimp -implicitDefEqProofs (maxSteps := 2000000) (disch := first | assumption | omega | (simp only [AW.next_push, AW.next_put]; omega) | ((repeat refine Fresh.push ?_ _); assumption) | (simp only [same_int, same_bool, same_ptr, same_slice, same_sliceP, same_nil, same_agg2, same_string]; done) | (simp [oneCell, AW.next_push]; done) | fail) only [go_sem, Nat.reduceEqDiff, reduceIte, Nat.reduceAdd, Int.toNat_natCast, Nat.add_zero, Owes_true, Try.results8, hE, ne_eq, not_false_eq_true]
    apply callV_of (e := rfl)
    · exact callT_told (Q := fun v w' => v = .bool true ∧ w1 = w') (v := .bool true) (w' := w1) rfl ⟨rfl, rfl⟩
    rintro _ _ ⟨rfl, rfl⟩
    simp -dsimp -implicitDefEqProofs (maxSteps := 2000000) (disch := first | assumption | omega | (simp only [AW.next_push, AW.next_put]; omega) | ((repeat refine Fresh.push ?_ _); assumption) | (simp only [same_int, same_bool, same_ptr, same_slice, same_sliceP, same_nil, same_agg2, same_string]; done) | (simp [oneCell, AW.next_push]; done) | fail) only [go_sem, Nat.reduceEqDiff, reduceIte, Nat.reduceAdd, Int.toNat_natCast, Nat.add_zero, Owes_true, Try.results8]
  obtain ⟨hW, h0, h1⟩ := shareE_in hE
  have hO : shareO ws s = shareL ws s := by rw [shareO, if_pos hE]
  rw [hO] at hA1
  obtain ⟨hsh, hsum⟩ := share_is hW.nn hW.sum.1 h0
  generalize shareL ws s = L at *
  have hlen := hsh.len
  have hlw := hW.len
  obtain ⟨q, cap2, rfl, _, _, hat2⟩ := id hA1.open
  have hlenI : (L.length : Int) = (ws.length : Int) := by omega
  have f1 := g1.2
  simp -dsimp -implicitDefEqProofs (maxSteps := 2000000) (disch := first | assumption | omega | (simp only [AW.next_push, AW.next_put]; omega) | ((repeat refine Fresh.push ?_ _); assumption) | (simp only [same_int, same_bool, same_ptr, same_slice, same_sliceP, same_nil, same_agg2, same_string]; done) | (simp [oneCell, AW.next_push]; done) | fail) only [go_sem, Nat.reduceEqDiff, reduceIte, Nat.reduceAdd, Int.toNat_natCast, Nat.add_zero, Owes_true, Try.results8, hE, hlenI]
  refine loopR (fun k t ds w2 => ∃ i : Nat, i ≤ ws.length ∧ k = ws.length - i ∧ ds = [] ∧ ev t (.tmp 0) = .slice p ws.length cap ∧ ev t (.tmp 2) = .slice pb bits.length capb ∧ ev t (.tmp 7) = .slice q L.length cap2 ∧ ev t (.tmp 11) = .int .i64 (i : Int) ∧ (∃ (us ug : Value) (ix : List Nat) (S1 S2 : Nat → Prop), ev t (.tmp 9) = us ∧ ev t (.tmp 10) = ug ∧ (∀ k ∈ ix, k < i) ∧ ix.Pairwise (· < ·) ∧ ix.length ≤ i ∧ (ix.map (W L)).sum ≤ (L.take i).sum ∧ AOwnS S1 w2 3 1 us (ix.map (W ws)).length ((ix.map (W ws)).flatMap icells) ∧ AOwnS S2 w2 3 1 ug (ix.map (W L)).length ((ix.map (W L)).flatMap icells) ∧ (∀ k, S1 k → w1.next ≤ k ∧ k < w2.next ∧ ¬ S2 k) ∧ (∀ k, S2 k → w1.next ≤ k ∧ k < w2.next)) ∧ Grown w1 w2) (ws.length) ?_ ?_
  · refine ⟨0, by omega, by omega, rfl, ?_, ?_, ?_, ?_, ⟨_, _, [], fun _ => False, fun _ => False, (by simp -dsimp -implicitDefEqProofs (maxSteps := 2000000) (disch := first | assumption | omega | (simp only [AW.next_push, AW.next_put]; omega) | ((repeat refine Fresh.push ?_ _); assumption) | (simp only [same_int, same_bool, same_ptr, same_slice, same_sliceP, same_nil, same_agg2, same_string]; done) | (simp [oneCell, AW.next_push]; done) | fail) only [go_sem, Nat.reduceEqDiff, reduceIte, Nat.reduceAdd, Int.toNat_natCast, Nat.add_zero, Owes_true]; try rfl), (by simp -dsimp -implicitDefEqProofs (maxSteps := 2000000) (disch := first | assumption | omega | (simp only [AW.next_push, AW.next_put]; omega) | ((repeat refine Fresh.push ?_ _); assumption) | (simp only [same_int, same_bool, same_ptr, same_slice, same_sliceP, same_nil, same_agg2, same_string]; done) | (simp [oneCell, AW.next_push]; done) | fail) only [go_sem, Nat.reduceEqDiff, reduceIte, Nat.reduceAdd, Int.toNat_natCast, Nat.add_zero, Owes_true]; try rfl), by simp, List.Pairwise.nil, by simp, by simp, .inl ⟨rfl, rfl, rfl⟩, .inl ⟨rfl, rfl, rfl⟩, by simp, by simp⟩, Grown.refl f1⟩ <;> simp -dsimp -implicitDefEqProofs (maxSteps := 2000000) (disch := first | assumption | omega | (simp only [AW.next_push, AW.next_put]; omega) | ((repeat refine Fresh.push ?_ _); assumption) | (simp only [same_int, same_bool, same_ptr, same_slice, same_sliceP, same_nil, same_agg2, same_string]; done) | (simp [oneCell, AW.next_push]; done) | fail) only [go_sem, Nat.reduceEqDiff, reduceIte, Nat.reduceAdd, Int.toNat_natCast, Nat.add_zero, Owes_true] <;> rfl
  rintro k t ds w2 ⟨i, hii, rfl, rfl, e0, e2, e7, e11, hS, g2⟩
  obtain ⟨us, ug, ix, S1, S2, e9, e10, hix, hord, hixl, hgs, hA, hB, hd1, hd2⟩ := hS
  obtain ⟨ps, ns, cs, rfl⟩ := hA.isSlice
  obtain ⟨pg, ng, cg, rfl⟩ := hB.isSlice
  have gg := g1.trans g2
  have hl1 : (ix.map (W ws)).length = ix.length := List.length_map _
  have hl2 : (ix.map (W L)).length = ix.length := List.length_map _
  by_cases hlt : (i : Int) < (ws.length : Int)
  case pos =>
    have hlt' : i < ws.length := by omega
    have hltL : (i : Int) < (L.length : Int) := by omega
    obtain ⟨b1, o1, rfl, hb1, hcell⟩ := hat i hlt'
    have a0 := hcell _ gg.1 0 _ rfl
    rw [Nat.add_zero, ← W_at hlt'] at a0
    obtain ⟨b2, o2, rfl, hb2, hcell2⟩ := hat2 i (by omega)
    have d0 := hcell2 _ g2.1 0 _ rfl
    rw [Nat.add_zero, ← W_at (show i < L.length by omega)] at d0
    have htk := take_sum (l := L) (n := i) (by omega)
    have hLn := hsh.nn i
    simp -dsimp -implicitDefEqProofs (maxSteps := 2000000) (disch := first | assumption | omega | (simp only [AW.next_push, AW.next_put]; omega) | ((repeat refine Fresh.push ?_ _); assumption) | (simp only [same_int, same_bool, same_ptr, same_slice, same_sliceP, same_nil, same_agg2, same_string]; done) | (simp [oneCell, AW.next_push]; done) | fail) only [go_sem, Nat.reduceEqDiff, reduceIte, Nat.reduceAdd, Int.toNat_natCast, Nat.add_zero, Owes_true, Try.results8, e0, e2, e7, e9, e10, e11, hlt]
    apply callV_of (e := rfl)
    · exact Pick_ok bits _ (i : Int) w2 (hb.grown gg)
    rintro _ _ ⟨k1, rfl, rfl⟩
    simp -dsimp -implicitDefEqProofs (maxSteps := 2000000) (disch := first | assumption | omega | (simp only [AW.next_push, AW.next_put]; omega) | ((repeat refine Fresh.push ?_ _); assumption) | (simp only [same_int, same_bool, same_ptr, same_slice, same_sliceP, same_nil, same_agg2, same_string]; done) | (simp [oneCell, AW.next_push]; done) | fail) only [go_sem, Nat.reduceEqDiff, reduceIte, Nat.reduceAdd, Int.toNat_natCast, Nat.add_zero, Owes_true, Try.results8, e0, e2, e7, e9, e10, e11, hlt]
    apply callV_of (e := rfl)
    · exact Ring_ok k1 2 (by omega) (by omega) w2
    rintro _ _ ⟨k2, rfl, hk20, hk21, rfl⟩
    by_cases hk : k2 = 1
    case neg =>
      simp -dsimp -implicitDefEqProofs (maxSteps := 2000000) (disch := first | assumption | omega | (simp only [AW.next_push, AW.next_put]; omega) | ((repeat refine Fresh.push ?_ _); assumption) | (simp only [same_int, same_bool, same_ptr, same_slice, same_sliceP, same_nil, same_agg2, same_string]; done) | (simp [oneCell, AW.next_push]; done) | fail) only [go_sem, Nat.reduceEqDiff, reduceIte, Nat.reduceAdd, Int.toNat_natCast, Nat.add_zero, Owes_true, Try.results8, e0, e2, e7, e9, e10, e11, hk]
      refine ⟨_, by omega, i + 1, by omega, rfl, rfl, by (simp -dsimp -implicitDefEqProofs (maxSteps := 2000000) (disch := first | assumption | omega | (simp only [AW.next_push, AW.next_put]; omega) | ((repeat refine Fresh.push ?_ _); assumption) | (simp only [same_int, same_bool, same_ptr, same_slice, same_sliceP, same_nil, same_agg2, same_string]; done) | (simp [oneCell, AW.next_push]; done) | fail) only [go_sem, Nat.reduceEqDiff, reduceIte, Nat.reduceAdd, Int.toNat_natCast, Nat.add_zero, Owes_true, e0]; try rfl), by (simp -dsimp -implicitDefEqProofs (maxSteps := 2000000) (disch := first | assumption | omega | (simp only [AW.next_push, AW.next_put]; omega) | ((repeat refine Fresh.push ?_ _); assumption) | (simp only [same_int, same_bool, same_ptr, same_slice, same_sliceP, same_nil, same_agg2, same_string]; done) | (simp [oneCell, AW.next_push]; done) | fail) only [go_sem, Nat.reduceEqDiff, reduceIte, Nat.reduceAdd, Int.toNat_natCast, Nat.add_zero, Owes_true, e2]; try rfl), by (simp -dsimp -implicitDefEqProofs (maxSteps := 2000000) (disch := first | assumption | omega | (simp only [AW.next_push, AW.next_put]; omega) | ((repeat refine Fresh.push ?_ _); assumption) | (simp only [same_int, same_bool, same_ptr, same_slice, same_sliceP, same_nil, same_agg2, same_string]; done) | (simp [oneCell, AW.next_push]; done) | fail) only [go_sem, Nat.reduceEqDiff, reduceIte, Nat.reduceAdd, Int.toNat_natCast, Nat.add_zero, Owes_true, e7]; try rfl), by (simp -dsimp -implicitDefEqProofs (maxSteps := 2000000) (disch := first | assumption | omega | (simp only [AW.next_push, AW.next_put]; omega) | ((repeat refine Fresh.push ?_ _); assumption) | (simp only [same_int, same_bool, same_ptr, same_slice, same_sliceP, same_nil, same_agg2, same_string]; done) | (simp [oneCell, AW.next_push]; done) | fail) only [go_sem, Nat.reduceEqDiff, reduceIte, Nat.reduceAdd, Int.toNat_natCast, Nat.add_zero, Owes_true, e11]; try rfl), ⟨_, _, ix, S1, S2, (by simp -dsimp -implicitDefEqProofs (maxSteps := 2000000) (disch := first | assumption | omega | (simp only [AW.next_push, AW.next_put]; omega) | ((repeat refine Fresh.push ?_ _); assumption) | (simp only [same_int, same_bool, same_ptr, same_slice, same_sliceP, same_nil, same_agg2, same_string]; done) | (simp [oneCell, AW.next_push]; done) | fail) only [go_sem, Nat.reduceEqDiff, reduceIte, Nat.reduceAdd, Int.toNat_natCast, Nat.add_zero, Owes_true, e9]; try rfl), (by simp -dsimp -implicitDefEqProofs (maxSteps := 2000000) (disch := first | assumption | omega | (simp only [AW.next_push, AW.next_put]; omega) | ((repeat refine Fresh.push ?_ _); assumption) | (simp only [same_int, same_bool, same_ptr, same_slice, same_sliceP, same_nil, same_agg2, same_string]; done) | (simp [oneCell, AW.next_push]; done) | fail) only [go_sem, Nat.reduceEqDiff, reduceIte, Nat.reduceAdd, Int.toNat_natCast, Nat.add_zero, Owes_true, e10]; try rfl), fun k hk => by have := hix k hk; omega, hord, by omega, by omega, hA, hB, hd1, hd2⟩, g2⟩
    have hk' : decide (k2 = 1) = true := decide_eq_true hk
    have fP := g2.2.push (.cells [.int .i64 (W ws i)] 3 w2.next 0 0)
    have hP1 := (Own.new g2.2 3 [.int .i64 (W ws i)]).push (.cells [.int .i64 (W L i)] 3 (w2.next + 1) 0 0)
    have hP2 := Own.new fP 3 [.int .i64 (W L i)]
    rw [AW.next_push] at hP2
    have fu := fP.push (.cells [.int .i64 (W L i)] 3 (w2.next + 1) 0 0)
    have kU : Keep w2.next w2 ((w2.push (.cells [.int .i64 (W ws i)] 3 w2.next 0 0)).push (.cells [.int .i64 (W L i)] 3 (w2.next + 1) 0 0)) := ((Keep.refl w2.next w2).push (Nat.le_refl _) _).push (by rw [AW.next_push]; omega) _
    have hAu := hA.keep kU
    have hBu := hB.keep kU
    have hun : ((w2.push (.cells [.int .i64 (W ws i)] 3 w2.next 0 0)).push (.cells [.int .i64 (W L i)] 3 (w2.next + 1) 0 0)).next = w2.next + 2 := by simp only [AW.next_push]
    have hfw := g2.2
    have firstOf : ∀ (u : AW) (b : Nat) (x : Int), u.cell? ⟨b, 0, none⟩ = some (.int .i64 x) → aFirst u 1 1 (.slice (some ⟨b, 0, none⟩) 1 1) = some [.int .i64 x] := fun u b x hx => by
      show aCells u b 0 (1 * 1) = _
      exact aCells_of [.int .i64 x] 0 fun k v hv => by
        rw [Nat.zero_add]
        match k with
        | 0 => simp at hv; subst hv; exact hx
        | k + 1 => simp at hv
    obtain ⟨us', w3, hap1, hA3, f3, hn3, hbk3, hfm3, hwl3⟩ := append_anyS Try.ty22 Try.ty3 rfl (by omega) (by omega) hAu fu (firstOf _ w2.next (W ws i) (hP1.cell (o := 0) rfl rfl)) rfl (by intro y hy; simp at hy; subst hy; rfl) (by omega)
    have hB3 : AOwnS S2 w3 3 1 (.slice pg ng cg) (ix.map (W L)).length ((ix.map (W L)).flatMap icells) := hBu.keepS hbk3 (fun j hj hj2 => hfm3 j hj (fun q => (hd1 j q).2.2 hj2)) (by omega)
    have hP23 : w3.cell? ⟨w2.next + 1, 0, none⟩ = some (.int .i64 (W L i)) := by
      have := hP2.cell (o := 0) rfl rfl
      rw [← this]
      simp only [AW.cell?, hbk3 (w2.next + 1) (by omega)]
    obtain ⟨ug', w4, hap2, hB4, f4, hn4, hbk4, hfm4, hwl4⟩ := append_anyS Try.ty22 Try.ty3 rfl (by omega) (by omega) hB3 f3 (firstOf _ (w2.next + 1) (W L i) hP23) rfl (by intro y hy; simp at hy; subst hy; rfl) (by omega)
    have hA4 := hA3.keepS hbk4 (fun j hj hj2 => hfm4 j hj (fun q => by
      rcases hj2 with z | z
      · exact (hd1 j z).2.2 q
      · have := hd2 j q; omega)) (by omega)
    have hkk : Keep w1.next w1 w4 := g2.1.trans ⟨fun j hj => by rw [hbk4 j (by have := g2.1.next; omega), hbk3 j (by have := g2.1.next; omega)]; exact kU.blk j (by have := g2.1.next; omega), fun j hj => by
      have hle := g2.1.next
      rw [hfm4 j (by omega) (fun q => by have := hd2 j q; omega), hfm3 j (by omega) (fun q => by have := hd1 j q; omega)]
      exact kU.fam j (by omega), by omega⟩
    have es : (ix ++ [i]).map (W ws) = ix.map (W ws) ++ [W ws i] := by simp
    have eg : (ix ++ [i]).map (W L) = ix.map (W L) ++ [W L i] := by simp
    obtain ⟨ps', ns', cs', rfl⟩ := hA3.isSlice
    obtain ⟨pg', ng', cg', rfl⟩ := hB4.isSlice
    have j1 : ∀ k ∈ ix ++ [i], k < i + 1 := fun k hk => by
      rcases List.mem_append.mp hk with z | z
      · have := hix k z; omega
      · simp at z; omega
    have j2 : (ix ++ [i]).Pairwise (· < ·) := List.pairwise_append.2 ⟨hord, List.pairwise_singleton _ _, fun a ha b hb => by simp at hb; have := hix a ha; omega⟩
    have j3 : (ix ++ [i]).length ≤ i + 1 := by rw [List.length_append]; simp; omega
    have j4 : ((ix ++ [i]).map (W L)).sum ≤ (L.take (i + 1)).sum := by rw [eg, List.sum_append_int, htk]; simp; omega
    have j5 : AOwnS (fun k => S1 k ∨ k = ((w2.push (.cells [.int .i64 (W ws i)] 3 w2.next 0 0)).push (.cells [.int .i64 (W L i)] 3 (w2.next + 1) 0 0)).next) w4 3 1 (.slice ps' ns' cs') ((ix ++ [i]).map (W ws)).length (((ix ++ [i]).map (W ws)).flatMap icells) := by rw [es, List.length_append, List.flatMap_append]; exact hA4
    have j6 : AOwnS (fun k => S2 k ∨ k = w3.next) w4 3 1 (.slice pg' ng' cg') ((ix ++ [i]).map (W L)).length (((ix ++ [i]).map (W L)).flatMap icells) := by rw [eg, List.length_append, List.flatMap_append]; exact hB4
    have hw12 := g2.1.next
    have j7 : ∀ k, (S1 k ∨ k = ((w2.push (.cells [.int .i64 (W ws i)] 3 w2.next 0 0)).push (.cells [.int .i64 (W L i)] 3 (w2.next + 1) 0 0)).next) → w1.next ≤ k ∧ k < w4.next ∧ ¬ (S2 k ∨ k = w3.next) := fun k hk => by
      rcases hk with z | z
      · have y := hd1 k z
        refine ⟨y.1, by omega, fun q => ?_⟩
        rcases q with q | q
        · exact y.2.2 q
        · omega
      · refine ⟨by omega, by omega, fun q => ?_⟩
        rcases q with q | q
        · have := hd2 k q; omega
        · omega
    have j8 : ∀ k, (S2 k ∨ k = w3.next) → w1.next ≤ k ∧ k < w4.next := fun k hk => by
      rcases hk with z | z
      · have := hd2 k z; omega
      · omega
    simp -dsimp -implicitDefEqProofs (maxSteps := 2000000) (disch := first | assumption | omega | (simp only [AW.next_push, AW.next_put]; omega) | ((repeat refine Fresh.push ?_ _); assumption) | (simp only [same_int, same_bool, same_ptr, same_slice, same_sliceP, same_nil, same_agg2, same_string]; done) | (simp [oneCell, AW.next_push]; done) | fail) only [go_sem, Nat.reduceEqDiff, reduceIte, Nat.reduceAdd, Int.toNat_natCast, Nat.add_zero, Owes_true, Try.results8, e0, e2, e7, e9, e10, e11, hk', hlt, hltL, indexV_eq, a0, d0, hap1, hwl3, hap2, hfw, fP]
    refine ⟨_, by omega, i + 1, by omega, rfl, rfl, by (simp -dsimp -implicitDefEqProofs (maxSteps := 2000000) (disch := first | assumption | omega | (simp only [AW.next_push, AW.next_put]; omega) | ((repeat refine Fresh.push ?_ _); assumption) | (simp only [same_int, same_bool, same_ptr, same_slice, same_sliceP, same_nil, same_agg2, same_string]; done) | (simp [oneCell, AW.next_push]; done) | fail) only [go_sem, Nat.reduceEqDiff, reduceIte, Nat.reduceAdd, Int.toNat_natCast, Nat.add_zero, Owes_true, e0]; try rfl), by (simp -dsimp -implicitDefEqProofs (maxSteps := 2000000) (disch := first | assumption | omega | (simp only [AW.next_push, AW.next_put]; omega) | ((repeat refine Fresh.push ?_ _); assumption) | (simp only [same_int, same_bool, same_ptr, same_slice, same_sliceP, same_nil, same_agg2, same_string]; done) | (simp [oneCell, AW.next_push]; done) | fail) only [go_sem, Nat.reduceEqDiff, reduceIte, Nat.reduceAdd, Int.toNat_natCast, Nat.add_zero, Owes_true, e2]; try rfl), by (simp -dsimp -implicitDefEqProofs (maxSteps := 2000000) (disch := first | assumption | omega | (simp only [AW.next_push, AW.next_put]; omega) | ((repeat refine Fresh.push ?_ _); assumption) | (simp only [same_int, same_bool, same_ptr, same_slice, same_sliceP, same_nil, same_agg2, same_string]; done) | (simp [oneCell, AW.next_push]; done) | fail) only [go_sem, Nat.reduceEqDiff, reduceIte, Nat.reduceAdd, Int.toNat_natCast, Nat.add_zero, Owes_true, e7]; try rfl), by (simp -dsimp -implicitDefEqProofs (maxSteps := 2000000) (disch := first | assumption | omega | (simp only [AW.next_push, AW.next_put]; omega) | ((repeat refine Fresh.push ?_ _); assumption) | (simp only [same_int, same_bool, same_ptr, same_slice, same_sliceP, same_nil, same_agg2, same_string]; done) | (simp [oneCell, AW.next_push]; done) | fail) only [go_sem, Nat.reduceEqDiff, reduceIte, Nat.reduceAdd, Int.toNat_natCast, Nat.add_zero, Owes_true, e11]; try rfl), ⟨_, _, ix ++ [i], _, _, (by simp -dsimp -implicitDefEqProofs (maxSteps := 2000000) (disch := first | assumption | omega | (simp only [AW.next_push, AW.next_put]; omega) | ((repeat refine Fresh.push ?_ _); assumption) | (simp only [same_int, same_bool, same_ptr, same_slice, same_sliceP, same_nil, same_agg2, same_string]; done) | (simp [oneCell, AW.next_push]; done) | fail) only [go_sem, Nat.reduceEqDiff, reduceIte, Nat.reduceAdd, Int.toNat_natCast, Nat.add_zero, Owes_true]; try rfl), (by simp -dsimp -implicitDefEqProofs (maxSteps := 2000000) (disch := first | assumption | omega | (simp only [AW.next_push, AW.next_put]; omega) | ((repeat refine Fresh.push ?_ _); assumption) | (simp only [same_int, same_bool, same_ptr, same_slice, same_sliceP, same_nil, same_agg2, same_string]; done) | (simp [oneCell, AW.next_push]; done) | fail) only [go_sem, Nat.reduceEqDiff, reduceIte, Nat.reduceAdd, Int.toNat_natCast, Nat.add_zero, Owes_true]; try rfl), j1, j2, j3, j4, j5, j6, j7, j8⟩, ⟨hkk, f4⟩⟩
  obtain rfl : i = ws.length := by omega
  have hAI : AIn (ix.map (W ws)) := by
    refine ⟨by omega, fun k => ?_⟩
    rcases Nat.lt_or_ge k ix.length with z | z
    · rw [W_map _ z]; exact hW.val _
    · rw [W_out (by simpa using z)]; omega
  have hal := shared_alone hsh hix hord
  have hgn := sum_nn hal.nn
  have hgle : (ix.map (W L)).sum ≤ s := by rw [← hlen, List.take_of_length_le (Nat.le_refl _)] at hgs; omega
  have hsm := small_w hAI.len hAI.val
  have hAarr := aOwnS_arr hA (by omega)
  have hBarr := aOwnS_arr hB (by omega)
  obtain ⟨ps2, cs2, es2, _⟩ := id hAarr.open
  obtain ⟨pg2, cg2, eg2, _⟩ := id hBarr.open
  simp -dsimp -implicitDefEqProofs (maxSteps := 2000000) (disch := first | assumption | omega | (simp only [AW.next_push, AW.next_put]; omega) | ((repeat refine Fresh.push ?_ _); assumption) | (simp only [same_int, same_bool, same_ptr, same_slice, same_sliceP, same_nil, same_agg2, same_string]; done) | (simp [oneCell, AW.next_push]; done) | fail) only [go_sem, Nat.reduceEqDiff, reduceIte, Nat.reduceAdd, Int.toNat_natCast, Nat.add_zero, Owes_true, Try.results8, e0, e2, e7, e9, e10, e11, hlt]
  apply callV_of (e := rfl)
  · exact Sum_ok _ _ w2 hAarr hsm.1
  rintro _ _ ⟨rfl, rfl⟩
  have hzn : ∀ i, W (ix.map (W ws)) i ≤ (ix.map (W ws)).sum := W_le_sum (fun i => (hAI.val i).1)
  by_cases hz : (ix.map (W ws)).sum = 0
  · have hz' : decide ((ix.map (W ws)).sum = 0) = true := decide_eq_true hz
    simp -dsimp -implicitDefEqProofs (maxSteps := 2000000) (disch := first | assumption | omega | (simp only [AW.next_push, AW.next_put]; omega) | ((repeat refine Fresh.push ?_ _); assumption) | (simp only [same_int, same_bool, same_ptr, same_slice, same_sliceP, same_nil, same_agg2, same_string]; done) | (simp [oneCell, AW.next_push]; done) | fail) only [go_sem, Nat.reduceEqDiff, reduceIte, Nat.reduceAdd, Int.toNat_natCast, Nat.add_zero, Owes_true, Try.results8, e0, e2, e7, e9, e10, e11, hz']
    apply callV_of (e := rfl)
    · exact Sum_ok _ _ w2 hBarr (small_nn hal.nn (by omega))
    rintro _ _ ⟨rfl, rfl⟩
    have hg0 : (ix.map (W L)).sum = 0 := by
      obtain ⟨kp, hkp1, hkp2⟩ := exists_pos hW.nn hW.sum.1
      have hle0 := sum_le (l := ix.map (W L)) (m := ix.map (W ws)) (by simp) (fun k hk => by
        rw [List.length_map] at hk
        have hv := hzn k
        have hv2 := hAI.val k
        rw [W_map _ hk] at hv hv2 ⊢
        rw [W_map _ hk, shared_zero hW.nn hsh hkp1 hkp2 (i := ix[k]) (by omega)]; omega)
      omega
    have hg0' : decide ((ix.map (W L)).sum = 0) = true := decide_eq_true hg0
    simp -dsimp -implicitDefEqProofs (maxSteps := 2000000) (disch := first | assumption | omega | (simp only [AW.next_push, AW.next_put]; omega) | ((repeat refine Fresh.push ?_ _); assumption) | (simp only [same_int, same_bool, same_ptr, same_slice, same_sliceP, same_nil, same_agg2, same_string]; done) | (simp [oneCell, AW.next_push]; done) | fail) only [go_sem, Nat.reduceEqDiff, reduceIte, Nat.reduceAdd, Int.toNat_natCast, Nat.add_zero, Owes_true, Try.results8, e0, e2, e7, e9, e10, e11, hg0']
    apply callV_of (e := rfl)
    · exact callT_told (Q := fun v w' => v = .bool true ∧ w2 = w') (v := .bool true) (w' := w2) rfl ⟨rfl, rfl⟩
    rintro _ _ ⟨rfl, rfl⟩
    simp -dsimp -implicitDefEqProofs (maxSteps := 2000000) (disch := first | assumption | omega | (simp only [AW.next_push, AW.next_put]; omega) | ((repeat refine Fresh.push ?_ _); assumption) | (simp only [same_int, same_bool, same_ptr, same_slice, same_sliceP, same_nil, same_agg2, same_string]; done) | (simp [oneCell, AW.next_push]; done) | fail) only [go_sem, Nat.reduceEqDiff, reduceIte, Nat.reduceAdd, Int.toNat_natCast, Nat.add_zero, Owes_true, Try.results8]
  have hpos : 0 < (ix.map (W ws)).sum := by have := sum_nn (l := ix.map (W ws)) (fun i => (hAI.val i).1); omega
  have hWs := hAI.wgt hpos
  simp -dsimp -implicitDefEqProofs (maxSteps := 2000000) (disch := first | assumption | omega | (simp only [AW.next_push, AW.next_put]; omega) | ((repeat refine Fresh.push ?_ _); assumption) | (simp only [same_int, same_bool, same_ptr, same_slice, same_sliceP, same_nil, same_agg2, same_string]; done) | (simp [oneCell, AW.next_push]; done) | fail) only [go_sem, Nat.reduceEqDiff, reduceIte, Nat.reduceAdd, Int.toNat_natCast, Nat.add_zero, Owes_true, Try.results8, e0, e2, e7, e9, e10, e11, hz]
  apply callV_of (e := rfl)
  · exact Sum_ok _ _ w2 hBarr (small_nn hal.nn (by omega))
  rintro _ _ ⟨rfl, rfl⟩
  simp -dsimp -implicitDefEqProofs (maxSteps := 2000000) (disch := first | assumption | omega | (simp only [AW.next_push, AW.next_put]; omega) | ((repeat refine Fresh.push ?_ _); assumption) | (simp only [same_int, same_bool, same_ptr, same_slice, same_sliceP, same_nil, same_agg2, same_string]; done) | (simp [oneCell, AW.next_push]; done) | fail) only [go_sem, Nat.reduceEqDiff, reduceIte, Nat.reduceAdd, Int.toNat_natCast, Nat.add_zero, Owes_true, Try.results8, e0, e2, e7, e9, e10, e11]
  apply callV_of (e := rfl)
  · exact Share_ok _ _ (ix.map (W L)).sum w2 g2.2 hAarr
  rintro _ w3 ⟨u3, rfl, hA3, hg3⟩
  have hE3 := shareE_of hWs hgn (show (ix.map (W L)).sum ≤ 34359738368 by omega)
  have hO3 : shareO (ix.map (W ws)) (ix.map (W L)).sum = ix.map (W L) := by rw [shareO, if_pos hE3]; exact (shareL_eq hWs.nn hal rfl).symm
  rw [hO3] at hA3
  rw [hE3]
  simp -dsimp -implicitDefEqProofs (maxSteps := 2000000) (disch := first | assumption | omega | (simp only [AW.next_push, AW.next_put]; omega) | ((repeat refine Fresh.push ?_ _); assumption) | (simp only [same_int, same_bool, same_ptr, same_slice, same_sliceP, same_nil, same_agg2, same_string]; done) | (simp [oneCell, AW.next_push]; done) | fail) only [go_sem, Nat.reduceEqDiff, reduceIte, Nat.reduceAdd, Int.toNat_natCast, Nat.add_zero, Owes_true, Try.results8, e0, e2, e7, e9, e10, e11]
  apply callV_of (e := rfl)
  · exact same_ok _ _ _ _ w3 (gg.trans hg3).2 hA3 (hBarr.grown hg3)
  rintro _ w4 ⟨rfl, hg4⟩
  have e : decide (ix.map (W L) = ix.map (W L)) = true := decide_eq_true rfl
  rw [e]
  simp -dsimp -implicitDefEqProofs (maxSteps := 2000000) (disch := first | assumption | omega | (simp only [AW.next_push, AW.next_put]; omega) | ((repeat refine Fresh.push ?_ _); assumption) | (simp only [same_int, same_bool, same_ptr, same_slice, same_sliceP, same_nil, same_agg2, same_string]; done) | (simp [oneCell, AW.next_push]; done) | fail) only [go_sem, Nat.reduceEqDiff, reduceIte, Nat.reduceAdd, Int.toNat_natCast, Nat.add_zero, Owes_true, Try.results8, e0, e2, e7, e9, e10, e11]
  apply callV_of (e := rfl)
  · exact callT_told (Q := fun v w' => v = .bool true ∧ w4 = w') (v := .bool true) (w' := w4) rfl ⟨rfl, rfl⟩
  rintro _ _ ⟨rfl, rfl⟩
  simp -dsimp -implicitDefEqProofs (maxSteps := 2000000) (disch := first | assumption | omega | (simp only [AW.next_push, AW.next_put]; omega) | ((repeat refine Fresh.push ?_ _); assumption) | (simp only [same_int, same_bool, same_ptr, same_slice, same_sliceP, same_nil, same_agg2, same_string]; done) | (simp [oneCell, AW.next_push]; done) | fail) only [go_sem, Nat.reduceEqDiff, reduceIte, Nat.reduceAdd, Int.toNat_natCast, Nat.add_zero, Owes_true, Try.results8]
end Go.Proofs
