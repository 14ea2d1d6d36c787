/- Lists of ones own; with more nobody gets less: the law on the machine. -/
import Derived.Test.YtbmgalmnjaimeaaLc
import Derived.Test.YtbmgalmnjaimeaaSh
set_option linter.unusedVariables false
set_option linter.unusedSimpArgs false
/- Lists of one's own; three numbers that are given. -/
namespace Go.Proofs
open Go Go.RowKit Go.Sim
set_option maxRecDepth 100000
theorem Own_ok (l : List Int) (v : Value) (w : AW) (f : Fresh w) (hs : ArrOf w 1 icells v l) (hl : l.length ≤ 1000) (h1 : 1 ≤ l.length) :
    CallT Try.prog Try.T1 (.fn (.func 39) #[]) #[v] w (fun r w' => AOwn w.next w' 3 1 r l.length (l.flatMap icells) ∧ Grown w w') := by
  obtain ⟨p, cap, rfl, _⟩ := id hs.open
  have g := (Grown.refl f).push (.cells [] 3 w.next 0 0)
  have hn := arr_new (hs.grown g) icells_len (Nat.le_refl _)
  obtain ⟨v', w', happ, hk, hf, hor⟩ := append_empty (b := w.next) (e' := 3) Try.ty22 Try.ty3 rfl (by omega) (blk_push_top _ _) g.2 rfl hn (by rw [icells_flat_len, Nat.mul_one]) (fun y hy => by
    obtain ⟨x, _, hx⟩ := List.mem_flatMap.mp hy
    exact icells_one x y hx) (by omega) (by omega)
  refine callT_code rfl Try.func39 rfl Try.s39_eq rfl ?_
  unfold Try.s39
  simp -dsimp -implicitDefEqProofs (maxSteps := 2000000) (disch := first | assumption | omega | (simp only [AW.next_push, AW.next_put]; omega) | ((repeat refine Fresh.push ?_ _); assumption) | (simp only [same_int, same_bool, same_ptr, same_slice, same_sliceP, same_nil, same_agg2, same_string]; done) | (simp [oneCell, AW.next_push]; done) | fail) only [go_sem, Nat.reduceEqDiff, reduceIte, Nat.reduceAdd, Int.toNat_natCast, Nat.add_zero, Owes_true, Try.results39, happ]
  rcases hor with ⟨q, _⟩ | hA
  · omega
  · exact ⟨hA.weak (by rw [AW.next_push]; omega), g.trans ⟨hk, hf⟩⟩
theorem Try.und70 : Try.prog.underlying 70 = some (.array 3 3) := by kernel_rfl
theorem given_three {w : AW} {n : Nat} {v : Value} (h : HdV Try.prog w n 70 v) : ∃ a b c : Int, v = .agg #[.int .i64 a, .int .i64 b, .int .i64 c] := by
  simp only [HdV, Try.und70] at h
  obtain ⟨cs, rfl, h⟩ := h
  cases n with
  | zero => exact h.elim
  | succ n =>
    simp only [Hd, Try.und70] at h
    obtain ⟨parts, e, hl, hp⟩ := h
    match parts, hl with
    | [p0, p1, p2], _ =>
      obtain ⟨x0, rfl⟩ := given_int (hp p0 (by simp))
      obtain ⟨x1, rfl⟩ := given_int (hp p1 (by simp))
      obtain ⟨x2, rfl⟩ := given_int (hp p2 (by simp))
      exact ⟨x0, x1, x2, by rw [show cs = cs.toList.toArray from rfl, e]; rfl⟩
theorem Try.ia70 (t : Tmps) (w : AW) (x y : Operand) : fast (prg Try.prog) t w (.indexAddr 70 x y) = indexA 1 3 (ev t x) (ev t y) := fast_indexAddrA Try.ty70 Try.ty3
theorem ix3_0 (b o : Nat) : indexA 1 3 (.pointer (some ⟨b, o, none⟩)) (.int .i64 0) = some (.pointer (some ⟨b, o, none⟩)) := indexA_eq (i := 0) (by decide)
theorem ix3_1 (b o : Nat) : indexA 1 3 (.pointer (some ⟨b, o, none⟩)) (.int .i64 1) = some (.pointer (some ⟨b, o + 1, none⟩)) := indexA_eq (i := 1) (by decide)
theorem ix3_2 (b o : Nat) : indexA 1 3 (.pointer (some ⟨b, o, none⟩)) (.int .i64 2) = some (.pointer (some ⟨b, o + 2, none⟩)) := indexA_eq (i := 2) (by decide)
attribute [go_sem] Try.ia70 ix3_0 ix3_1 ix3_2
end Go.Proofs

/- With more, nobody gets less: the law on the machine. -/
namespace Go.Proofs
open Go Go.RowKit Go.Sim
set_option maxRecDepth 100000
theorem wgt_of {l : List Int} (h : WIn l) : wgtB l = true := by
  simp only [wgtB, Bool.and_eq_true, inR_iff, decide_eq_true_eq, List.all_eq_true]
  exact ⟨⟨by have := h.len; omega, fun i _ => h.val i⟩, h.sum.1⟩
theorem shareE_of {l : List Int} (h : WIn l) {s : Int} (h0 : 0 ≤ s) (h1 : s ≤ 34359738368) : shareE l s = 0 := by
  have q2 : inR 0 s 34359738368 = true := (inR_iff _ _ _).2 ⟨h0, h1⟩
  rw [shareE, if_neg (by rw [wgt_of h]; simp), if_neg (by rw [q2]; simp)]
set_option maxHeartbeats 8000000 in
theorem more_law (w : AW) (xs : List Value) (f : Fresh w) (h : HdAll Try.prog w [22, 3, 70] xs) : CallT Try.prog Try.T1 (.fn (.func 7) #[]) xs.toArray w fun v _ => v = .bool true := by
  cases h with
  | cons n1 h1 h =>
  cases h with
  | cons n2 h2 h =>
  cases h with
  | cons n3 h3 h =>
  cases h
  rename_i v1 v2 v3
  obtain ⟨ws, hs⟩ := given_intsV h1
  obtain ⟨s, rfl⟩ := given_num h2
  obtain ⟨N0, N1, N2, rfl⟩ := given_three h3
  clear h1 h2 h3
  obtain ⟨p, cap, rfl, _, _, hat⟩ := id hs.open
  show CallT Try.prog Try.T1 (.fn (.func 7) #[]) #[.slice p ws.length cap, .int .i64 s, .agg #[.int .i64 N0, .int .i64 N1, .int .i64 N2]] w _
  have g := (Grown.refl f).push (.cells [.int .i64 N0, .int .i64 N1, .int .i64 N2] 70 w.next 0 0)
  have hN := Own.new f 70 [.int .i64 N0, .int .i64 N1, .int .i64 N2]
  refine callT_code rfl Try.func7 rfl Try.s7_eq rfl ?_
  unfold Try.s7
  simp -dsimp -implicitDefEqProofs (maxSteps := 2000000) (disch := first | assumption | omega | (simp only [AW.next_push, AW.next_put]; omega) | ((repeat refine Fresh.push ?_ _); assumption) | (simp only [same_int, same_bool, same_ptr, same_slice, same_sliceP, same_nil, same_agg2, same_string]; done) | (simp [oneCell, AW.next_push]; done) | fail) only [go_sem, Nat.reduceEqDiff, reduceIte, Nat.reduceAdd, Int.toNat_natCast, Nat.add_zero, Owes_true, Try.results7, Nat.zero_add]
  apply callV_of (e := rfl)
  · exact Share_ok ws _ s _ g.2 (hs.grown g)
  rintro _ w1 ⟨u1, rfl, hA1, hg1⟩
  have g1 := g.trans hg1
  have hN1 := hN.keep hg1.1
  by_cases hE : shareE ws s = 0
  case neg =>
    have hE' : decide (shareE ws s = 0) = false := decide_eq_false hE
    simp -dsimp -implicitDefEqProofs (maxSteps := 2000000) (disch := first | assumption | omega | (simp only [AW.next_push, AW.next_put]; omega) | ((repeat refine Fresh.push ?_ _); assumption) | (simp only [same_int, same_bool, same_ptr, same_slice, same_sliceP, same_nil, same_agg2, same_string]; done) | (simp [oneCell, AW.next_push]; done) | fail) only [go_sem, Nat.reduceEqDiff, reduceIte, Nat.reduceAdd, Int.toNat_natCast, Nat.add_zero, Owes_true, Try.results7, hE, ne_eq, not_false_eq_true]
    apply callV_of (e := rfl)
    · exact callT_told (Q := fun v w' => v = .bool true ∧ w1 = w') (v := .bool true) (w' := w1) rfl ⟨rfl, rfl⟩
    rintro _ _ ⟨rfl, rfl⟩
    simp -dsimp -implicitDefEqProofs (maxSteps := 2000000) (disch := first | assumption | omega | (simp only [AW.next_push, AW.next_put]; omega) | ((repeat refine Fresh.push ?_ _); assumption) | (simp only [same_int, same_bool, same_ptr, same_slice, same_sliceP, same_nil, same_agg2, same_string]; done) | (simp [oneCell, AW.next_push]; done) | fail) only [go_sem, Nat.reduceEqDiff, reduceIte, Nat.reduceAdd, Int.toNat_natCast, Nat.add_zero, Owes_true, Try.results7]
  obtain ⟨hW, h0, h1⟩ := shareE_in hE
  have hO : shareO ws s = shareL ws s := by rw [shareO, if_pos hE]
  rw [hO] at hA1
  obtain ⟨hsh, hsum⟩ := share_is hW.nn hW.sum.1 h0
  generalize shareL ws s = L at *
  have hlen := hsh.len
  have hlw := hW.len
  obtain ⟨q, cap2, rfl, _, _, hat2⟩ := id hA1.open
  have hlenI : (L.length : Int) = (ws.length : Int) := by omega
  have c0 := hN1.cell (o := 0) rfl rfl
  simp -dsimp -implicitDefEqProofs (maxSteps := 2000000) (disch := first | assumption | omega | (simp only [AW.next_push, AW.next_put]; omega) | ((repeat refine Fresh.push ?_ _); assumption) | (simp only [same_int, same_bool, same_ptr, same_slice, same_sliceP, same_nil, same_agg2, same_string]; done) | (simp [oneCell, AW.next_push]; done) | fail) only [go_sem, Nat.reduceEqDiff, reduceIte, Nat.reduceAdd, Int.toNat_natCast, Nat.add_zero, Owes_true, Try.results7, hE, hlenI, Nat.zero_add, c0]
  apply callV_of (e := rfl)
  · exact Ring_ok N0 1000 (by omega) (by omega) w1
  rintro _ _ ⟨k1, rfl, hk0, hk1, rfl⟩
  simp -dsimp -implicitDefEqProofs (maxSteps := 2000000) (disch := first | assumption | omega | (simp only [AW.next_push, AW.next_put]; omega) | ((repeat refine Fresh.push ?_ _); assumption) | (simp only [same_int, same_bool, same_ptr, same_slice, same_sliceP, same_nil, same_agg2, same_string]; done) | (simp [oneCell, AW.next_push]; done) | fail) only [go_sem, Nat.reduceEqDiff, reduceIte, Nat.reduceAdd, Int.toNat_natCast, Nat.add_zero, Owes_true, Try.results7]
  generalize hT : min 34359738368 (s + k1) = T at *
  have hsT : s ≤ T := by omega
  have hT1 : T ≤ 34359738368 := by omega
  apply callV_of (e := rfl)
  · exact Share_ok ws _ T w1 g1.2 (hs.grown g1)
  rintro _ w2 ⟨u2, rfl, hA2, hg2⟩
  have g2 := g1.trans hg2
  have hN2 := hN1.keep hg2.1
  have hE2 := shareE_of hW (show 0 ≤ T by omega) hT1
  have hO2 : shareO ws T = shareL ws T := by rw [shareO, if_pos hE2]
  rw [hO2] at hA2
  obtain ⟨hsh2, hsum2⟩ := share_is hW.nn hW.sum.1 (show 0 ≤ T by omega)
  generalize shareL ws T = K at *
  have hlen2 := hsh2.len
  obtain ⟨q2, cap3, rfl, _, _, hat3⟩ := id hA2.open
  have hlenI2 : (K.length : Int) = (ws.length : Int) := by omega
  have hmono := shared_mono hW.nn hsh hsh2 (by omega)
  have c1 := hN2.cell (o := 1) rfl rfl
  simp -dsimp -implicitDefEqProofs (maxSteps := 2000000) (disch := first | assumption | omega | (simp only [AW.next_push, AW.next_put]; omega) | ((repeat refine Fresh.push ?_ _); assumption) | (simp only [same_int, same_bool, same_ptr, same_slice, same_sliceP, same_nil, same_agg2, same_string]; done) | (simp [oneCell, AW.next_push]; done) | fail) only [go_sem, Nat.reduceEqDiff, reduceIte, Nat.reduceAdd, Int.toNat_natCast, Nat.add_zero, Owes_true, Try.results7, hE2, hlenI2, Nat.zero_add, c1]
  apply callV_of (e := rfl)
  · exact Ring_ok N1 (ws.length : Int) (by omega) (by omega) w2
  rintro _ _ ⟨ki, rfl, hi0, hi1, rfl⟩
  obtain ⟨I, rfl⟩ := Int.eq_ofNat_of_zero_le hi0
  have hI : I < ws.length := by omega
  simp -dsimp -implicitDefEqProofs (maxSteps := 2000000) (disch := first | assumption | omega | (simp only [AW.next_push, AW.next_put]; omega) | ((repeat refine Fresh.push ?_ _); assumption) | (simp only [same_int, same_bool, same_ptr, same_slice, same_sliceP, same_nil, same_agg2, same_string]; done) | (simp [oneCell, AW.next_push]; done) | fail) only [go_sem, Nat.reduceEqDiff, reduceIte, Nat.reduceAdd, Int.toNat_natCast, Nat.add_zero, Owes_true, Try.results7]
  apply callV_of (e := rfl)
  · exact Own_ok ws _ w2 g2.2 (hs.grown g2) (by omega) (by omega)
  rintro vo w3 ⟨hV, hg3⟩
  have g3 := g2.trans hg3
  have hN3 := hN2.keep hg3.1
  obtain ⟨_, bV, rfl, hcV⟩ := own_at1 hV (by omega)
  have z0 := hcV I hI
  have c2 := hN3.cell (o := 2) rfl rfl
  have hle := WLe.refl w3
  simp -dsimp -implicitDefEqProofs (maxSteps := 2000000) (disch := first | assumption | omega | (simp only [AW.next_push, AW.next_put]; omega) | ((repeat refine Fresh.push ?_ _); assumption) | (simp only [same_int, same_bool, same_ptr, same_slice, same_sliceP, same_nil, same_agg2, same_string]; done) | (simp [oneCell, AW.next_push]; done) | fail) only [go_sem, Nat.reduceEqDiff, reduceIte, Nat.reduceAdd, Int.toNat_natCast, Nat.add_zero, Owes_true, Try.results7, Nat.zero_add, indexV_eq, hi1, z0, c2]
  apply callV_of (e := rfl)
  · exact Ring_ok N2 5000 (by omega) (by omega) w3
  rintro _ _ ⟨k3, rfl, hk30, hk31, rfl⟩
  have vI := hW.val I
  generalize hX : min 67108864 (W ws I + k3) = X at *
  have hXr : W ws I ≤ X ∧ X ≤ 67108864 := by omega
  obtain ⟨bV', e', _, w4, hst, hA4, hS4⟩ := aown_store hV g3.2 (o := I) (by rw [icells_flat_len]; omega) (x := .int .i64 X) rfl
  injection e' with e'
  injection e' with e'
  injection e' with e1' e2' e3'
  subst e1'
  rw [setL_ic] at hA4
  rw [show (Value.pointer (some ⟨bV, I, none⟩)) = .pointer (some ⟨bV, I * 1, none⟩) from by rw [Nat.mul_one]] at hst
  simp -dsimp -implicitDefEqProofs (maxSteps := 2000000) (disch := first | assumption | omega | (simp only [AW.next_push, AW.next_put]; omega) | ((repeat refine Fresh.push ?_ _); assumption) | (simp only [same_int, same_bool, same_ptr, same_slice, same_sliceP, same_nil, same_agg2, same_string]; done) | (simp [oneCell, AW.next_push]; done) | fail) only [go_sem, Nat.reduceEqDiff, reduceIte, Nat.reduceAdd, Int.toNat_natCast, Nat.add_zero, Owes_true, Try.results7, Nat.zero_add, indexV_eq, hi1, z0, hX, hle, hst]
  have hsetl : (ws.set I X).length = ws.length := List.length_set
  have g4 : Grown w w4 := ⟨g3.1.trans (hS4.keep.mono g2.1.next), hS4.fresh⟩
  have hWv : WIn (ws.set I X) := by
    refine ⟨by rw [hsetl]; exact hlw, fun j => ?_, ?_⟩
    · rw [W_set hI]
      split
      · omega
      · exact hW.val j
    · have h2 := small_w (l := ws.set I X) (by rw [hsetl]; exact hlw.2) (fun j => by
        rw [W_set hI]
        split
        · omega
        · exact hW.val j)
      rw [sum_set hI]
      have := hW.sum
      have := h2.2
      rw [sum_set hI] at this
      omega
  have hArr4 : ArrOf w4 1 icells (.slice (some ⟨bV, 0, none⟩) ws.length ws.length) (ws.set I X) := (show AOwn w2.next w4 3 1 (.slice (some ⟨bV, 0, none⟩) ws.length ws.length) (ws.set I X).length ((ws.set I X).flatMap icells) from by rw [hsetl]; exact hA4).arr icells_len (by omega)
  apply callV_of (e := rfl)
  · exact Share_ok (ws.set I X) _ s w4 g4.2 hArr4
  rintro _ w5 ⟨u5, rfl, hA5, hg5⟩
  have g5 := g4.trans hg5
  have hE5 := shareE_of hWv h0 h1
  have hO5 : shareO (ws.set I X) s = shareL (ws.set I X) s := by rw [shareO, if_pos hE5]
  rw [hO5] at hA5
  obtain ⟨hsh5, hsum5⟩ := share_is hWv.nn hWv.sum.1 h0
  generalize shareL (ws.set I X) s = M at *
  have hlen5 := hsh5.len
  rw [hsetl] at hlen5
  obtain ⟨q5, cap5, rfl, _, _, hat5⟩ := id hA5.open
  have hlenI5 : (M.length : Int) = (ws.length : Int) := by omega
  obtain ⟨hup, hdn⟩ := shared_more hW.nn hWv.nn hsetl hsh hsh5 (by omega) hI (by rw [W_set hI, if_pos rfl]; exact hXr.1) (fun j hj => by rw [W_set hI, if_neg hj])
  rw [hE5]
  simp -dsimp -implicitDefEqProofs (maxSteps := 2000000) (disch := first | assumption | omega | (simp only [AW.next_push, AW.next_put]; omega) | ((repeat refine Fresh.push ?_ _); assumption) | (simp only [same_int, same_bool, same_ptr, same_slice, same_sliceP, same_nil, same_agg2, same_string]; done) | (simp [oneCell, AW.next_push]; done) | fail) only [go_sem, Nat.reduceEqDiff, reduceIte, Nat.reduceAdd, Int.toNat_natCast, Nat.add_zero, Owes_true, Try.results7, hlenI5]
  refine loopR (fun k t ds w6 => ∃ j : Nat, j ≤ ws.length ∧ k = ws.length - j ∧ ds = [] ∧ ev t (.tmp 0) = .slice p ws.length cap ∧ ev t (.tmp 7) = .slice q L.length cap2 ∧ ev t (.tmp 9) = .slice q2 K.length cap3 ∧ ev t (.tmp 10) = .int .i64 (I : Int) ∧ ev t (.tmp 12) = .slice q5 M.length cap5 ∧ ev t (.tmp 13) = .int .i64 (j : Int) ∧ w5 = w6) (ws.length) ?_ ?_
  · refine ⟨0, by omega, by omega, rfl, ?_, ?_, ?_, ?_, ?_, ?_, rfl⟩ <;> simp -dsimp -implicitDefEqProofs (maxSteps := 2000000) (disch := first | assumption | omega | (simp only [AW.next_push, AW.next_put]; omega) | ((repeat refine Fresh.push ?_ _); assumption) | (simp only [same_int, same_bool, same_ptr, same_slice, same_sliceP, same_nil, same_agg2, same_string]; done) | (simp [oneCell, AW.next_push]; done) | fail) only [go_sem, Nat.reduceEqDiff, reduceIte, Nat.reduceAdd, Int.toNat_natCast, Nat.add_zero, Owes_true] <;> rfl
  rintro k t ds w6 ⟨j, hij, rfl, rfl, e0, e7, e9, e10, e12, e13, hw⟩
  subst hw
  by_cases hlt : (j : Int) < (ws.length : Int)
  case neg =>
    simp -dsimp -implicitDefEqProofs (maxSteps := 2000000) (disch := first | assumption | omega | (simp only [AW.next_push, AW.next_put]; omega) | ((repeat refine Fresh.push ?_ _); assumption) | (simp only [same_int, same_bool, same_ptr, same_slice, same_sliceP, same_nil, same_agg2, same_string]; done) | (simp [oneCell, AW.next_push]; done) | fail) only [go_sem, Nat.reduceEqDiff, reduceIte, Nat.reduceAdd, Int.toNat_natCast, Nat.add_zero, Owes_true, Try.results7, e0, e7, e9, e10, e12, e13, hlt]
    apply callV_of (e := rfl)
    · exact callT_told (Q := fun v w' => v = .bool true ∧ w5 = w') (v := .bool true) (w' := w5) rfl ⟨rfl, rfl⟩
    rintro _ _ ⟨rfl, rfl⟩
    simp -dsimp -implicitDefEqProofs (maxSteps := 2000000) (disch := first | assumption | omega | (simp only [AW.next_push, AW.next_put]; omega) | ((repeat refine Fresh.push ?_ _); assumption) | (simp only [same_int, same_bool, same_ptr, same_slice, same_sliceP, same_nil, same_agg2, same_string]; done) | (simp [oneCell, AW.next_push]; done) | fail) only [go_sem, Nat.reduceEqDiff, reduceIte, Nat.reduceAdd, Int.toNat_natCast, Nat.add_zero, Owes_true, Try.results7]
  have hlt' : j < ws.length := by omega
  have hl1 : (j : Int) < (L.length : Int) := by omega
  have hl2 : (j : Int) < (K.length : Int) := by omega
  have hl5 : (j : Int) < (M.length : Int) := by omega
  have k12 : Keep w1.next w1 w5 := hg2.1.trans ((hg3.1.mono hg2.1.next).trans ((hS4.keep.mono hg2.1.next).trans (hg5.1.mono (by have := hg2.1.next; have := hg3.1.next; have := hS4.next; omega))))
  have k25 : Keep w2.next w2 w5 := hg3.1.trans (hS4.keep.trans (hg5.1.mono (by have := hg3.1.next; have := hS4.next; omega)))
  obtain ⟨b2, o2, rfl, hb2, hcell2⟩ := hat2 j (by omega)
  have d0 := hcell2 _ k12 0 _ rfl
  rw [Nat.add_zero, ← W_at (show j < L.length by omega)] at d0
  obtain ⟨b3, o3, rfl, hb3, hcell3⟩ := hat3 j (by omega)
  have d1 := hcell3 _ k25 0 _ rfl
  rw [Nat.add_zero, ← W_at (show j < K.length by omega)] at d1
  obtain ⟨b5, o5, rfl, hb5, hcell5⟩ := hat5 j (by omega)
  have d2 := hcell5 _ (.refl _ _) 0 _ rfl
  rw [Nat.add_zero, ← W_at (show j < M.length by omega)] at d2
  have n1 : ¬ W K j < W L j := by have := hmono j; omega
  by_cases hji : (j : Int) = (I : Int)
  · have hji' : j = I := by omega
    have n2 : ¬ W M j < W L j := by rw [hji']; omega
    have hji2 : decide ((j : Int) = (I : Int)) = true := decide_eq_true hji
    simp -dsimp -implicitDefEqProofs (maxSteps := 2000000) (disch := first | assumption | omega | (simp only [AW.next_push, AW.next_put]; omega) | ((repeat refine Fresh.push ?_ _); assumption) | (simp only [same_int, same_bool, same_ptr, same_slice, same_sliceP, same_nil, same_agg2, same_string]; done) | (simp [oneCell, AW.next_push]; done) | fail) only [go_sem, Nat.reduceEqDiff, reduceIte, Nat.reduceAdd, Int.toNat_natCast, Nat.add_zero, Owes_true, Try.results7, e0, e7, e9, e10, e12, e13, hlt, hl1, hl2, hl5, indexV_eq, d0, d1, d2, n1, n2, hji2]
    refine ⟨_, by omega, j + 1, by omega, rfl, rfl, by (simp -dsimp -implicitDefEqProofs (maxSteps := 2000000) (disch := first | assumption | omega | (simp only [AW.next_push, AW.next_put]; omega) | ((repeat refine Fresh.push ?_ _); assumption) | (simp only [same_int, same_bool, same_ptr, same_slice, same_sliceP, same_nil, same_agg2, same_string]; done) | (simp [oneCell, AW.next_push]; done) | fail) only [go_sem, Nat.reduceEqDiff, reduceIte, Nat.reduceAdd, Int.toNat_natCast, Nat.add_zero, Owes_true, e0]; try rfl), by (simp -dsimp -implicitDefEqProofs (maxSteps := 2000000) (disch := first | assumption | omega | (simp only [AW.next_push, AW.next_put]; omega) | ((repeat refine Fresh.push ?_ _); assumption) | (simp only [same_int, same_bool, same_ptr, same_slice, same_sliceP, same_nil, same_agg2, same_string]; done) | (simp [oneCell, AW.next_push]; done) | fail) only [go_sem, Nat.reduceEqDiff, reduceIte, Nat.reduceAdd, Int.toNat_natCast, Nat.add_zero, Owes_true, e7]; try rfl), by (simp -dsimp -implicitDefEqProofs (maxSteps := 2000000) (disch := first | assumption | omega | (simp only [AW.next_push, AW.next_put]; omega) | ((repeat refine Fresh.push ?_ _); assumption) | (simp only [same_int, same_bool, same_ptr, same_slice, same_sliceP, same_nil, same_agg2, same_string]; done) | (simp [oneCell, AW.next_push]; done) | fail) only [go_sem, Nat.reduceEqDiff, reduceIte, Nat.reduceAdd, Int.toNat_natCast, Nat.add_zero, Owes_true, e9]; try rfl), by (simp -dsimp -implicitDefEqProofs (maxSteps := 2000000) (disch := first | assumption | omega | (simp only [AW.next_push, AW.next_put]; omega) | ((repeat refine Fresh.push ?_ _); assumption) | (simp only [same_int, same_bool, same_ptr, same_slice, same_sliceP, same_nil, same_agg2, same_string]; done) | (simp [oneCell, AW.next_push]; done) | fail) only [go_sem, Nat.reduceEqDiff, reduceIte, Nat.reduceAdd, Int.toNat_natCast, Nat.add_zero, Owes_true, e10]; try rfl), by (simp -dsimp -implicitDefEqProofs (maxSteps := 2000000) (disch := first | assumption | omega | (simp only [AW.next_push, AW.next_put]; omega) | ((repeat refine Fresh.push ?_ _); assumption) | (simp only [same_int, same_bool, same_ptr, same_slice, same_sliceP, same_nil, same_agg2, same_string]; done) | (simp [oneCell, AW.next_push]; done) | fail) only [go_sem, Nat.reduceEqDiff, reduceIte, Nat.reduceAdd, Int.toNat_natCast, Nat.add_zero, Owes_true, e12]; try rfl), by (simp -dsimp -implicitDefEqProofs (maxSteps := 2000000) (disch := first | assumption | omega | (simp only [AW.next_push, AW.next_put]; omega) | ((repeat refine Fresh.push ?_ _); assumption) | (simp only [same_int, same_bool, same_ptr, same_slice, same_sliceP, same_nil, same_agg2, same_string]; done) | (simp [oneCell, AW.next_push]; done) | fail) only [go_sem, Nat.reduceEqDiff, reduceIte, Nat.reduceAdd, Int.toNat_natCast, Nat.add_zero, Owes_true, e13]; try rfl), rfl⟩
  · have n3 : ¬ W L j < W M j := by have := hdn j (by omega); omega
    simp -dsimp -implicitDefEqProofs (maxSteps := 2000000) (disch := first | assumption | omega | (simp only [AW.next_push, AW.next_put]; omega) | ((repeat refine Fresh.push ?_ _); assumption) | (simp only [same_int, same_bool, same_ptr, same_slice, same_sliceP, same_nil, same_agg2, same_string]; done) | (simp [oneCell, AW.next_push]; done) | fail) only [go_sem, Nat.reduceEqDiff, reduceIte, Nat.reduceAdd, Int.toNat_natCast, Nat.add_zero, Owes_true, Try.results7, e0, e7, e9, e10, e12, e13, hlt, hl1, hl2, hl5, indexV_eq, d0, d1, d2, n1, n3, hji]
    refine ⟨_, by omega, j + 1, by omega, rfl, rfl, by (simp -dsimp -implicitDefEqProofs (maxSteps := 2000000) (disch := first | assumption | omega | (simp only [AW.next_push, AW.next_put]; omega) | ((repeat refine Fresh.push ?_ _); assumption) | (simp only [same_int, same_bool, same_ptr, same_slice, same_sliceP, same_nil, same_agg2, same_string]; done) | (simp [oneCell, AW.next_push]; done) | fail) only [go_sem, Nat.reduceEqDiff, reduceIte, Nat.reduceAdd, Int.toNat_natCast, Nat.add_zero, Owes_true, e0]; try rfl), by (simp -dsimp -implicitDefEqProofs (maxSteps := 2000000) (disch := first | assumption | omega | (simp only [AW.next_push, AW.next_put]; omega) | ((repeat refine Fresh.push ?_ _); assumption) | (simp only [same_int, same_bool, same_ptr, same_slice, same_sliceP, same_nil, same_agg2, same_string]; done) | (simp [oneCell, AW.next_push]; done) | fail) only [go_sem, Nat.reduceEqDiff, reduceIte, Nat.reduceAdd, Int.toNat_natCast, Nat.add_zero, Owes_true, e7]; try rfl), by (simp -dsimp -implicitDefEqProofs (maxSteps := 2000000) (disch := first | assumption | omega | (simp only [AW.next_push, AW.next_put]; omega) | ((repeat refine Fresh.push ?_ _); assumption) | (simp only [same_int, same_bool, same_ptr, same_slice, same_sliceP, same_nil, same_agg2, same_string]; done) | (simp [oneCell, AW.next_push]; done) | fail) only [go_sem, Nat.reduceEqDiff, reduceIte, Nat.reduceAdd, Int.toNat_natCast, Nat.add_zero, Owes_true, e9]; try rfl), by (simp -dsimp -implicitDefEqProofs (maxSteps := 2000000) (disch := first | assumption | omega | (simp only [AW.next_push, AW.next_put]; omega) | ((repeat refine Fresh.push ?_ _); assumption) | (simp only [same_int, same_bool, same_ptr, same_slice, same_sliceP, same_nil, same_agg2, same_string]; done) | (simp [oneCell, AW.next_push]; done) | fail) only [go_sem, Nat.reduceEqDiff, reduceIte, Nat.reduceAdd, Int.toNat_natCast, Nat.add_zero, Owes_true, e10]; try rfl), by (simp -dsimp -implicitDefEqProofs (maxSteps := 2000000) (disch := first | assumption | omega | (simp only [AW.next_push, AW.next_put]; omega) | ((repeat refine Fresh.push ?_ _); assumption) | (simp only [same_int, same_bool, same_ptr, same_slice, same_sliceP, same_nil, same_agg2, same_string]; done) | (simp [oneCell, AW.next_push]; done) | fail) only [go_sem, Nat.reduceEqDiff, reduceIte, Nat.reduceAdd, Int.toNat_natCast, Nat.add_zero, Owes_true, e12]; try rfl), by (simp -dsimp -implicitDefEqProofs (maxSteps := 2000000) (disch := first | assumption | omega | (simp only [AW.next_push, AW.next_put]; omega) | ((repeat refine Fresh.push ?_ _); assumption) | (simp only [same_int, same_bool, same_ptr, same_slice, same_sliceP, same_nil, same_agg2, same_string]; done) | (simp [oneCell, AW.next_push]; done) | fail) only [go_sem, Nat.reduceEqDiff, reduceIte, Nat.reduceAdd, Int.toNat_natCast, Nat.add_zero, Owes_true, e13]; try rfl), rfl⟩
end Go.Proofs
