/- Each surplus is paid once, or passes once: the law on the machine. -/
import Derived.Test.YtbmgalmnjaimeaaRe
set_option linter.unusedVariables false
set_option linter.unusedSimpArgs false
namespace Go.Proofs
open Go Go.RowKit Go.Sim
set_option maxRecDepth 100000
theorem actsTo_T {T : Int} {ac : List ActV} : ∀ n, n ≤ ac.length → (actsTo T ac n).T = T
  | 0, _ => by unfold actsTo; rfl
  | n + 1, h => by rw [actsTo_succ (by omega), act_T, actsTo_T n (by omega)]
theorem ints_one {n : Int} : ([n] : List Int).sum = n := by simp
theorem small_one {M : Int} (h1 : -4611686018427387904 ≤ M) (h2 : M ≤ 4611686018427387904) : Small [M] := by
  intro n
  cases n with
  | zero => simp
  | succ n => simp; omega
def SepB (w : AW) (F : Nat → Prop) (v : Value) (L : List SurN) : Prop := ArrOf w 5 surc v L ∧ (1 ≤ L.length → ∀ b o n c, v = .slice (some ⟨b, o, none⟩) n c → ¬ F b)
theorem SepB.step {w w' : AW} {F F' : Nat → Prop} {v : Value} {L : List SurN} (h : SepB w F v L) (k : MutS F w w') (hw : Within F w F') : SepB w' F' v L := by
  obtain ⟨⟨p, n, c, rfl, hl, hc, hb, hat⟩, hs⟩ := h
  rw [List.length_map] at hl
  have hn := k.next
  refine ⟨⟨p, n, c, rfl, by rw [List.length_map]; exact hl, hc, hb, fun h1 => ?_⟩, fun h1 b o m d e => ?_⟩
  · obtain ⟨b, o, rfl, hlt, hcell⟩ := hat h1
    have hF := hs (by omega) b o n c rfl
    refine ⟨b, o, rfl, by omega, fun i j r x hr hx => ?_⟩
    rw [← hcell i j r x hr hx]
    simp only [AW.cell?, k.blk b hlt hF]
  · obtain ⟨b', o', rfl, hlt, _⟩ := hat (by omega)
    have hF := hs (by omega) b' o' n c rfl
    injection e with e1
    injection e1 with e1
    injection e1 with e1
    subst e1
    exact fun q => (hw _ q).elim hF (by omega)
structure OnceI (w : AW) (T : Int) (ac : List ActV) (bp bb r bk : Nat) (i : Nat) (u : Value) (w4 : AW) (F : Nat → Prop) (b : BookN) : Prop where
  pur : PurAt w4 F bp bb r (actsTo T ac i)
  inv : BInv b (actsTo T ac i) i
  own : Own w4 bk 83 [.int .i64 b.l, .int .i64 b.p, .int .i64 b.s, .int .i64 b.g]
  nF : ¬ F bk
  F0 : ∀ j, F j → w.next ≤ j
  bef : SepB w4 F u (actsTo T ac i).S
  keep : Keep w.next w w4
  f : Fresh w4
  bk0 : w.next ≤ bk
theorem OnceI.grown {w : AW} {T : Int} {ac : List ActV} {bp bb r bk i : Nat} {u : Value} {w4 w5 : AW} {F : Nat → Prop} {b : BookN} (h : OnceI w T ac bp bb r bk i u w4 F b) (g : Grown w4 w5) : OnceI w T ac bp bb r bk i u w5 F b :=
  ⟨h.pur.grown g, h.inv, h.own.keep g.1, h.nF, h.F0, h.bef.step (.of g) (Within.refl _ _), h.keep.trans (g.1.mono h.keep.next), g.2, h.bk0⟩
theorem once_next {w : AW} {T : Int} {ac : List ActV} {bp bb r bk i : Nat} {u v : Value} {w4 w5 w6 w7 w8 : AW} {F F' : Nat → Prop} {b b' : BookN} (h : OnceI w T ac bp bb r bk i u w4 F b) (hi : i < ac.length) (hP : PurAt w5 F' bp bb r (actX (actsTo T ac i) ac[i])) (hM : MutS F w4 w5) (hW : Within F w4 F') (g : Grown w5 w6) (hS : ArrOf w6 5 surc v (actX (actsTo T ac i) ac[i]).S) (hSn : 1 ≤ (actX (actsTo T ac i) ac[i]).S.length → ∀ b o n c, v = .slice (some ⟨b, o, none⟩) n c → w5.next ≤ b)
    (g2 : Grown w6 w7) (hk : MutS (fun j => j = bk) w7 w8) (hO : Own w8 bk 83 [.int .i64 b'.l, .int .i64 b'.p, .int .i64 b'.s, .int .i64 b'.g]) (hB : BInv b' (actsTo T ac (i + 1)) (i + 1)) : OnceI w T ac bp bb r bk (i + 1) v w8 F' b' := by
  have hX := actsTo_succ (T := T) hi
  have hlt := hP.lt
  have hn4 := h.keep.next
  have hn5 := hM.next
  have hnb : ¬ F' bk := fun q => (hW _ q).elim h.nF (by have := h.own.lt; omega)
  have g57 := g.trans g2
  have hbk := h.bk0
  refine ⟨?_, hB, hO, hnb, fun j q => (hW j q).elim (h.F0 j) (by omega), ?_, ?_, hk.fresh, h.bk0⟩
  · rw [hX]; exact (hP.grown g57).other hk fun j q e => hnb (e ▸ q)
  · rw [hX]
    have h7 : SepB w7 (fun j => F' j ∨ j = bk) v (actX (actsTo T ac i) ac[i]).S := ⟨hS.grown g2, fun h1 b o n c e q => by
      have := hSn h1 b o n c e
      rcases q with q | q
      · have := hlt _ q; omega
      · have := h.own.lt; omega⟩
    have h8 := h7.step (F' := fun j => F' j ∨ j = bk) (hk.mono fun j q => .inr q) (Within.refl _ _)
    exact ⟨h8.1, fun h1 b o n c e q => h8.2 h1 b o n c e (.inl q)⟩
  · have k5 : Keep w.next w w5 := h.keep.trans (hM.keep h.F0 hn4)
    have k7 : Keep w.next w w7 := k5.trans (g57.1.mono (by omega))
    have hn7 := g57.1.next
    exact k7.trans (hk.keep (fun j q => by omega) (by omega))
set_option maxHeartbeats 32000000 in
theorem once_law (w : AW) (xs : List Value) (f : Fresh w) (h : HdAll Try.prog w [3, 38] xs) : CallT Try.prog Try.T1 (.fn (.func 11) #[]) xs.toArray w fun v _ => v = .bool true := by
  cases h with
  | cons n1 h1 h =>
  cases h with
  | cons n2 h2 h =>
  cases h
  rename_i v1 v2
  obtain ⟨T, rfl⟩ := given_num h1
  obtain ⟨ac, hs, has⟩ := given_acts h2
  clear h1 h2
  obtain ⟨p, cap, rfl, _, _, hat⟩ := hs.open
  have hlen : ∀ a ∈ ac, a.Ds.length = a.xs.length := fun a h => (has a h).lot.len
  show CallT Try.prog Try.T1 (.fn (.func 11) #[]) #[.int .i64 T, .slice p ac.length cap] w _
  refine callT_code rfl Try.func11 rfl Try.s11_eq rfl ?_
  unfold Try.s11
  simp -dsimp -implicitDefEqProofs (maxSteps := 2000000) (disch := first | assumption | omega | (simp only [nx]; omega) | ((repeat refine Fresh.push ?_ _); assumption) | (simp only [smA]; done) | (simp [oneCell, AW.next_push]; done) | fail) only [go_sem, Nat.reduceEqDiff, reduceIte, Nat.reduceAdd, Int.toNat_natCast, Nat.add_zero, Owes_true, Try.results11]
  apply callV_of (e := rfl)
  · exact New_ok T w f
  rintro _ w2 (⟨hT, rfl, rfl⟩ | ⟨hT, bp, bb, r, rfl, hP, hg2⟩)
  · have e7 : decide ((7 : Int) = 0) = false := rfl
    simp -dsimp -implicitDefEqProofs (maxSteps := 2000000) (disch := first | assumption | omega | (simp only [nx]; omega) | ((repeat refine Fresh.push ?_ _); assumption) | (simp only [smA]; done) | (simp [oneCell, AW.next_push]; done) | fail) only [go_sem, Nat.reduceEqDiff, reduceIte, Nat.reduceAdd, Int.toNat_natCast, Nat.add_zero, Owes_true, Try.results11, e7]
    apply callV_of (e := rfl)
    · exact callT_told (Q := fun v w' => v = .bool true ∧ w = w') (v := .bool true) (w' := w) rfl ⟨rfl, rfl⟩
    rintro _ _ ⟨rfl, rfl⟩
    simp -dsimp -implicitDefEqProofs (maxSteps := 2000000) (disch := first | assumption | omega | (simp only [nx]; omega) | ((repeat refine Fresh.push ?_ _); assumption) | (simp only [smA]; done) | (simp [oneCell, AW.next_push]; done) | fail) only [go_sem, Nat.reduceEqDiff, reduceIte, Nat.reduceAdd, Int.toNat_natCast, Nat.add_zero, Owes_true, Try.results11]
  simp -dsimp -implicitDefEqProofs (maxSteps := 2000000) (disch := first | assumption | omega | (simp only [nx]; omega) | ((repeat refine Fresh.push ?_ _); assumption) | (simp only [smA]; done) | (simp [oneCell, AW.next_push]; done) | fail) only [go_sem, Nat.reduceEqDiff, reduceIte, Nat.reduceAdd, Int.toNat_natCast, Nat.add_zero, Owes_true, Try.results11]
  have f2 := hg2.2
  have hOb := Own.new f2 83 [.int .i64 0, .int .i64 0, .int .i64 0, .int .i64 0]
  have gb := (Grown.refl f2).push (.cells [.int .i64 0, .int .i64 0, .int .i64 0, .int .i64 0] 83 w2.next 0 0)
  have hn2 := hg2.1.next
  have hI0 : OnceI w T ac bp bb r w2.next 0 (.slice none 0 0) (w2.push (.cells [.int .i64 0, .int .i64 0, .int .i64 0, .int .i64 0] 83 w2.next 0 0)) (fun j => w.next ≤ j ∧ j < w2.next) ⟨0, 0, 0, 0⟩ :=
    ⟨hP.grown gb, ⟨by simp [actsTo, heldS], by simp [actsTo], by simp, by simp⟩, hOb, by omega, fun j q => q.1, ⟨ArrOf.nil _ _ _, fun q => by simp [actsTo] at q⟩, hg2.1.trans (gb.1.mono hn2), gb.2, hn2⟩
  generalize hbk : w2.next = bk at *
  have hinv := fun n hn => acts_inv hT hlen n hn
  have hT' := (inR_iff _ _ _).1 hT
  refine loopR (fun k t ds w4 => ∃ i : Nat, i ≤ min ac.length 60 ∧ k = min ac.length 60 - i ∧ ds = [] ∧ ev t (.tmp 0) = .int .i64 T ∧ ev t (.tmp 1) = .slice p ac.length cap ∧ ev t (.tmp 5) = .pointer (some ⟨bp, 0, none⟩) ∧ ev t (.tmp 7) = .pointer (some ⟨bk, 0, none⟩) ∧ ev t (.tmp 9) = .int .i64 (i : Int) ∧ ∃ u, ev t (.tmp 8) = u ∧ ∃ F b, OnceI w T ac bp bb r bk i u w4 F b) (min ac.length 60) ?_ ?_
  · refine ⟨0, by omega, by omega, rfl, ?_, ?_, ?_, ?_, ?_, ⟨_, (by simp -dsimp -implicitDefEqProofs (maxSteps := 2000000) (disch := first | assumption | omega | (simp only [nx]; omega) | ((repeat refine Fresh.push ?_ _); assumption) | (simp only [smA]; done) | (simp [oneCell, AW.next_push]; done) | fail) only [go_sem, Nat.reduceEqDiff, reduceIte, Nat.reduceAdd, Int.toNat_natCast, Nat.add_zero, Owes_true]; try rfl), _, _, hI0⟩⟩ <;> simp -dsimp -implicitDefEqProofs (maxSteps := 2000000) (disch := first | assumption | omega | (simp only [nx]; omega) | ((repeat refine Fresh.push ?_ _); assumption) | (simp only [smA]; done) | (simp [oneCell, AW.next_push]; done) | fail) only [go_sem, Nat.reduceEqDiff, reduceIte, Nat.reduceAdd, Int.toNat_natCast, Nat.add_zero, Owes_true, hbk] <;> rfl
  rintro k t ds w4 ⟨i, hii, rfl, rfl, e0, e1, e5, e7, e9, hI⟩
  obtain ⟨u, e8, F, b, hI⟩ := hI
  have hk4 := hI.keep
  obtain ⟨hi1, hi2⟩ := hinv i (by omega)
  by_cases hlt : i < min ac.length 60
  case neg =>
    have hexit : decide ((i : Int) < (ac.length : Int)) = false ∨ (decide ((i : Int) < (ac.length : Int)) = true ∧ decide ((i : Int) < 60) = false) := by
      by_cases q : (i : Int) < (ac.length : Int)
      · exact .inr ⟨decide_eq_true q, decide_eq_false (by omega)⟩
      · exact .inl (decide_eq_false q)
    rcases hexit with hx1 | ⟨hx1, hx2⟩
    · simp -dsimp -implicitDefEqProofs (maxSteps := 2000000) (disch := first | assumption | omega | (simp only [nx]; omega) | ((repeat refine Fresh.push ?_ _); assumption) | (simp only [smA]; done) | (simp [oneCell, AW.next_push]; done) | fail) only [go_sem, Nat.reduceEqDiff, reduceIte, Nat.reduceAdd, Int.toNat_natCast, Nat.add_zero, Owes_true, e0, e1, e5, e7, e8, e9, hx1]
      apply callV_of (e := rfl)
      · exact callT_told (Q := fun v w' => v = .bool true ∧ w4 = w') (v := .bool true) (w' := w4) rfl ⟨rfl, rfl⟩
      rintro _ _ ⟨rfl, rfl⟩
      simp -dsimp -implicitDefEqProofs (maxSteps := 2000000) (disch := first | assumption | omega | (simp only [nx]; omega) | ((repeat refine Fresh.push ?_ _); assumption) | (simp only [smA]; done) | (simp [oneCell, AW.next_push]; done) | fail) only [go_sem, Nat.reduceEqDiff, reduceIte, Nat.reduceAdd, Int.toNat_natCast, Nat.add_zero, Owes_true, Try.results11]
    · simp -dsimp -implicitDefEqProofs (maxSteps := 2000000) (disch := first | assumption | omega | (simp only [nx]; omega) | ((repeat refine Fresh.push ?_ _); assumption) | (simp only [smA]; done) | (simp [oneCell, AW.next_push]; done) | fail) only [go_sem, Nat.reduceEqDiff, reduceIte, Nat.reduceAdd, Int.toNat_natCast, Nat.add_zero, Owes_true, e0, e1, e5, e7, e8, e9, hx1, hx2]
      apply callV_of (e := rfl)
      · exact callT_told (Q := fun v w' => v = .bool true ∧ w4 = w') (v := .bool true) (w' := w4) rfl ⟨rfl, rfl⟩
      rintro _ _ ⟨rfl, rfl⟩
      simp -dsimp -implicitDefEqProofs (maxSteps := 2000000) (disch := first | assumption | omega | (simp only [nx]; omega) | ((repeat refine Fresh.push ?_ _); assumption) | (simp only [smA]; done) | (simp [oneCell, AW.next_push]; done) | fail) only [go_sem, Nat.reduceEqDiff, reduceIte, Nat.reduceAdd, Int.toNat_natCast, Nat.add_zero, Owes_true, Try.results11]
  have hl1 : (i : Int) < (ac.length : Int) := by omega
  have hl2 : (i : Int) < 60 := by omega
  have hli : i < ac.length := by omega
  obtain ⟨b1, o1, rfl, hb1, hcell⟩ := hat i hli
  have a0 := hcell w4 hk4 0 _ rfl
  have a1 := hcell w4 hk4 1 _ rfl
  have a2 := hcell w4 hk4 2 _ rfl
  have a3 := hcell w4 hk4 3 _ rfl
  have a4 := hcell w4 hk4 4 _ rfl
  have a5 := hcell w4 hk4 5 _ rfl
  rw [Nat.add_zero] at a0
  have hn := actsTo_succ (T := T) hli
  have hai := has ac[i] (List.getElem_mem hli)
  have hT5 := actsTo_T (T := T) (ac := ac) i (by omega)
  simp -dsimp -implicitDefEqProofs (maxSteps := 2000000) (disch := first | assumption | omega | (simp only [nx]; omega) | ((repeat refine Fresh.push ?_ _); assumption) | (simp only [smA]; done) | (simp [oneCell, AW.next_push]; done) | fail) only [go_sem, Nat.reduceEqDiff, reduceIte, Nat.reduceAdd, Int.toNat_natCast, Nat.add_zero, Owes_true, e0, e1, e5, e7, e8, e9, hl1, hl2, indexV_eq, a0, a1, a2, a3, a4, a5]
  apply callV_of (e := rfl)
  · exact done_ok ac[i] bp bb r _ F w w4 hI.f hI.pur hai hI.keep hI.F0 hi1.good (by omega)
  rintro _ w5 ⟨u1, u2, F', rfl, hP5, hM, hW, hR⟩
  simp -dsimp -implicitDefEqProofs (maxSteps := 2000000) (disch := first | assumption | omega | (simp only [nx]; omega) | ((repeat refine Fresh.push ?_ _); assumption) | (simp only [smA]; done) | (simp [oneCell, AW.next_push]; done) | fail) only [go_sem, Nat.reduceEqDiff, reduceIte, Nat.reduceAdd, Int.toNat_natCast, Nat.add_zero, Owes_true, e0, e1, e5, e7, e8, e9]
  have hns := (hinv (i + 1) (by omega)).1.good.n
  rw [hn] at hns
  apply callV_of (e := rfl)
  · exact Surpluses_ok bp bb r _ F' w5 hM.fresh hP5 (by omega)
  rintro v w6 ⟨hS, hSn, hg6⟩
  have hbef := ((hI.bef.step (F' := F') hM hW).1).grown hg6
  obtain ⟨pb, cb, rfl, _⟩ := id hbef.open
  obtain ⟨ps, cs, rfl, _⟩ := id hS.open
  have hk5 : Keep w.next w w5 := hI.keep.trans (hM.keep hI.F0 hI.keep.next)
  have hk6 : Keep w.next w w6 := hk5.trans (hg6.1.mono (by have := hk5.next; omega))
  have r1 := hcell w6 hk6 1 _ rfl
  have hst := act_steady (actsTo T ac i) ac[i]
  rw [hT5] at hst
  have hlen2 : decide (((actX (actsTo T ac i) ac[i]).S.length : Int) < ((actsTo T ac i).S.length : Int)) = false := decide_eq_false (by have := hst.1; omega)
  simp -dsimp -implicitDefEqProofs (maxSteps := 2000000) (disch := first | assumption | omega | (simp only [nx]; omega) | ((repeat refine Fresh.push ?_ _); assumption) | (simp only [smA]; done) | (simp [oneCell, AW.next_push]; done) | fail) only [go_sem, Nat.reduceEqDiff, reduceIte, Nat.reduceAdd, Int.toNat_natCast, Nat.add_zero, Owes_true, e0, e1, e5, e7, e8, e9, hl1, indexV_eq, hlen2, r1]
  apply callV_of (e := rfl)
  · exact steady_ok _ _ T _ _ _ w6 hg6.2 hbef hS hst hT' (fun y hy => by have := hi1.good.s y hy; omega)
  rintro _ w7 ⟨rfl, hg7⟩
  have hk7 : Keep w.next w w7 := hk6.trans (hg7.1.mono (by have := hk6.next; omega))
  have r0 := hcell w7 hk7 0 _ rfl
  rw [Nat.add_zero] at r0
  simp -dsimp -implicitDefEqProofs (maxSteps := 2000000) (disch := first | assumption | omega | (simp only [nx]; omega) | ((repeat refine Fresh.push ?_ _); assumption) | (simp only [smA]; done) | (simp [oneCell, AW.next_push]; done) | fail) only [go_sem, Nat.reduceEqDiff, reduceIte, Nat.reduceAdd, Int.toNat_natCast, Nat.add_zero, Owes_true, e0, e1, e5, e7, e8, e9]
  have hO7 := ((hM.own hI.own hI.nF).keep hg6.1).keep hg7.1
  have nn := hI.inv.nn
  have hle := hI.inv.le
  have hle7 : WLe w7 w7 := .refl _
  have hp1 := hI.inv.e1
  have hp2 := hi1.good.w.1
  have hp4 := hI.inv.e2
  have hp3 := heldS_nn fun y hy => (hi1.good.s y hy).2.2.1
  have hX8g := (hinv (i + 1) (by omega)).1.good
  rw [hn] at hX8g
  have hw8 := hX8g.w
  have hhs := heldS_nn fun y hy => (hX8g.s y hy).2.2.1
  have hle9 : (i : Int) + 1 ≤ 60 := by omega
  have hz4 : ((i + 1 : Nat) : Int) * 536870912 ≤ 32212254720 := by omega
  by_cases hE : actE (actsTo T ac i) ac[i] = 0
  case neg =>
    have hEd : decide (actE (actsTo T ac i) ac[i] = 0) = false := decide_eq_false hE
    have hb2 : BInv b (actX (actsTo T ac i) ac[i]) (i + 1) := by
      have q := book_step hi1 hI.inv ac[i] (hlen _ (List.getElem_mem hli))
      simpa only [bookX, if_pos hE] using q
    have hI8 := once_next (b' := b) hI hli hP5 hM hW hg6 hS hSn hg7 (MutS.refl hg7.2) hO7 (by rw [hn]; exact hb2)
    simp -dsimp -implicitDefEqProofs (maxSteps := 2000000) (disch := first | assumption | omega | (simp only [nx]; omega) | ((repeat refine Fresh.push ?_ _); assumption) | (simp only [smA]; done) | (simp [oneCell, AW.next_push]; done) | fail) only [go_sem, Nat.reduceEqDiff, reduceIte, Nat.reduceAdd, Int.toNat_natCast, Nat.add_zero, Owes_true, e0, e1, e5, e7, e8, e9, hEd]
    refine ⟨_, by omega, i + 1, by omega, rfl, rfl, by (simp -dsimp -implicitDefEqProofs (maxSteps := 2000000) (disch := first | assumption | omega | (simp only [nx]; omega) | ((repeat refine Fresh.push ?_ _); assumption) | (simp only [smA]; done) | (simp [oneCell, AW.next_push]; done) | fail) only [go_sem, Nat.reduceEqDiff, reduceIte, Nat.reduceAdd, Int.toNat_natCast, Nat.add_zero, Owes_true, e0]; try rfl), by (simp -dsimp -implicitDefEqProofs (maxSteps := 2000000) (disch := first | assumption | omega | (simp only [nx]; omega) | ((repeat refine Fresh.push ?_ _); assumption) | (simp only [smA]; done) | (simp [oneCell, AW.next_push]; done) | fail) only [go_sem, Nat.reduceEqDiff, reduceIte, Nat.reduceAdd, Int.toNat_natCast, Nat.add_zero, Owes_true, e1]; try rfl), by (simp -dsimp -implicitDefEqProofs (maxSteps := 2000000) (disch := first | assumption | omega | (simp only [nx]; omega) | ((repeat refine Fresh.push ?_ _); assumption) | (simp only [smA]; done) | (simp [oneCell, AW.next_push]; done) | fail) only [go_sem, Nat.reduceEqDiff, reduceIte, Nat.reduceAdd, Int.toNat_natCast, Nat.add_zero, Owes_true, e5]; try rfl), by (simp -dsimp -implicitDefEqProofs (maxSteps := 2000000) (disch := first | assumption | omega | (simp only [nx]; omega) | ((repeat refine Fresh.push ?_ _); assumption) | (simp only [smA]; done) | (simp [oneCell, AW.next_push]; done) | fail) only [go_sem, Nat.reduceEqDiff, reduceIte, Nat.reduceAdd, Int.toNat_natCast, Nat.add_zero, Owes_true, e7]; try rfl), by (simp -dsimp -implicitDefEqProofs (maxSteps := 2000000) (disch := first | assumption | omega | (simp only [nx]; omega) | ((repeat refine Fresh.push ?_ _); assumption) | (simp only [smA]; done) | (simp [oneCell, AW.next_push]; done) | fail) only [go_sem, Nat.reduceEqDiff, reduceIte, Nat.reduceAdd, Int.toNat_natCast, Nat.add_zero, Owes_true, e9]; try rfl), ⟨_, (by simp -dsimp -implicitDefEqProofs (maxSteps := 2000000) (disch := first | assumption | omega | (simp only [nx]; omega) | ((repeat refine Fresh.push ?_ _); assumption) | (simp only [smA]; done) | (simp [oneCell, AW.next_push]; done) | fail) only [go_sem, Nat.reduceEqDiff, reduceIte, Nat.reduceAdd, Int.toNat_natCast, Nat.add_zero, Owes_true]; try rfl), _, _, hI8⟩⟩
  have hEd : decide (actE (actsTo T ac i) ac[i] = 0) = true := decide_eq_true hE
  have hR := hR hE
  have c0 := hO7.cell (o := 0) rfl rfl
  have c1 := hO7.cell (o := 1) rfl rfl
  have c2 := hO7.cell (o := 2) rfl rfl
  have c3 := hO7.cell (o := 3) rfl rfl
  by_cases h1 : ac[i].k = 1
  · have d1 : decide (ac[i].k = 1) = true := decide_eq_true h1
    obtain ⟨zs, hZ, hLf⟩ := hR.1 h1
    have hZ7 := (hZ.grown hg6).grown hg7
    obtain ⟨pz, cz, rfl, hzat⟩ := id hZ7
    have hb2 : BInv { b with l := b.l + leftSum ac[i].p ac[i].xs ac[i].Ds } (actX (actsTo T ac i) ac[i]) (i + 1) := by
      have q := book_step hi1 hI.inv ac[i] (hlen _ (List.getElem_mem hli))
      simpa only [bookX, hE, ne_eq, not_true_eq_false, if_false, if_pos h1] using q
    have hlsE : sellE (actsTo T ac i) ac[i].p ac[i].xs ac[i].Ds = 0 := by
      have hr : inR (lastDay (actsTo T ac i).N) ac[i].d 36500 = true := by
        cases hq : inR (lastDay (actsTo T ac i).N) ac[i].d 36500 with
        | true => rfl
        | false => unfold actE at hE; rw [if_pos hq] at hE; cases hE
      have q := hE
      unfold actE at q
      rw [if_neg (by rw [hr]; simp), if_pos h1] at q
      exact q
    have hPI := portE_in (sellE_in hlsE).1
    have hli2 := fun n hn => leftSum_in hPI hai.lot.len n hn
    have hzl := hLf.1
    have hzf := hLf.2
    simp -dsimp -implicitDefEqProofs (maxSteps := 2000000) (disch := first | assumption | omega | (simp only [nx]; omega) | ((repeat refine Fresh.push ?_ _); assumption) | (simp only [smA]; done) | (simp [oneCell, AW.next_push]; done) | fail) only [go_sem, Nat.reduceEqDiff, reduceIte, Nat.reduceAdd, Int.toNat_natCast, Nat.add_zero, Owes_true, e0, e1, e5, e7, e8, e9, hEd, hl1, indexV_eq, r0, d1]
    refine loopR (fun k t ds w8 => ∃ m : Nat, m ≤ zs.length ∧ k = zs.length - m ∧ ds = [] ∧ ev t (.tmp 0) = .int .i64 T ∧ ev t (.tmp 1) = .slice (some ⟨b1, o1, none⟩) ac.length cap ∧ ev t (.tmp 5) = .pointer (some ⟨bp, 0, none⟩) ∧ ev t (.tmp 7) = .pointer (some ⟨bk, 0, none⟩) ∧ ev t (.tmp 8) = .slice ps (actX (actsTo T ac i) ac[i]).S.length cs ∧ ev t (.tmp 9) = .int .i64 (i : Int) ∧ ev t (.tmp 10) = .slice pz zs.length cz ∧ ev t (.tmp 14) = .int .i64 (m : Int) ∧ Own w8 bk 83 [.int .i64 (b.l + ((List.range m).map (leftM ac[i].p ac[i].xs ac[i].Ds)).sum), .int .i64 b.p, .int .i64 b.s, .int .i64 b.g] ∧ MutS (fun j => j = bk) w7 w8) (zs.length) ?_ ?_
    · refine ⟨0, by omega, by omega, rfl, ?_, ?_, ?_, ?_, ?_, ?_, ?_, ?_, (by simpa using hO7), MutS.refl hg7.2⟩ <;> simp -dsimp -implicitDefEqProofs (maxSteps := 2000000) (disch := first | assumption | omega | (simp only [nx]; omega) | ((repeat refine Fresh.push ?_ _); assumption) | (simp only [smA]; done) | (simp [oneCell, AW.next_push]; done) | fail) only [go_sem, Nat.reduceEqDiff, reduceIte, Nat.reduceAdd, Int.toNat_natCast, Nat.add_zero, Owes_true, e0, e1, e5, e7, e8, e9] <;> rfl
    rintro k t ds w8 ⟨m, him, rfl, rfl, e0, e1, e5, e7, e8, e9, e10, e14, hO8, hM8⟩
    have hm2 := hli2 m (by omega)
    have x0 := hO8.cell (o := 0) rfl rfl
    by_cases hml : (m : Int) < (zs.length : Int)
    · have hml' : m < zs.length := by omega
      have hm3 := hli2 (m + 1) (by omega)
      have hss : ((List.range (m + 1)).map (leftM ac[i].p ac[i].xs ac[i].Ds)).sum = ((List.range m).map (leftM ac[i].p ac[i].xs ac[i].Ds)).sum + leftM ac[i].p ac[i].xs ac[i].Ds m := by
        rw [List.range_succ, List.map_append, List.sum_append_int]; simp
      obtain ⟨bz, oz, qz, mzz, czz, rfl, hzF, hbz, _, _, _, hz2⟩ := hzat m hml'
      have hz2 : w8.cell? ⟨bz, oz + m * 3 + 2, none⟩ = some (.int .i64 (leftM ac[i].p ac[i].xs ac[i].Ds m)) := by
        have hlt4 := hI.own.lt
        have hb4 : bz ≠ bk := fun e => hzF (by omega)
        rw [← hzf m hml']
        rw [← hz2]
        simp only [AW.cell?, hM8.blk bz hbz hb4]
      obtain ⟨S1, hS1⟩ : ∃ S1, S1 = ((List.range (m + 1)).map (leftM ac[i].p ac[i].xs ac[i].Ds)).sum := ⟨_, rfl⟩
      rw [← hS1] at hm3 hss
      generalize ((List.range m).map (leftM ac[i].p ac[i].xs ac[i].Ds)).sum = S0 at *
      have hst := storeV_own1 (o := 0) (v := .int .i64 (b.l + S1)) hO8 (by simp) rfl
      simp only [setL] at hst
      have hsum2 : b.l + S0 + leftM ac[i].p ac[i].xs ac[i].Ds m = b.l + S1 := by omega
      generalize leftM ac[i].p ac[i].xs ac[i].Ds m = Lm at *
      have hf8 := hM8.fresh
      have hm9 : (m : Int) + 1 ≤ 9 := by have := hPI.len; omega
      simp -dsimp -implicitDefEqProofs (maxSteps := 2000000) (disch := first | assumption | omega | (simp only [nx]; omega) | ((repeat refine Fresh.push ?_ _); assumption) | (simp only [smA]; done) | (simp [oneCell, AW.next_push]; done) | fail) only [go_sem, Nat.reduceEqDiff, reduceIte, Nat.reduceAdd, Int.toNat_natCast, Nat.add_zero, Owes_true, e0, e1, e5, e7, e8, e9, e10, e14, hml, indexV_eq, x0, hz2, hsum2, hst, Nat.zero_add]
      refine ⟨_, by omega, m + 1, by omega, rfl, rfl, by (simp -dsimp -implicitDefEqProofs (maxSteps := 2000000) (disch := first | assumption | omega | (simp only [nx]; omega) | ((repeat refine Fresh.push ?_ _); assumption) | (simp only [smA]; done) | (simp [oneCell, AW.next_push]; done) | fail) only [go_sem, Nat.reduceEqDiff, reduceIte, Nat.reduceAdd, Int.toNat_natCast, Nat.add_zero, Owes_true, e0]; try rfl), by (simp -dsimp -implicitDefEqProofs (maxSteps := 2000000) (disch := first | assumption | omega | (simp only [nx]; omega) | ((repeat refine Fresh.push ?_ _); assumption) | (simp only [smA]; done) | (simp [oneCell, AW.next_push]; done) | fail) only [go_sem, Nat.reduceEqDiff, reduceIte, Nat.reduceAdd, Int.toNat_natCast, Nat.add_zero, Owes_true, e1]; try rfl), by (simp -dsimp -implicitDefEqProofs (maxSteps := 2000000) (disch := first | assumption | omega | (simp only [nx]; omega) | ((repeat refine Fresh.push ?_ _); assumption) | (simp only [smA]; done) | (simp [oneCell, AW.next_push]; done) | fail) only [go_sem, Nat.reduceEqDiff, reduceIte, Nat.reduceAdd, Int.toNat_natCast, Nat.add_zero, Owes_true, e5]; try rfl), by (simp -dsimp -implicitDefEqProofs (maxSteps := 2000000) (disch := first | assumption | omega | (simp only [nx]; omega) | ((repeat refine Fresh.push ?_ _); assumption) | (simp only [smA]; done) | (simp [oneCell, AW.next_push]; done) | fail) only [go_sem, Nat.reduceEqDiff, reduceIte, Nat.reduceAdd, Int.toNat_natCast, Nat.add_zero, Owes_true, e7]; try rfl), by (simp -dsimp -implicitDefEqProofs (maxSteps := 2000000) (disch := first | assumption | omega | (simp only [nx]; omega) | ((repeat refine Fresh.push ?_ _); assumption) | (simp only [smA]; done) | (simp [oneCell, AW.next_push]; done) | fail) only [go_sem, Nat.reduceEqDiff, reduceIte, Nat.reduceAdd, Int.toNat_natCast, Nat.add_zero, Owes_true, e8]; try rfl), by (simp -dsimp -implicitDefEqProofs (maxSteps := 2000000) (disch := first | assumption | omega | (simp only [nx]; omega) | ((repeat refine Fresh.push ?_ _); assumption) | (simp only [smA]; done) | (simp [oneCell, AW.next_push]; done) | fail) only [go_sem, Nat.reduceEqDiff, reduceIte, Nat.reduceAdd, Int.toNat_natCast, Nat.add_zero, Owes_true, e9]; try rfl), by (simp -dsimp -implicitDefEqProofs (maxSteps := 2000000) (disch := first | assumption | omega | (simp only [nx]; omega) | ((repeat refine Fresh.push ?_ _); assumption) | (simp only [smA]; done) | (simp [oneCell, AW.next_push]; done) | fail) only [go_sem, Nat.reduceEqDiff, reduceIte, Nat.reduceAdd, Int.toNat_natCast, Nat.add_zero, Owes_true, e10]; try rfl), by (simp -dsimp -implicitDefEqProofs (maxSteps := 2000000) (disch := first | assumption | omega | (simp only [nx]; omega) | ((repeat refine Fresh.push ?_ _); assumption) | (simp only [smA]; done) | (simp [oneCell, AW.next_push]; done) | fail) only [go_sem, Nat.reduceEqDiff, reduceIte, Nat.reduceAdd, Int.toNat_natCast, Nat.add_zero, Owes_true, e14]; try rfl), (by rw [← hS1]; exact hO8.put _), hM8.trans (MutS.put (S := fun j => j = bk) hf8 rfl hO8.lt _) (Within.refl _ _)⟩
    have hmz : m = zs.length := by omega
    subst hmz
    have hfin : ((List.range zs.length).map (leftM ac[i].p ac[i].xs ac[i].Ds)).sum = leftSum ac[i].p ac[i].xs ac[i].Ds := by unfold leftSum; rw [hzl]
    rw [hfin] at hO8 hm2 x0
    generalize leftSum ac[i].p ac[i].xs ac[i].Ds = M at *
    have z1 := hb2.e1
    have z2 := hb2.e2
    have z3 := hb2.nn
    have z4 := hb2.le
    simp only at z1 z2 z3 z4
    simp -dsimp -implicitDefEqProofs (maxSteps := 2000000) (disch := first | assumption | omega | (simp only [nx]; omega) | ((repeat refine Fresh.push ?_ _); assumption) | (simp only [smA]; done) | (simp [oneCell, AW.next_push]; done) | fail) only [go_sem, Nat.reduceEqDiff, reduceIte, Nat.reduceAdd, Int.toNat_natCast, Nat.add_zero, Owes_true, e0, e1, e5, e7, e8, e9, e10, e14, hml]
    have hI8 := once_next (b' := { b with l := b.l + M }) hI hli hP5 hM hW hg6 hS hSn hg7 hM8 hO8 (by rw [hn]; exact hb2)
    have hI8p := hI8.pur
    rw [hn] at hI8p
    have hhm := heldM_eq (actX (actsTo T ac i) ac[i])
    apply callV_of (e := rfl)
    · exact Holds_ok bp bb r (actX (actsTo T ac i) ac[i]) F' _ hM8.fresh hI8p hX8g
    rintro _ w9 ⟨rfl, hg9⟩
    have hO9 := hO8.keep hg9.1
    have y0 := hO9.cell (o := 0) rfl rfl
    have y1 := hO9.cell (o := 1) rfl rfl
    have y2 := hO9.cell (o := 2) rfl rfl
    have y3 := hO9.cell (o := 3) rfl rfl
    have hI9 := hI8.grown hg9
    rw [hhm]
    have w1 : b.p + heldS (actX (actsTo T ac i) ac[i]).S + (actX (actsTo T ac i) ac[i]).W + b.g = b.l + M := by omega
    have w2 : (actX (actsTo T ac i) ac[i]).W + b.g = b.s := by omega
    simp -dsimp -implicitDefEqProofs (maxSteps := 2000000) (disch := first | assumption | omega | (simp only [nx]; omega) | ((repeat refine Fresh.push ?_ _); assumption) | (simp only [smA]; done) | (simp [oneCell, AW.next_push]; done) | fail) only [go_sem, Nat.reduceEqDiff, reduceIte, Nat.reduceAdd, Int.toNat_natCast, Nat.add_zero, Owes_true, y0, y1, y2, y3, Nat.zero_add, e0, e1, e5, e7, e8, e9, w1, w2]
    refine ⟨_, by omega, i + 1, by omega, rfl, rfl, by (simp -dsimp -implicitDefEqProofs (maxSteps := 2000000) (disch := first | assumption | omega | (simp only [nx]; omega) | ((repeat refine Fresh.push ?_ _); assumption) | (simp only [smA]; done) | (simp [oneCell, AW.next_push]; done) | fail) only [go_sem, Nat.reduceEqDiff, reduceIte, Nat.reduceAdd, Int.toNat_natCast, Nat.add_zero, Owes_true, e0]; try rfl), by (simp -dsimp -implicitDefEqProofs (maxSteps := 2000000) (disch := first | assumption | omega | (simp only [nx]; omega) | ((repeat refine Fresh.push ?_ _); assumption) | (simp only [smA]; done) | (simp [oneCell, AW.next_push]; done) | fail) only [go_sem, Nat.reduceEqDiff, reduceIte, Nat.reduceAdd, Int.toNat_natCast, Nat.add_zero, Owes_true, e1]; try rfl), by (simp -dsimp -implicitDefEqProofs (maxSteps := 2000000) (disch := first | assumption | omega | (simp only [nx]; omega) | ((repeat refine Fresh.push ?_ _); assumption) | (simp only [smA]; done) | (simp [oneCell, AW.next_push]; done) | fail) only [go_sem, Nat.reduceEqDiff, reduceIte, Nat.reduceAdd, Int.toNat_natCast, Nat.add_zero, Owes_true, e5]; try rfl), by (simp -dsimp -implicitDefEqProofs (maxSteps := 2000000) (disch := first | assumption | omega | (simp only [nx]; omega) | ((repeat refine Fresh.push ?_ _); assumption) | (simp only [smA]; done) | (simp [oneCell, AW.next_push]; done) | fail) only [go_sem, Nat.reduceEqDiff, reduceIte, Nat.reduceAdd, Int.toNat_natCast, Nat.add_zero, Owes_true, e7]; try rfl), by (simp -dsimp -implicitDefEqProofs (maxSteps := 2000000) (disch := first | assumption | omega | (simp only [nx]; omega) | ((repeat refine Fresh.push ?_ _); assumption) | (simp only [smA]; done) | (simp [oneCell, AW.next_push]; done) | fail) only [go_sem, Nat.reduceEqDiff, reduceIte, Nat.reduceAdd, Int.toNat_natCast, Nat.add_zero, Owes_true, e9]; try rfl), ⟨_, (by simp -dsimp -implicitDefEqProofs (maxSteps := 2000000) (disch := first | assumption | omega | (simp only [nx]; omega) | ((repeat refine Fresh.push ?_ _); assumption) | (simp only [smA]; done) | (simp [oneCell, AW.next_push]; done) | fail) only [go_sem, Nat.reduceEqDiff, reduceIte, Nat.reduceAdd, Int.toNat_natCast, Nat.add_zero, Owes_true, e8]; try rfl), _, _, hI9⟩⟩
  have d1 : decide (ac[i].k = 1) = false := decide_eq_false h1
  by_cases h2 : ac[i].k = 2
  · have d2 : decide (ac[i].k = 2) = true := decide_eq_true h2
    have hA := ((hR.2.1 h2).grown hg6).grown hg7
    have hb2 : BInv { b with p := b.p + payM (actsTo T ac i) ac[i].s } (actX (actsTo T ac i) ac[i]) (i + 1) := by
      have q := book_step hi1 hI.inv ac[i] (hlen _ (List.getElem_mem hli))
      simpa only [bookX, hE, ne_eq, not_true_eq_false, if_false, if_neg h1, if_pos h2] using q
    generalize payM (actsTo T ac i) ac[i].s = M at *
    have z1 := hb2.e1
    have z2 := hb2.e2
    have z3 := hb2.nn
    have z4 := hb2.le
    simp only at z1 z2 z3 z4
    have hst := storeV_own1 (o := 1) (v := .int .i64 (b.p + M)) hO7 (by simp) rfl
    simp only [setL] at hst
    have mz := MutS.put (S := fun j => j = bk) hg7.2 rfl hO7.lt (.cells [.int .i64 b.l, .int .i64 (b.p + M), .int .i64 b.s, .int .i64 b.g] 83 bk 0 0)
    have hOz := hO7.put [.int .i64 b.l, .int .i64 (b.p + M), .int .i64 b.s, .int .i64 b.g]
    obtain ⟨pv, cv, rfl, _⟩ := id hA.open
    simp -dsimp -implicitDefEqProofs (maxSteps := 2000000) (disch := first | assumption | omega | (simp only [nx]; omega) | ((repeat refine Fresh.push ?_ _); assumption) | (simp only [smA]; done) | (simp [oneCell, AW.next_push]; done) | fail) only [go_sem, Nat.reduceEqDiff, reduceIte, Nat.reduceAdd, Int.toNat_natCast, Nat.add_zero, Owes_true, e0, e1, e5, e7, e8, e9, hEd, hl1, indexV_eq, r0, d1, d2, c1, Nat.zero_add]
    apply callV_of (e := rfl)
    · exact Sum_ok [M] _ w7 hA (small_one (by omega) (by omega))
    rintro _ _ ⟨rfl, rfl⟩
    rw [ints_one]
    simp -dsimp -implicitDefEqProofs (maxSteps := 2000000) (disch := first | assumption | omega | (simp only [nx]; omega) | ((repeat refine Fresh.push ?_ _); assumption) | (simp only [smA]; done) | (simp [oneCell, AW.next_push]; done) | fail) only [go_sem, Nat.reduceEqDiff, reduceIte, Nat.reduceAdd, Int.toNat_natCast, Nat.add_zero, Owes_true, c1, hst, Nat.zero_add, e0, e1, e5, e7, e8, e9]
    have hI8 := once_next (b' := { b with p := b.p + M }) hI hli hP5 hM hW hg6 hS hSn hg7 mz hOz (by rw [hn]; exact hb2)
    have hI8p := hI8.pur
    rw [hn] at hI8p
    have hhm := heldM_eq (actX (actsTo T ac i) ac[i])
    apply callV_of (e := rfl)
    · exact Holds_ok bp bb r (actX (actsTo T ac i) ac[i]) F' _ mz.fresh hI8p hX8g
    rintro _ w9 ⟨rfl, hg9⟩
    have hO9 := hOz.keep hg9.1
    have y0 := hO9.cell (o := 0) rfl rfl
    have y1 := hO9.cell (o := 1) rfl rfl
    have y2 := hO9.cell (o := 2) rfl rfl
    have y3 := hO9.cell (o := 3) rfl rfl
    have hI9 := hI8.grown hg9
    rw [hhm]
    have w1 : b.p + M + heldS (actX (actsTo T ac i) ac[i]).S + (actX (actsTo T ac i) ac[i]).W + b.g = b.l := by omega
    have w2 : (actX (actsTo T ac i) ac[i]).W + b.g = b.s := by omega
    simp -dsimp -implicitDefEqProofs (maxSteps := 2000000) (disch := first | assumption | omega | (simp only [nx]; omega) | ((repeat refine Fresh.push ?_ _); assumption) | (simp only [smA]; done) | (simp [oneCell, AW.next_push]; done) | fail) only [go_sem, Nat.reduceEqDiff, reduceIte, Nat.reduceAdd, Int.toNat_natCast, Nat.add_zero, Owes_true, y0, y1, y2, y3, Nat.zero_add, e0, e1, e5, e7, e8, e9, w1, w2]
    refine ⟨_, by omega, i + 1, by omega, rfl, rfl, by (simp -dsimp -implicitDefEqProofs (maxSteps := 2000000) (disch := first | assumption | omega | (simp only [nx]; omega) | ((repeat refine Fresh.push ?_ _); assumption) | (simp only [smA]; done) | (simp [oneCell, AW.next_push]; done) | fail) only [go_sem, Nat.reduceEqDiff, reduceIte, Nat.reduceAdd, Int.toNat_natCast, Nat.add_zero, Owes_true, e0]; try rfl), by (simp -dsimp -implicitDefEqProofs (maxSteps := 2000000) (disch := first | assumption | omega | (simp only [nx]; omega) | ((repeat refine Fresh.push ?_ _); assumption) | (simp only [smA]; done) | (simp [oneCell, AW.next_push]; done) | fail) only [go_sem, Nat.reduceEqDiff, reduceIte, Nat.reduceAdd, Int.toNat_natCast, Nat.add_zero, Owes_true, e1]; try rfl), by (simp -dsimp -implicitDefEqProofs (maxSteps := 2000000) (disch := first | assumption | omega | (simp only [nx]; omega) | ((repeat refine Fresh.push ?_ _); assumption) | (simp only [smA]; done) | (simp [oneCell, AW.next_push]; done) | fail) only [go_sem, Nat.reduceEqDiff, reduceIte, Nat.reduceAdd, Int.toNat_natCast, Nat.add_zero, Owes_true, e5]; try rfl), by (simp -dsimp -implicitDefEqProofs (maxSteps := 2000000) (disch := first | assumption | omega | (simp only [nx]; omega) | ((repeat refine Fresh.push ?_ _); assumption) | (simp only [smA]; done) | (simp [oneCell, AW.next_push]; done) | fail) only [go_sem, Nat.reduceEqDiff, reduceIte, Nat.reduceAdd, Int.toNat_natCast, Nat.add_zero, Owes_true, e7]; try rfl), by (simp -dsimp -implicitDefEqProofs (maxSteps := 2000000) (disch := first | assumption | omega | (simp only [nx]; omega) | ((repeat refine Fresh.push ?_ _); assumption) | (simp only [smA]; done) | (simp [oneCell, AW.next_push]; done) | fail) only [go_sem, Nat.reduceEqDiff, reduceIte, Nat.reduceAdd, Int.toNat_natCast, Nat.add_zero, Owes_true, e9]; try rfl), ⟨_, (by simp -dsimp -implicitDefEqProofs (maxSteps := 2000000) (disch := first | assumption | omega | (simp only [nx]; omega) | ((repeat refine Fresh.push ?_ _); assumption) | (simp only [smA]; done) | (simp [oneCell, AW.next_push]; done) | fail) only [go_sem, Nat.reduceEqDiff, reduceIte, Nat.reduceAdd, Int.toNat_natCast, Nat.add_zero, Owes_true]; try rfl), _, _, hI9⟩⟩
  have d2 : decide (ac[i].k = 2) = false := decide_eq_false h2
  by_cases h3 : ac[i].k = 3
  · have d3 : decide (ac[i].k = 3) = true := decide_eq_true h3
    have hA := ((hR.2.2.1 h3).grown hg6).grown hg7
    have hb2 : BInv { b with s := b.s + passM (actsTo T ac i) ac[i].d } (actX (actsTo T ac i) ac[i]) (i + 1) := by
      have q := book_step hi1 hI.inv ac[i] (hlen _ (List.getElem_mem hli))
      simpa only [bookX, hE, ne_eq, not_true_eq_false, if_false, if_neg h1, if_neg h2, if_pos h3] using q
    generalize passM (actsTo T ac i) ac[i].d = M at *
    have z1 := hb2.e1
    have z2 := hb2.e2
    have z3 := hb2.nn
    have z4 := hb2.le
    simp only at z1 z2 z3 z4
    have hst := storeV_own1 (o := 2) (v := .int .i64 (b.s + M)) hO7 (by simp) rfl
    simp only [setL] at hst
    have mz := MutS.put (S := fun j => j = bk) hg7.2 rfl hO7.lt (.cells [.int .i64 b.l, .int .i64 b.p, .int .i64 (b.s + M), .int .i64 b.g] 83 bk 0 0)
    have hOz := hO7.put [.int .i64 b.l, .int .i64 b.p, .int .i64 (b.s + M), .int .i64 b.g]
    obtain ⟨pv, cv, rfl, _⟩ := id hA.open
    simp -dsimp -implicitDefEqProofs (maxSteps := 2000000) (disch := first | assumption | omega | (simp only [nx]; omega) | ((repeat refine Fresh.push ?_ _); assumption) | (simp only [smA]; done) | (simp [oneCell, AW.next_push]; done) | fail) only [go_sem, Nat.reduceEqDiff, reduceIte, Nat.reduceAdd, Int.toNat_natCast, Nat.add_zero, Owes_true, e0, e1, e5, e7, e8, e9, hEd, hl1, indexV_eq, r0, d1, d2, d3, c2, Nat.zero_add]
    apply callV_of (e := rfl)
    · exact Sum_ok [M] _ w7 hA (small_one (by omega) (by omega))
    rintro _ _ ⟨rfl, rfl⟩
    rw [ints_one]
    simp -dsimp -implicitDefEqProofs (maxSteps := 2000000) (disch := first | assumption | omega | (simp only [nx]; omega) | ((repeat refine Fresh.push ?_ _); assumption) | (simp only [smA]; done) | (simp [oneCell, AW.next_push]; done) | fail) only [go_sem, Nat.reduceEqDiff, reduceIte, Nat.reduceAdd, Int.toNat_natCast, Nat.add_zero, Owes_true, c2, hst, Nat.zero_add, e0, e1, e5, e7, e8, e9]
    have hI8 := once_next (b' := { b with s := b.s + M }) hI hli hP5 hM hW hg6 hS hSn hg7 mz hOz (by rw [hn]; exact hb2)
    have hI8p := hI8.pur
    rw [hn] at hI8p
    have hhm := heldM_eq (actX (actsTo T ac i) ac[i])
    apply callV_of (e := rfl)
    · exact Holds_ok bp bb r (actX (actsTo T ac i) ac[i]) F' _ mz.fresh hI8p hX8g
    rintro _ w9 ⟨rfl, hg9⟩
    have hO9 := hOz.keep hg9.1
    have y0 := hO9.cell (o := 0) rfl rfl
    have y1 := hO9.cell (o := 1) rfl rfl
    have y2 := hO9.cell (o := 2) rfl rfl
    have y3 := hO9.cell (o := 3) rfl rfl
    have hI9 := hI8.grown hg9
    rw [hhm]
    have w1 : b.p + heldS (actX (actsTo T ac i) ac[i]).S + (actX (actsTo T ac i) ac[i]).W + b.g = b.l := by omega
    have w2 : (actX (actsTo T ac i) ac[i]).W + b.g = b.s + M := by omega
    simp -dsimp -implicitDefEqProofs (maxSteps := 2000000) (disch := first | assumption | omega | (simp only [nx]; omega) | ((repeat refine Fresh.push ?_ _); assumption) | (simp only [smA]; done) | (simp [oneCell, AW.next_push]; done) | fail) only [go_sem, Nat.reduceEqDiff, reduceIte, Nat.reduceAdd, Int.toNat_natCast, Nat.add_zero, Owes_true, y0, y1, y2, y3, Nat.zero_add, e0, e1, e5, e7, e8, e9, w1, w2]
    refine ⟨_, by omega, i + 1, by omega, rfl, rfl, by (simp -dsimp -implicitDefEqProofs (maxSteps := 2000000) (disch := first | assumption | omega | (simp only [nx]; omega) | ((repeat refine Fresh.push ?_ _); assumption) | (simp only [smA]; done) | (simp [oneCell, AW.next_push]; done) | fail) only [go_sem, Nat.reduceEqDiff, reduceIte, Nat.reduceAdd, Int.toNat_natCast, Nat.add_zero, Owes_true, e0]; try rfl), by (simp -dsimp -implicitDefEqProofs (maxSteps := 2000000) (disch := first | assumption | omega | (simp only [nx]; omega) | ((repeat refine Fresh.push ?_ _); assumption) | (simp only [smA]; done) | (simp [oneCell, AW.next_push]; done) | fail) only [go_sem, Nat.reduceEqDiff, reduceIte, Nat.reduceAdd, Int.toNat_natCast, Nat.add_zero, Owes_true, e1]; try rfl), by (simp -dsimp -implicitDefEqProofs (maxSteps := 2000000) (disch := first | assumption | omega | (simp only [nx]; omega) | ((repeat refine Fresh.push ?_ _); assumption) | (simp only [smA]; done) | (simp [oneCell, AW.next_push]; done) | fail) only [go_sem, Nat.reduceEqDiff, reduceIte, Nat.reduceAdd, Int.toNat_natCast, Nat.add_zero, Owes_true, e5]; try rfl), by (simp -dsimp -implicitDefEqProofs (maxSteps := 2000000) (disch := first | assumption | omega | (simp only [nx]; omega) | ((repeat refine Fresh.push ?_ _); assumption) | (simp only [smA]; done) | (simp [oneCell, AW.next_push]; done) | fail) only [go_sem, Nat.reduceEqDiff, reduceIte, Nat.reduceAdd, Int.toNat_natCast, Nat.add_zero, Owes_true, e7]; try rfl), by (simp -dsimp -implicitDefEqProofs (maxSteps := 2000000) (disch := first | assumption | omega | (simp only [nx]; omega) | ((repeat refine Fresh.push ?_ _); assumption) | (simp only [smA]; done) | (simp [oneCell, AW.next_push]; done) | fail) only [go_sem, Nat.reduceEqDiff, reduceIte, Nat.reduceAdd, Int.toNat_natCast, Nat.add_zero, Owes_true, e9]; try rfl), ⟨_, (by simp -dsimp -implicitDefEqProofs (maxSteps := 2000000) (disch := first | assumption | omega | (simp only [nx]; omega) | ((repeat refine Fresh.push ?_ _); assumption) | (simp only [smA]; done) | (simp [oneCell, AW.next_push]; done) | fail) only [go_sem, Nat.reduceEqDiff, reduceIte, Nat.reduceAdd, Int.toNat_natCast, Nat.add_zero, Owes_true]; try rfl), _, _, hI9⟩⟩
  have d3 : decide (ac[i].k = 3) = false := decide_eq_false h3
  have hA := ((hR.2.2.2 h1 h2 h3).grown hg6).grown hg7
  have hb2 : BInv { b with g := b.g + (shareL ac[i].ws (actsTo T ac i).W).sum } (actX (actsTo T ac i) ac[i]) (i + 1) := by
    have q := book_step hi1 hI.inv ac[i] (hlen _ (List.getElem_mem hli))
    simpa only [bookX, hE, ne_eq, not_true_eq_false, if_false, if_neg h1, if_neg h2, if_neg h3] using q
  have hsE : shareE ac[i].ws (actsTo T ac i).W = 0 := by
    have hr : inR (lastDay (actsTo T ac i).N) ac[i].d 36500 = true := by
      cases hq : inR (lastDay (actsTo T ac i).N) ac[i].d 36500 with
      | true => rfl
      | false => unfold actE at hE; rw [if_pos hq] at hE; cases hE
    have q := hE
    unfold actE at q
    rw [if_neg (by rw [hr]; simp), if_neg h1, if_neg h2, if_neg h3] at q
    exact q
  obtain ⟨hwi, h0, hmx⟩ := shareE_in hsE
  have hsh := share_is hwi.nn hwi.sum.1 h0
  have hsmall : Small (shareL ac[i].ws (actsTo T ac i).W) := small_nn hsh.1.nn (by omega)
  have hsum := hsh.2
  generalize shareL ac[i].ws (actsTo T ac i).W = L at *
  have z1 := hb2.e1
  have z2 := hb2.e2
  have z3 := hb2.nn
  have z4 := hb2.le
  simp only at z1 z2 z3 z4
  have hst := storeV_own1 (o := 3) (v := .int .i64 (b.g + L.sum)) hO7 (by simp) rfl
  simp only [setL] at hst
  have mz := MutS.put (S := fun j => j = bk) hg7.2 rfl hO7.lt (.cells [.int .i64 b.l, .int .i64 b.p, .int .i64 b.s, .int .i64 (b.g + L.sum)] 83 bk 0 0)
  have hOz := hO7.put [.int .i64 b.l, .int .i64 b.p, .int .i64 b.s, .int .i64 (b.g + L.sum)]
  obtain ⟨pv, cv, rfl, _⟩ := id hA.open
  simp -dsimp -implicitDefEqProofs (maxSteps := 2000000) (disch := first | assumption | omega | (simp only [nx]; omega) | ((repeat refine Fresh.push ?_ _); assumption) | (simp only [smA]; done) | (simp [oneCell, AW.next_push]; done) | fail) only [go_sem, Nat.reduceEqDiff, reduceIte, Nat.reduceAdd, Int.toNat_natCast, Nat.add_zero, Owes_true, e0, e1, e5, e7, e8, e9, hEd, hl1, indexV_eq, r0, d1, d2, d3, c3, Nat.zero_add]
  apply callV_of (e := rfl)
  · exact Sum_ok L _ w7 hA hsmall
  rintro _ _ ⟨rfl, rfl⟩
  simp -dsimp -implicitDefEqProofs (maxSteps := 2000000) (disch := first | assumption | omega | (simp only [nx]; omega) | ((repeat refine Fresh.push ?_ _); assumption) | (simp only [smA]; done) | (simp [oneCell, AW.next_push]; done) | fail) only [go_sem, Nat.reduceEqDiff, reduceIte, Nat.reduceAdd, Int.toNat_natCast, Nat.add_zero, Owes_true, c3, hst, Nat.zero_add, e0, e1, e5, e7, e8, e9]
  have hI8 := once_next (b' := { b with g := b.g + L.sum }) hI hli hP5 hM hW hg6 hS hSn hg7 mz hOz (by rw [hn]; exact hb2)
  have hI8p := hI8.pur
  rw [hn] at hI8p
  have hhm := heldM_eq (actX (actsTo T ac i) ac[i])
  apply callV_of (e := rfl)
  · exact Holds_ok bp bb r (actX (actsTo T ac i) ac[i]) F' _ mz.fresh hI8p hX8g
  rintro _ w9 ⟨rfl, hg9⟩
  have hO9 := hOz.keep hg9.1
  have y0 := hO9.cell (o := 0) rfl rfl
  have y1 := hO9.cell (o := 1) rfl rfl
  have y2 := hO9.cell (o := 2) rfl rfl
  have y3 := hO9.cell (o := 3) rfl rfl
  have hI9 := hI8.grown hg9
  rw [hhm]
  have w1 : b.p + heldS (actX (actsTo T ac i) ac[i]).S + (actX (actsTo T ac i) ac[i]).W + (b.g + L.sum) = b.l := by omega
  have w2 : (actX (actsTo T ac i) ac[i]).W + (b.g + L.sum) = b.s := by omega
  simp -dsimp -implicitDefEqProofs (maxSteps := 2000000) (disch := first | assumption | omega | (simp only [nx]; omega) | ((repeat refine Fresh.push ?_ _); assumption) | (simp only [smA]; done) | (simp [oneCell, AW.next_push]; done) | fail) only [go_sem, Nat.reduceEqDiff, reduceIte, Nat.reduceAdd, Int.toNat_natCast, Nat.add_zero, Owes_true, y0, y1, y2, y3, Nat.zero_add, e0, e1, e5, e7, e8, e9, w1, w2]
  refine ⟨_, by omega, i + 1, by omega, rfl, rfl, by (simp -dsimp -implicitDefEqProofs (maxSteps := 2000000) (disch := first | assumption | omega | (simp only [nx]; omega) | ((repeat refine Fresh.push ?_ _); assumption) | (simp only [smA]; done) | (simp [oneCell, AW.next_push]; done) | fail) only [go_sem, Nat.reduceEqDiff, reduceIte, Nat.reduceAdd, Int.toNat_natCast, Nat.add_zero, Owes_true, e0]; try rfl), by (simp -dsimp -implicitDefEqProofs (maxSteps := 2000000) (disch := first | assumption | omega | (simp only [nx]; omega) | ((repeat refine Fresh.push ?_ _); assumption) | (simp only [smA]; done) | (simp [oneCell, AW.next_push]; done) | fail) only [go_sem, Nat.reduceEqDiff, reduceIte, Nat.reduceAdd, Int.toNat_natCast, Nat.add_zero, Owes_true, e1]; try rfl), by (simp -dsimp -implicitDefEqProofs (maxSteps := 2000000) (disch := first | assumption | omega | (simp only [nx]; omega) | ((repeat refine Fresh.push ?_ _); assumption) | (simp only [smA]; done) | (simp [oneCell, AW.next_push]; done) | fail) only [go_sem, Nat.reduceEqDiff, reduceIte, Nat.reduceAdd, Int.toNat_natCast, Nat.add_zero, Owes_true, e5]; try rfl), by (simp -dsimp -implicitDefEqProofs (maxSteps := 2000000) (disch := first | assumption | omega | (simp only [nx]; omega) | ((repeat refine Fresh.push ?_ _); assumption) | (simp only [smA]; done) | (simp [oneCell, AW.next_push]; done) | fail) only [go_sem, Nat.reduceEqDiff, reduceIte, Nat.reduceAdd, Int.toNat_natCast, Nat.add_zero, Owes_true, e7]; try rfl), by (simp -dsimp -implicitDefEqProofs (maxSteps := 2000000) (disch := first | assumption | omega | (simp only [nx]; omega) | ((repeat refine Fresh.push ?_ _); assumption) | (simp only [smA]; done) | (simp [oneCell, AW.next_push]; done) | fail) only [go_sem, Nat.reduceEqDiff, reduceIte, Nat.reduceAdd, Int.toNat_natCast, Nat.add_zero, Owes_true, e9]; try rfl), ⟨_, (by simp -dsimp -implicitDefEqProofs (maxSteps := 2000000) (disch := first | assumption | omega | (simp only [nx]; omega) | ((repeat refine Fresh.push ?_ _); assumption) | (simp only [smA]; done) | (simp [oneCell, AW.next_push]; done) | fail) only [go_sem, Nat.reduceEqDiff, reduceIte, Nat.reduceAdd, Int.toNat_natCast, Nat.add_zero, Owes_true]; try rfl), _, _, hI9⟩⟩
end Go.Proofs
