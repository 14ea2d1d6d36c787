/- Loans, as the papers have them: acts, runs, what is owed. -/
import Derived.Test.YtdbeiefgokocnaaGreatRa
import Derived.Test.YtdbeiefgokocnaaGreatTd
set_option linter.unusedVariables false
set_option linter.unusedSimpArgs false
/- Loans, as the chapter has them: an act. -/
namespace Go.Proofs
open Go Go.RowKit Go.Sim
set_option maxRecDepth 100000
/-- How the chapter's stand goes with the program's loan. -/
structure SRel (d : DealN) (x : LN) (rn H : Int) (j : Nat) : Prop where
  fe : rn * d.fe = x.fe
  rn : 0 ≤ rn ∧ rn ≤ j
  he : HRel d x H
theorem put_c {w0 w : AW} {b c o : Nat} {l : List Value} {V : Value} (hX : Own w c 37 l) (m : Mut b w0 w) (hc : w0.next ≤ c) (ho : o < l.length) (hV : oneCell V = true) :
    ∃ w1, storeV w false 1 (.pointer (some ⟨c, o, none⟩)) V = some w1 ∧ Own w1 c 37 (setL l o V) ∧ Mut b w0 w1 ∧ Mut c w w1 := by
  have h := storeV_own1 (o := o) (v := V) hX ho hV
  have k : Mut c w (w.put c (.cells (setL l o V) 37 c 0 0)) := (Mut.refl m.fresh).put hX _
  exact ⟨_, h, hX.put _, Mut_side m k hc, k⟩
set_option maxHeartbeats 4000000 in
theorem refAct_ok (d : DealN) (cl : List Int) (x : LN) (D K N : Int) (last : Bool) (j b B : Nat) (rn H : Int) (v : Value) (w : AW) (f : Fresh w) (hs : Arr B w 1 v (cl.map icells)) (hB : B ≤ b) (hO : Own w b 93 (scells d v x rn H)) (hd : dealB d cl = true) (h : LOk d j x) (hj : j ≤ 32) (hR : SRel d x rn H j) (h1 : x.dy ≤ D) (h2 : D ≤ 36500) (hfit : fitB ⟨D, K, N⟩ last = true) :
    CallT Tryz.prog Tryz.T1 (.fn (.func 42) #[]) #[.pointer (some ⟨b, 0, none⟩), .agg #[.int .i64 D, .int .i64 K, .int .i64 N]] w (fun r w' => r = .int .i64 (actE d (passL d cl x D) ⟨D, K, N⟩) ∧ Mut b w w' ∧ (actE d (passL d cl x D) ⟨D, K, N⟩ = 0 → ∃ rn' H', SRel d (actL d (passL d cl x D) ⟨D, K, N⟩) rn' H' (j + 1) ∧ Own w' b 93 (scells d v (actL d (passL d cl x D) ⟨D, K, N⟩) rn' H'))) := by
  have hv := Arr.one hs
  have hi := (dealB_in hd).1
  have hst := hi.st; have htm := hi.tm; have hgr := hi.gr; have hfee := hi.fe
  have hxd := h.dy
  have m1 := (Mut.refl (b := b) f).push (.cells [.int .i64 D, .int .i64 K, .int .i64 N] 85 w.next 0 0)
  have hA1 := Own.new f 85 [.int .i64 D, .int .i64 K, .int .i64 N]
  have hO1 := hO.push (.cells [.int .i64 D, .int .i64 K, .int .i64 N] 85 w.next 0 0)
  have hba : w.next ≠ b := by have := hO.lt; omega
  have hs1 := hs.keep (m1.keep hB (by have := hO.lt; omega)) (Nat.le_refl _)
  have hnx1 : (w.push (.cells [.int .i64 D, .int .i64 K, .int .i64 N] 85 w.next 0 0)).next = w.next + 1 := AW.next_push _ _
  have a0 := hA1.cell (o := 0) rfl rfl
  refine callT_codeX [12] rfl Tryz.func42 rfl Tryz.s42_eq rfl ?_
  unfold Tryz.s42
  simp -dsimp -implicitDefEqProofs (maxSteps := 2000000) (disch := first | assumption | omega | (simp only [AW.next_push, AW.next_put]; omega) | ((repeat refine Fresh.push ?_ _); assumption) | (simp only [same_int, same_bool, same_ptr, same_slice, same_sliceP, same_nil, same_agg2, same_string]; done) | (simp [oneCell, AW.next_push]; done) | fail) only [go_sem, Nat.reduceEqDiff, reduceIte, Nat.reduceAdd, Int.toNat_natCast, Nat.add_zero, Owes_true, Tryz.results42, Nat.zero_add, a0]
  generalize w.push (.cells [.int .i64 D, .int .i64 K, .int .i64 N] 85 w.next 0 0) = w1 at *
  apply callV_of (e := rfl)
  · exact refTo_ok d cl x D j b B rn H v w1 m1.fresh hs1 hB hO1 hd h (by omega) hR.he h1 h2
  rintro _ w2 ⟨rfl, hO2, m2⟩
  have hp := pass_keeps hd h h1 h2
  have hyd : (passL d cl x D).dy = D := pass_day
  have hyfe : (passL d cl x D).fe = x.fe := pass_fe
  have hyhe : (passL d cl x D).he = x.he := pass_he
  have hft := hp.fits hd (by omega)
  have hch := hp.charge hd
  have hfe0 := hR.fe
  have hrn := hR.rn
  have hH : HRel d (passL d cl x D) H := by
    rcases hR.he with q | q
    · exact .inl (q.trans hyhe.symm)
    · exact .inr ⟨q.1, hyhe.trans q.2⟩
  have hbef := hH.before (D := D) hst.1 (by omega)
  rw [← hyfe] at hfe0
  generalize passL d cl x D = y at *
  obtain ⟨P, C, Q, A, op, n, lw, cs, fe, dy, he⟩ := y
  simp only at hyd hfe0
  subst hyd
  have hyP := hp.P; have hyQ := hp.Q; have hyA := hp.A; have hyn := hp.n; have hyC := hp.C; have hyF := hp.fe
  simp only at hyP hyQ hyA hyn hch hyC hyF hbef
  have hA2 := m2.own hA1 hba
  have m2' := m1.trans m2
  have hsmx := hi.sm
  have c0 := (hO2).cell (o := 0) rfl rfl
  have c1 := (hO2).cell (o := 1) rfl rfl
  have c2 := (hO2).cell (o := 2) rfl rfl
  have c3 := (hO2).cell (o := 3) rfl rfl
  have c4 := (hO2).cell (o := 4) rfl rfl
  have c5 := (hO2).cell (o := 5) rfl rfl
  have c6 := (hO2).cell (o := 6) rfl rfl
  have c7 := (hO2).cell (o := 7) rfl hv
  have c8 := (hO2).cell (o := 8) rfl rfl
  have c9 := (hO2).cell (o := 9) rfl rfl
  have c10 := (hO2).cell (o := 10) rfl rfl
  have c11 := (hO2).cell (o := 11) rfl rfl
  have c12 := (hO2).cell (o := 12) rfl rfl
  have c13 := (hO2).cell (o := 13) rfl rfl
  have c14 := (hO2).cell (o := 14) rfl rfl
  have c15 := (hO2).cell (o := 15) rfl rfl
  have c16 := (hO2).cell (o := 16) rfl rfl
  have c17 := (hO2).cell (o := 17) rfl rfl
  have c18 := (hO2).cell (o := 18) rfl rfl
  have c19 := (hO2).cell (o := 19) rfl rfl
  have c20 := (hO2).cell (o := 20) rfl rfl
  by_cases hl : d.tm + d.gr < A
  · have hE : actE d ⟨P, C, Q, A, op, n, lw, cs, fe, dy, he⟩ ⟨dy, K, N⟩ = 25 := by unfold actE; rw [if_pos hl]
    simp -dsimp -implicitDefEqProofs (maxSteps := 2000000) (disch := first | assumption | omega | (simp only [AW.next_push, AW.next_put]; omega) | ((repeat refine Fresh.push ?_ _); assumption) | (simp only [same_int, same_bool, same_ptr, same_slice, same_sliceP, same_nil, same_agg2, same_string]; done) | (simp [oneCell, AW.next_push]; done) | fail) only [go_sem, Nat.reduceEqDiff, reduceIte, Nat.reduceAdd, Int.toNat_natCast, Nat.add_zero, Owes_true, Tryz.results42, Nat.zero_add, c13, c5, c6, hl]
    exact ⟨by rw [hE], m2', fun q => by rw [hE] at q; exact absurd q (by decide)⟩
  have hX := Own.new m2'.fresh 37 [.int .i64 P, .int .i64 0, .int .i64 Q, .int .i64 A, .bool op]
  have hO3 := hO2.push (.cells [.int .i64 P, .int .i64 0, .int .i64 Q, .int .i64 A, .bool op] 37 w2.next 0 0)
  have hA3 := hA2.push (.cells [.int .i64 P, .int .i64 0, .int .i64 Q, .int .i64 A, .bool op] 37 w2.next 0 0)
  have m3 := m2'.push (.cells [.int .i64 P, .int .i64 0, .int .i64 Q, .int .i64 A, .bool op] 37 w2.next 0 0)
  have hbc : b ≠ w2.next := by have := hO2.lt; omega
  have hac : w.next ≠ w2.next := by have := hA2.lt; omega
  have hwc : w.next ≤ w2.next := m2'.next
  have f2 := m2'.fresh
  simp -dsimp -implicitDefEqProofs (maxSteps := 2000000) (disch := first | assumption | omega | (simp only [AW.next_push, AW.next_put]; omega) | ((repeat refine Fresh.push ?_ _); assumption) | (simp only [same_int, same_bool, same_ptr, same_slice, same_sliceP, same_nil, same_agg2, same_string]; done) | (simp [oneCell, AW.next_push]; done) | fail) only [go_sem, Nat.reduceEqDiff, reduceIte, Nat.reduceAdd, Int.toNat_natCast, Nat.add_zero, Owes_true, Tryz.results42, Nat.zero_add, c13, c5, c6, hl, c10, c11, c12, c14]
  generalize w2.push (.cells [.int .i64 P, .int .i64 0, .int .i64 Q, .int .i64 A, .bool op] 37 w2.next 0 0) = w3 at *
  have hle := WLe.refl w3
  have u0 := (hX).cell (o := 0) rfl rfl
  have u1 := (hX).cell (o := 1) rfl rfl
  have u2 := (hX).cell (o := 2) rfl rfl
  have u3 := (hX).cell (o := 3) rfl rfl
  have u4 := (hX).cell (o := 4) rfl rfl
  have b0 := hA3.cell (o := 0) rfl rfl
  have b1 := hA3.cell (o := 1) rfl rfl
  have b2 := hA3.cell (o := 2) rfl rfl
  apply callV_of (e := rfl)
  · exact refCharge_ok d ⟨P, C, Q, A, op, n, lw, cs, fe, dy, he⟩ rn H b v w3 hO3 hi hft hfe0 ⟨hrn.1, by omega⟩
  rintro _ _ ⟨rfl, rfl⟩
  try simp only
  rw [← hyC]
  have hfitK : K = 1 ∨ K = 2 ∨ K = 3 ∨ K = 4 := by
    unfold fitB at hfit
    by_cases k1 : K = 1
    · exact .inl k1
    by_cases k2 : K = 2
    · exact .inr (.inl k2)
    by_cases k3 : K = 3
    · exact .inr (.inr (.inl k3))
    by_cases k4 : K = 4
    · exact .inr (.inr (.inr k4))
    simp only [if_neg k1, if_neg k2, if_neg k3, if_neg k4] at hfit
    exact absurd hfit (by decide)
  have hpay := fit_pay hfit
  simp only at hpay
  have h31 : ¬ (3 : Int) = 1 := by decide
  have h32 : ¬ (3 : Int) = 2 := by decide
  have h21 : ¬ (2 : Int) = 1 := by decide
  have h41 : ¬ (4 : Int) = 1 := by decide
  have h42 : ¬ (4 : Int) = 2 := by decide
  have h43 : ¬ (4 : Int) = 3 := by decide
  rcases hfitK with rfl | rfl | rfl | rfl
  · have hN1 := hpay.1 rfl
    have hNm : N ≤ 1073741824 := by
      have : fitB ⟨dy, 1, N⟩ last = inR 1 N 1073741824 := rfl
      rw [this, inR_iff] at hfit; exact hfit.2
    by_cases q : C - Q + P ≤ N
    · have hE : actE d ⟨P, C, Q, A, op, n, lw, cs, fe, dy, he⟩ ⟨dy, 1, N⟩ = 6 := by unfold actE; rw [if_neg hl, if_pos rfl, if_pos q]
      have qd : decide (N ≥ C - Q + P) = true := decide_eq_true q
      simp -dsimp -implicitDefEqProofs (maxSteps := 2000000) (disch := first | assumption | omega | (simp only [AW.next_push, AW.next_put]; omega) | ((repeat refine Fresh.push ?_ _); assumption) | (simp only [same_int, same_bool, same_ptr, same_slice, same_sliceP, same_nil, same_agg2, same_string]; done) | (simp [oneCell, AW.next_push]; done) | fail) only [go_sem, Nat.reduceEqDiff, reduceIte, Nat.reduceAdd, Int.toNat_natCast, Nat.add_zero, Owes_true, Tryz.results42, hle, Nat.zero_add, u0, u2, b1, b2, q, qd]
      exact ⟨by rw [hE], m3, fun q => by rw [hE] at q; exact absurd q (by decide)⟩
    have hE : actE d ⟨P, C, Q, A, op, n, lw, cs, fe, dy, he⟩ ⟨dy, 1, N⟩ = 0 := by unfold actE; rw [if_neg hl, if_pos rfl, if_neg q]
    have qd : decide (N ≥ C - Q + P) = false := decide_eq_false q
    have hmin : N - min N (C - Q) = max 0 (N - (C - Q)) := by omega
    obtain ⟨w4, k4, hX4, m4, s4⟩ := put_c (o := 2) (V := .int .i64 (Q + min N (C - Q))) hX m3 hwc (by simp) rfl
    obtain ⟨w5, k5, hX5, m5, s5⟩ := put_c (o := 0) (V := .int .i64 (P - (N - min N (C - Q)))) hX4 m4 hwc (by simp [setL]) rfl
    have hO5 := (s4.trans s5).own hO3 hbc
    simp only [setL] at hX5
    have hA4 := s4.own hA3 hac
    have d2 := hA4.cell (o := 2) rfl rfl
    simp -dsimp -implicitDefEqProofs (maxSteps := 2000000) (disch := first | assumption | omega | (simp only [AW.next_push, AW.next_put]; omega) | ((repeat refine Fresh.push ?_ _); assumption) | (simp only [same_int, same_bool, same_ptr, same_slice, same_sliceP, same_nil, same_agg2, same_string]; done) | (simp [oneCell, AW.next_push]; done) | fail) only [go_sem, Nat.reduceEqDiff, reduceIte, Nat.reduceAdd, Int.toNat_natCast, Nat.add_zero, Owes_true, Tryz.results42, hle, Nat.zero_add, u0, u2, b1, b2, q, qd]
    show CodeT _ _ _ _ _ _ _ _
    refine codeT_regX Tryz.x42_eq Tryz.x42_kinds ?_
    unfold Tryz.x42
    simp -dsimp -implicitDefEqProofs (maxSteps := 2000000) (disch := first | assumption | omega | (simp only [AW.next_push, AW.next_put]; omega) | ((repeat refine Fresh.push ?_ _); assumption) | (simp only [same_int, same_bool, same_ptr, same_slice, same_sliceP, same_nil, same_agg2, same_string]; done) | (simp [oneCell, AW.next_push]; done) | fail) only [go_sem, Nat.reduceEqDiff, reduceIte, Nat.reduceAdd, Int.toNat_natCast, Nat.add_zero, Owes_true, Tryz.results42, Nat.zero_add, u0, u2, b2, k4]
    refine ⟨⟨.inr fun inf hinf => ?_, .inl (show Nat.testBit 2111 5 = true by decide), .inl (show Nat.testBit 2111 1 = true by decide), trivial⟩, ?_⟩
    · rw [Tryz.ty3] at hinf
      injection hinf with hinf
      subst hinf
      simp -dsimp -implicitDefEqProofs (maxSteps := 2000000) (disch := first | assumption | omega | (simp only [AW.next_push, AW.next_put]; omega) | ((repeat refine Fresh.push ?_ _); assumption) | (simp only [same_int, same_bool, same_ptr, same_slice, same_sliceP, same_nil, same_agg2, same_string]; done) | (simp [oneCell, AW.next_push]; done) | fail) only [go_sem, Nat.reduceEqDiff, reduceIte, Nat.reduceAdd, Int.toNat_natCast, Nat.add_zero, Owes_true, b2, d2]
    simp -dsimp -implicitDefEqProofs (maxSteps := 2000000) (disch := first | assumption | omega | (simp only [AW.next_push, AW.next_put]; omega) | ((repeat refine Fresh.push ?_ _); assumption) | (simp only [same_int, same_bool, same_ptr, same_slice, same_sliceP, same_nil, same_agg2, same_string]; done) | (simp [oneCell, AW.next_push]; done) | fail) only [go_sem, Nat.reduceEqDiff, reduceIte, Nat.reduceAdd, Int.toNat_natCast, Nat.add_zero, Owes_true, Tryz.results42, Nat.zero_add, k5]
    refine ⟨⟨.inl (show Nat.testBit 16383 7 = true by decide), .inl (show Nat.testBit 16383 5 = true by decide), .inl (show Nat.testBit 16383 1 = true by decide), trivial⟩, ?_⟩
    have u0 := (hX5).cell (o := 0) rfl rfl
    have u1 := (hX5).cell (o := 1) rfl rfl
    have u2 := (hX5).cell (o := 2) rfl rfl
    have u3 := (hX5).cell (o := 3) rfl rfl
    have u4 := (hX5).cell (o := 4) rfl rfl
    obtain ⟨wz, kz, hOz, mz⟩ := put_x hO5 (m5).fresh (P - (N - min N (C - Q))) (Q + min N (C - Q)) A op
    simp -dsimp -implicitDefEqProofs (maxSteps := 2000000) (disch := first | assumption | omega | (simp only [AW.next_push, AW.next_put]; omega) | ((repeat refine Fresh.push ?_ _); assumption) | (simp only [same_int, same_bool, same_ptr, same_slice, same_sliceP, same_nil, same_agg2, same_string]; done) | (simp [oneCell, AW.next_push]; done) | fail) only [go_sem, Nat.reduceEqDiff, reduceIte, Nat.reduceAdd, Int.toNat_natCast, Nat.add_zero, Owes_true, Tryz.results42, Nat.zero_add, u0, u1, u2, u3, u4, kz]
    refine ⟨by rw [hE], m5.trans mz, fun _ => ⟨rn, H, ?_, ?_⟩⟩
    · exact ⟨hfe0, ⟨hrn.1, by omega⟩, hH⟩
    · rw [hmin] at hOz; exact hOz
  · have hE : actE d ⟨P, C, Q, A, op, n, lw, cs, fe, dy, he⟩ ⟨dy, 2, N⟩ = 0 := by unfold actE; rw [if_neg hl]; rfl
    have hr1 : (rn + 1) * d.fe = fe + d.fe := by rw [Int.add_mul, Int.one_mul, hfe0]
    obtain ⟨w4, k4, hO4, m4⟩ := put_s (o := 19) (V := .int .i64 (rn + 1)) (x' := ⟨P, C, Q, A, op, n, lw, cs, fe + d.fe, dy, he⟩) (rn' := rn + 1) (H' := H) hO3 m3.fresh (by decide) rfl rfl
    have hX4 := m4.own hX (fun e => hbc e.symm)
    have c19 := hO3.cell (o := 19) rfl rfl
    simp -dsimp -implicitDefEqProofs (maxSteps := 2000000) (disch := first | assumption | omega | (simp only [AW.next_push, AW.next_put]; omega) | ((repeat refine Fresh.push ?_ _); assumption) | (simp only [same_int, same_bool, same_ptr, same_slice, same_sliceP, same_nil, same_agg2, same_string]; done) | (simp [oneCell, AW.next_push]; done) | fail) only [go_sem, Nat.reduceEqDiff, reduceIte, Nat.reduceAdd, Int.toNat_natCast, Nat.add_zero, Owes_true, Tryz.results42, hle, Nat.zero_add, b1, h21, c19, k4]
    apply callV_of (e := rfl)
    · exact refCharge_ok d ⟨P, C, Q, A, op, n, lw, cs, fe + d.fe, dy, he⟩ (rn + 1) H b v w4 hO4 hi ⟨hft.lw, hft.cs, ⟨by show 0 ≤ fe + d.fe; omega, by show fe + d.fe ≤ 400000; omega⟩⟩ hr1 ⟨by omega, by omega⟩
    rintro _ _ ⟨rfl, rfl⟩
    try simp only
    obtain ⟨w5, k5, hX5, m5, s5⟩ := put_c (o := 2) (V := .int .i64 (chF d lw cs (fe + d.fe))) hX4 (m3.trans m4) hwc (by simp) rfl
    obtain ⟨w6, k6, hX6, m6, s6⟩ := put_c (o := 3) (V := .int .i64 0) hX5 m5 hwc (by simp [setL]) rfl
    have hO6 := (s5.trans s6).own hO4 hbc
    simp only [setL] at hX6
    simp -dsimp -implicitDefEqProofs (maxSteps := 2000000) (disch := first | assumption | omega | (simp only [AW.next_push, AW.next_put]; omega) | ((repeat refine Fresh.push ?_ _); assumption) | (simp only [same_int, same_bool, same_ptr, same_slice, same_sliceP, same_nil, same_agg2, same_string]; done) | (simp [oneCell, AW.next_push]; done) | fail) only [go_sem, Nat.reduceEqDiff, reduceIte, Nat.reduceAdd, Int.toNat_natCast, Nat.add_zero, Owes_true, Tryz.results42, Nat.zero_add, k5, k6]
    have u0 := (hX6).cell (o := 0) rfl rfl
    have u1 := (hX6).cell (o := 1) rfl rfl
    have u2 := (hX6).cell (o := 2) rfl rfl
    have u3 := (hX6).cell (o := 3) rfl rfl
    have u4 := (hX6).cell (o := 4) rfl rfl
    obtain ⟨wz, kz, hOz, mz⟩ := put_x hO6 (m6).fresh P (chF d lw cs (fe + d.fe)) 0 op
    simp -dsimp -implicitDefEqProofs (maxSteps := 2000000) (disch := first | assumption | omega | (simp only [AW.next_push, AW.next_put]; omega) | ((repeat refine Fresh.push ?_ _); assumption) | (simp only [same_int, same_bool, same_ptr, same_slice, same_sliceP, same_nil, same_agg2, same_string]; done) | (simp [oneCell, AW.next_push]; done) | fail) only [go_sem, Nat.reduceEqDiff, reduceIte, Nat.reduceAdd, Int.toNat_natCast, Nat.add_zero, Owes_true, Tryz.results42, Nat.zero_add, u0, u1, u2, u3, u4, kz]
    refine ⟨by rw [hE], m6.trans mz, fun _ => ⟨rn + 1, H, ?_, ?_⟩⟩
    · exact ⟨hr1, ⟨by omega, by omega⟩, hH⟩
    · exact hOz
  · have hN := hpay.2 rfl
    have c20 := hO3.cell (o := 20) rfl rfl
    have c15 := hO3.cell (o := 15) rfl rfl
    by_cases hh : dy < H
    · have hhe : dy < he := hbef.1 hh
      have hE : actE d ⟨P, C, Q, A, op, n, lw, cs, fe, dy, he⟩ ⟨dy, 3, N⟩ = 26 := by unfold actE; rw [if_neg hl, if_neg h31, if_pos rfl, if_pos hhe]
      simp -dsimp -implicitDefEqProofs (maxSteps := 2000000) (disch := first | assumption | omega | (simp only [AW.next_push, AW.next_put]; omega) | ((repeat refine Fresh.push ?_ _); assumption) | (simp only [same_int, same_bool, same_ptr, same_slice, same_sliceP, same_nil, same_agg2, same_string]; done) | (simp [oneCell, AW.next_push]; done) | fail) only [go_sem, Nat.reduceEqDiff, reduceIte, Nat.reduceAdd, Int.toNat_natCast, Nat.add_zero, Owes_true, Tryz.results42, hle, Nat.zero_add, b1, h31, h32, c20, c15, hh]
      exact ⟨by rw [hE], m3, fun q => by rw [hE] at q; exact absurd q (by decide)⟩
    have hhe : ¬ dy < he := fun z => hh (hbef.2 z)
    have hE : actE d ⟨P, C, Q, A, op, n, lw, cs, fe, dy, he⟩ ⟨dy, 3, N⟩ = 0 := by unfold actE; rw [if_neg hl, if_neg h31, if_pos rfl, if_neg hhe]
    obtain ⟨w4, k4, hO4, m4⟩ := put_s (o := 20) (V := .int .i64 (dy + N)) (x' := ⟨P, C, Q, A, op, n, lw, cs, fe, dy, dy + N⟩) (rn' := rn) (H' := dy + N) hO3 m3.fresh (by decide) rfl rfl
    have hX4 := m4.own hX (fun e => hbc e.symm)
    have m4' := m3.trans m4
    simp -dsimp -implicitDefEqProofs (maxSteps := 2000000) (disch := first | assumption | omega | (simp only [AW.next_push, AW.next_put]; omega) | ((repeat refine Fresh.push ?_ _); assumption) | (simp only [same_int, same_bool, same_ptr, same_slice, same_sliceP, same_nil, same_agg2, same_string]; done) | (simp [oneCell, AW.next_push]; done) | fail) only [go_sem, Nat.reduceEqDiff, reduceIte, Nat.reduceAdd, Int.toNat_natCast, Nat.add_zero, Owes_true, Tryz.results42, hle, Nat.zero_add, b1, b2, h31, h32, c20, c15, hh, k4]
    have u0 := (hX4).cell (o := 0) rfl rfl
    have u1 := (hX4).cell (o := 1) rfl rfl
    have u2 := (hX4).cell (o := 2) rfl rfl
    have u3 := (hX4).cell (o := 3) rfl rfl
    have u4 := (hX4).cell (o := 4) rfl rfl
    obtain ⟨wz, kz, hOz, mz⟩ := put_x hO4 (m4').fresh P Q A op
    simp -dsimp -implicitDefEqProofs (maxSteps := 2000000) (disch := first | assumption | omega | (simp only [AW.next_push, AW.next_put]; omega) | ((repeat refine Fresh.push ?_ _); assumption) | (simp only [same_int, same_bool, same_ptr, same_slice, same_sliceP, same_nil, same_agg2, same_string]; done) | (simp [oneCell, AW.next_push]; done) | fail) only [go_sem, Nat.reduceEqDiff, reduceIte, Nat.reduceAdd, Int.toNat_natCast, Nat.add_zero, Owes_true, Tryz.results42, Nat.zero_add, u0, u1, u2, u3, u4, kz]
    refine ⟨by rw [hE], m4'.trans mz, fun _ => ⟨rn, dy + N, ?_, ?_⟩⟩
    · exact ⟨hfe0, ⟨hrn.1, by omega⟩, .inl rfl⟩
    · exact hOz
  · have hE : actE d ⟨P, C, Q, A, op, n, lw, cs, fe, dy, he⟩ ⟨dy, 4, N⟩ = 0 := by unfold actE; rw [if_neg hl]; rfl
    simp -dsimp -implicitDefEqProofs (maxSteps := 2000000) (disch := first | assumption | omega | (simp only [AW.next_push, AW.next_put]; omega) | ((repeat refine Fresh.push ?_ _); assumption) | (simp only [same_int, same_bool, same_ptr, same_slice, same_sliceP, same_nil, same_agg2, same_string]; done) | (simp [oneCell, AW.next_push]; done) | fail) only [go_sem, Nat.reduceEqDiff, reduceIte, Nat.reduceAdd, Int.toNat_natCast, Nat.add_zero, Owes_true, Tryz.results42, hle, Nat.zero_add, b1, h41, h42, h43]
    apply callV_of (e := rfl)
    · exact refCharge_ok d ⟨P, C, Q, A, op, n, lw, cs, fe, dy, he⟩ rn H b v w3 hO3 hi hft hfe0 ⟨hrn.1, by omega⟩
    rintro _ _ ⟨rfl, rfl⟩
    try simp only
    rw [← hyC]
    obtain ⟨w4, k4, hX4, m4, s4⟩ := put_c (o := 2) (V := .int .i64 C) hX m3 hwc (by simp) rfl
    obtain ⟨w5, k5, hX5, m5, s5⟩ := put_c (o := 0) (V := .int .i64 0) hX4 m4 hwc (by simp [setL]) rfl
    obtain ⟨w6, k6, hX6, m6, s6⟩ := put_c (o := 4) (V := .bool false) hX5 m5 hwc (by simp [setL]) rfl
    have hO6 := ((s4.trans s5).trans s6).own hO3 hbc
    simp only [setL] at hX6
    simp -dsimp -implicitDefEqProofs (maxSteps := 2000000) (disch := first | assumption | omega | (simp only [AW.next_push, AW.next_put]; omega) | ((repeat refine Fresh.push ?_ _); assumption) | (simp only [same_int, same_bool, same_ptr, same_slice, same_sliceP, same_nil, same_agg2, same_string]; done) | (simp [oneCell, AW.next_push]; done) | fail) only [go_sem, Nat.reduceEqDiff, reduceIte, Nat.reduceAdd, Int.toNat_natCast, Nat.add_zero, Owes_true, Tryz.results42, Nat.zero_add, k4, k5, k6]
    have u0 := (hX6).cell (o := 0) rfl rfl
    have u1 := (hX6).cell (o := 1) rfl rfl
    have u2 := (hX6).cell (o := 2) rfl rfl
    have u3 := (hX6).cell (o := 3) rfl rfl
    have u4 := (hX6).cell (o := 4) rfl rfl
    obtain ⟨wz, kz, hOz, mz⟩ := put_x hO6 (m6).fresh 0 C A false
    simp -dsimp -implicitDefEqProofs (maxSteps := 2000000) (disch := first | assumption | omega | (simp only [AW.next_push, AW.next_put]; omega) | ((repeat refine Fresh.push ?_ _); assumption) | (simp only [same_int, same_bool, same_ptr, same_slice, same_sliceP, same_nil, same_agg2, same_string]; done) | (simp [oneCell, AW.next_push]; done) | fail) only [go_sem, Nat.reduceEqDiff, reduceIte, Nat.reduceAdd, Int.toNat_natCast, Nat.add_zero, Owes_true, Tryz.results42, Nat.zero_add, u0, u1, u2, u3, u4, kz]
    refine ⟨by rw [hE], m6.trans mz, fun _ => ⟨rn, H, ?_, ?_⟩⟩
    · exact ⟨hfe0, ⟨hrn.1, by omega⟩, hH⟩
    · exact hOz
end Go.Proofs

/- Loans, as the chapter has them: a run. -/
namespace Go.Proofs
open Go Go.RowKit Go.Sim
set_option maxRecDepth 100000
def RefRunPost (d : DealN) (cl : List Int) (l : List ActN) (v : Value) (w : AW) : Value → AW → Prop := fun r w' => Grown w w' ∧
  ((runE d cl l ≠ 0 ∧ r = .tuple #[.pointer none, .slice none 0 0, .int .i64 (runAt d cl l), .int .i64 (runE d cl l)]) ∨
   (runE d cl l = 0 ∧ dealB d cl = true ∧ actsB d l = true ∧ ∃ b s rn H, r = .tuple #[.pointer (some ⟨b, 0, none⟩), s, .int .i64 (l.length : Int), .int .i64 0] ∧ w.next ≤ b ∧ Own w' b 93 (scells d v (goL d cl (beginL d) l).1 rn H) ∧ (goL d cl (beginL d) l).2.1.length = l.length ∧ AOwn w.next w' 37 5 s l.length ((goL d cl (beginL d) l).2.1.flatMap accells) ∧ ∃ j, j ≤ 32 ∧ LOk d j (goL d cl (beginL d) l).1 ∧ SRel d (goL d cl (beginL d) l).1 rn H j))
set_option maxHeartbeats 1000000 in
theorem refRun_ok (d : DealN) (cl : List Int) (l : List ActN) (v u : Value) (w : AW) (f : Fresh w) (hs : ArrOf w 1 icells v cl) (ht : ArrOf w 3 acells u l) :
    CallT Tryz.prog Tryz.T1 (.fn (.func 15) #[]) #[.agg #[.int .i64 d.r, .int .i64 d.c, .int .i64 d.a, .int .i64 d.fr, .int .i64 d.fe, .int .i64 d.tm, .int .i64 d.gr, v, .int .i64 d.st, .int .i64 d.sm], u] w (RefRunPost d cl l v w) := by
  obtain ⟨p, cap, rfl, hcap, hmax, hat⟩ := id ht.open
  obtain ⟨q, cap2, rfl, _⟩ := id hs.open
  have g := (Grown.refl f).push (.cells [.int .i64 d.r, .int .i64 d.c, .int .i64 d.a, .int .i64 d.fr, .int .i64 d.fe, .int .i64 d.tm, .int .i64 d.gr, (.slice q cl.length cap2), .int .i64 d.st, .int .i64 d.sm] 28 w.next 0 0)
  have hO := Own.new f 28 [.int .i64 d.r, .int .i64 d.c, .int .i64 d.a, .int .i64 d.fr, .int .i64 d.fe, .int .i64 d.tm, .int .i64 d.gr, (.slice q cl.length cap2), .int .i64 d.st, .int .i64 d.sm]
  have c0 := (hO).cell (o := 0) rfl rfl
  have c1 := (hO).cell (o := 1) rfl rfl
  have c2 := (hO).cell (o := 2) rfl rfl
  have c3 := (hO).cell (o := 3) rfl rfl
  have c4 := (hO).cell (o := 4) rfl rfl
  have c5 := (hO).cell (o := 5) rfl rfl
  have c6 := (hO).cell (o := 6) rfl rfl
  have c7 := (hO).cell (o := 7) rfl rfl
  have c8 := (hO).cell (o := 8) rfl rfl
  have c9 := (hO).cell (o := 9) rfl rfl
  refine callT_code rfl Tryz.func15 rfl Tryz.s15_eq rfl ?_
  unfold Tryz.s15
  simp -dsimp -implicitDefEqProofs (maxSteps := 2000000) (disch := first | assumption | omega | (simp only [AW.next_push, AW.next_put]; omega) | ((repeat refine Fresh.push ?_ _); assumption) | (simp only [same_int, same_bool, same_ptr, same_slice, same_sliceP, same_nil, same_agg2, same_string]; done) | (simp [oneCell, AW.next_push]; done) | fail) only [go_sem, Nat.reduceEqDiff, reduceIte, Nat.reduceAdd, Int.toNat_natCast, Nat.add_zero, Owes_true, Tryz.results15, Nat.zero_add, c0, c1, c2, c3, c4, c5, c6, c7, c8, c9]
  apply callV_of (e := rfl)
  · exact refCheck_ok d cl _ _ g.2 (hs.grown g)
  rintro _ w1 ⟨rfl, hg1⟩
  have g1 := g.trans hg1
  have hO1 := hO.keep hg1.1
  cases hd : dealB d cl with
  | false =>
    have hE : dealE d cl = 23 := dealE_bad hd
    have h230 : ¬ (23 : Int) = 0 := by decide
    have hR : runE d cl l = 23 := by rw [runE, if_pos hd]
    have hT : runAt d cl l = 0 := by rw [runAt, if_pos hd]
    simp -dsimp -implicitDefEqProofs (maxSteps := 2000000) (disch := first | assumption | omega | (simp only [AW.next_push, AW.next_put]; omega) | ((repeat refine Fresh.push ?_ _); assumption) | (simp only [same_int, same_bool, same_ptr, same_slice, same_sliceP, same_nil, same_agg2, same_string]; done) | (simp [oneCell, AW.next_push]; done) | fail) only [go_sem, Nat.reduceEqDiff, reduceIte, Nat.reduceAdd, Int.toNat_natCast, Nat.add_zero, Owes_true, Tryz.results15, hE, h230]
    exact ⟨g1, .inl ⟨by rw [hR]; decide, by rw [hR, hT]; rfl⟩⟩
  | true =>
  have hE : dealE d cl = 0 := by rw [dealE, hd]; rfl
  have hi := (dealB_in hd).1
  have c0 := (hO1).cell (o := 0) rfl rfl
  have c1 := (hO1).cell (o := 1) rfl rfl
  have c2 := (hO1).cell (o := 2) rfl rfl
  have c3 := (hO1).cell (o := 3) rfl rfl
  have c4 := (hO1).cell (o := 4) rfl rfl
  have c5 := (hO1).cell (o := 5) rfl rfl
  have c6 := (hO1).cell (o := 6) rfl rfl
  have c7 := (hO1).cell (o := 7) rfl rfl
  have c8 := (hO1).cell (o := 8) rfl rfl
  have c9 := (hO1).cell (o := 9) rfl rfl
  simp -dsimp -implicitDefEqProofs (maxSteps := 2000000) (disch := first | assumption | omega | (simp only [AW.next_push, AW.next_put]; omega) | ((repeat refine Fresh.push ?_ _); assumption) | (simp only [same_int, same_bool, same_ptr, same_slice, same_sliceP, same_nil, same_agg2, same_string]; done) | (simp [oneCell, AW.next_push]; done) | fail) only [go_sem, Nat.reduceEqDiff, reduceIte, Nat.reduceAdd, Int.toNat_natCast, Nat.add_zero, Owes_true, Tryz.results15, hE, Nat.zero_add, c0, c1, c2, c3, c4, c5, c6, c7, c8, c9]
  apply callV_of (e := rfl)
  · exact refActs_ok d cl l _ _ w1 g1.2 (hs.grown g1) (ht.grown g1) hi.st
  rintro _ w2 ⟨rfl, hg2⟩
  have g2 := g1.trans hg2
  have hO2 := hO1.keep hg2.1
  cases ha : actsB d l with
  | false =>
    have hR : runE d cl l = 24 := by rw [runE, if_neg (by rw [hd]; simp), if_pos ha]
    have hT : runAt d cl l = 0 := by rw [runAt, if_neg (by rw [hd]; simp), if_pos ha]
    simp -dsimp -implicitDefEqProofs (maxSteps := 2000000) (disch := first | assumption | omega | (simp only [AW.next_push, AW.next_put]; omega) | ((repeat refine Fresh.push ?_ _); assumption) | (simp only [same_int, same_bool, same_ptr, same_slice, same_sliceP, same_nil, same_agg2, same_string]; done) | (simp [oneCell, AW.next_push]; done) | fail) only [go_sem, Nat.reduceEqDiff, reduceIte, Nat.reduceAdd, Int.toNat_natCast, Nat.add_zero, Owes_true, Tryz.results15]
    exact ⟨g2, .inl ⟨by rw [hR]; decide, by rw [hR, hT]; rfl⟩⟩
  | true =>
  have hlen : l.length ≤ 32 := by rw [actsB, Bool.and_eq_true] at ha; exact of_decide_eq_true ha.1
  have hacts : actsTo d.st l = true := by rw [actsB, Bool.and_eq_true] at ha; exact ha.2
  have hR : runE d cl l = (goL d cl (beginL d) l).2.2 := by rw [runE, if_neg (by rw [hd]; simp), if_neg (by rw [ha]; simp)]
  have hT : runAt d cl l = (goL d cl (beginL d) l).2.1.length := by rw [runAt, if_neg (by rw [hd]; simp), if_neg (by rw [ha]; simp)]
  have c0 := (hO2).cell (o := 0) rfl rfl
  have c1 := (hO2).cell (o := 1) rfl rfl
  have c2 := (hO2).cell (o := 2) rfl rfl
  have c3 := (hO2).cell (o := 3) rfl rfl
  have c4 := (hO2).cell (o := 4) rfl rfl
  have c5 := (hO2).cell (o := 5) rfl rfl
  have c6 := (hO2).cell (o := 6) rfl rfl
  have c7 := (hO2).cell (o := 7) rfl rfl
  have c8 := (hO2).cell (o := 8) rfl rfl
  have c9 := (hO2).cell (o := 9) rfl rfl
  simp -dsimp -implicitDefEqProofs (maxSteps := 2000000) (disch := first | assumption | omega | (simp only [AW.next_push, AW.next_put]; omega) | ((repeat refine Fresh.push ?_ _); assumption) | (simp only [same_int, same_bool, same_ptr, same_slice, same_sliceP, same_nil, same_agg2, same_string]; done) | (simp [oneCell, AW.next_push]; done) | fail) only [go_sem, Nat.reduceEqDiff, reduceIte, Nat.reduceAdd, Int.toNat_natCast, Nat.add_zero, Owes_true, Tryz.results15, Nat.zero_add, c0, c1, c2, c3, c4, c5, c6, c7, c8, c9]
  apply callV_of (e := rfl)
  · exact refBegin_ok d cl _ w2 g2.2 (hs.grown g2)
  rintro _ w3 ⟨b, rfl, hL3, hb, hg3⟩
  have g3 := g2.trans hg3
  have hB : w.next ≤ b := by have := g2.1.next; omega
  have hS0 : SRel d (beginL d) 0 0 0 := ⟨Int.zero_mul _, ⟨Int.le_refl _, Int.le_refl _⟩, .inr ⟨rfl, rfl⟩⟩
  simp -dsimp -implicitDefEqProofs (maxSteps := 2000000) (disch := first | assumption | omega | (simp only [AW.next_push, AW.next_put]; omega) | ((repeat refine Fresh.push ?_ _); assumption) | (simp only [same_int, same_bool, same_ptr, same_slice, same_sliceP, same_nil, same_agg2, same_string]; done) | (simp [oneCell, AW.next_push]; done) | fail) only [go_sem, Nat.reduceEqDiff, reduceIte, Nat.reduceAdd, Int.toNat_natCast, Nat.add_zero, Owes_true, Tryz.results15]
  refine loopR (fun k t ds w4 => ∃ i : Nat, i ≤ l.length ∧ k = l.length - i ∧ ds = [] ∧ ev t (.tmp 1) = .slice p l.length cap ∧ ev t (.tmp 9) = .pointer (some ⟨b, 0, none⟩) ∧ ev t (.tmp 11) = .int .i64 (i : Int) ∧ (∃ (x : LN) (ys : List LN) (s : Value) (rn H : Int), ev t (.tmp 10) = s ∧ AOwn (b + 1) w4 37 5 s i (ys.flatMap accells) ∧ ys.length = i ∧ LOk d i x ∧ Own w4 b 93 (scells d (.slice q cl.length cap2) x rn H) ∧ SRel d x rn H i ∧ x.dy = dayAt d.st l i ∧ actsTo x.dy (l.drop i) = true ∧ goL d cl (beginL d) l = ((goL d cl x (l.drop i)).1, ys ++ (goL d cl x (l.drop i)).2.1, (goL d cl x (l.drop i)).2.2) ∧ Grown w w4)) (l.length) ?_ ?_
  · refine ⟨0, by omega, by omega, rfl, ?_, ?_, ?_, ⟨beginL d, [], .slice none 0 0, 0, 0, by simp -dsimp -implicitDefEqProofs (maxSteps := 2000000) (disch := first | assumption | omega | (simp only [AW.next_push, AW.next_put]; omega) | ((repeat refine Fresh.push ?_ _); assumption) | (simp only [same_int, same_bool, same_ptr, same_slice, same_sliceP, same_nil, same_agg2, same_string]; done) | (simp [oneCell, AW.next_push]; done) | fail) only [go_sem, Nat.reduceEqDiff, reduceIte, Nat.reduceAdd, Int.toNat_natCast, Nat.add_zero, Owes_true], .inl ⟨rfl, rfl, rfl⟩, rfl, begin_ok' hi, hL3, hS0, by rw [dayAt, if_pos rfl]; rfl, hacts, rfl, g3⟩⟩ <;> simp -dsimp -implicitDefEqProofs (maxSteps := 2000000) (disch := first | assumption | omega | (simp only [AW.next_push, AW.next_put]; omega) | ((repeat refine Fresh.push ?_ _); assumption) | (simp only [same_int, same_bool, same_ptr, same_slice, same_sliceP, same_nil, same_agg2, same_string]; done) | (simp [oneCell, AW.next_push]; done) | fail) only [go_sem, Nat.reduceEqDiff, reduceIte, Nat.reduceAdd, Int.toNat_natCast, Nat.add_zero, Owes_true] <;> rfl
  rintro k t ds w4 ⟨i, hii, rfl, rfl, e1, e9, e11, hx⟩
  obtain ⟨x, ys, s, rn, H, e10, hA, hys, hok, hL, hS, hdy, hacts2, hgo, g4⟩ := hx
  obtain ⟨_, _, _, hsl⟩ : ∃ x y z, s = .slice x y z := by rcases hA with ⟨rfl, _⟩ | ⟨_, _, rfl, _⟩ <;> exact ⟨_, _, _, rfl⟩
  by_cases hlt : (i : Int) < (l.length : Int)
  case neg =>
    obtain rfl : i = l.length := by omega
    have hgo2 : goL d cl (beginL d) l = (x, ys, 0) := by rw [hgo, List.drop_length]; simp [goL]
    simp -dsimp -implicitDefEqProofs (maxSteps := 2000000) (disch := first | assumption | omega | (simp only [AW.next_push, AW.next_put]; omega) | ((repeat refine Fresh.push ?_ _); assumption) | (simp only [same_int, same_bool, same_ptr, same_slice, same_sliceP, same_nil, same_agg2, same_string]; done) | (simp [oneCell, AW.next_push]; done) | fail) only [go_sem, Nat.reduceEqDiff, reduceIte, Nat.reduceAdd, Int.toNat_natCast, Nat.add_zero, Owes_true, Tryz.results15, e1, e9, e10, e11, hlt]
    refine ⟨g4, .inr ⟨by rw [hR, hgo2], hd, ha, b, s, rn, H, rfl, hB, ?_, ?_, ?_, l.length, hlen, ?_, ?_⟩⟩
    · rw [hgo2]; exact hL
    · rw [hgo2]; exact hys
    · rw [hgo2]
      rcases hA with z | ⟨b2, r2, z1, z2, z3, z4, z5, z6, z7, z8, z9⟩
      · exact .inl z
      · exact .inr ⟨b2, r2, z1, by omega, z3, by omega, z5, z6, z7, z8, fun j hj => let ⟨c1, c2⟩ := z9 j hj; ⟨by omega, c2⟩⟩
    · rw [hgo2]; exact hok
    · rw [hgo2]; exact hS
  have hlt' : i < l.length := by omega
  obtain ⟨b1, o1, rfl, hb1, hcell⟩ := hat i hlt'
  have hdrop : l.drop i = l[i] :: l.drop (i + 1) := List.drop_eq_getElem_cons hlt'
  rw [hdrop] at hgo hacts2
  have hdn : dayAt d.st l (i + 1) = l[i].D := by rw [dayAt, if_neg (by omega), Nat.add_sub_cancel, getD_at hlt']
  have a0 := hcell _ g4.1 0 _ rfl
  have a1 := hcell _ g4.1 1 _ rfl
  have a2 := hcell _ g4.1 2 _ rfl
  rw [Nat.add_zero] at a0
  generalize hAct : l[i] = a at *
  obtain ⟨D, K, N⟩ := a
  simp only at a0 a1 a2 hdn
  simp only [actsTo, Bool.and_eq_true, inR_iff] at hacts2
  obtain ⟨⟨hday, hfit⟩, hrest⟩ := hacts2
  have f4 := g4.2
  have hp := pass_keeps hd hok hday.1 hday.2
  simp -dsimp -implicitDefEqProofs (maxSteps := 2000000) (disch := first | assumption | omega | (simp only [AW.next_push, AW.next_put]; omega) | ((repeat refine Fresh.push ?_ _); assumption) | (simp only [same_int, same_bool, same_ptr, same_slice, same_sliceP, same_nil, same_agg2, same_string]; done) | (simp [oneCell, AW.next_push]; done) | fail) only [go_sem, Nat.reduceEqDiff, reduceIte, Nat.reduceAdd, Int.toNat_natCast, Nat.add_zero, Owes_true, Tryz.results15, e1, e9, e10, e11, hlt, indexV_eq, a0, a1, a2, Nat.zero_add]
  apply callV_of (e := rfl)
  · exact refAct_ok d cl x D K N _ i b w.next rn H _ w4 f4 (hs.keep g4.1 (Nat.le_refl _)) hB hL hd hok (by omega) hS hday.1 hday.2 hfit
  rintro _ w6 ⟨rfl, m6, hL6⟩
  have g6 : Grown w w6 := ⟨g4.1.trans (m6.keep hB g4.1.next), m6.fresh⟩
  have hA6 := m6.aown (by omega) hA
  have f6 := m6.fresh
  by_cases he : actE d (passL d cl x D) ⟨D, K, N⟩ = 0
  · obtain ⟨rn', H', hS', hL6⟩ := hL6 he
    have hok' := act_keeps (a := ⟨D, K, N⟩) hd hp (fit_pay hfit).1 (fit_pay hfit).2 he
    rw [goL_ok (a := ⟨D, K, N⟩) (l := l.drop (i + 1)) he] at hgo
    have hdy' : (actL d (passL d cl x D) ⟨D, K, N⟩).dy = D := by rw [act_day, pass_day]
    simp only at hgo
    generalize hx' : actL d (passL d cl x D) ⟨D, K, N⟩ = x' at *
    have hed : decide (actE d (passL d cl x D) ⟨D, K, N⟩ = 0) = true := decide_eq_true he
    simp -dsimp -implicitDefEqProofs (maxSteps := 2000000) (disch := first | assumption | omega | (simp only [AW.next_push, AW.next_put]; omega) | ((repeat refine Fresh.push ?_ _); assumption) | (simp only [same_int, same_bool, same_ptr, same_slice, same_sliceP, same_nil, same_agg2, same_string]; done) | (simp [oneCell, AW.next_push]; done) | fail) only [go_sem, Nat.reduceEqDiff, reduceIte, Nat.reduceAdd, Int.toNat_natCast, Nat.add_zero, Owes_true, Tryz.results15, e1, e9, e10, e11, hed, he]
    apply callV_of (e := rfl)
    · exact refAccount_ok d x' (i + 1) rn' H' b _ w6 f6 hL6 hi (hok'.fits hd (by omega)) hok'.C hS'.fe ⟨hS'.rn.1, by have := hS'.rn.2; omega⟩
    rintro _ w7 ⟨rfl, hg7⟩
    unfold accV
    have hA7 := hA6.keep hg7.1 (by have := hL6.lt; omega)
    have hL7 := hL6.keep hg7.1
    have g7 := g6.trans hg7
    obtain ⟨s', w8, happ, hA8, hk8, f8, hn8, hap8⟩ := append_one (e' := 37) Tryz.ty30 Tryz.ty37 rfl (by decide) (by decide) hA7 g7.2 (by have := hL7.lt; omega) (accells_len x') (accells_one x') (by omega)
    unfold accells at happ
    have hL8 := hL7.keepC hk8 (by omega)
    simp -dsimp -implicitDefEqProofs (maxSteps := 2000000) (disch := first | assumption | omega | (simp only [AW.next_push, AW.next_put]; omega) | ((repeat refine Fresh.push ?_ _); assumption) | (simp only [same_int, same_bool, same_ptr, same_slice, same_sliceP, same_nil, same_agg2, same_string]; done) | (simp [oneCell, AW.next_push]; done) | fail) only [go_sem, Nat.reduceEqDiff, reduceIte, Nat.reduceAdd, Int.toNat_natCast, Nat.add_zero, Owes_true, Tryz.results15, e1, e9, e10, e11, happ]
    refine ⟨_, by omega, i + 1, by omega, rfl, rfl, by (simp -dsimp -implicitDefEqProofs (maxSteps := 2000000) (disch := first | assumption | omega | (simp only [AW.next_push, AW.next_put]; omega) | ((repeat refine Fresh.push ?_ _); assumption) | (simp only [same_int, same_bool, same_ptr, same_slice, same_sliceP, same_nil, same_agg2, same_string]; done) | (simp [oneCell, AW.next_push]; done) | fail) only [go_sem, Nat.reduceEqDiff, reduceIte, Nat.reduceAdd, Int.toNat_natCast, Nat.add_zero, Owes_true, e1]; try rfl), by (simp -dsimp -implicitDefEqProofs (maxSteps := 2000000) (disch := first | assumption | omega | (simp only [AW.next_push, AW.next_put]; omega) | ((repeat refine Fresh.push ?_ _); assumption) | (simp only [same_int, same_bool, same_ptr, same_slice, same_sliceP, same_nil, same_agg2, same_string]; done) | (simp [oneCell, AW.next_push]; done) | fail) only [go_sem, Nat.reduceEqDiff, reduceIte, Nat.reduceAdd, Int.toNat_natCast, Nat.add_zero, Owes_true, e9]; try rfl), by (simp -dsimp -implicitDefEqProofs (maxSteps := 2000000) (disch := first | assumption | omega | (simp only [AW.next_push, AW.next_put]; omega) | ((repeat refine Fresh.push ?_ _); assumption) | (simp only [same_int, same_bool, same_ptr, same_slice, same_sliceP, same_nil, same_agg2, same_string]; done) | (simp [oneCell, AW.next_push]; done) | fail) only [go_sem, Nat.reduceEqDiff, reduceIte, Nat.reduceAdd, Int.toNat_natCast, Nat.add_zero, Owes_true, e11]; try rfl), ⟨x', ys ++ [x'], s', rn', H', by simp -dsimp -implicitDefEqProofs (maxSteps := 2000000) (disch := first | assumption | omega | (simp only [AW.next_push, AW.next_put]; omega) | ((repeat refine Fresh.push ?_ _); assumption) | (simp only [same_int, same_bool, same_ptr, same_slice, same_sliceP, same_nil, same_agg2, same_string]; done) | (simp [oneCell, AW.next_push]; done) | fail) only [go_sem, Nat.reduceEqDiff, reduceIte, Nat.reduceAdd, Int.toNat_natCast, Nat.add_zero, Owes_true], by rw [List.flatMap_append]; simpa using hA8, by simp [hys], hok', hL8, hS', by rw [hdy', hdn], by rw [hdy']; exact hrest, by rw [hgo]; simp, ⟨g7.1.trans (hk8.mono (by omega)), f8⟩⟩⟩
  · rw [goL_bad (a := ⟨D, K, N⟩) (l := l.drop (i + 1)) he] at hgo
    have hE2 : runE d cl l = actE d (passL d cl x D) ⟨D, K, N⟩ := by rw [hR, hgo]
    have hT2 : runAt d cl l = i := by rw [hT, hgo]; simp [hys]
    simp -dsimp -implicitDefEqProofs (maxSteps := 2000000) (disch := first | assumption | omega | (simp only [AW.next_push, AW.next_put]; omega) | ((repeat refine Fresh.push ?_ _); assumption) | (simp only [same_int, same_bool, same_ptr, same_slice, same_sliceP, same_nil, same_agg2, same_string]; done) | (simp [oneCell, AW.next_push]; done) | fail) only [go_sem, Nat.reduceEqDiff, reduceIte, Nat.reduceAdd, Int.toNat_natCast, Nat.add_zero, Owes_true, Tryz.results15, e1, e9, e10, e11, he]
    exact ⟨g6, .inl ⟨by rw [hE2]; exact he, by rw [hE2, hT2]⟩⟩
end Go.Proofs

/- Loans, as the chapter has them: what is owed on a day, the law's charge, a run. -/
namespace Go.Proofs
open Go Go.RowKit Go.Sim
set_option maxRecDepth 100000
def RefOnPost (d : DealN) (cl : List Int) (l : List ActN) (day : Int) (v : Value) (w : AW) : Value → AW → Prop := fun r w' => Grown w w' ∧
  ((oweE d cl l day ≠ 0 ∧ r = .tuple #[.pointer none, .int .i64 (oweE d cl l day)]) ∨
   (oweE d cl l day = 0 ∧ dealB d cl = true ∧ ∃ b rn H, r = .tuple #[.pointer (some ⟨b, 0, none⟩), .int .i64 0] ∧ Own w' b 93 (scells d v (oweX d cl l day) rn H) ∧ ∃ j, j ≤ 32 ∧ LOk d j (oweX d cl l day) ∧ SRel d (oweX d cl l day) rn H j))
set_option maxHeartbeats 1000000 in
theorem refOn_ok (d : DealN) (cl : List Int) (l : List ActN) (day : Int) (v u : Value) (w : AW) (f : Fresh w) (hs : ArrOf w 1 icells v cl) (ht : ArrOf w 3 acells u l) :
    CallT Tryz.prog Tryz.T1 (.fn (.func 23) #[]) #[.agg #[.int .i64 d.r, .int .i64 d.c, .int .i64 d.a, .int .i64 d.fr, .int .i64 d.fe, .int .i64 d.tm, .int .i64 d.gr, v, .int .i64 d.st, .int .i64 d.sm], u, .int .i64 day] w (RefOnPost d cl l day v w) := by
  obtain ⟨p, cap, rfl, _⟩ := id ht.open
  obtain ⟨q, cap2, rfl, _⟩ := id hs.open
  have g := (Grown.refl f).push (.cells [.int .i64 d.r, .int .i64 d.c, .int .i64 d.a, .int .i64 d.fr, .int .i64 d.fe, .int .i64 d.tm, .int .i64 d.gr, (.slice q cl.length cap2), .int .i64 d.st, .int .i64 d.sm] 28 w.next 0 0)
  have hO := Own.new f 28 [.int .i64 d.r, .int .i64 d.c, .int .i64 d.a, .int .i64 d.fr, .int .i64 d.fe, .int .i64 d.tm, .int .i64 d.gr, (.slice q cl.length cap2), .int .i64 d.st, .int .i64 d.sm]
  have c0 := (hO).cell (o := 0) rfl rfl
  have c1 := (hO).cell (o := 1) rfl rfl
  have c2 := (hO).cell (o := 2) rfl rfl
  have c3 := (hO).cell (o := 3) rfl rfl
  have c4 := (hO).cell (o := 4) rfl rfl
  have c5 := (hO).cell (o := 5) rfl rfl
  have c6 := (hO).cell (o := 6) rfl rfl
  have c7 := (hO).cell (o := 7) rfl rfl
  have c8 := (hO).cell (o := 8) rfl rfl
  have c9 := (hO).cell (o := 9) rfl rfl
  refine callT_code rfl Tryz.func23 rfl Tryz.s23_eq rfl ?_
  unfold Tryz.s23
  simp -dsimp -implicitDefEqProofs (maxSteps := 2000000) (disch := first | assumption | omega | (simp only [AW.next_push, AW.next_put]; omega) | ((repeat refine Fresh.push ?_ _); assumption) | (simp only [same_int, same_bool, same_ptr, same_slice, same_sliceP, same_nil, same_agg2, same_string]; done) | (simp [oneCell, AW.next_push]; done) | fail) only [go_sem, Nat.reduceEqDiff, reduceIte, Nat.reduceAdd, Int.toNat_natCast, Nat.add_zero, Owes_true, Tryz.results23, Nat.zero_add, c0, c1, c2, c3, c4, c5, c6, c7, c8, c9]
  apply callV_of (e := rfl)
  · exact refRun_ok d cl l _ _ _ g.2 (hs.grown g) (ht.grown g)
  rintro _ w1 ⟨hg1, h⟩
  have g1 := g.trans hg1
  rcases h with ⟨hE, rfl⟩ | ⟨hE, hd, ha, b, s, rn, H, rfl, hb, hL, hlen, hA, j, hj, hok, hS⟩
  · have hO2 : oweE d cl l day = runE d cl l := by rw [oweE_run, if_pos hE]
    simp -dsimp -implicitDefEqProofs (maxSteps := 2000000) (disch := first | assumption | omega | (simp only [AW.next_push, AW.next_put]; omega) | ((repeat refine Fresh.push ?_ _); assumption) | (simp only [same_int, same_bool, same_ptr, same_slice, same_sliceP, same_nil, same_agg2, same_string]; done) | (simp [oneCell, AW.next_push]; done) | fail) only [go_sem, Nat.reduceEqDiff, reduceIte, Nat.reduceAdd, Int.toNat_natCast, Nat.add_zero, Owes_true, Tryz.results23, hE]
    exact ⟨g1, .inl ⟨by rw [hO2]; exact hE, by rw [hO2]⟩⟩
  obtain ⟨_, _, _, hsl⟩ : ∃ x y z, s = .slice x y z := by rcases hA with ⟨rfl, _⟩ | ⟨_, _, rfl, _⟩ <;> exact ⟨_, _, _, rfl⟩
  subst hsl
  have hL0 := hL
  unfold scells at hL0
  have k19 := hL0.cell (o := 15) rfl rfl
  simp -dsimp -implicitDefEqProofs (maxSteps := 2000000) (disch := first | assumption | omega | (simp only [AW.next_push, AW.next_put]; omega) | ((repeat refine Fresh.push ?_ _); assumption) | (simp only [same_int, same_bool, same_ptr, same_slice, same_sliceP, same_nil, same_agg2, same_string]; done) | (simp [oneCell, AW.next_push]; done) | fail) only [go_sem, Nat.reduceEqDiff, reduceIte, Nat.reduceAdd, Int.toNat_natCast, Nat.add_zero, Owes_true, Tryz.results23, ne_eq, not_true, Nat.zero_add, k19]
  apply callV_of (e := rfl)
  · exact From_ok _ _ _ _
  rintro _ _ ⟨rfl, rfl⟩
  cases hr : inR (goL d cl (beginL d) l).1.dy day 36500 with
  | false =>
    have hO2 : oweE d cl l day = 7 := by rw [oweE_run, if_neg (by simpa using hE), if_pos hr]
    simp -dsimp -implicitDefEqProofs (maxSteps := 2000000) (disch := first | assumption | omega | (simp only [AW.next_push, AW.next_put]; omega) | ((repeat refine Fresh.push ?_ _); assumption) | (simp only [same_int, same_bool, same_ptr, same_slice, same_sliceP, same_nil, same_agg2, same_string]; done) | (simp [oneCell, AW.next_push]; done) | fail) only [go_sem, Nat.reduceEqDiff, reduceIte, Nat.reduceAdd, Int.toNat_natCast, Nat.add_zero, Owes_true, Tryz.results23]
    exact ⟨g1, .inl ⟨by rw [hO2]; decide, by rw [hO2]⟩⟩
  | true =>
  have hin := (inR_iff _ _ _).1 hr
  have hO2 : oweE d cl l day = 0 := by rw [oweE_run, if_neg (by simpa using hE), if_neg (by rw [hr]; simp)]
  have hbn : w.next ≤ b := by have := g.1.next; omega
  simp -dsimp -implicitDefEqProofs (maxSteps := 2000000) (disch := first | assumption | omega | (simp only [AW.next_push, AW.next_put]; omega) | ((repeat refine Fresh.push ?_ _); assumption) | (simp only [same_int, same_bool, same_ptr, same_slice, same_sliceP, same_nil, same_agg2, same_string]; done) | (simp [oneCell, AW.next_push]; done) | fail) only [go_sem, Nat.reduceEqDiff, reduceIte, Nat.reduceAdd, Int.toNat_natCast, Nat.add_zero, Owes_true, Tryz.results23]
  apply callV_of (e := rfl)
  · exact refTo_ok d cl _ day j b w.next rn H _ w1 g1.2 (Arr.keep hs g1.1 (Nat.le_refl _)) hbn hL hd hok (by omega) hS.he hin.1 hin.2
  rintro _ w2 ⟨rfl, hL2, m2⟩
  simp -dsimp -implicitDefEqProofs (maxSteps := 2000000) (disch := first | assumption | omega | (simp only [AW.next_push, AW.next_put]; omega) | ((repeat refine Fresh.push ?_ _); assumption) | (simp only [same_int, same_bool, same_ptr, same_slice, same_sliceP, same_nil, same_agg2, same_string]; done) | (simp [oneCell, AW.next_push]; done) | fail) only [go_sem, Nat.reduceEqDiff, reduceIte, Nat.reduceAdd, Int.toNat_natCast, Nat.add_zero, Owes_true, Tryz.results23]
  exact ⟨⟨g1.1.trans (m2.keep hbn g1.1.next), m2.fresh⟩, .inr ⟨hO2, hd, b, rn, H, rfl, hL2, j, hj, pass_keeps hd hok hin.1 hin.2, ⟨by unfold oweX; rw [pass_fe]; exact hS.fe, hS.rn, by rcases hS.he with z | z; exact .inl (z.trans pass_he.symm); exact .inr ⟨z.1, pass_he.trans z.2⟩⟩⟩⟩
set_option maxHeartbeats 1000000 in
theorem refOwe_ok (d : DealN) (cl : List Int) (l : List ActN) (day : Int) (v u : Value) (w : AW) (f : Fresh w) (hs : ArrOf w 1 icells v cl) (ht : ArrOf w 3 acells u l) :
    CallT Tryz.prog Tryz.T1 (.fn (.func 10) #[]) #[.agg #[.int .i64 d.r, .int .i64 d.c, .int .i64 d.a, .int .i64 d.fr, .int .i64 d.fe, .int .i64 d.tm, .int .i64 d.gr, v, .int .i64 d.st, .int .i64 d.sm], u, .int .i64 day] w (Ret (.tuple #[accV (oweA d cl l day), .int .i64 (oweE d cl l day)]) (Grown w)) := by
  obtain ⟨p, cap, rfl, _⟩ := id ht.open
  obtain ⟨q, cap2, rfl, _⟩ := id hs.open
  have g0 := (Grown.refl f).push (.cells [.int .i64 d.r, .int .i64 d.c, .int .i64 d.a, .int .i64 d.fr, .int .i64 d.fe, .int .i64 d.tm, .int .i64 d.gr, (.slice q cl.length cap2), .int .i64 d.st, .int .i64 d.sm] 28 w.next 0 0)
  have hO0 := Own.new f 28 [.int .i64 d.r, .int .i64 d.c, .int .i64 d.a, .int .i64 d.fr, .int .i64 d.fe, .int .i64 d.tm, .int .i64 d.gr, (.slice q cl.length cap2), .int .i64 d.st, .int .i64 d.sm]
  have g := g0.push (.cells (accells zacc) 37 (w.next + 1) 0 0)
  have hO := hO0.push (.cells (accells zacc) 37 (w.next + 1) 0 0)
  have hZ := Own.new g0.2 37 (accells zacc)
  simp only [AW.next_push] at hZ
  unfold accells zacc at g hO hZ
  have c0 := (hO).cell (o := 0) rfl rfl
  have c1 := (hO).cell (o := 1) rfl rfl
  have c2 := (hO).cell (o := 2) rfl rfl
  have c3 := (hO).cell (o := 3) rfl rfl
  have c4 := (hO).cell (o := 4) rfl rfl
  have c5 := (hO).cell (o := 5) rfl rfl
  have c6 := (hO).cell (o := 6) rfl rfl
  have c7 := (hO).cell (o := 7) rfl rfl
  have c8 := (hO).cell (o := 8) rfl rfl
  have c9 := (hO).cell (o := 9) rfl rfl
  refine callT_code rfl Tryz.func10 rfl Tryz.s10_eq rfl ?_
  unfold Tryz.s10
  simp -dsimp -implicitDefEqProofs (maxSteps := 2000000) (disch := first | assumption | omega | (simp only [AW.next_push, AW.next_put]; omega) | ((repeat refine Fresh.push ?_ _); assumption) | (simp only [same_int, same_bool, same_ptr, same_slice, same_sliceP, same_nil, same_agg2, same_string]; done) | (simp [oneCell, AW.next_push]; done) | fail) only [go_sem, Nat.reduceEqDiff, reduceIte, Nat.reduceAdd, Int.toNat_natCast, Nat.add_zero, Owes_true, Tryz.results10, Nat.zero_add, c0, c1, c2, c3, c4, c5, c6, c7, c8, c9]
  apply callV_of (e := rfl)
  · exact refOn_ok d cl l day _ _ _ g.2 (hs.grown g) (ht.grown g)
  rintro _ w1 ⟨hg1, h⟩
  have g1 := g.trans hg1
  have hZ1 := hZ.keep hg1.1
  have put : ∀ x : LN, ∃ w2, storeV w1 true 5 (.pointer (some ⟨w.next + 1, 0, none⟩)) (.agg (accells x).toArray) = some w2 ∧ Own w2 (w.next + 1) 37 (accells x) ∧ Grown w w2 := by
    intro x
    have h1 := storeV_own (o := 0) (l := accells x) (size := 5) hZ1 rfl (by omega) (by simp) (List.all_eq_true.mpr (accells_one x))
    exact ⟨_, h1, hZ1.put _, ⟨g1.1.put (by omega) _, g1.2.put hZ1.lt _⟩⟩
  rcases h with ⟨hE, rfl⟩ | ⟨hE, hd, b, rn, H, rfl, hL, j, hj, hok, hS⟩
  · obtain ⟨w2, p1, hP, g2⟩ := put zacc
    unfold accells zacc at p1 hP
    have k0 := hP.cell (o := 0) rfl rfl
    have k1 := hP.cell (o := 1) rfl rfl
    have k2 := hP.cell (o := 2) rfl rfl
    have k3 := hP.cell (o := 3) rfl rfl
    have k4 := hP.cell (o := 4) rfl rfl
    simp -dsimp -implicitDefEqProofs (maxSteps := 2000000) (disch := first | assumption | omega | (simp only [AW.next_push, AW.next_put]; omega) | ((repeat refine Fresh.push ?_ _); assumption) | (simp only [same_int, same_bool, same_ptr, same_slice, same_sliceP, same_nil, same_agg2, same_string]; done) | (simp [oneCell, AW.next_push]; done) | fail) only [go_sem, Nat.reduceEqDiff, reduceIte, Nat.reduceAdd, Int.toNat_natCast, Nat.add_zero, Owes_true, Tryz.results10, hE, bldQ_zero, p1, k0, k1, k2, k3, k4]
    exact ⟨by rw [oweA_bad hE]; rfl, g2⟩
  · simp -dsimp -implicitDefEqProofs (maxSteps := 2000000) (disch := first | assumption | omega | (simp only [AW.next_push, AW.next_put]; omega) | ((repeat refine Fresh.push ?_ _); assumption) | (simp only [same_int, same_bool, same_ptr, same_slice, same_sliceP, same_nil, same_agg2, same_string]; done) | (simp [oneCell, AW.next_push]; done) | fail) only [go_sem, Nat.reduceEqDiff, reduceIte, Nat.reduceAdd, Int.toNat_natCast, Nat.add_zero, Owes_true, Tryz.results10, ne_eq, not_true]
    apply callV_of (e := rfl)
    · exact refAccount_ok d _ j rn H b _ w1 g1.2 hL (dealB_in hd).1 (hok.fits hd (by omega)) hok.C hS.fe ⟨hS.rn.1, by have := hS.rn.2; omega⟩
    rintro _ w2 ⟨rfl, hg2⟩
    have g2 := g1.trans hg2
    have hZ2 := hZ1.keep hg2.1
    obtain ⟨w3, p1, hP, g3⟩ : ∃ w3, storeV w2 true 5 (.pointer (some ⟨w.next + 1, 0, none⟩)) (.agg (accells (oweX d cl l day)).toArray) = some w3 ∧ Own w3 (w.next + 1) 37 (accells (oweX d cl l day)) ∧ Grown w w3 :=
      ⟨_, storeV_own (o := 0) (l := accells (oweX d cl l day)) (size := 5) hZ2 rfl (by omega) (by simp) (List.all_eq_true.mpr (accells_one _)), hZ2.put _, ⟨g2.1.put (by omega) _, g2.2.put hZ2.lt _⟩⟩
    unfold accells at p1 hP
    unfold accV
    have k0 := hP.cell (o := 0) rfl rfl
    have k1 := hP.cell (o := 1) rfl rfl
    have k2 := hP.cell (o := 2) rfl rfl
    have k3 := hP.cell (o := 3) rfl rfl
    have k4 := hP.cell (o := 4) rfl rfl
    simp -dsimp -implicitDefEqProofs (maxSteps := 2000000) (disch := first | assumption | omega | (simp only [AW.next_push, AW.next_put]; omega) | ((repeat refine Fresh.push ?_ _); assumption) | (simp only [same_int, same_bool, same_ptr, same_slice, same_sliceP, same_nil, same_agg2, same_string]; done) | (simp [oneCell, AW.next_push]; done) | fail) only [go_sem, Nat.reduceEqDiff, reduceIte, Nat.reduceAdd, Int.toNat_natCast, Nat.add_zero, Owes_true, Tryz.results10, Nat.zero_add, p1, k0, k1, k2, k3, k4]
    exact ⟨by rw [oweA_ok hE, hE], g3⟩
set_option maxHeartbeats 1000000 in
theorem refLegalOn_ok (d : DealN) (cl : List Int) (l : List ActN) (day : Int) (v u : Value) (w : AW) (f : Fresh w) (hs : ArrOf w 1 icells v cl) (ht : ArrOf w 3 acells u l) :
    CallT Tryz.prog Tryz.T1 (.fn (.func 12) #[]) #[.agg #[.int .i64 d.r, .int .i64 d.c, .int .i64 d.a, .int .i64 d.fr, .int .i64 d.fe, .int .i64 d.tm, .int .i64 d.gr, v, .int .i64 d.st, .int .i64 d.sm], u, .int .i64 day] w (fun r w' => ∃ n, r = .tuple #[.int .i64 n, .int .i64 (oweE d cl l day)] ∧ (oweE d cl l day = 0 → n = lwF d (oweX d cl l day).lw) ∧ (oweE d cl l day ≠ 0 → n = 0) ∧ Grown w w') := by
  obtain ⟨p, cap, rfl, _⟩ := id ht.open
  obtain ⟨q, cap2, rfl, _⟩ := id hs.open
  have g := (Grown.refl f).push (.cells [.int .i64 d.r, .int .i64 d.c, .int .i64 d.a, .int .i64 d.fr, .int .i64 d.fe, .int .i64 d.tm, .int .i64 d.gr, (.slice q cl.length cap2), .int .i64 d.st, .int .i64 d.sm] 28 w.next 0 0)
  have hO := Own.new f 28 [.int .i64 d.r, .int .i64 d.c, .int .i64 d.a, .int .i64 d.fr, .int .i64 d.fe, .int .i64 d.tm, .int .i64 d.gr, (.slice q cl.length cap2), .int .i64 d.st, .int .i64 d.sm]
  have c0 := (hO).cell (o := 0) rfl rfl
  have c1 := (hO).cell (o := 1) rfl rfl
  have c2 := (hO).cell (o := 2) rfl rfl
  have c3 := (hO).cell (o := 3) rfl rfl
  have c4 := (hO).cell (o := 4) rfl rfl
  have c5 := (hO).cell (o := 5) rfl rfl
  have c6 := (hO).cell (o := 6) rfl rfl
  have c7 := (hO).cell (o := 7) rfl rfl
  have c8 := (hO).cell (o := 8) rfl rfl
  have c9 := (hO).cell (o := 9) rfl rfl
  refine callT_code rfl Tryz.func12 rfl Tryz.s12_eq rfl ?_
  unfold Tryz.s12
  simp -dsimp -implicitDefEqProofs (maxSteps := 2000000) (disch := first | assumption | omega | (simp only [AW.next_push, AW.next_put]; omega) | ((repeat refine Fresh.push ?_ _); assumption) | (simp only [same_int, same_bool, same_ptr, same_slice, same_sliceP, same_nil, same_agg2, same_string]; done) | (simp [oneCell, AW.next_push]; done) | fail) only [go_sem, Nat.reduceEqDiff, reduceIte, Nat.reduceAdd, Int.toNat_natCast, Nat.add_zero, Owes_true, Tryz.results12, Nat.zero_add, c0, c1, c2, c3, c4, c5, c6, c7, c8, c9]
  apply callV_of (e := rfl)
  · exact refOn_ok d cl l day _ _ _ g.2 (hs.grown g) (ht.grown g)
  rintro _ w1 ⟨hg1, h⟩
  have g1 := g.trans hg1
  rcases h with ⟨hE, rfl⟩ | ⟨hE, hd, b, rn, H, rfl, hL, j, hj, hok, hS⟩
  · simp -dsimp -implicitDefEqProofs (maxSteps := 2000000) (disch := first | assumption | omega | (simp only [AW.next_push, AW.next_put]; omega) | ((repeat refine Fresh.push ?_ _); assumption) | (simp only [same_int, same_bool, same_ptr, same_slice, same_sliceP, same_nil, same_agg2, same_string]; done) | (simp [oneCell, AW.next_push]; done) | fail) only [go_sem, Nat.reduceEqDiff, reduceIte, Nat.reduceAdd, Int.toNat_natCast, Nat.add_zero, Owes_true, Tryz.results12, hE]
    exact ⟨_, rfl, (fun q => by first | exact absurd q hE | exact q.elim), fun _ => rfl, g1⟩
  · simp -dsimp -implicitDefEqProofs (maxSteps := 2000000) (disch := first | assumption | omega | (simp only [AW.next_push, AW.next_put]; omega) | ((repeat refine Fresh.push ?_ _); assumption) | (simp only [same_int, same_bool, same_ptr, same_slice, same_sliceP, same_nil, same_agg2, same_string]; done) | (simp [oneCell, AW.next_push]; done) | fail) only [go_sem, Nat.reduceEqDiff, reduceIte, Nat.reduceAdd, Int.toNat_natCast, Nat.add_zero, Owes_true, Tryz.results12, ne_eq, not_true]
    apply callV_of (e := rfl)
    · exact refLegal_ok d _ rn H b _ w1 hL (dealB_in hd).1 (hok.fits hd (by omega))
    rintro _ _ ⟨rfl, rfl⟩
    simp -dsimp -implicitDefEqProofs (maxSteps := 2000000) (disch := first | assumption | omega | (simp only [AW.next_push, AW.next_put]; omega) | ((repeat refine Fresh.push ?_ _); assumption) | (simp only [same_int, same_bool, same_ptr, same_slice, same_sliceP, same_nil, same_agg2, same_string]; done) | (simp [oneCell, AW.next_push]; done) | fail) only [go_sem, Nat.reduceEqDiff, reduceIte, Nat.reduceAdd, Int.toNat_natCast, Nat.add_zero, Owes_true, Tryz.results12]
    exact ⟨_, by rw [hE], (fun _ => rfl), (fun q => absurd hE q), g1⟩
set_option maxHeartbeats 1000000 in
theorem refRunOk (d : DealN) (cl : List Int) (l : List ActN) (v u : Value) (w : AW) (f : Fresh w) (hs : ArrOf w 1 icells v cl) (ht : ArrOf w 3 acells u l) :
    CallT Tryz.prog Tryz.T1 (.fn (.func 5) #[]) #[.agg #[.int .i64 d.r, .int .i64 d.c, .int .i64 d.a, .int .i64 d.fr, .int .i64 d.fe, .int .i64 d.tm, .int .i64 d.gr, v, .int .i64 d.st, .int .i64 d.sm], u] w (fun r w' => ∃ s ys, r = .tuple #[s, .int .i64 (runAt d cl l), .int .i64 (runE d cl l)] ∧ ArrOf w' 5 accells s ys ∧ Grown w w' ∧ ((runE d cl l ≠ 0 ∧ ys = []) ∨ (runE d cl l = 0 ∧ runAt d cl l = l.length ∧ ys = (goL d cl (beginL d) l).2.1 ∧ ys.length = l.length ∧ dealB d cl = true ∧ actsB d l = true))) := by
  obtain ⟨p, cap, rfl, _⟩ := id ht.open
  obtain ⟨q, cap2, rfl, _⟩ := id hs.open
  have g := (Grown.refl f).push (.cells [.int .i64 d.r, .int .i64 d.c, .int .i64 d.a, .int .i64 d.fr, .int .i64 d.fe, .int .i64 d.tm, .int .i64 d.gr, (.slice q cl.length cap2), .int .i64 d.st, .int .i64 d.sm] 28 w.next 0 0)
  have hO := Own.new f 28 [.int .i64 d.r, .int .i64 d.c, .int .i64 d.a, .int .i64 d.fr, .int .i64 d.fe, .int .i64 d.tm, .int .i64 d.gr, (.slice q cl.length cap2), .int .i64 d.st, .int .i64 d.sm]
  have c0 := (hO).cell (o := 0) rfl rfl
  have c1 := (hO).cell (o := 1) rfl rfl
  have c2 := (hO).cell (o := 2) rfl rfl
  have c3 := (hO).cell (o := 3) rfl rfl
  have c4 := (hO).cell (o := 4) rfl rfl
  have c5 := (hO).cell (o := 5) rfl rfl
  have c6 := (hO).cell (o := 6) rfl rfl
  have c7 := (hO).cell (o := 7) rfl rfl
  have c8 := (hO).cell (o := 8) rfl rfl
  have c9 := (hO).cell (o := 9) rfl rfl
  refine callT_code rfl Tryz.func5 rfl Tryz.s5_eq rfl ?_
  unfold Tryz.s5
  simp -dsimp -implicitDefEqProofs (maxSteps := 2000000) (disch := first | assumption | omega | (simp only [AW.next_push, AW.next_put]; omega) | ((repeat refine Fresh.push ?_ _); assumption) | (simp only [same_int, same_bool, same_ptr, same_slice, same_sliceP, same_nil, same_agg2, same_string]; done) | (simp [oneCell, AW.next_push]; done) | fail) only [go_sem, Nat.reduceEqDiff, reduceIte, Nat.reduceAdd, Int.toNat_natCast, Nat.add_zero, Owes_true, Tryz.results5, Nat.zero_add, c0, c1, c2, c3, c4, c5, c6, c7, c8, c9]
  apply callV_of (e := rfl)
  · exact refRun_ok d cl l _ _ _ g.2 (hs.grown g) (ht.grown g)
  rintro _ w1 ⟨hg1, h⟩
  have g1 := g.trans hg1
  rcases h with ⟨hE, rfl⟩ | ⟨hE, hd, ha, b, s, rn, H, rfl, hb, hL, hlen, hA, j, hj, hok, hS⟩
  · simp -dsimp -implicitDefEqProofs (maxSteps := 2000000) (disch := first | assumption | omega | (simp only [AW.next_push, AW.next_put]; omega) | ((repeat refine Fresh.push ?_ _); assumption) | (simp only [same_int, same_bool, same_ptr, same_slice, same_sliceP, same_nil, same_agg2, same_string]; done) | (simp [oneCell, AW.next_push]; done) | fail) only [go_sem, Nat.reduceEqDiff, reduceIte, Nat.reduceAdd, Int.toNat_natCast, Nat.add_zero, Owes_true, Tryz.results5]
    exact ⟨_, [], rfl, ArrOf.nil _ _ _, g1, .inl ⟨hE, rfl⟩⟩
  · have hT : runAt d cl l = l.length := by rw [runAt, if_neg (by rw [hd]; simp), if_neg (by rw [ha]; simp), hlen]
    have hl32 : l.length ≤ 32 := by rw [actsB, Bool.and_eq_true] at ha; exact of_decide_eq_true ha.1
    rw [← hlen] at hA
    have hArr := hA.arr accells_len (by omega)
    simp -dsimp -implicitDefEqProofs (maxSteps := 2000000) (disch := first | assumption | omega | (simp only [AW.next_push, AW.next_put]; omega) | ((repeat refine Fresh.push ?_ _); assumption) | (simp only [same_int, same_bool, same_ptr, same_slice, same_sliceP, same_nil, same_agg2, same_string]; done) | (simp [oneCell, AW.next_push]; done) | fail) only [go_sem, Nat.reduceEqDiff, reduceIte, Nat.reduceAdd, Int.toNat_natCast, Nat.add_zero, Owes_true, Tryz.results5]
    exact ⟨_, _, by rw [hT, hE], hArr, g1, .inr ⟨hE, hT, rfl, hlen, hd, ha⟩⟩
end Go.Proofs
