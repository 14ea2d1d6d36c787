/- Surpluses are paid, pass; the fund is given. -/
import Derived.Test.YtbmgalmnjaimeaaRa
import Derived.Test.YtbmgalmnjaimeaaTe
set_option linter.unusedVariables false
set_option linter.unusedSimpArgs false
namespace Go.Proofs
open Go Go.RowKit Go.Sim
set_option maxRecDepth 100000
theorem setL_field {α : Type} {enc : α → List Value} {z : Nat} (hz : ∀ x, (enc x).length = z) (y : α) (j : Nat) (v : Value) (hj : j < z) : ∀ (L : List α) (i : Nat) (h : i < L.length), enc y = setL (enc L[i]) j v → setL (L.flatMap enc) (i * z + j) v = (L.set i y).flatMap enc
  | [], i, h, _ => by simp at h
  | a :: L, 0, _, he => by
    rw [Nat.zero_mul, Nat.zero_add, List.flatMap_cons, List.set_cons_zero, List.flatMap_cons, he, setL_eq, setL_eq, List.set_append_left _ _ (by rw [hz]; exact hj)]
    rfl
  | a :: L, i + 1, h, he => by
    rw [List.flatMap_cons, List.set_cons_succ, List.flatMap_cons, setL_eq, List.set_append_right _ _ (by rw [hz, Nat.succ_mul]; omega), hz, show (i + 1) * z + j - z = i * z + j from by rw [Nat.succ_mul]; omega, ← setL_eq, setL_field hz y j v hj L i (by simpa using h) he]
def heldS (S : List SurN) : Int := (S.map fun y => if y.st = 1 then y.m else 0).sum
structure PGood (x : PurN) : Prop where
  t : 0 ≤ x.T ∧ x.T ≤ 12000
  w : 0 ≤ x.W ∧ x.W + heldS x.S ≤ (x.S.length : Int) * 67108864
  s : ∀ y ∈ x.S, 0 ≤ y.d ∧ y.d ≤ 36500 ∧ 0 ≤ y.m ∧ y.m ≤ 67108864
  n : x.S.length ≤ 256
theorem isHeld_ok (y : SurN) (w : AW) (f : Fresh w) : CallT Try.prog Try.T1 (.fn (.func 102) #[]) #[.agg #[.string y.s, .int .i64 y.m, .int .i64 y.d, .int .i64 y.st, .int .i64 y.ov]] w (Ret (.bool (decide (y.st = 1))) (Grown w)) := by
  have g := (Grown.refl f).push (.cells [.string y.s, .int .i64 y.m, .int .i64 y.d, .int .i64 y.st, .int .i64 y.ov] 53 w.next 0 0)
  have hO := Own.new f 53 [.string y.s, .int .i64 y.m, .int .i64 y.d, .int .i64 y.st, .int .i64 y.ov]
  have c3 := hO.cell (o := 3) rfl rfl
  refine callT_code rfl Try.func102 rfl Try.s102_eq rfl ?_
  unfold Try.s102
  simp -dsimp -implicitDefEqProofs (maxSteps := 2000000) (disch := first | assumption | omega | (simp only [nx]; omega) | ((repeat refine Fresh.push ?_ _); assumption) | (simp only [smA]; done) | (simp [oneCell, AW.next_push]; done) | fail) only [go_sem, Nat.reduceEqDiff, reduceIte, Nat.reduceAdd, Int.toNat_natCast, Nat.add_zero, Owes_true, Try.results102, Nat.zero_add, c3]
  exact ⟨rfl, g⟩
theorem isLate_ok (y : SurN) (day : Int) (bp bb r : Nat) (x : PurN) (vs vn : Value) (F S1 S2 : Nat → Prop) (w : AW) (f : Fresh w) (h : BooksAt w F bp bb r x vs vn S1 S2) (hd : 0 ≤ y.d ∧ y.d ≤ 36500) (ht : 0 ≤ x.T ∧ x.T ≤ 12000) : CallT Try.prog Try.T1 (.fn (.func 110) #[]) #[.pointer (some ⟨bb, 0, none⟩), .agg #[.string y.s, .int .i64 y.m, .int .i64 y.d, .int .i64 y.st, .int .i64 y.ov], .int .i64 day] w (Ret (.bool (decide (y.d + x.T ≤ day))) (Grown w)) := by
  have g := (Grown.refl f).push (.cells [.string y.s, .int .i64 y.m, .int .i64 y.d, .int .i64 y.st, .int .i64 y.ov] 53 w.next 0 0)
  have hO := Own.new f 53 [.string y.s, .int .i64 y.m, .int .i64 y.d, .int .i64 y.st, .int .i64 y.ov]
  have c2 := hO.cell (o := 2) rfl rfl
  have hB := h.grown g
  have t0 := hB.bk.cell (o := 0) rfl rfl
  refine callT_code rfl Try.func110 rfl Try.s110_eq rfl ?_
  unfold Try.s110
  simp -dsimp -implicitDefEqProofs (maxSteps := 2000000) (disch := first | assumption | omega | (simp only [nx]; omega) | ((repeat refine Fresh.push ?_ _); assumption) | (simp only [smA]; done) | (simp [oneCell, AW.next_push]; done) | fail) only [go_sem, Nat.reduceEqDiff, reduceIte, Nat.reduceAdd, Int.toNat_natCast, Nat.add_zero, Owes_true, Try.results110, Nat.zero_add, c2, t0]
  exact ⟨rfl, g⟩
def endS (y : SurN) (st day : Int) : SurN := { y with st := st, ov := day }
set_option maxHeartbeats 2000000 in
theorem end_ok (i : Nat) (st day : Int) (bp bb r : Nat) (x : PurN) (F : Nat → Prop) (w : AW) (f : Fresh w) (h : PurAt w F bp bb r x) (hi : i < x.S.length) : CallT Try.prog Try.T1 (.fn (.func 111) #[]) #[.pointer (some ⟨bb, 0, none⟩), .int .i64 (i : Int), .int .i64 st, .int .i64 day] w (fun rv w' => rv = .int .i64 x.S[i].m ∧ PurAt w' F bp bb r { x with S := x.S.set i (endS x.S[i] st day) } ∧ MutS F w w') := by
  obtain ⟨vs, vn, S1, S2, hB⟩ := h
  obtain ⟨b, rfl, _, _, hcell⟩ := hB.sur.cells surc_len (by omega)
  have b1 := hB.bk.cell (o := 1) rfl rfl
  have hil : (i : Int) < (x.S.length : Int) := by omega
  have hlen : (x.S.flatMap surc).length = x.S.length * 5 := flatMap_len surc_len x.S
  obtain ⟨b', e', _, w1, hst1, hA1, m1, hn1, ho1⟩ := aownS_store hB.sur f (by omega) (o := i * 5 + 3) (by rw [hlen]; omega) (x := .int .i64 st) rfl
  injection e' with e'
  injection e' with e'
  injection e' with e1 e2 e3
  subst e1
  rw [setL_field surc_len ⟨x.S[i].s, x.S[i].m, x.S[i].d, st, x.S[i].ov⟩ 3 (.int .i64 st) (by omega) x.S i hi rfl] at hA1
  have hlen2 : ((x.S.set i ⟨x.S[i].s, x.S[i].m, x.S[i].d, st, x.S[i].ov⟩).flatMap surc).length = x.S.length * 5 := by rw [flatMap_len surc_len]; simp
  obtain ⟨b', e', _, w2, hst2, hA2, m2, hn2, ho2⟩ := aownS_store hA1 m1.fresh (by omega) (o := i * 5 + 4) (by rw [hlen2]; omega) (x := .int .i64 day) rfl
  injection e' with e'
  injection e' with e'
  injection e' with e1 e2 e3
  subst e1
  rw [setL_field surc_len (endS x.S[i] st day) 4 (.int .i64 day) (by omega) _ i (by simpa using hi) (by simp [surc, endS, setL])] at hA2
  rw [List.set_set] at hA2
  have mm := m1.trans m2 (Within.refl _ _)
  have hB1 : ∀ c e l, Own w c e l → Own w2 c e l := fun c e l q => ho2 c e l (ho1 c e l q)
  have hS' : (x.S.set i (endS x.S[i] st day)).length = x.S.length := by simp
  rw [← hS'] at hA2
  obtain ⟨b', e', _, _, hcell2⟩ := hA2.cells surc_len (by rw [hS']; omega)
  rw [hS'] at e' hA2
  injection e' with e'
  injection e' with e'
  injection e' with e1 e2 e3
  subst e1
  have a1 := hcell2 (i * 5 + 1) (.int .i64 x.S[i].m) (by
    have := flatMap_get surc_len (x.S.set i (endS x.S[i] st day)) i 1 (endS x.S[i] st day) (by simp [hi]) (by omega)
    rw [this]; rfl)
  refine callT_code rfl Try.func111 rfl Try.s111_eq rfl ?_
  unfold Try.s111
  simp -dsimp -implicitDefEqProofs (maxSteps := 2000000) (disch := first | assumption | omega | (simp only [nx]; omega) | ((repeat refine Fresh.push ?_ _); assumption) | (simp only [smA]; done) | (simp [oneCell, AW.next_push]; done) | fail) only [go_sem, Nat.reduceEqDiff, reduceIte, Nat.reduceAdd, Int.toNat_natCast, Nat.add_zero, Owes_true, Try.results111, b1, Nat.zero_add, indexV_eq, hil, hst1, hst2, a1]
  refine ⟨trivial, ⟨_, vn, S1, S2, hB1 _ _ _ hB.own, hB1 _ _ _ hB.bk, ?_, hB.not.other mm fun j hj q => (hB.f1 j q).2.1 hj, ?_, hB.f, hB.f1, hB.f2, hB.ne, fun j hj => by have := hB.lt j hj; have := mm.next; omega⟩, mm.mono fun j q => (hB.f1 j q).1⟩
  · show AOwnS S1 w2 53 5 _ (x.S.set i (endS x.S[i] st day)).length _
    rw [hS']; exact hA2
  · show MapN w2 r ((x.S.set i (endS x.S[i] st day)).map SurN.s)
    have : (x.S.set i (endS x.S[i] st day)).map SurN.s = x.S.map SurN.s := by
      rw [List.map_set]
      refine List.ext_getElem (by simp) fun n h1 h2 => ?_
      rw [List.getElem_set]
      split
      · rename_i q; subst q; simp [endS]
      · rfl
    rw [this]
    exact hB.map.other mm fun q => (hB.f1 _ q).2.2.2.2 rfl
theorem Try.lk115 (t : Tmps) (w : AW) (x k : Operand) (ok : Bool) : fast (prg Try.prog) t w (.lookup 115 x k ok) = lookupV w .string (.int .i64 0) (ev t x) (ev t k) ok := by simp only [fast, Try.ty115, Try.ty9, Try.ty3]
attribute [go_sem] Try.lk115
theorem new_sur {w1 : AW} (f : Fresh w1) (y : SurN) : ∃ w2, storeV (w1.push (.cells [.string ⟨#[]⟩, .int .i64 0, .int .i64 0, .int .i64 0, .int .i64 0] 53 w1.next 0 0)) true 5 (.pointer (some ⟨w1.next, 0, none⟩)) (.agg #[.string y.s, .int .i64 y.m, .int .i64 y.d, .int .i64 y.st, .int .i64 y.ov]) = some w2 ∧ Own w2 w1.next 53 [.string y.s, .int .i64 y.m, .int .i64 y.d, .int .i64 y.st, .int .i64 y.ov] ∧ Grown w1 w2 := by
  have hO := Own.new f 53 [.string ⟨#[]⟩, .int .i64 0, .int .i64 0, .int .i64 0, .int .i64 0]
  have gP := (Grown.refl f).push (.cells [.string ⟨#[]⟩, .int .i64 0, .int .i64 0, .int .i64 0, .int .i64 0] 53 w1.next 0 0)
  have hst := storeV_own (o := 0) (l := [.string y.s, .int .i64 y.m, .int .i64 y.d, .int .i64 y.st, .int .i64 y.ov]) (size := 5) hO rfl (by omega) (by simp) (by rfl)
  simp only [setsL, setL] at hst
  exact ⟨_, hst, hO.put _, ⟨gP.1.put (b := w1.next) (Nat.le_refl _) _, gP.2.put hO.lt _⟩⟩
def payB (x : PurN) (day : Int) (k : ByteArray) : Bool := match x.S[plc (x.S.map SurN.s) k]? with
  | some y => hasB (x.S.map SurN.s) k && decide (y.st = 1) && !decide (y.d + x.T ≤ day)
  | none => false
def payX (x : PurN) (day : Int) (k : ByteArray) : PurN := match x.S[plc (x.S.map SurN.s) k]? with
  | some y => { x with S := x.S.set (plc (x.S.map SurN.s) k) (endS y 2 day) }
  | none => x
def payM (x : PurN) (k : ByteArray) : Int := match x.S[plc (x.S.map SurN.s) k]? with
  | some y => y.m
  | none => 0
set_option maxHeartbeats 4000000 in
theorem pay_ok (day : Int) (k : ByteArray) (bp bb r : Nat) (x : PurN) (F : Nat → Prop) (w : AW) (f : Fresh w) (h : PurAt w F bp bb r x) (hg : PGood x) :
    CallX Try.prog Try.T1 (.fn (.func 79) #[]) #[.pointer (some ⟨bb, 0, none⟩), .int .i64 day, .string k] w (fun rv w' => rv = .int .i64 (payM x k) ∧ payB x day k = true ∧ PurAt w' F bp bb r (payX x day k) ∧ MutS F w w') (fun pv w' => pv = .iface 24 (.int .i64 73) ∧ payB x day k = false ∧ PurAt w' F bp bb r x ∧ MutS F w w') := by
  obtain ⟨vs, vn, S1, S2, hB⟩ := h
  have b2 := hB.bk.cell (o := 2) rfl rfl
  have hlk := hB.map.lookup k
  refine callX_code rfl Try.func79 rfl Try.s79_eq rfl ?_
  unfold Try.s79
  simp -dsimp -implicitDefEqProofs (maxSteps := 2000000) (disch := first | assumption | omega | (simp only [nx]; omega) | ((repeat refine Fresh.push ?_ _); assumption) | (simp only [smA]; done) | (simp [oneCell, AW.next_push]; done) | fail) only [go_sem, Nat.reduceEqDiff, reduceIte, Nat.reduceAdd, Int.toNat_natCast, Nat.add_zero, Owes_true, b2, Nat.zero_add, hlk]
  apply callXV_of (e := rfl)
  · exact require_ok _ _ _
  rotate_left
  · rintro _ _ ⟨hd, rfl, rfl⟩
    have hb : payB x day k = false := by
      unfold payB; split
      · rw [hd]; rfl
      · rfl
    simp -dsimp -implicitDefEqProofs (maxSteps := 2000000) (disch := first | assumption | omega | (simp only [nx]; omega) | ((repeat refine Fresh.push ?_ _); assumption) | (simp only [smA]; done) | (simp [oneCell, AW.next_push]; done) | fail) only [go_sem, Nat.reduceEqDiff, reduceIte, Nat.reduceAdd, Int.toNat_natCast, Nat.add_zero, Owes_true]
    exact ⟨trivial, hb, ⟨vs, vn, S1, S2, hB⟩, MutS.refl f⟩
  rintro _ _ ⟨hd, rfl⟩
  have hmem := (hasB_iff _ _).1 hd
  have hpl := plc_lt hmem
  rw [List.length_map] at hpl
  have hget : x.S[plc (x.S.map SurN.s) k]? = some x.S[plc (x.S.map SurN.s) k] := List.getElem?_eq_getElem hpl
  have hy := hg.s _ (List.getElem_mem hpl)
  have hpb : payB x day k = (decide (x.S[plc (x.S.map SurN.s) k].st = 1) && !decide (x.S[plc (x.S.map SurN.s) k].d + x.T ≤ day)) := by
    unfold payB; simp only [hget, hd, Bool.true_and]
  have hpx : payX x day k = { x with S := x.S.set (plc (x.S.map SurN.s) k) (endS x.S[plc (x.S.map SurN.s) k] 2 day) } := by
    unfold payX; simp only [hget]
  have hpm : payM x k = x.S[plc (x.S.map SurN.s) k].m := by unfold payM; simp only [hget]
  rw [hd] at hlk
  simp only [if_true] at hlk
  obtain ⟨b, rfl, _, _, hcell⟩ := hB.sur.cells surc_len (by omega)
  have b1 := hB.bk.cell (o := 1) rfl rfl
  have hend := fun w1 f1 h1 => end_ok (plc (x.S.map SurN.s) k) 2 day bp bb r x F w1 f1 h1 hpl
  generalize hI : plc (x.S.map SurN.s) k = I at *
  have hil : (I : Int) < (x.S.length : Int) := by omega
  have a0 := hcell (I * 5) (.string x.S[I].s) (by have := flatMap_get surc_len x.S I 0 _ hget (by omega); rw [Nat.add_zero] at this; rw [this]; rfl)
  have a1 := hcell (I * 5 + 1) (.int .i64 x.S[I].m) (by have := flatMap_get surc_len x.S I 1 _ hget (by omega); rw [this]; rfl)
  have a2 := hcell (I * 5 + 2) (.int .i64 x.S[I].d) (by have := flatMap_get surc_len x.S I 2 _ hget (by omega); rw [this]; rfl)
  have a3 := hcell (I * 5 + 3) (.int .i64 x.S[I].st) (by have := flatMap_get surc_len x.S I 3 _ hget (by omega); rw [this]; rfl)
  have a4 := hcell (I * 5 + 4) (.int .i64 x.S[I].ov) (by have := flatMap_get surc_len x.S I 4 _ hget (by omega); rw [this]; rfl)
  generalize hY : x.S[I] = y at *
  obtain ⟨w2, hst, hO2, g2⟩ := new_sur f y
  have c0 := hO2.cell (o := 0) rfl rfl
  have c1 := hO2.cell (o := 1) rfl rfl
  have c2 := hO2.cell (o := 2) rfl rfl
  have c3 := hO2.cell (o := 3) rfl rfl
  have c4 := hO2.cell (o := 4) rfl rfl
  simp -dsimp -implicitDefEqProofs (maxSteps := 2000000) (disch := first | assumption | omega | (simp only [nx]; omega) | ((repeat refine Fresh.push ?_ _); assumption) | (simp only [smA]; done) | (simp [oneCell, AW.next_push]; done) | fail) only [go_sem, Nat.reduceEqDiff, reduceIte, Nat.reduceAdd, Int.toNat_natCast, Nat.add_zero, Owes_true, b1, Nat.zero_add, hd, indexV_eq, hil, a0, a1, a2, a3, a4, hst, c0, c1, c2, c3, c4]
  apply callXV_ofT (e := rfl)
  · exact isHeld_ok y w2 g2.2
  rintro _ w3 ⟨rfl, hg3⟩
  have g3 := g2.trans hg3
  have hB3 := hB.grown g3
  have hO3 := hO2.keep hg3.1
  by_cases hst1 : y.st = 1
  case neg =>
    have hstd : decide (y.st = 1) = false := decide_eq_false hst1
    rw [hstd] at hpb ⊢
    simp -dsimp -implicitDefEqProofs (maxSteps := 2000000) (disch := first | assumption | omega | (simp only [nx]; omega) | ((repeat refine Fresh.push ?_ _); assumption) | (simp only [smA]; done) | (simp [oneCell, AW.next_push]; done) | fail) only [go_sem, Nat.reduceEqDiff, reduceIte, Nat.reduceAdd, Int.toNat_natCast, Nat.add_zero, Owes_true]
    apply callXV_of (e := rfl)
    · exact require_ok _ _ _
    rotate_left
    · rintro _ _ ⟨_, rfl, rfl⟩
      simp -dsimp -implicitDefEqProofs (maxSteps := 2000000) (disch := first | assumption | omega | (simp only [nx]; omega) | ((repeat refine Fresh.push ?_ _); assumption) | (simp only [smA]; done) | (simp [oneCell, AW.next_push]; done) | fail) only [go_sem, Nat.reduceEqDiff, reduceIte, Nat.reduceAdd, Int.toNat_natCast, Nat.add_zero, Owes_true]
      exact ⟨trivial, by rw [hpb]; rfl, ⟨_, vn, S1, S2, hB3⟩, MutS.of g3⟩
    · rintro _ _ ⟨q, _⟩; cases q
  have hstd : decide (y.st = 1) = true := decide_eq_true hst1
  rw [hstd] at hpb ⊢
  have c0 := hO3.cell (o := 0) rfl rfl
  have c1 := hO3.cell (o := 1) rfl rfl
  have c2 := hO3.cell (o := 2) rfl rfl
  have c3 := hO3.cell (o := 3) rfl rfl
  have c4 := hO3.cell (o := 4) rfl rfl
  simp -dsimp -implicitDefEqProofs (maxSteps := 2000000) (disch := first | assumption | omega | (simp only [nx]; omega) | ((repeat refine Fresh.push ?_ _); assumption) | (simp only [smA]; done) | (simp [oneCell, AW.next_push]; done) | fail) only [go_sem, Nat.reduceEqDiff, reduceIte, Nat.reduceAdd, Int.toNat_natCast, Nat.add_zero, Owes_true, Nat.zero_add, c0, c1, c2, c3, c4]
  apply callXV_ofT (e := rfl)
  · exact isLate_ok y day bp bb r x _ _ F S1 S2 w3 g3.2 hB3 ⟨hy.1, hy.2.1⟩ hg.t
  rintro _ w4 ⟨rfl, hg4⟩
  have g4 := g3.trans hg4
  have hB4 := hB.grown g4
  cases hlt : decide (y.d + x.T ≤ day) with
  | true =>
    rw [hlt] at hpb
    simp -dsimp -implicitDefEqProofs (maxSteps := 2000000) (disch := first | assumption | omega | (simp only [nx]; omega) | ((repeat refine Fresh.push ?_ _); assumption) | (simp only [smA]; done) | (simp [oneCell, AW.next_push]; done) | fail) only [go_sem, Nat.reduceEqDiff, reduceIte, Nat.reduceAdd, Int.toNat_natCast, Nat.add_zero, Owes_true]
    apply callXV_of (e := rfl)
    · exact require_ok _ _ _
    rotate_left
    · rintro _ _ ⟨_, rfl, rfl⟩
      simp -dsimp -implicitDefEqProofs (maxSteps := 2000000) (disch := first | assumption | omega | (simp only [nx]; omega) | ((repeat refine Fresh.push ?_ _); assumption) | (simp only [smA]; done) | (simp [oneCell, AW.next_push]; done) | fail) only [go_sem, Nat.reduceEqDiff, reduceIte, Nat.reduceAdd, Int.toNat_natCast, Nat.add_zero, Owes_true]
      exact ⟨trivial, by rw [hpb]; rfl, ⟨_, vn, S1, S2, hB4⟩, MutS.of g4⟩
    · rintro _ _ ⟨q, _⟩; cases q
  | false =>
    rw [hlt] at hpb
    simp -dsimp -implicitDefEqProofs (maxSteps := 2000000) (disch := first | assumption | omega | (simp only [nx]; omega) | ((repeat refine Fresh.push ?_ _); assumption) | (simp only [smA]; done) | (simp [oneCell, AW.next_push]; done) | fail) only [go_sem, Nat.reduceEqDiff, reduceIte, Nat.reduceAdd, Int.toNat_natCast, Nat.add_zero, Owes_true]
    apply callXV_of (e := rfl)
    · exact require_ok _ _ _
    rotate_left
    · rintro _ _ ⟨q, _⟩; cases q
    rintro _ _ ⟨_, rfl⟩
    simp -dsimp -implicitDefEqProofs (maxSteps := 2000000) (disch := first | assumption | omega | (simp only [nx]; omega) | ((repeat refine Fresh.push ?_ _); assumption) | (simp only [smA]; done) | (simp [oneCell, AW.next_push]; done) | fail) only [go_sem, Nat.reduceEqDiff, reduceIte, Nat.reduceAdd, Int.toNat_natCast, Nat.add_zero, Owes_true, hd]
    apply callXV_ofT (e := rfl)
    · exact hend w4 g4.2 ⟨_, vn, S1, S2, hB4⟩
    rintro _ w5 ⟨rfl, hP, hM⟩
    simp -dsimp -implicitDefEqProofs (maxSteps := 2000000) (disch := first | assumption | omega | (simp only [nx]; omega) | ((repeat refine Fresh.push ?_ _); assumption) | (simp only [smA]; done) | (simp [oneCell, AW.next_push]; done) | fail) only [go_sem, Nat.reduceEqDiff, reduceIte, Nat.reduceAdd, Int.toNat_natCast, Nat.add_zero, Owes_true, Try.results79]
    exact ⟨by rw [hpm], by rw [hpb]; rfl, by rw [hpx]; exact hP, (MutS.of g4).trans hM (Within.refl _ _)⟩
set_option maxHeartbeats 4000000 in
theorem payC_ok (day : Int) (k : ByteArray) (b3 b4 b5 : Nat) (bp bb r : Nat) (x : PurN) (F : Nat → Prop) (w : AW) (f : Fresh w) (h : PurAt w F bp bb r x) (hg : PGood x) (h3 : Own w b3 39 [.pointer (some ⟨bp, 0, none⟩)]) (h4 : Own w b4 3 [.int .i64 day]) (h5 : Own w b5 9 [.string k]) :
    CallX Try.prog Try.T1 (.fn (.func 78) #[.pointer (some ⟨b3, 0, none⟩), .pointer (some ⟨b4, 0, none⟩), .pointer (some ⟨b5, 0, none⟩)]) #[] w (fun rv w' => rv = .int .i64 (payM x k) ∧ payB x day k = true ∧ PurAt w' F bp bb r (payX x day k) ∧ MutS F w w') (fun pv w' => pv = .iface 24 (.int .i64 73) ∧ payB x day k = false ∧ PurAt w' F bp bb r x ∧ MutS F w w') := by
  obtain ⟨vs, vn, S1, S2, hB⟩ := id h
  have c3 := h3.cell (o := 0) rfl rfl
  have c4 := h4.cell (o := 0) rfl rfl
  have c5 := h5.cell (o := 0) rfl rfl
  have o0 := hB.own.cell (o := 0) rfl rfl
  refine callX_code rfl Try.func78 rfl Try.s78_eq rfl ?_
  unfold Try.s78
  simp -dsimp -implicitDefEqProofs (maxSteps := 2000000) (disch := first | assumption | omega | (simp only [nx]; omega) | ((repeat refine Fresh.push ?_ _); assumption) | (simp only [smA]; done) | (simp [oneCell, AW.next_push]; done) | fail) only [go_sem, Nat.reduceEqDiff, reduceIte, Nat.reduceAdd, Int.toNat_natCast, Nat.add_zero, Owes_true, c3, c4, c5, o0, Nat.zero_add]
  apply callXV_of (e := rfl)
  · exact pay_ok day k bp bb r x F w f h hg
  · rintro _ w1 ⟨rfl, hb, hP, hM⟩
    simp -dsimp -implicitDefEqProofs (maxSteps := 2000000) (disch := first | assumption | omega | (simp only [nx]; omega) | ((repeat refine Fresh.push ?_ _); assumption) | (simp only [smA]; done) | (simp [oneCell, AW.next_push]; done) | fail) only [go_sem, Nat.reduceEqDiff, reduceIte, Nat.reduceAdd, Int.toNat_natCast, Nat.add_zero, Owes_true, Try.results78]
    exact ⟨trivial, hb, hP, hM⟩
  · rintro _ w1 ⟨rfl, hb, hP, hM⟩
    simp -dsimp -implicitDefEqProofs (maxSteps := 2000000) (disch := first | assumption | omega | (simp only [nx]; omega) | ((repeat refine Fresh.push ?_ _); assumption) | (simp only [smA]; done) | (simp [oneCell, AW.next_push]; done) | fail) only [go_sem, Nat.reduceEqDiff, reduceIte, Nat.reduceAdd, Int.toNat_natCast, Nat.add_zero, Owes_true]
    exact fun _ => ⟨trivial, hb, hP, hM⟩
set_option maxHeartbeats 4000000 in
theorem Pay_ok (day : Int) (k : ByteArray) (bp bb r : Nat) (x : PurN) (F : Nat → Prop) (w : AW) (f : Fresh w) (h : PurAt w F bp bb r x) (hg : PGood x) (hl : x.N.length < 1000) :
    CallT Try.prog Try.T1 (.fn (.func 44) #[]) #[.pointer (some ⟨bp, 0, none⟩), .int .i64 day, .string k] w (fun rv w' => ∃ sum e F' x', rv = .tuple #[.int .i64 sum, .int .i64 e] ∧ PurAt w' F' bp bb r x' ∧ MutS F w w' ∧ Within F w F' ∧
      ((inR (lastDay x.N) day 36500 = false ∧ sum = 0 ∧ e = 34 ∧ x' = x) ∨ (inR (lastDay x.N) day 36500 = true ∧ payB x day k = false ∧ sum = 0 ∧ e = 73 ∧ x' = x) ∨ (inR (lastDay x.N) day 36500 = true ∧ payB x day k = true ∧ sum = payM x k ∧ e = 0 ∧ x' = { payX x day k with N := x.N ++ [⟨2, day, sum⟩] }))) := by
  have g1 := (Grown.refl f).push (.cells [.pointer (some ⟨bp, 0, none⟩)] 39 w.next 0 0)
  have g2 := g1.push (.cells [.int .i64 day] 3 (w.next + 1) 0 0)
  have g3 := g2.push (.cells [.string k] 9 (w.next + 1 + 1) 0 0)
  have h3 := ((Own.new f 39 [.pointer (some ⟨bp, 0, none⟩)]).push (.cells [.int .i64 day] 3 (w.next + 1) 0 0)).push (.cells [.string k] 9 (w.next + 1 + 1) 0 0)
  have h4 := Own.new g1.2 3 [.int .i64 day]
  rw [AW.next_push] at h4
  have h4 := h4.push (.cells [.string k] 9 (w.next + 1 + 1) 0 0)
  have h5 := Own.new g2.2 9 [.string k]
  simp only [AW.next_push] at h5
  have c3 := h3.cell (o := 0) rfl rfl
  have c4 := h4.cell (o := 0) rfl rfl
  have hP : PurAt _ F bp bb r x := let ⟨vs, vn, S1, S2, hB⟩ := h; ⟨vs, vn, S1, S2, hB.grown g3⟩
  refine callT_code rfl Try.func44 rfl Try.s44_eq rfl ?_
  unfold Try.s44
  simp -dsimp -implicitDefEqProofs (maxSteps := 2000000) (disch := first | assumption | omega | (simp only [nx]; omega) | ((repeat refine Fresh.push ?_ _); assumption) | (simp only [smA]; done) | (simp [oneCell, AW.next_push]; done) | fail) only [go_sem, Nat.reduceEqDiff, reduceIte, Nat.reduceAdd, Int.toNat_natCast, Nat.add_zero, Owes_true, Try.results44, Nat.zero_add, c3, c4]
  generalize ((w.push (.cells [.pointer (some ⟨bp, 0, none⟩)] 39 w.next 0 0)).push (.cells [.int .i64 day] 3 (w.next + 1) 0 0)).push (.cells [.string k] 9 (w.next + 1 + 1) 0 0) = w3 at *
  apply callV_of (e := rfl)
  · exact do_ok 2 day 78 #[.pointer (some ⟨w.next, 0, none⟩), .pointer (some ⟨w.next + 1, 0, none⟩), .pointer (some ⟨w.next + 1 + 1, 0, none⟩)] bp bb r x F (fun _ => False) w3 g3.2 (fun sum x1 F' _ => payB x day k = true ∧ sum = payM x k ∧ x1 = payX x day k) (fun sum x1 _ => payB x day k = true ∧ sum = payM x k ∧ x1 = payX x day k) (fun e _ => e = 73 ∧ payB x day k = false) (fun e w1 w' q _ => q) hP hl (fun j q => q.elim) (fun w1 gg hp => (payC_ok day k _ _ _ bp bb r x F w1 gg.2 hp hg (h3.keep gg.1) (h4.keep gg.1) (h5.keep gg.1)).mono (fun v w' q => ⟨_, F, payX x day k, q.1, q.2.2.1, q.2.2.2.mono fun j z => .inl z, Within.refl _ _, by unfold payX; split <;> rfl, q.2.1, rfl, rfl⟩) (fun v w' q => ⟨73, q.1, q.2.2.1, q.2.2.2.mono fun j z => .inl z, rfl, q.2.1⟩)) (fun sum x' F' w1 w' q _ => q)
  rintro _ w4 ⟨sum, e, F', x', rfl, hP', hM, hW, hor⟩
  simp -dsimp -implicitDefEqProofs (maxSteps := 2000000) (disch := first | assumption | omega | (simp only [nx]; omega) | ((repeat refine Fresh.push ?_ _); assumption) | (simp only [smA]; done) | (simp [oneCell, AW.next_push]; done) | fail) only [go_sem, Nat.reduceEqDiff, reduceIte, Nat.reduceAdd, Int.toNat_natCast, Nat.add_zero, Owes_true, Try.results44]
  have hM' : MutS F w3 w4 := hM.mono fun j q => q.elim id fun q => q.elim
  refine ⟨sum, e, F', x', rfl, hP', (MutS.of g3).trans hM' (Within.refl _ _), fun j hj => (hW j hj).imp id fun q => by have := g3.1.next; omega, ?_⟩
  rcases hor with ⟨a, b, c, d, _⟩ | ⟨a, b, ⟨c, c2⟩, d⟩ | ⟨a, b, x1, c, c1, c2, c3⟩
  · exact .inl ⟨a, b, c, d⟩
  · exact .inr (.inl ⟨a, c2, b, c, d⟩)
  · subst c3
    exact .inr (.inr ⟨a, c1, c2, b, c⟩)
end Go.Proofs

namespace Go.Proofs
open Go Go.RowKit Go.Sim
set_option maxRecDepth 100000
set_option maxHeartbeats 4000000 in
theorem placesS_ok (L : List SurN) (v : Value) (fn : Fn) (first cap : Array Value) (q : Nat → Bool) (w : AW) (f : Fresh w) (hs : ArrOf w 5 surc v L) (hl : L.length ≤ 1000) (hf : ∀ w1, Grown w w1 → ∀ i (hi : i < L.length), CallT Try.prog Try.T1 (.fn fn cap) (first.toList ++ [Value.agg #[.string L[i].s, .int .i64 L[i].m, .int .i64 L[i].d, .int .i64 L[i].st, .int .i64 L[i].ov]]).toArray w1 (Ret (.bool (q i)) (Grown w1))) :
    CallT Try.prog Try.T1 (.fn (.func 101) #[]) #[v, .func fn first cap] w (fun r w' => AOwn w.next w' 3 1 r ((pick q L.length).map nint).length (((pick q L.length).map nint).flatMap icells) ∧ Grown w w') := by
  obtain ⟨p, c, rfl, _, _, hat⟩ := hs.open
  refine callT_code rfl Try.func101 rfl Try.s101_eq rfl ?_
  unfold Try.s101
  simp -dsimp -implicitDefEqProofs (maxSteps := 2000000) (disch := first | assumption | omega | (simp only [nx]; omega) | ((repeat refine Fresh.push ?_ _); assumption) | (simp only [smA]; done) | (simp [oneCell, AW.next_push]; done) | fail) only [go_sem, Nat.reduceEqDiff, reduceIte, Nat.reduceAdd, Int.toNat_natCast, Nat.add_zero, Owes_true, Try.results101]
  refine loopR (fun k t ds w1 => ∃ i : Nat, i ≤ L.length ∧ k = L.length - i ∧ ds = [] ∧ ev t (.tmp 1) = .func fn first cap ∧ ev t (.tmp 8) = .slice p L.length c ∧ ev t (.tmp 9) = .int .i64 (L.length : Int) ∧ ev t (.tmp 10) = .int .i64 (i : Int) ∧ (∃ u, ev t (.tmp 5) = u ∧ AOwn w.next w1 3 1 u ((pick q i).map nint).length (((pick q i).map nint).flatMap icells)) ∧ Grown w w1) (L.length) ?_ ?_
  · refine ⟨0, by omega, by omega, rfl, ?_, ?_, ?_, ?_, ⟨_, (by simp -dsimp -implicitDefEqProofs (maxSteps := 2000000) (disch := first | assumption | omega | (simp only [nx]; omega) | ((repeat refine Fresh.push ?_ _); assumption) | (simp only [smA]; done) | (simp [oneCell, AW.next_push]; done) | fail) only [go_sem, Nat.reduceEqDiff, reduceIte, Nat.reduceAdd, Int.toNat_natCast, Nat.add_zero, Owes_true]; try rfl), .inl ⟨rfl, rfl, rfl⟩⟩, Grown.refl f⟩ <;> simp -dsimp -implicitDefEqProofs (maxSteps := 2000000) (disch := first | assumption | omega | (simp only [nx]; omega) | ((repeat refine Fresh.push ?_ _); assumption) | (simp only [smA]; done) | (simp [oneCell, AW.next_push]; done) | fail) only [go_sem, Nat.reduceEqDiff, reduceIte, Nat.reduceAdd, Int.toNat_natCast, Nat.add_zero, Owes_true] <;> rfl
  rintro k t ds w1 ⟨i, hii, rfl, rfl, e1, e8, e9, e10, hA, hg⟩
  obtain ⟨u, e5, hA⟩ := hA
  have hpl : ((pick q i).map nint).length ≤ i := by rw [List.length_map, pick]; exact Nat.le_trans (List.length_filter_le _ _) (by simp)
  by_cases hlt : (i : Int) < (L.length : Int)
  case neg =>
    obtain rfl : i = L.length := by omega
    simp -dsimp -implicitDefEqProofs (maxSteps := 2000000) (disch := first | assumption | omega | (simp only [nx]; omega) | ((repeat refine Fresh.push ?_ _); assumption) | (simp only [smA]; done) | (simp [oneCell, AW.next_push]; done) | fail) only [go_sem, Nat.reduceEqDiff, reduceIte, Nat.reduceAdd, Int.toNat_natCast, Nat.add_zero, Owes_true, Try.results101, e1, e5, e8, e9, e10, hlt]
    exact ⟨hA, hg⟩
  have hlt' : i < L.length := by omega
  obtain ⟨b1, o1, rfl, hb1, hcell⟩ := hat i hlt'
  have a0 := hcell _ hg.1 0 _ rfl
  have a1 := hcell _ hg.1 1 _ rfl
  have a2 := hcell _ hg.1 2 _ rfl
  have a3 := hcell _ hg.1 3 _ rfl
  have a4 := hcell _ hg.1 4 _ rfl
  rw [Nat.add_zero] at a0
  have hfi := fun w1 g => hf w1 g i hlt'
  generalize hY : L[i] = y at *
  obtain ⟨w2, hst, hO2, hg2⟩ := new_sur hg.2 y
  have g2 := hg.trans hg2
  have c0 := hO2.cell (o := 0) rfl rfl
  have c1 := hO2.cell (o := 1) rfl rfl
  have c2 := hO2.cell (o := 2) rfl rfl
  have c3 := hO2.cell (o := 3) rfl rfl
  have c4 := hO2.cell (o := 4) rfl rfl
  simp -dsimp -implicitDefEqProofs (maxSteps := 2000000) (disch := first | assumption | omega | (simp only [nx]; omega) | ((repeat refine Fresh.push ?_ _); assumption) | (simp only [smA]; done) | (simp [oneCell, AW.next_push]; done) | fail) only [go_sem, Nat.reduceEqDiff, reduceIte, Nat.reduceAdd, Int.toNat_natCast, Nat.add_zero, Owes_true, Try.results101, e1, e5, e8, e9, e10, hlt, indexV_eq, a0, a1, a2, a3, a4, hst, c0, c1, c2, c3, c4]
  apply callV_of (e := rfl)
  · exact hfi w2 g2
  rintro _ w3 ⟨rfl, hg3⟩
  have g3 := g2.trans hg3
  have hA3 := hA.keep (hg2.trans hg3).1 (Nat.le_refl _)
  have hps := pick_succ q i
  cases hq : q i with
  | false =>
    have hnx : (pick q (i + 1)).map nint = (pick q i).map nint := by rw [hps, hq]; simp
    simp -dsimp -implicitDefEqProofs (maxSteps := 2000000) (disch := first | assumption | omega | (simp only [nx]; omega) | ((repeat refine Fresh.push ?_ _); assumption) | (simp only [smA]; done) | (simp [oneCell, AW.next_push]; done) | fail) only [go_sem, Nat.reduceEqDiff, reduceIte, Nat.reduceAdd, Int.toNat_natCast, Nat.add_zero, Owes_true, Try.results101, e1, e5, e8, e9, e10]
    refine ⟨_, by omega, i + 1, by omega, rfl, rfl, by (simp -dsimp -implicitDefEqProofs (maxSteps := 2000000) (disch := first | assumption | omega | (simp only [nx]; omega) | ((repeat refine Fresh.push ?_ _); assumption) | (simp only [smA]; done) | (simp [oneCell, AW.next_push]; done) | fail) only [go_sem, Nat.reduceEqDiff, reduceIte, Nat.reduceAdd, Int.toNat_natCast, Nat.add_zero, Owes_true, e1]; try rfl), by (simp -dsimp -implicitDefEqProofs (maxSteps := 2000000) (disch := first | assumption | omega | (simp only [nx]; omega) | ((repeat refine Fresh.push ?_ _); assumption) | (simp only [smA]; done) | (simp [oneCell, AW.next_push]; done) | fail) only [go_sem, Nat.reduceEqDiff, reduceIte, Nat.reduceAdd, Int.toNat_natCast, Nat.add_zero, Owes_true, e8]; try rfl), by (simp -dsimp -implicitDefEqProofs (maxSteps := 2000000) (disch := first | assumption | omega | (simp only [nx]; omega) | ((repeat refine Fresh.push ?_ _); assumption) | (simp only [smA]; done) | (simp [oneCell, AW.next_push]; done) | fail) only [go_sem, Nat.reduceEqDiff, reduceIte, Nat.reduceAdd, Int.toNat_natCast, Nat.add_zero, Owes_true, e9]; try rfl), by (simp -dsimp -implicitDefEqProofs (maxSteps := 2000000) (disch := first | assumption | omega | (simp only [nx]; omega) | ((repeat refine Fresh.push ?_ _); assumption) | (simp only [smA]; done) | (simp [oneCell, AW.next_push]; done) | fail) only [go_sem, Nat.reduceEqDiff, reduceIte, Nat.reduceAdd, Int.toNat_natCast, Nat.add_zero, Owes_true, e10]; try rfl), ⟨u, (by simp -dsimp -implicitDefEqProofs (maxSteps := 2000000) (disch := first | assumption | omega | (simp only [nx]; omega) | ((repeat refine Fresh.push ?_ _); assumption) | (simp only [smA]; done) | (simp [oneCell, AW.next_push]; done) | fail) only [go_sem, Nat.reduceEqDiff, reduceIte, Nat.reduceAdd, Int.toNat_natCast, Nat.add_zero, Owes_true, e5]), (by rw [hnx]; exact hA3)⟩, g3⟩
  | true =>
    have hnx : (pick q (i + 1)).map nint = (pick q i).map nint ++ [(i : Int)] := by rw [hps, hq, List.map_append]; rfl
    have hn2 := g3.1.next
    obtain ⟨u', w4, happ, hA4, hk4, hf4, _, _⟩ := append_one (e' := 3) Try.ty22 Try.ty3 rfl (by omega) (by omega) hA3 g3.2 hn2 (icells_len (i : Int)) (icells_one _) (by omega)
    simp only [icells] at happ
    simp -dsimp -implicitDefEqProofs (maxSteps := 2000000) (disch := first | assumption | omega | (simp only [nx]; omega) | ((repeat refine Fresh.push ?_ _); assumption) | (simp only [smA]; done) | (simp [oneCell, AW.next_push]; done) | fail) only [go_sem, Nat.reduceEqDiff, reduceIte, Nat.reduceAdd, Int.toNat_natCast, Nat.add_zero, Owes_true, Try.results101, e1, e5, e8, e9, e10, happ]
    refine ⟨_, by omega, i + 1, by omega, rfl, rfl, by (simp -dsimp -implicitDefEqProofs (maxSteps := 2000000) (disch := first | assumption | omega | (simp only [nx]; omega) | ((repeat refine Fresh.push ?_ _); assumption) | (simp only [smA]; done) | (simp [oneCell, AW.next_push]; done) | fail) only [go_sem, Nat.reduceEqDiff, reduceIte, Nat.reduceAdd, Int.toNat_natCast, Nat.add_zero, Owes_true, e1]; try rfl), by (simp -dsimp -implicitDefEqProofs (maxSteps := 2000000) (disch := first | assumption | omega | (simp only [nx]; omega) | ((repeat refine Fresh.push ?_ _); assumption) | (simp only [smA]; done) | (simp [oneCell, AW.next_push]; done) | fail) only [go_sem, Nat.reduceEqDiff, reduceIte, Nat.reduceAdd, Int.toNat_natCast, Nat.add_zero, Owes_true, e8]; try rfl), by (simp -dsimp -implicitDefEqProofs (maxSteps := 2000000) (disch := first | assumption | omega | (simp only [nx]; omega) | ((repeat refine Fresh.push ?_ _); assumption) | (simp only [smA]; done) | (simp [oneCell, AW.next_push]; done) | fail) only [go_sem, Nat.reduceEqDiff, reduceIte, Nat.reduceAdd, Int.toNat_natCast, Nat.add_zero, Owes_true, e9]; try rfl), by (simp -dsimp -implicitDefEqProofs (maxSteps := 2000000) (disch := first | assumption | omega | (simp only [nx]; omega) | ((repeat refine Fresh.push ?_ _); assumption) | (simp only [smA]; done) | (simp [oneCell, AW.next_push]; done) | fail) only [go_sem, Nat.reduceEqDiff, reduceIte, Nat.reduceAdd, Int.toNat_natCast, Nat.add_zero, Owes_true, e10]; try rfl), ⟨u', (by simp -dsimp -implicitDefEqProofs (maxSteps := 2000000) (disch := first | assumption | omega | (simp only [nx]; omega) | ((repeat refine Fresh.push ?_ _); assumption) | (simp only [smA]; done) | (simp [oneCell, AW.next_push]; done) | fail) only [go_sem, Nat.reduceEqDiff, reduceIte, Nat.reduceAdd, Int.toNat_natCast, Nat.add_zero, Owes_true]), (by rw [hnx, List.length_append, List.flatMap_append]; exact hA4)⟩, ⟨g3.1.trans hk4, hf4⟩⟩
def Apart (w : AW) (F : Nat → Prop) (v : Value) (xs : List Int) : Prop := ∃ p cap, v = .slice p xs.length cap ∧ ∀ i (hi : i < xs.length), ∃ b o, p = some ⟨b, o, none⟩ ∧ ¬ F b ∧ b < w.next ∧ w.cell? ⟨b, o + i * 1, none⟩ = some (.int .i64 xs[i])
theorem apart_of {w : AW} {F : Nat → Prop} {B : Nat} {v : Value} {xs : List Int} (h : AOwn B w 3 1 v xs.length (xs.flatMap icells)) (hF : ∀ j, F j → j < B) : Apart w F v xs := by
  rcases h with ⟨rfl, h, _⟩ | ⟨b, r, rfl, q1, q2, q3, q4, q5, q6, q8, q7⟩
  · exact ⟨none, 0, by rw [h], fun i hi => by omega⟩
  · refine ⟨_, _, rfl, fun i hi => ⟨b, 0, rfl, fun q => by have := hF b q; omega, q2, ?_⟩⟩
    rw [Nat.zero_add, Nat.mul_one]
    have := icells_at hi
    rw [W_at hi] at this
    simp only [AW.cell?, q5, getL_eq, this, q8 _ (List.mem_of_getElem? this)]
set_option maxHeartbeats 4000000 in
theorem eachM_ok (xs : List Int) (v : Value) (fn : Fn) (first cap : Array Value) (gv : Nat → Int) (st : Nat → PurN) (bp bb r : Nat) (F : Nat → Prop) (w : AW) (f : Fresh w) (hs : Apart w F v xs) (hl : xs.length ≤ 1000) (hF : ∀ j, F j → j < w.next) (h0 : PurAt w F bp bb r (st 0))
    (hf : ∀ i (hi : i < xs.length) w1, MutS F w w1 → PurAt w1 F bp bb r (st i) → CallT Try.prog Try.T1 (.fn fn cap) (first.toList ++ [Value.int .i64 xs[i]]).toArray w1 (fun rv w' => rv = .int .i64 (gv i) ∧ PurAt w' F bp bb r (st (i + 1)) ∧ MutS F w1 w')) :
    CallT Try.prog Try.T1 (.fn (.func 86) #[]) #[v, .func fn first cap] w (fun rv w' => ∃ b, rv = .slice (some ⟨b, 0, none⟩) xs.length xs.length ∧ w.next ≤ b ∧ Own w' b 3 (((List.range xs.length).map gv).flatMap icells) ∧ PurAt w' F bp bb r (st xs.length) ∧ MutS F w w') := by
  obtain ⟨p, c, rfl, hat⟩ := hs
  have hmk := makeSliceV_room (g := prg Try.prog) (w := w) (q := .i64) (q' := .i64) (n := xs.length) Try.ty22 Try.ty3 (by omega) (by omega) (by omega) rfl
  have hfl : (List.replicate xs.length (Value.int .i64 0).cells.toList).flatten = (List.replicate xs.length (0 : Int)).flatMap icells := by rw [← flat_rep]; rfl
  rw [hfl] at hmk
  have gW := (Grown.refl f).push (.cells ((List.replicate xs.length (0 : Int)).flatMap icells) 3 w.next 0 0)
  have hP0 : PurAt _ F bp bb r (st 0) := let ⟨vs, vn, S1, S2, hB⟩ := h0; ⟨vs, vn, S1, S2, hB.grown gW⟩
  refine callT_code rfl Try.func86 rfl Try.s86_eq rfl ?_
  unfold Try.s86
  simp -dsimp -implicitDefEqProofs (maxSteps := 2000000) (disch := first | assumption | omega | (simp only [nx]; omega) | ((repeat refine Fresh.push ?_ _); assumption) | (simp only [smA]; done) | (simp [oneCell, AW.next_push]; done) | fail) only [go_sem, Nat.reduceEqDiff, reduceIte, Nat.reduceAdd, Int.toNat_natCast, Nat.add_zero, Owes_true, Try.results86, hmk]
  refine loopR (fun k t ds w1 => ∃ i : Nat, i ≤ xs.length ∧ k = xs.length - i ∧ ds = [] ∧ ev t (.tmp 1) = .func fn first cap ∧ ev t (.tmp 5) = .slice (some ⟨w.next, 0, none⟩) i xs.length ∧ ev t (.tmp 11) = .slice p xs.length c ∧ ev t (.tmp 12) = .int .i64 (xs.length : Int) ∧ ev t (.tmp 13) = .int .i64 (i : Int) ∧ Own w1 w.next 3 (((List.range i).map gv ++ List.replicate (xs.length - i) 0).flatMap icells) ∧ PurAt w1 F bp bb r (st i) ∧ MutS F w w1) (xs.length) ?_ ?_
  · refine ⟨0, by omega, by omega, rfl, ?_, ?_, ?_, ?_, ?_, Own.new f _ _, hP0, MutS.of gW⟩ <;> simp -dsimp -implicitDefEqProofs (maxSteps := 2000000) (disch := first | assumption | omega | (simp only [nx]; omega) | ((repeat refine Fresh.push ?_ _); assumption) | (simp only [smA]; done) | (simp [oneCell, AW.next_push]; done) | fail) only [go_sem, Nat.reduceEqDiff, reduceIte, Nat.reduceAdd, Int.toNat_natCast, Nat.add_zero, Owes_true] <;> rfl
  rintro k t ds w1 ⟨i, hii, rfl, rfl, e1, e5, e11, e12, e13, hO, hP, hM⟩
  by_cases hlt : (i : Int) < (xs.length : Int)
  case neg =>
    obtain rfl : i = xs.length := by omega
    rw [Nat.sub_self, List.replicate_zero, List.append_nil] at hO
    simp -dsimp -implicitDefEqProofs (maxSteps := 2000000) (disch := first | assumption | omega | (simp only [nx]; omega) | ((repeat refine Fresh.push ?_ _); assumption) | (simp only [smA]; done) | (simp [oneCell, AW.next_push]; done) | fail) only [go_sem, Nat.reduceEqDiff, reduceIte, Nat.reduceAdd, Int.toNat_natCast, Nat.add_zero, Owes_true, Try.results86, e1, e5, e11, e12, e13, hlt]
    exact ⟨_, rfl, Nat.le_refl _, hO, hP, hM⟩
  have hlt' : i < xs.length := by omega
  obtain ⟨b1, o1, rfl, hnF, hb1, hcell⟩ := hat i hlt'
  have a0 : w1.cell? ⟨b1, o1 + i * 1, none⟩ = some (.int .i64 xs[i]) := by
    rw [← hcell]; simp only [AW.cell?, hM.blk b1 hb1 hnF]
  simp -dsimp -implicitDefEqProofs (maxSteps := 2000000) (disch := first | assumption | omega | (simp only [nx]; omega) | ((repeat refine Fresh.push ?_ _); assumption) | (simp only [smA]; done) | (simp [oneCell, AW.next_push]; done) | fail) only [go_sem, Nat.reduceEqDiff, reduceIte, Nat.reduceAdd, Int.toNat_natCast, Nat.add_zero, Owes_true, Try.results86, e1, e5, e11, e12, e13, hlt, indexV_eq, a0]
  apply callV_of (e := rfl)
  · exact hf i hlt' w1 hM hP
  rintro _ w2 ⟨rfl, hP2, hM2⟩
  have hnw : ¬ F w.next := fun q => by have := hF _ q; omega
  have hO2 := hM2.own hO hnw
  have mm := hM.trans hM2 (Within.refl _ _)
  have hlen : (((List.range i).map gv ++ List.replicate (xs.length - i) 0).flatMap icells).length = xs.length := by
    rw [icells_flat_len]; simp; omega
  have happ := append_in (e' := 3) Try.ty22 Try.ty3 rfl (by omega) hO2 hM2.fresh hlt' hlen (by omega) (gv i)
  have hset : ((List.range i).map gv ++ List.replicate (xs.length - i) 0).set i (gv i) = (List.range (i + 1)).map gv ++ List.replicate (xs.length - (i + 1)) 0 := by
    rw [List.range_succ, List.map_append, List.set_append_right _ _ (by simp)]
    have : (List.map gv (List.range i)).length = i := by simp
    rw [this, Nat.sub_self, show xs.length - i = (xs.length - (i + 1)) + 1 from by omega, List.replicate_succ, List.set_cons_zero]
    simp
  obtain ⟨L2, hL2⟩ : ∃ L2, L2 = (List.range (i + 1)).map gv ++ List.replicate (xs.length - (i + 1)) 0 := ⟨_, rfl⟩
  rw [setL_ic, hset, ← hL2] at happ
  have hO3 := hO2.push (.cells [.int .i64 (gv i)] 3 w2.next 0 0)
  have gP := (Grown.refl hM2.fresh).push (.cells [.int .i64 (gv i)] 3 w2.next 0 0)
  have m3 : MutS (fun j => j = w.next) w2 ((w2.push (.cells [.int .i64 (gv i)] 3 w2.next 0 0)).put w.next (.cells (L2.flatMap icells) 3 w.next 0 0)) := (MutS.of gP).trans (MutS.put (S := fun j => j = w.next) gP.2 rfl hO3.lt _) (Within.refl _ _)
  have hP3 : PurAt _ F bp bb r (st (i + 1)) := let ⟨vs, vn, S1, S2, hB⟩ := hP2; ⟨vs, vn, S1, S2, hB.other m3 fun j hj q => hnw (by rw [← q]; exact hj)⟩
  have m4 := mm.trans m3 (fun j q => .inr (by omega))
  simp -dsimp -implicitDefEqProofs (maxSteps := 2000000) (disch := first | assumption | omega | (simp only [nx]; omega) | ((repeat refine Fresh.push ?_ _); assumption) | (simp only [smA]; done) | (simp [oneCell, AW.next_push]; done) | fail) only [go_sem, Nat.reduceEqDiff, reduceIte, Nat.reduceAdd, Int.toNat_natCast, Nat.add_zero, Owes_true, Try.results86, e1, e5, e11, e12, e13, happ]
  refine ⟨_, by omega, i + 1, by omega, rfl, rfl, by (simp -dsimp -implicitDefEqProofs (maxSteps := 2000000) (disch := first | assumption | omega | (simp only [nx]; omega) | ((repeat refine Fresh.push ?_ _); assumption) | (simp only [smA]; done) | (simp [oneCell, AW.next_push]; done) | fail) only [go_sem, Nat.reduceEqDiff, reduceIte, Nat.reduceAdd, Int.toNat_natCast, Nat.add_zero, Owes_true, e1]; try rfl), by (simp -dsimp -implicitDefEqProofs (maxSteps := 2000000) (disch := first | assumption | omega | (simp only [nx]; omega) | ((repeat refine Fresh.push ?_ _); assumption) | (simp only [smA]; done) | (simp [oneCell, AW.next_push]; done) | fail) only [go_sem, Nat.reduceEqDiff, reduceIte, Nat.reduceAdd, Int.toNat_natCast, Nat.add_zero, Owes_true, e5]; try rfl), by (simp -dsimp -implicitDefEqProofs (maxSteps := 2000000) (disch := first | assumption | omega | (simp only [nx]; omega) | ((repeat refine Fresh.push ?_ _); assumption) | (simp only [smA]; done) | (simp [oneCell, AW.next_push]; done) | fail) only [go_sem, Nat.reduceEqDiff, reduceIte, Nat.reduceAdd, Int.toNat_natCast, Nat.add_zero, Owes_true, e11]; try rfl), by (simp -dsimp -implicitDefEqProofs (maxSteps := 2000000) (disch := first | assumption | omega | (simp only [nx]; omega) | ((repeat refine Fresh.push ?_ _); assumption) | (simp only [smA]; done) | (simp [oneCell, AW.next_push]; done) | fail) only [go_sem, Nat.reduceEqDiff, reduceIte, Nat.reduceAdd, Int.toNat_natCast, Nat.add_zero, Owes_true, e12]; try rfl), by (simp -dsimp -implicitDefEqProofs (maxSteps := 2000000) (disch := first | assumption | omega | (simp only [nx]; omega) | ((repeat refine Fresh.push ?_ _); assumption) | (simp only [smA]; done) | (simp [oneCell, AW.next_push]; done) | fail) only [go_sem, Nat.reduceEqDiff, reduceIte, Nat.reduceAdd, Int.toNat_natCast, Nat.add_zero, Owes_true, e13]; try rfl), (by rw [← hL2]; exact hO3.put _), hP3, m4⟩
end Go.Proofs

namespace Go.Proofs
open Go Go.RowKit Go.Sim
set_option maxRecDepth 100000
theorem heldS_nn {S : List SurN} (h : ∀ y ∈ S, 0 ≤ y.m) : 0 ≤ heldS S := by
  induction S with
  | nil => simp [heldS]
  | cons a S ih =>
    have := ih fun y hy => h y (List.mem_cons_of_mem _ hy)
    have := h a List.mem_cons_self
    simp only [heldS, List.map_cons, List.sum_cons] at *
    split <;> omega
def stepP (day : Int) (S : List SurN) (i : Nat) : List SurN := match S[i]? with
  | some y => S.set i (endS y 3 day)
  | none => S
def passS (S : List SurN) (day : Int) (is : List Nat) : List SurN := is.foldl (stepP day) S
def mOf (S : List SurN) (i : Nat) : Int := match S[i]? with
  | some y => y.m
  | none => 0
theorem stepP_len (day : Int) (S : List SurN) (i : Nat) : (stepP day S i).length = S.length := by
  unfold stepP; split <;> simp
theorem passS_len (day : Int) : ∀ (is : List Nat) (S : List SurN), (passS S day is).length = S.length
  | [], S => rfl
  | i :: is, S => by rw [passS, List.foldl_cons, ← passS, passS_len day is, stepP_len]
theorem stepP_m (day : Int) (S : List SurN) (i n : Nat) : mOf (stepP day S i) n = mOf S n := by
  unfold stepP
  split
  · rename_i y hy
    unfold mOf
    rw [List.getElem?_set]
    by_cases q : i = n
    · subst q
      have hl : i < S.length := (List.getElem?_eq_some_iff.1 hy).1
      simp only [if_true, hl, hy, endS]
    · simp only [if_neg q]
  · rfl
theorem passS_m (day : Int) : ∀ (is : List Nat) (S : List SurN) (n : Nat), mOf (passS S day is) n = mOf S n
  | [], S, n => rfl
  | i :: is, S, n => by rw [passS, List.foldl_cons, ← passS, passS_m day is, stepP_m]
def lateQ (x : PurN) (day : Int) (i : Nat) : Bool := match x.S[i]? with
  | some y => decide (y.st = 1) && decide (y.d + x.T ≤ day)
  | none => false
def passL (x : PurN) (day : Int) : List Nat := pick (lateQ x day) x.S.length
def passM (x : PurN) (day : Int) : Int := ((passL x day).map (mOf x.S)).sum
def passX (x : PurN) (day : Int) : PurN := { x with S := passS x.S day (passL x day), W := x.W + passM x day }
theorem mOf_good {x : PurN} (hg : PGood x) (i : Nat) : 0 ≤ mOf x.S i ∧ mOf x.S i ≤ 67108864 := by
  unfold mOf
  split
  · rename_i y hy
    have := hg.s y (List.mem_of_getElem? hy)
    omega
  · omega
theorem pick_len (q : Nat → Bool) (n : Nat) : (pick q n).length ≤ n := by
  rw [pick]; exact Nat.le_trans (List.length_filter_le _ _) (by simp)
theorem mOf_sum {x : PurN} (hg : PGood x) : ∀ l : List Nat, 0 ≤ (l.map (mOf x.S)).sum ∧ (l.map (mOf x.S)).sum ≤ (l.length : Int) * 67108864
  | [] => by simp
  | a :: l => by
    have := mOf_sum hg l
    have := mOf_good hg a
    simp only [List.map_cons, List.sum_cons, List.length_cons]
    omega
theorem passM_good {x : PurN} (hg : PGood x) (day : Int) : 0 ≤ passM x day ∧ passM x day ≤ 17179869184 := by
  have := mOf_sum hg (passL x day)
  have h1 := pick_len (lateQ x day) x.S.length
  have := hg.n
  unfold passM
  unfold passL at *
  omega
set_option maxHeartbeats 2000000 in
theorem pass1_ok (y : SurN) (day : Int) (b1 b2 bp bb r : Nat) (x : PurN) (F : Nat → Prop) (w : AW) (f : Fresh w) (h : PurAt w F bp bb r x) (hd : 0 ≤ y.d ∧ y.d ≤ 36500) (ht : 0 ≤ x.T ∧ x.T ≤ 12000) (h1 : Own w b1 91 [.pointer (some ⟨bb, 0, none⟩)]) (h2 : Own w b2 3 [.int .i64 day]) :
    CallT Try.prog Try.T1 (.fn (.func 112) #[.pointer (some ⟨b1, 0, none⟩), .pointer (some ⟨b2, 0, none⟩)]) #[.agg #[.string y.s, .int .i64 y.m, .int .i64 y.d, .int .i64 y.st, .int .i64 y.ov]] w (Ret (.bool (decide (y.st = 1) && decide (y.d + x.T ≤ day))) (Grown w)) := by
  have g := (Grown.refl f).push (.cells [.string y.s, .int .i64 y.m, .int .i64 y.d, .int .i64 y.st, .int .i64 y.ov] 53 w.next 0 0)
  have hO := Own.new f 53 [.string y.s, .int .i64 y.m, .int .i64 y.d, .int .i64 y.st, .int .i64 y.ov]
  obtain ⟨vs, vn, S1, S2, hB⟩ := h
  have hB1 := hB.grown g
  have p1 := h1.push (.cells [.string y.s, .int .i64 y.m, .int .i64 y.d, .int .i64 y.st, .int .i64 y.ov] 53 w.next 0 0)
  have p2 := h2.push (.cells [.string y.s, .int .i64 y.m, .int .i64 y.d, .int .i64 y.st, .int .i64 y.ov] 53 w.next 0 0)
  have c0 := hO.cell (o := 0) rfl rfl
  have c1 := hO.cell (o := 1) rfl rfl
  have c2 := hO.cell (o := 2) rfl rfl
  have c3 := hO.cell (o := 3) rfl rfl
  have c4 := hO.cell (o := 4) rfl rfl
  refine callT_code rfl Try.func112 rfl Try.s112_eq rfl ?_
  unfold Try.s112
  simp -dsimp -implicitDefEqProofs (maxSteps := 2000000) (disch := first | assumption | omega | (simp only [nx]; omega) | ((repeat refine Fresh.push ?_ _); assumption) | (simp only [smA]; done) | (simp [oneCell, AW.next_push]; done) | fail) only [go_sem, Nat.reduceEqDiff, reduceIte, Nat.reduceAdd, Int.toNat_natCast, Nat.add_zero, Owes_true, Nat.zero_add, c0, c1, c2, c3, c4]
  generalize w.push (.cells [.string y.s, .int .i64 y.m, .int .i64 y.d, .int .i64 y.st, .int .i64 y.ov] 53 w.next 0 0) = w1 at *
  apply callV_of (e := rfl)
  · exact isHeld_ok y w1 g.2
  rintro _ w2 ⟨rfl, hg2⟩
  have g2 := g.trans hg2
  by_cases hs : y.st = 1
  case neg =>
    have hsd : decide (y.st = 1) = false := decide_eq_false hs
    rw [hsd]
    simp -dsimp -implicitDefEqProofs (maxSteps := 2000000) (disch := first | assumption | omega | (simp only [nx]; omega) | ((repeat refine Fresh.push ?_ _); assumption) | (simp only [smA]; done) | (simp [oneCell, AW.next_push]; done) | fail) only [go_sem, Nat.reduceEqDiff, reduceIte, Nat.reduceAdd, Int.toNat_natCast, Nat.add_zero, Owes_true, Try.results112]
    exact ⟨rfl, g2⟩
  have hsd : decide (y.st = 1) = true := decide_eq_true hs
  rw [hsd]
  have hO2 := hO.keep hg2.1
  have p12 := p1.keep hg2.1
  have p22 := p2.keep hg2.1
  have c0 := hO2.cell (o := 0) rfl rfl
  have c1 := hO2.cell (o := 1) rfl rfl
  have c2 := hO2.cell (o := 2) rfl rfl
  have c3 := hO2.cell (o := 3) rfl rfl
  have c4 := hO2.cell (o := 4) rfl rfl
  have q1 := p12.cell (o := 0) rfl rfl
  have q2 := p22.cell (o := 0) rfl rfl
  simp -dsimp -implicitDefEqProofs (maxSteps := 2000000) (disch := first | assumption | omega | (simp only [nx]; omega) | ((repeat refine Fresh.push ?_ _); assumption) | (simp only [smA]; done) | (simp [oneCell, AW.next_push]; done) | fail) only [go_sem, Nat.reduceEqDiff, reduceIte, Nat.reduceAdd, Int.toNat_natCast, Nat.add_zero, Owes_true, Nat.zero_add, c0, c1, c2, c3, c4, q1, q2]
  apply callV_of (e := rfl)
  · exact isLate_ok y day bp bb r x vs vn F S1 S2 w2 g2.2 (hB1.grown hg2) hd ht
  rintro _ w3 ⟨rfl, hg3⟩
  simp -dsimp -implicitDefEqProofs (maxSteps := 2000000) (disch := first | assumption | omega | (simp only [nx]; omega) | ((repeat refine Fresh.push ?_ _); assumption) | (simp only [smA]; done) | (simp [oneCell, AW.next_push]; done) | fail) only [go_sem, Nat.reduceEqDiff, reduceIte, Nat.reduceAdd, Int.toNat_natCast, Nat.add_zero, Owes_true, Try.results112]
  exact ⟨rfl, g2.trans hg3⟩
set_option maxHeartbeats 2000000 in
theorem pass2_ok (i : Nat) (day : Int) (b1 b2 bp bb r : Nat) (x : PurN) (F : Nat → Prop) (w : AW) (f : Fresh w) (h : PurAt w F bp bb r x) (hi : i < x.S.length) (h1 : Own w b1 91 [.pointer (some ⟨bb, 0, none⟩)]) (h2 : Own w b2 3 [.int .i64 day]) :
    CallT Try.prog Try.T1 (.fn (.func 113) #[.pointer (some ⟨b1, 0, none⟩), .pointer (some ⟨b2, 0, none⟩)]) #[.int .i64 (i : Int)] w (fun rv w' => rv = .int .i64 (mOf x.S i) ∧ PurAt w' F bp bb r { x with S := stepP day x.S i } ∧ MutS F w w') := by
  have q1 := h1.cell (o := 0) rfl rfl
  have q2 := h2.cell (o := 0) rfl rfl
  have hget : x.S[i]? = some x.S[i] := List.getElem?_eq_getElem hi
  have hm : mOf x.S i = x.S[i].m := by unfold mOf; rw [hget]
  have hs : stepP day x.S i = x.S.set i (endS x.S[i] 3 day) := by unfold stepP; rw [hget]
  rw [hm, hs]
  have hend := end_ok i 3 day bp bb r x F w f h hi
  refine callT_code rfl Try.func113 rfl Try.s113_eq rfl ?_
  unfold Try.s113
  simp -dsimp -implicitDefEqProofs (maxSteps := 2000000) (disch := first | assumption | omega | (simp only [nx]; omega) | ((repeat refine Fresh.push ?_ _); assumption) | (simp only [smA]; done) | (simp [oneCell, AW.next_push]; done) | fail) only [go_sem, Nat.reduceEqDiff, reduceIte, Nat.reduceAdd, Int.toNat_natCast, Nat.add_zero, Owes_true, Nat.zero_add, q1, q2]
  apply callV_of (e := rfl)
  · exact hend
  rintro _ w2 ⟨rfl, hP, hM⟩
  simp -dsimp -implicitDefEqProofs (maxSteps := 2000000) (disch := first | assumption | omega | (simp only [nx]; omega) | ((repeat refine Fresh.push ?_ _); assumption) | (simp only [smA]; done) | (simp [oneCell, AW.next_push]; done) | fail) only [go_sem, Nat.reduceEqDiff, reduceIte, Nat.reduceAdd, Int.toNat_natCast, Nat.add_zero, Owes_true, Try.results113]
  exact ⟨trivial, hP, hM⟩
theorem late_of {x : PurN} {day : Int} {i : Nat} (hi : i < x.S.length) : lateQ x day i = (decide (x.S[i].st = 1) && decide (x.S[i].d + x.T ≤ day)) := by
  unfold lateQ; rw [List.getElem?_eq_getElem hi]
set_option maxHeartbeats 8000000 in
theorem pass_ok (day : Int) (bp bb r : Nat) (x : PurN) (F : Nat → Prop) (w : AW) (f : Fresh w) (h : PurAt w F bp bb r x) (hg : PGood x) :
    CallT Try.prog Try.T1 (.fn (.func 84) #[]) #[.pointer (some ⟨bb, 0, none⟩), .int .i64 day] w (fun rv w' => rv = .int .i64 (passM x day) ∧ PurAt w' F bp bb r (passX x day) ∧ MutS F w w') := by
  have g1 := (Grown.refl f).push (.cells [.pointer (some ⟨bb, 0, none⟩)] 91 w.next 0 0)
  have g2 := g1.push (.cells [.int .i64 day] 3 (w.next + 1) 0 0)
  have h1 := (Own.new f 91 [.pointer (some ⟨bb, 0, none⟩)]).push (.cells [.int .i64 day] 3 (w.next + 1) 0 0)
  have h2 := Own.new g1.2 3 [.int .i64 day]
  simp only [AW.next_push] at h2
  have q1 := h1.cell (o := 0) rfl rfl
  have q2 := h2.cell (o := 0) rfl rfl
  obtain ⟨vs, vn, S1, S2, hB⟩ := h
  obtain ⟨p0, n0, k0, rfl⟩ := hB.sur.isSlice
  have hlt := hB.lt
  have hB2 := hB.grown g2
  have b1 := hB2.bk.cell (o := 1) rfl rfl
  have hsn := hg.n
  refine callT_code rfl Try.func84 rfl Try.s84_eq rfl ?_
  unfold Try.s84
  simp -dsimp -implicitDefEqProofs (maxSteps := 2000000) (disch := first | assumption | omega | (simp only [nx]; omega) | ((repeat refine Fresh.push ?_ _); assumption) | (simp only [smA]; done) | (simp [oneCell, AW.next_push]; done) | fail) only [go_sem, Nat.reduceEqDiff, reduceIte, Nat.reduceAdd, Int.toNat_natCast, Nat.add_zero, Owes_true, Nat.zero_add, q1, b1]
  have hnx : ((w.push (.cells [.pointer (some ⟨bb, 0, none⟩)] 91 w.next 0 0)).push (.cells [.int .i64 day] 3 (w.next + 1) 0 0)).next = w.next + 2 := by simp only [AW.next_push]
  generalize (w.push (.cells [.pointer (some ⟨bb, 0, none⟩)] 91 w.next 0 0)).push (.cells [.int .i64 day] 3 (w.next + 1) 0 0) = w2 at *
  apply callV_of (e := rfl)
  · exact placesS_ok x.S (.slice p0 n0 k0) (.func 112) #[] #[.pointer (some ⟨w.next, 0, none⟩), .pointer (some ⟨w.next + 1, 0, none⟩)] (lateQ x day) w2 g2.2 (hB2.sur.own.arr surc_len (by omega)) (by omega) (fun w3 g3 i hi => by rw [late_of hi]; have hy := hg.s _ (List.getElem_mem hi); exact pass1_ok x.S[i] day _ _ bp bb r x F w3 g3.2 ⟨_, _, _, _, hB2.grown g3⟩ ⟨hy.1, hy.2.1⟩ hg.t (h1.keep g3.1) (h2.keep g3.1))
  rintro u w3 ⟨hA, hg3⟩
  have g3 := g2.trans hg3
  have hB3 := hB2.grown hg3
  have h13 := h1.keep hg3.1
  have h23 := h2.keep hg3.1
  have hpl := pick_len (lateQ x day) x.S.length
  have hap : Apart w3 F u ((passL x day).map nint) := apart_of hA (fun j hj => by have := hlt j hj; omega)
  have hplen : ((passL x day).map nint).length = (passL x day).length := by simp
  have hpl' : (passL x day).length ≤ 256 := by unfold passL; omega
  have hn3 := hg3.1.next
  simp -dsimp -implicitDefEqProofs (maxSteps := 2000000) (disch := first | assumption | omega | (simp only [nx]; omega) | ((repeat refine Fresh.push ?_ _); assumption) | (simp only [smA]; done) | (simp [oneCell, AW.next_push]; done) | fail) only [go_sem, Nat.reduceEqDiff, reduceIte, Nat.reduceAdd, Int.toNat_natCast, Nat.add_zero, Owes_true]
  apply callV_of (e := rfl)
  · exact eachM_ok ((passL x day).map nint) u (.func 113) #[] #[.pointer (some ⟨w.next, 0, none⟩), .pointer (some ⟨w.next + 1, 0, none⟩)] (fun j => mOf x.S ((passL x day).getD j 0)) (fun j => { x with S := passS x.S day ((passL x day).take j) }) bp bb r F w3 g3.2 hap (by omega) (fun j hj => by have := hlt j hj; omega) ⟨_, vn, S1, S2, hB3⟩ (fun i hi w4 hM hP => by
    have hi' : i < (passL x day).length := by omega
    have hx : ((passL x day).map nint)[i] = (((passL x day)[i] : Nat) : Int) := by rw [List.getElem_map]; rfl
    have hd : (passL x day).getD i 0 = (passL x day)[i] := by rw [List.getD_eq_getElem?_getD, List.getElem?_eq_getElem hi']; rfl
    have hin : (passL x day)[i] < x.S.length := (pick_lt (List.getElem_mem hi')).1
    have hnF1 : ¬ F w.next := fun q => by have := hlt _ q; omega
    have hnF2 : ¬ F (w.next + 1) := fun q => by have := hlt _ q; omega
    have hc := pass2_ok (passL x day)[i] day w.next (w.next + 1) bp bb r { x with S := passS x.S day ((passL x day).take i) } F w4 hM.fresh hP (by simpa [passS_len] using hin) (hM.own h13 hnF1) (hM.own h23 hnF2)
    rw [hx]
    refine hc.mono fun rv w' q => ⟨?_, ?_, q.2.2⟩
    · rw [q.1, hd]; simp only [passS_m]
    · have he : passS x.S day ((passL x day).take (i + 1)) = stepP day (passS x.S day ((passL x day).take i)) (passL x day)[i] := by
        rw [List.take_succ_eq_append_getElem hi', passS, List.foldl_append]; rfl
      show PurAt w' F bp bb r { x with S := passS x.S day ((passL x day).take (i + 1)) }
      rw [he]
      exact q.2.1)
  rintro _ w4 ⟨b, rfl, hb, hO, hP, hM⟩
  obtain ⟨vs4, vn4, S14, S24, hB4⟩ := hP
  have hvals : (List.range ((passL x day).map nint).length).map (fun j => mOf x.S ((passL x day).getD j 0)) = (passL x day).map (mOf x.S) := by
    rw [hplen]
    refine List.ext_getElem (by simp) fun n a1 a2 => ?_
    have hn : n < (passL x day).length := by simpa using a2
    rw [List.getElem_map, List.getElem_map, List.getElem_range, List.getD_eq_getElem?_getD, List.getElem?_eq_getElem hn]; rfl
  rw [hvals] at hO
  have hl4 : ((passL x day).map (mOf x.S)).length = ((passL x day).map nint).length := by simp
  have hArr := hO.iarr (by rw [hl4]; omega)
  rw [hl4] at hArr
  have hsm : Small ((passL x day).map (mOf x.S)) := small_of (m := 67108864) (fun z hz => by
    obtain ⟨i, _, rfl⟩ := List.mem_map.1 hz
    exact mOf_good hg i) (by rw [hl4, hplen]; omega)
  simp -dsimp -implicitDefEqProofs (maxSteps := 2000000) (disch := first | assumption | omega | (simp only [nx]; omega) | ((repeat refine Fresh.push ?_ _); assumption) | (simp only [smA]; done) | (simp [oneCell, AW.next_push]; done) | fail) only [go_sem, Nat.reduceEqDiff, reduceIte, Nat.reduceAdd, Int.toNat_natCast, Nat.add_zero, Owes_true]
  apply callV_of (e := rfl)
  · exact total_ok _ _ w4 hArr hsm
  rintro _ _ ⟨rfl, rfl⟩
  have hpm := passM_good hg day
  rw [show ((passL x day).map (mOf x.S)).sum = passM x day from rfl]
  have hpx : passX x day = { x with S := passS x.S day (passL x day), W := x.W + passM x day } := rfl
  rw [hplen, List.take_length] at hB4
  generalize passM x day = pm at *
  have hw0 : 0 ≤ x.W := hg.w.1
  have hw1 : x.W ≤ 17179869184 := by
    have := hg.w.2
    have := heldS_nn fun y hy => (hg.s y hy).2.2.1
    omega
  have h14 := hM.own h13 (fun q => by have := hlt _ q; omega)
  have r1 := h14.cell (o := 0) rfl rfl
  have b3 := hB4.bk.cell (o := 3) rfl rfl
  have hst := storeV_own1 (o := 3) (v := .int .i64 (x.W + pm)) hB4.bk (by simp) rfl
  simp only [setL] at hst
  have hwd : decide (inR (-9223372036854775808) (x.W + pm) 9223372036854775807 = true) = true := by
    apply decide_eq_true; simp [inR]; omega
  simp -dsimp -implicitDefEqProofs (maxSteps := 2000000) (disch := first | assumption | omega | (simp only [nx]; omega) | ((repeat refine Fresh.push ?_ _); assumption) | (simp only [smA]; done) | (simp [oneCell, AW.next_push]; done) | fail) only [go_sem, Nat.reduceEqDiff, reduceIte, Nat.reduceAdd, Int.toNat_natCast, Nat.add_zero, Owes_true, Nat.zero_add, r1, b3, hst, Try.results84]
  have hk : MutS (fun j => j = bb) w4 (w4.put bb (.cells [.int .i64 x.T, vs4, .map (some r), .int .i64 (x.W + pm), vn4] 117 bb 0 0)) := MutS.put (S := fun j => j = bb) hM.fresh rfl hB4.bk.lt _
  refine ⟨trivial, ?_, ((MutS.of g3).trans hM (Within.refl _ _)).trans (hk.mono fun j q => q ▸ hB4.f.2.1) (Within.refl _ _)⟩
  rw [hpx]
  exact ⟨vs4, vn4, S14, S24, hk.own hB4.own (fun q => hB4.ne.1 q), hB4.bk.put _, hB4.sur.other hk fun j hj q => (hB4.f1 j hj).2.2.2.1 q, hB4.not.other hk fun j hj q => (hB4.f2 j hj).2.2.1 q, hB4.map.other hk (fun q => hB4.ne.2.2 q.symm), hB4.f, hB4.f1, hB4.f2, hB4.ne, fun j hj => by have := hB4.lt j hj; have := hk.next; omega⟩
set_option maxHeartbeats 4000000 in
theorem passC_ok (day : Int) (b3 b4 : Nat) (bp bb r : Nat) (x : PurN) (F : Nat → Prop) (w : AW) (f : Fresh w) (h : PurAt w F bp bb r x) (hg : PGood x) (h3 : Own w b3 39 [.pointer (some ⟨bp, 0, none⟩)]) (h4 : Own w b4 3 [.int .i64 day]) :
    CallT Try.prog Try.T1 (.fn (.func 83) #[.pointer (some ⟨b3, 0, none⟩), .pointer (some ⟨b4, 0, none⟩)]) #[] w (fun rv w' => rv = .int .i64 (passM x day) ∧ PurAt w' F bp bb r (passX x day) ∧ MutS F w w') := by
  obtain ⟨vs, vn, S1, S2, hB⟩ := id h
  have c3 := h3.cell (o := 0) rfl rfl
  have c4 := h4.cell (o := 0) rfl rfl
  have o0 := hB.own.cell (o := 0) rfl rfl
  apply CallX.t
  refine callX_code rfl Try.func83 rfl Try.s83_eq rfl ?_
  unfold Try.s83
  simp -dsimp -implicitDefEqProofs (maxSteps := 2000000) (disch := first | assumption | omega | (simp only [nx]; omega) | ((repeat refine Fresh.push ?_ _); assumption) | (simp only [smA]; done) | (simp [oneCell, AW.next_push]; done) | fail) only [go_sem, Nat.reduceEqDiff, reduceIte, Nat.reduceAdd, Int.toNat_natCast, Nat.add_zero, Owes_true, c3, c4, o0, Nat.zero_add]
  apply callXV_ofT (e := rfl)
  · exact pass_ok day bp bb r x F w f h hg
  rintro _ w1 ⟨rfl, hP, hM⟩
  simp -dsimp -implicitDefEqProofs (maxSteps := 2000000) (disch := first | assumption | omega | (simp only [nx]; omega) | ((repeat refine Fresh.push ?_ _); assumption) | (simp only [smA]; done) | (simp [oneCell, AW.next_push]; done) | fail) only [go_sem, Nat.reduceEqDiff, reduceIte, Nat.reduceAdd, Int.toNat_natCast, Nat.add_zero, Owes_true, Try.results83]
  exact ⟨trivial, hP, hM⟩
set_option maxHeartbeats 4000000 in
theorem Pass_ok (day : Int) (bp bb r : Nat) (x : PurN) (F : Nat → Prop) (w : AW) (f : Fresh w) (h : PurAt w F bp bb r x) (hg : PGood x) (hl : x.N.length < 1000) :
    CallT Try.prog Try.T1 (.fn (.func 46) #[]) #[.pointer (some ⟨bp, 0, none⟩), .int .i64 day] w (fun rv w' => ∃ sum e F' x', rv = .tuple #[.int .i64 sum, .int .i64 e] ∧ PurAt w' F' bp bb r x' ∧ MutS F w w' ∧ Within F w F' ∧
      ((inR (lastDay x.N) day 36500 = false ∧ sum = 0 ∧ e = 34 ∧ x' = x) ∨ (inR (lastDay x.N) day 36500 = true ∧ sum = passM x day ∧ e = 0 ∧ x' = { passX x day with N := x.N ++ [⟨3, day, sum⟩] }))) := by
  have g1 := (Grown.refl f).push (.cells [.pointer (some ⟨bp, 0, none⟩)] 39 w.next 0 0)
  have g3 := g1.push (.cells [.int .i64 day] 3 (w.next + 1) 0 0)
  have h3 := (Own.new f 39 [.pointer (some ⟨bp, 0, none⟩)]).push (.cells [.int .i64 day] 3 (w.next + 1) 0 0)
  have h4 := Own.new g1.2 3 [.int .i64 day]
  rw [AW.next_push] at h4
  have c3 := h3.cell (o := 0) rfl rfl
  have c4 := h4.cell (o := 0) rfl rfl
  have hP : PurAt _ F bp bb r x := let ⟨vs, vn, S1, S2, hB⟩ := h; ⟨vs, vn, S1, S2, hB.grown g3⟩
  refine callT_code rfl Try.func46 rfl Try.s46_eq rfl ?_
  unfold Try.s46
  simp -dsimp -implicitDefEqProofs (maxSteps := 2000000) (disch := first | assumption | omega | (simp only [nx]; omega) | ((repeat refine Fresh.push ?_ _); assumption) | (simp only [smA]; done) | (simp [oneCell, AW.next_push]; done) | fail) only [go_sem, Nat.reduceEqDiff, reduceIte, Nat.reduceAdd, Int.toNat_natCast, Nat.add_zero, Owes_true, Try.results46, Nat.zero_add, c3, c4]
  generalize (w.push (.cells [.pointer (some ⟨bp, 0, none⟩)] 39 w.next 0 0)).push (.cells [.int .i64 day] 3 (w.next + 1) 0 0) = w3 at *
  apply callV_of (e := rfl)
  · exact do_ok 3 day 83 #[.pointer (some ⟨w.next, 0, none⟩), .pointer (some ⟨w.next + 1, 0, none⟩)] bp bb r x F (fun _ => False) w3 g3.2 (fun sum x1 F' _ => sum = passM x day ∧ x1 = passX x day) (fun sum x1 _ => sum = passM x day ∧ x1 = passX x day) (fun e _ => False) (fun e w1 w' q _ => q) hP hl (fun j q => q.elim) (fun w1 gg hp => (CallT.x (R := fun _ _ => False) (passC_ok day _ _ bp bb r x F w1 gg.2 hp hg (h3.keep gg.1) (h4.keep gg.1))).mono (fun v w' q => ⟨_, F, passX x day, q.1, q.2.1, q.2.2.mono fun j z => .inl z, Within.refl _ _, rfl, rfl, rfl⟩) (fun v w' (q : False) => q.elim)) (fun sum x' F' w1 w' q _ => q)
  rintro _ w4 ⟨sum, e, F', x', rfl, hP', hM, hW, hor⟩
  simp -dsimp -implicitDefEqProofs (maxSteps := 2000000) (disch := first | assumption | omega | (simp only [nx]; omega) | ((repeat refine Fresh.push ?_ _); assumption) | (simp only [smA]; done) | (simp [oneCell, AW.next_push]; done) | fail) only [go_sem, Nat.reduceEqDiff, reduceIte, Nat.reduceAdd, Int.toNat_natCast, Nat.add_zero, Owes_true, Try.results46]
  have hM' : MutS F w3 w4 := hM.mono fun j q => q.elim id fun q => q.elim
  refine ⟨sum, e, F', x', rfl, hP', (MutS.of g3).trans hM' (Within.refl _ _), fun j hj => (hW j hj).imp id fun q => by have := g3.1.next; omega, ?_⟩
  rcases hor with ⟨a, b, c, d, _⟩ | ⟨a, b, c, d⟩ | ⟨a, b, x1, c, c1, c3⟩
  · exact .inl ⟨a, b, c, d⟩
  · exact c.elim
  · subst c3
    exact .inr ⟨a, c1, b, c⟩
end Go.Proofs

namespace Go.Proofs
open Go Go.RowKit Go.Sim
set_option maxRecDepth 100000
def Above (B : Nat) (w : AW) (v : Value) (xs : List Int) : Prop := ∃ b, v = .slice (some ⟨b, 0, none⟩) xs.length xs.length ∧ B ≤ b ∧ Own w b 3 (xs.flatMap icells)
theorem ShareO_ok (ws : List Int) (v : Value) (s : Int) (w : AW) (f : Fresh w) (hs : ArrOf w 1 icells v ws) :
    CallT Try.prog Try.T1 (.fn (.func 14) #[]) #[v, .int .i64 s] w (fun r w' => ∃ u, r = .tuple #[u, .int .i64 (shareE ws s)] ∧ ((shareE ws s = 0 ∧ Above w.next w' u (shareL ws s)) ∨ (¬ shareE ws s = 0 ∧ u = .slice none 0 0)) ∧ Grown w w') := by
  obtain ⟨p, cap, rfl, _⟩ := id hs.open
  refine callT_code rfl Try.func14 rfl Try.s14_eq rfl ?_
  unfold Try.s14
  simp -dsimp -implicitDefEqProofs (maxSteps := 2000000) (disch := first | assumption | omega | (simp only [nx]; omega) | ((repeat refine Fresh.push ?_ _); assumption) | (simp only [smA]; done) | (simp [oneCell, AW.next_push]; done) | fail) only [go_sem, Nat.reduceEqDiff, reduceIte, Nat.reduceAdd, Int.toNat_natCast, Nat.add_zero, Owes_true, Try.results14]
  apply callV_of (e := rfl)
  · exact areWeights_ok ws _ w f hs
  rintro _ w1 ⟨rfl, g1⟩
  cases hw : wgtB ws with
  | false =>
    have hE : shareE ws s = 70 := by rw [shareE, if_pos hw]
    simp -dsimp -implicitDefEqProofs (maxSteps := 2000000) (disch := first | assumption | omega | (simp only [nx]; omega) | ((repeat refine Fresh.push ?_ _); assumption) | (simp only [smA]; done) | (simp [oneCell, AW.next_push]; done) | fail) only [go_sem, Nat.reduceEqDiff, reduceIte, Nat.reduceAdd, Int.toNat_natCast, Nat.add_zero, Owes_true, Try.results14]
    exact ⟨_, by rw [hE], .inr ⟨by rw [hE]; decide, rfl⟩, g1⟩
  | true =>
  simp -dsimp -implicitDefEqProofs (maxSteps := 2000000) (disch := first | assumption | omega | (simp only [nx]; omega) | ((repeat refine Fresh.push ?_ _); assumption) | (simp only [smA]; done) | (simp [oneCell, AW.next_push]; done) | fail) only [go_sem, Nat.reduceEqDiff, reduceIte, Nat.reduceAdd, Int.toNat_natCast, Nat.add_zero, Owes_true, Try.results14]
  apply callV_of (e := rfl)
  · exact isShared_ok _ _
  rintro _ _ ⟨rfl, rfl⟩
  cases hr : inR 0 s 34359738368 with
  | false =>
    have hE : shareE ws s = 7 := by rw [shareE, if_neg (by rw [hw]; simp), if_pos hr]
    simp -dsimp -implicitDefEqProofs (maxSteps := 2000000) (disch := first | assumption | omega | (simp only [nx]; omega) | ((repeat refine Fresh.push ?_ _); assumption) | (simp only [smA]; done) | (simp [oneCell, AW.next_push]; done) | fail) only [go_sem, Nat.reduceEqDiff, reduceIte, Nat.reduceAdd, Int.toNat_natCast, Nat.add_zero, Owes_true, Try.results14]
    exact ⟨_, by rw [hE], .inr ⟨by rw [hE]; decide, rfl⟩, g1⟩
  | true =>
  have hE : shareE ws s = 0 := by rw [shareE, if_neg (by rw [hw]; simp), if_neg (by rw [hr]; simp)]
  obtain ⟨hW, h0, h1⟩ := shareE_in hE
  simp -dsimp -implicitDefEqProofs (maxSteps := 2000000) (disch := first | assumption | omega | (simp only [nx]; omega) | ((repeat refine Fresh.push ?_ _); assumption) | (simp only [smA]; done) | (simp [oneCell, AW.next_push]; done) | fail) only [go_sem, Nat.reduceEqDiff, reduceIte, Nat.reduceAdd, Int.toNat_natCast, Nat.add_zero, Owes_true, Try.results14]
  apply callV_of (e := rfl)
  · exact share_ok ws _ s w1 g1.2 (hs.grown g1) hW h0 h1
  rintro _ w2 ⟨b, rfl, hb, hA, hl, hg2⟩
  simp -dsimp -implicitDefEqProofs (maxSteps := 2000000) (disch := first | assumption | omega | (simp only [nx]; omega) | ((repeat refine Fresh.push ?_ _); assumption) | (simp only [smA]; done) | (simp [oneCell, AW.next_push]; done) | fail) only [go_sem, Nat.reduceEqDiff, reduceIte, Nat.reduceAdd, Int.toNat_natCast, Nat.add_zero, Owes_true, Try.results14]
  exact ⟨_, by rw [hE], .inl ⟨hE, b, by rw [hl], by have := g1.1.next; omega, hA⟩, g1.trans hg2⟩
set_option maxHeartbeats 4000000 in
theorem give_ok (ws : List Int) (v : Value) (bp bb r : Nat) (x : PurN) (F : Nat → Prop) (w : AW) (f : Fresh w) (h : PurAt w F bp bb r x) (hs : ArrOf w 1 icells v ws) :
    CallX Try.prog Try.T1 (.fn (.func 81) #[]) #[.pointer (some ⟨bb, 0, none⟩), v] w (fun rv w' => shareE ws x.W = 0 ∧ Above w.next w' rv (shareL ws x.W) ∧ PurAt w' F bp bb r { x with W := 0 } ∧ MutS F w w') (fun pv w' => ¬ shareE ws x.W = 0 ∧ pv = .iface 24 (.int .i64 (shareE ws x.W)) ∧ PurAt w' F bp bb r x ∧ MutS F w w') := by
  obtain ⟨p, cap, rfl, _⟩ := id hs.open
  obtain ⟨vs, vn, S1, S2, hB⟩ := h
  have b3 := hB.bk.cell (o := 3) rfl rfl
  refine callX_code rfl Try.func81 rfl Try.s81_eq rfl ?_
  unfold Try.s81
  simp -dsimp -implicitDefEqProofs (maxSteps := 2000000) (disch := first | assumption | omega | (simp only [nx]; omega) | ((repeat refine Fresh.push ?_ _); assumption) | (simp only [smA]; done) | (simp [oneCell, AW.next_push]; done) | fail) only [go_sem, Nat.reduceEqDiff, reduceIte, Nat.reduceAdd, Int.toNat_natCast, Nat.add_zero, Owes_true, b3, Nat.zero_add]
  apply callXV_ofT (e := rfl)
  · exact ShareO_ok ws _ x.W w f hs
  rintro _ w1 ⟨u, rfl, hor, g1⟩
  have hB1 := hB.grown g1
  rcases hor with ⟨hE, b, rfl, hb, hO⟩ | ⟨hE, rfl⟩
  · rw [hE]
    simp -dsimp -implicitDefEqProofs (maxSteps := 2000000) (disch := first | assumption | omega | (simp only [nx]; omega) | ((repeat refine Fresh.push ?_ _); assumption) | (simp only [smA]; done) | (simp [oneCell, AW.next_push]; done) | fail) only [go_sem, Nat.reduceEqDiff, reduceIte, Nat.reduceAdd, Int.toNat_natCast, Nat.add_zero, Owes_true]
    apply callXV_of (e := rfl)
    · exact require_ok _ _ _
    rotate_left
    · rintro _ _ ⟨q, _⟩; cases q
    rintro _ _ ⟨_, rfl⟩
    have hst := storeV_own1 (o := 3) (v := .int .i64 0) hB1.bk (by simp) rfl
    simp only [setL] at hst
    have hk : MutS (fun j => j = bb) w1 (w1.put bb (.cells [.int .i64 x.T, vs, .map (some r), .int .i64 0, vn] 117 bb 0 0)) := MutS.put (S := fun j => j = bb) g1.2 rfl hB1.bk.lt _
    have hbb : b ≠ bb := by have := hB.lt _ hB.f.2.1; omega
    simp -dsimp -implicitDefEqProofs (maxSteps := 2000000) (disch := first | assumption | omega | (simp only [nx]; omega) | ((repeat refine Fresh.push ?_ _); assumption) | (simp only [smA]; done) | (simp [oneCell, AW.next_push]; done) | fail) only [go_sem, Nat.reduceEqDiff, reduceIte, Nat.reduceAdd, Int.toNat_natCast, Nat.add_zero, Owes_true, Nat.zero_add, hst, Try.results81]
    refine ⟨trivial, ⟨b, rfl, hb, hk.own hO hbb⟩, ⟨vs, vn, S1, S2, hk.own hB1.own (fun q => hB1.ne.1 q), hB1.bk.put _, hB1.sur.other hk fun j hj q => (hB1.f1 j hj).2.2.2.1 q, hB1.not.other hk fun j hj q => (hB1.f2 j hj).2.2.1 q, hB1.map.other hk (fun q => hB1.ne.2.2 q.symm), hB1.f, hB1.f1, hB1.f2, hB1.ne, fun j hj => by have := hB1.lt j hj; have := hk.next; omega⟩, (MutS.of g1).trans (hk.mono fun j q => q ▸ hB1.f.2.1) (Within.refl _ _)⟩
  · have hEd : decide (shareE ws x.W = 0) = false := decide_eq_false hE
    simp -dsimp -implicitDefEqProofs (maxSteps := 2000000) (disch := first | assumption | omega | (simp only [nx]; omega) | ((repeat refine Fresh.push ?_ _); assumption) | (simp only [smA]; done) | (simp [oneCell, AW.next_push]; done) | fail) only [go_sem, Nat.reduceEqDiff, reduceIte, Nat.reduceAdd, Int.toNat_natCast, Nat.add_zero, Owes_true, hEd]
    apply callXV_of (e := rfl)
    · exact require_ok _ _ _
    rotate_left
    · rintro _ _ ⟨_, rfl, rfl⟩
      simp -dsimp -implicitDefEqProofs (maxSteps := 2000000) (disch := first | assumption | omega | (simp only [nx]; omega) | ((repeat refine Fresh.push ?_ _); assumption) | (simp only [smA]; done) | (simp [oneCell, AW.next_push]; done) | fail) only [go_sem, Nat.reduceEqDiff, reduceIte, Nat.reduceAdd, Int.toNat_natCast, Nat.add_zero, Owes_true]
      exact ⟨hE, trivial, ⟨vs, vn, S1, S2, hB1⟩, MutS.of g1⟩
    · rintro _ _ ⟨q, _⟩; cases q
theorem PurAt.other {w w' : AW} {F T : Nat → Prop} {bp bb r : Nat} {x : PurN} (h : PurAt w F bp bb r x) (k : MutS T w w') (hd : ∀ j, F j → ¬ T j) : PurAt w' F bp bb r x :=
  let ⟨vs, vn, S1, S2, hB⟩ := h; ⟨vs, vn, S1, S2, hB.other k hd⟩
theorem PurAt.lt {w : AW} {F : Nat → Prop} {bp bb r : Nat} {x : PurN} (h : PurAt w F bp bb r x) : ∀ j, F j → j < w.next :=
  let ⟨_, _, _, _, hB⟩ := h; hB.lt
theorem PurAt.grown {w w' : AW} {F : Nat → Prop} {bp bb r : Nat} {x : PurN} (h : PurAt w F bp bb r x) (k : Grown w w') : PurAt w' F bp bb r x :=
  let ⟨vs, vn, S1, S2, hB⟩ := h; ⟨vs, vn, S1, S2, hB.grown k⟩
set_option maxHeartbeats 4000000 in
theorem giveC_ok (ws : List Int) (v : Value) (b3 b5 b8 : Nat) (bp bb r : Nat) (x : PurN) (F : Nat → Prop) (w : AW) (f : Fresh w) (h : PurAt w F bp bb r x) (hs : ArrOf w 1 icells v ws) (h3 : Own w b3 39 [.pointer (some ⟨bp, 0, none⟩)]) (h5 : Own w b5 22 [v]) (h8 : Own w b8 22 [.slice none 0 0]) (n8 : ¬ F b8) :
    CallX Try.prog Try.T1 (.fn (.func 80) #[.pointer (some ⟨b3, 0, none⟩), .pointer (some ⟨b5, 0, none⟩), .pointer (some ⟨b8, 0, none⟩)]) #[] w
      (fun rv w' => shareE ws x.W = 0 ∧ rv = .int .i64 x.W ∧ PurAt w' F bp bb r { x with W := 0 } ∧ MutS (fun j => F j ∨ j = b8) w w' ∧ ∃ b, Own w' b8 22 [.slice (some ⟨b, 0, none⟩) (shareL ws x.W).length (shareL ws x.W).length] ∧ ¬ F b ∧ Own w' b 3 ((shareL ws x.W).flatMap icells))
      (fun pv w' => ¬ shareE ws x.W = 0 ∧ pv = .iface 24 (.int .i64 (shareE ws x.W)) ∧ PurAt w' F bp bb r x ∧ MutS F w w') := by
  obtain ⟨vs, vn, S1, S2, hB⟩ := id h
  obtain ⟨p, cap, rfl, _⟩ := id hs.open
  have c3 := h3.cell (o := 0) rfl rfl
  have c5 := h5.cell (o := 0) rfl rfl
  have o0 := hB.own.cell (o := 0) rfl rfl
  refine callX_code rfl Try.func80 rfl Try.s80_eq rfl ?_
  unfold Try.s80
  simp -dsimp -implicitDefEqProofs (maxSteps := 2000000) (disch := first | assumption | omega | (simp only [nx]; omega) | ((repeat refine Fresh.push ?_ _); assumption) | (simp only [smA]; done) | (simp [oneCell, AW.next_push]; done) | fail) only [go_sem, Nat.reduceEqDiff, reduceIte, Nat.reduceAdd, Int.toNat_natCast, Nat.add_zero, Owes_true, c3, c5, o0, Nat.zero_add]
  apply callXV_of (e := rfl)
  · exact give_ok ws _ bp bb r x F w f h hs
  rotate_left
  · rintro _ w1 ⟨hE, rfl, hP, hM⟩
    simp -dsimp -implicitDefEqProofs (maxSteps := 2000000) (disch := first | assumption | omega | (simp only [nx]; omega) | ((repeat refine Fresh.push ?_ _); assumption) | (simp only [smA]; done) | (simp [oneCell, AW.next_push]; done) | fail) only [go_sem, Nat.reduceEqDiff, reduceIte, Nat.reduceAdd, Int.toNat_natCast, Nat.add_zero, Owes_true]
    exact fun _ => ⟨hE, trivial, hP, hM⟩
  rintro _ w1 ⟨hE, ⟨b, rfl, hb, hO⟩, hP, hM⟩
  obtain ⟨hW, h0, h1⟩ := shareE_in hE
  have hsh := share_is hW.nn hW.sum.1 h0
  have hlt := hB.lt
  have h8l := h8.lt
  have h81 := hM.own h8 n8
  have hst := storeV_own1 (o := 0) (v := .slice (some ⟨b, 0, none⟩) (shareL ws x.W).length (shareL ws x.W).length) h81 (by simp) rfl
  simp only [setL] at hst
  have hk : MutS (fun j => j = b8) w1 (w1.put b8 (.cells [.slice (some ⟨b, 0, none⟩) (shareL ws x.W).length (shareL ws x.W).length] 22 b8 0 0)) := MutS.put (S := fun j => j = b8) hM.fresh rfl h81.lt _
  have hO2 := hk.own hO (by omega)
  have hP2 := hP.other hk fun j hj q => n8 (q ▸ hj)
  have h82 := h81.put [.slice (some ⟨b, 0, none⟩) (shareL ws x.W).length (shareL ws x.W).length]
  have hlen : (shareL ws x.W).length ≤ 24 := by rw [hsh.1.len]; exact hW.len.2
  have hA := hO2.iarr (by omega)
  have hsm : Small (shareL ws x.W) := small_nn hsh.1.nn (by rw [hsh.2]; omega)
  have d0 := h82.cell (o := 0) rfl rfl
  have hm2 : MutS (fun j => F j ∨ j = b8) w _ := (hM.mono fun j q => .inl q).trans (hk.mono fun j q => .inr q) (Within.refl _ _)
  simp -dsimp -implicitDefEqProofs (maxSteps := 2000000) (disch := first | assumption | omega | (simp only [nx]; omega) | ((repeat refine Fresh.push ?_ _); assumption) | (simp only [smA]; done) | (simp [oneCell, AW.next_push]; done) | fail) only [go_sem, Nat.reduceEqDiff, reduceIte, Nat.reduceAdd, Int.toNat_natCast, Nat.add_zero, Owes_true, Nat.zero_add, hst]
  generalize w1.put b8 (.cells [.slice (some ⟨b, 0, none⟩) (shareL ws x.W).length (shareL ws x.W).length] 22 b8 0 0) = w2 at *
  simp -dsimp -implicitDefEqProofs (maxSteps := 2000000) (disch := first | assumption | omega | (simp only [nx]; omega) | ((repeat refine Fresh.push ?_ _); assumption) | (simp only [smA]; done) | (simp [oneCell, AW.next_push]; done) | fail) only [go_sem, Nat.reduceEqDiff, reduceIte, Nat.reduceAdd, Int.toNat_natCast, Nat.add_zero, Owes_true, Nat.zero_add, d0]
  apply callXV_ofT (e := rfl)
  · exact total_ok _ _ w2 hA hsm
  rintro _ _ ⟨rfl, rfl⟩
  rw [hsh.2]
  simp -dsimp -implicitDefEqProofs (maxSteps := 2000000) (disch := first | assumption | omega | (simp only [nx]; omega) | ((repeat refine Fresh.push ?_ _); assumption) | (simp only [smA]; done) | (simp [oneCell, AW.next_push]; done) | fail) only [go_sem, Nat.reduceEqDiff, reduceIte, Nat.reduceAdd, Int.toNat_natCast, Nat.add_zero, Owes_true, Try.results80]
  exact ⟨hE, trivial, hP2, hm2, b, h82, fun q => by have := hlt _ q; omega, hO2⟩
set_option maxHeartbeats 8000000 in
theorem Give_ok (day : Int) (ws : List Int) (v : Value) (bp bb r : Nat) (x : PurN) (F : Nat → Prop) (w : AW) (f : Fresh w) (h : PurAt w F bp bb r x) (hs : ArrOf w 1 icells v ws) (hl : x.N.length < 1000) :
    CallT Try.prog Try.T1 (.fn (.func 45) #[]) #[.pointer (some ⟨bp, 0, none⟩), .int .i64 day, v] w (fun rv w' => ∃ u e F' x', rv = .tuple #[u, .int .i64 e] ∧ PurAt w' F' bp bb r x' ∧ MutS F w w' ∧ Within F w F' ∧
      ((inR (lastDay x.N) day 36500 = false ∧ u = .slice none 0 0 ∧ e = 34 ∧ x' = x) ∨ (inR (lastDay x.N) day 36500 = true ∧ ¬ shareE ws x.W = 0 ∧ u = .slice none 0 0 ∧ e = shareE ws x.W ∧ x' = x) ∨ (inR (lastDay x.N) day 36500 = true ∧ shareE ws x.W = 0 ∧ ArrOf w' 1 icells u (shareL ws x.W) ∧ e = 0 ∧ x' = { x with W := 0, N := x.N ++ [⟨4, day, x.W⟩] }))) := by
  obtain ⟨p, cap, rfl, _⟩ := id hs.open
  have g1 := (Grown.refl f).push (.cells [.pointer (some ⟨bp, 0, none⟩)] 39 w.next 0 0)
  have g2 := g1.push (.cells [.slice p ws.length cap] 22 (w.next + 1) 0 0)
  have g3 := g2.push (.cells [.slice none 0 0] 22 (w.next + 1 + 1) 0 0)
  have h3 := ((Own.new f 39 [.pointer (some ⟨bp, 0, none⟩)]).push (.cells [.slice p ws.length cap] 22 (w.next + 1) 0 0)).push (.cells [.slice none 0 0] 22 (w.next + 1 + 1) 0 0)
  have h5 := Own.new g1.2 22 [.slice p ws.length cap]
  rw [AW.next_push] at h5
  have h5 := h5.push (.cells [.slice none 0 0] 22 (w.next + 1 + 1) 0 0)
  have h8 := Own.new g2.2 22 [.slice none 0 0]
  simp only [AW.next_push] at h8
  have c3 := h3.cell (o := 0) rfl rfl
  have hP := h.grown g3
  have hFl := h.lt
  have hs3 := hs.grown g3
  have hnx : (((w.push (.cells [.pointer (some ⟨bp, 0, none⟩)] 39 w.next 0 0)).push (.cells [.slice p ws.length cap] 22 (w.next + 1) 0 0)).push (.cells [.slice none 0 0] 22 (w.next + 1 + 1) 0 0)).next = w.next + 3 := by simp only [AW.next_push]
  refine callT_code rfl Try.func45 rfl Try.s45_eq rfl ?_
  unfold Try.s45
  simp -dsimp -implicitDefEqProofs (maxSteps := 2000000) (disch := first | assumption | omega | (simp only [nx]; omega) | ((repeat refine Fresh.push ?_ _); assumption) | (simp only [smA]; done) | (simp [oneCell, AW.next_push]; done) | fail) only [go_sem, Nat.reduceEqDiff, reduceIte, Nat.reduceAdd, Int.toNat_natCast, Nat.add_zero, Owes_true, Try.results45, Nat.zero_add, c3]
  generalize ((w.push (.cells [.pointer (some ⟨bp, 0, none⟩)] 39 w.next 0 0)).push (.cells [.slice p ws.length cap] 22 (w.next + 1) 0 0)).push (.cells [.slice none 0 0] 22 (w.next + 1 + 1) 0 0) = w3 at *
  have n8 : ¬ F (w.next + 1 + 1) := fun q => by have := hFl _ q; omega
  apply callV_of (e := rfl)
  · exact do_ok 4 day 80 #[.pointer (some ⟨w.next, 0, none⟩), .pointer (some ⟨w.next + 1, 0, none⟩), .pointer (some ⟨w.next + 1 + 1, 0, none⟩)] bp bb r x F (fun j => j = w.next + 1 + 1) w3 g3.2 (fun sum x1 F' w' => shareE ws x.W = 0 ∧ sum = x.W ∧ x1 = { x with W := 0 } ∧ ∃ b, Own w' (w.next + 1 + 1) 22 [.slice (some ⟨b, 0, none⟩) (shareL ws x.W).length (shareL ws x.W).length] ∧ ¬ F' (w.next + 1 + 1) ∧ ¬ F' b ∧ Own w' b 3 ((shareL ws x.W).flatMap icells)) (fun sum x1 w' => shareE ws x.W = 0 ∧ sum = x.W ∧ x1 = { x with W := 0 } ∧ ∃ b, Own w' (w.next + 1 + 1) 22 [.slice (some ⟨b, 0, none⟩) (shareL ws x.W).length (shareL ws x.W).length] ∧ Own w' b 3 ((shareL ws x.W).flatMap icells)) (fun e w' => ¬ shareE ws x.W = 0 ∧ e = shareE ws x.W ∧ Own w' (w.next + 1 + 1) 22 [.slice none 0 0]) (fun e w1 w' q z => ⟨q.1, q.2.1, z.own q.2.2 (by omega)⟩) hP hl (fun j q => ⟨by omega, fun z => n8 (q ▸ z)⟩) (fun w1 gg hp => (giveC_ok ws _ _ _ _ bp bb r x F w1 gg.2 hp (hs3.grown gg) (h3.keep gg.1) (h5.keep gg.1) (h8.keep gg.1) n8).mono (fun v w' q => ⟨_, F, _, q.2.1, q.2.2.1, q.2.2.2.1, Within.refl _ _, rfl, q.1, rfl, rfl, q.2.2.2.2.choose, q.2.2.2.2.choose_spec.1, n8, q.2.2.2.2.choose_spec.2⟩) (fun v w' q => ⟨_, q.2.1, q.2.2.1, q.2.2.2.mono fun j z => .inl z, q.1, rfl, q.2.2.2.own (h8.keep gg.1) n8⟩)) (fun sum x' F' w1 w' q z => ⟨q.1, q.2.1, q.2.2.1, q.2.2.2.choose, z.own q.2.2.2.choose_spec.1 q.2.2.2.choose_spec.2.1, z.own q.2.2.2.choose_spec.2.2.2 q.2.2.2.choose_spec.2.2.1⟩)
  rintro _ w4 ⟨sum, e, F', x', rfl, hP', hM, hW, hor⟩
  have hM' : MutS F w w4 := by
    refine ⟨fun i hi hn => ?_, fun i hi hn => ?_, by have := g3.1.next; have := hM.next; omega, hM.fresh⟩
    · rw [hM.blk i (by omega) (fun q => q.elim hn fun q => by omega)]; exact g3.1.blk i hi
    · rw [hM.fam i (by omega) (fun q => q.elim hn fun q => by omega)]; exact g3.1.fam i hi
  have hW' : Within F w F' := fun j hj => (hW j hj).imp id fun q => by omega
  rcases hor with ⟨a, b, c, d, g⟩ | ⟨a, b, ⟨c, c2, hO⟩, d⟩ | ⟨a, b, x1, c, c1, c2, c3, b9, hO, hO2⟩
  · have d0 := (h8.keep g.1).cell (o := 0) rfl rfl
    simp -dsimp -implicitDefEqProofs (maxSteps := 2000000) (disch := first | assumption | omega | (simp only [nx]; omega) | ((repeat refine Fresh.push ?_ _); assumption) | (simp only [smA]; done) | (simp [oneCell, AW.next_push]; done) | fail) only [go_sem, Nat.reduceEqDiff, reduceIte, Nat.reduceAdd, Int.toNat_natCast, Nat.add_zero, Owes_true, Try.results45, Nat.zero_add, d0]
    exact ⟨_, e, F', x', rfl, hP', hM', hW', .inl ⟨a, rfl, c, d⟩⟩
  · have d0 := hO.cell (o := 0) rfl rfl
    simp -dsimp -implicitDefEqProofs (maxSteps := 2000000) (disch := first | assumption | omega | (simp only [nx]; omega) | ((repeat refine Fresh.push ?_ _); assumption) | (simp only [smA]; done) | (simp [oneCell, AW.next_push]; done) | fail) only [go_sem, Nat.reduceEqDiff, reduceIte, Nat.reduceAdd, Int.toNat_natCast, Nat.add_zero, Owes_true, Try.results45, Nat.zero_add, d0]
    exact ⟨_, e, F', x', rfl, hP', hM', hW', .inr (.inl ⟨a, c, rfl, c2, d⟩)⟩
  · have d0 := hO.cell (o := 0) rfl rfl
    simp -dsimp -implicitDefEqProofs (maxSteps := 2000000) (disch := first | assumption | omega | (simp only [nx]; omega) | ((repeat refine Fresh.push ?_ _); assumption) | (simp only [smA]; done) | (simp [oneCell, AW.next_push]; done) | fail) only [go_sem, Nat.reduceEqDiff, reduceIte, Nat.reduceAdd, Int.toNat_natCast, Nat.add_zero, Owes_true, Try.results45, Nat.zero_add, d0]
    obtain ⟨hWi, h0, h1⟩ := shareE_in c1
    have hsh := share_is hWi.nn hWi.sum.1 h0
    refine ⟨_, e, F', x', rfl, hP', hM', hW', .inr (.inr ⟨a, c1, hO2.iarr (by rw [hsh.1.len]; have := hWi.len.2; omega), b, ?_⟩)⟩
    rw [c, c3, c2]
end Go.Proofs
