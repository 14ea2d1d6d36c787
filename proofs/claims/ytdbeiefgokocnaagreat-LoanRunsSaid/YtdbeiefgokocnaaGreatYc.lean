/- Loans: contracts of acts that are valid, of runs, and of what is owed. -/
import Derived.Test.YtdbeiefgokocnaaGreatYb
import Derived.Test.YtdbeiefgokocnaaGreatTc
set_option linter.unusedVariables false
set_option linter.unusedSimpArgs false
/- Loans: acts that are valid. -/
namespace Go.Proofs
open Go Go.RowKit Go.Sim
set_option maxRecDepth 100000
def acells (a : ActN) : List Value := [.int .i64 a.D, .int .i64 a.K, .int .i64 a.N]
def actV (D K N : Int) : Value := .agg #[.int .i64 D, .int .i64 K, .int .i64 N]
def kindV (D K N : Int) : Value := if K = 1 then .iface 124 (actV D K N) else if K = 2 then .iface 125 (actV D K N) else if K = 3 then .iface 126 (actV D K N) else if K = 4 then .iface 107 (actV D K N) else .nilIface
theorem Tryz.mi (t : Tmps) (w : AW) (x : Operand) : fast (prg Tryz.prog) t w (.makeInterface 124 x) = some (.iface 124 (ev t x)) ∧ fast (prg Tryz.prog) t w (.makeInterface 125 x) = some (.iface 125 (ev t x)) ∧ fast (prg Tryz.prog) t w (.makeInterface 126 x) = some (.iface 126 (ev t x)) ∧ fast (prg Tryz.prog) t w (.makeInterface 107 x) = some (.iface 107 (ev t x)) := by
  simp only [fast, Tryz.ty124, Tryz.ty125, Tryz.ty126, Tryz.ty107, and_self]
theorem Tryz.mi124 (t : Tmps) (w : AW) (x : Operand) : fast (prg Tryz.prog) t w (.makeInterface 124 x) = some (.iface 124 (ev t x)) := (Tryz.mi t w x).1
theorem Tryz.mi125 (t : Tmps) (w : AW) (x : Operand) : fast (prg Tryz.prog) t w (.makeInterface 125 x) = some (.iface 125 (ev t x)) := (Tryz.mi t w x).2.1
theorem Tryz.mi126 (t : Tmps) (w : AW) (x : Operand) : fast (prg Tryz.prog) t w (.makeInterface 126 x) = some (.iface 126 (ev t x)) := (Tryz.mi t w x).2.2.1
theorem Tryz.mi107 (t : Tmps) (w : AW) (x : Operand) : fast (prg Tryz.prog) t w (.makeInterface 107 x) = some (.iface 107 (ev t x)) := (Tryz.mi t w x).2.2.2
theorem Tryz.as124 (v : Value) : assertV (prg Tryz.prog) (.iface 124 v) 107 true = some (.tuple #[.agg #[.int .i64 0, .int .i64 0, .int .i64 0], .bool false]) := by kernel_rfl
theorem Tryz.as125 (v : Value) : assertV (prg Tryz.prog) (.iface 125 v) 107 true = some (.tuple #[.agg #[.int .i64 0, .int .i64 0, .int .i64 0], .bool false]) := by kernel_rfl
theorem Tryz.as126 (v : Value) : assertV (prg Tryz.prog) (.iface 126 v) 107 true = some (.tuple #[.agg #[.int .i64 0, .int .i64 0, .int .i64 0], .bool false]) := by kernel_rfl
theorem Tryz.as107 (v : Value) : assertV (prg Tryz.prog) (.iface 107 v) 107 true = some (.tuple #[v, .bool true]) := by kernel_rfl
theorem Tryz.me124 (v : Value) : methodV (prg Tryz.prog) (.iface 124 v) "lombard/loan.fits" = some (115, v) := by kernel_rfl
theorem Tryz.me125 (v : Value) : methodV (prg Tryz.prog) (.iface 125 v) "lombard/loan.fits" = some (116, v) := by kernel_rfl
theorem Tryz.me126 (v : Value) : methodV (prg Tryz.prog) (.iface 126 v) "lombard/loan.fits" = some (117, v) := by kernel_rfl
def fast0 := @fast
theorem Tryz.nil105' (t : Tmps) (w : AW) (x : Operand) (r : TypeId) : fast (prg Tryz.prog) t w (.binOp .eql 105 x (.const .nilIface) r) = orElse (nilB (ev t x)) (fast0 (prg Tryz.prog) t w (.binOp .eql 105 x (.const .nilIface) r)) := by
  cases h : nilB (ev t x) with
  | some y => exact Tryz.nil105 t w x r y h
  | none => rfl
theorem nilB_iface (t : TypeId) (v : Value) : nilB (.iface t v) = some (.bool false) := rfl
theorem nilB_nil : nilB .nilIface = some (.bool true) := rfl
theorem binQ_if1 (op : BinOp) (t : TypeId) (v : Value) : binQ op (.iface t v) .nilIface = none := rfl
theorem binQ_if2 (op : BinOp) : binQ op .nilIface .nilIface = none := rfl
theorem eqQ_if1 (P : Program) (op : BinOp) (ty t : TypeId) (v : Value) : eqQ P op ty (.iface t v) .nilIface = none := rfl
theorem eqQ_if2 (P : Program) (op : BinOp) (ty : TypeId) : eqQ P op ty .nilIface .nilIface = none := rfl
attribute [go_sem] Tryz.mi124 Tryz.mi125 Tryz.mi126 Tryz.mi107 Tryz.as124 Tryz.as125 Tryz.as126 Tryz.as107 Tryz.me124 Tryz.me125 Tryz.me126 Tryz.nil105' nilB_iface nilB_nil binQ_if1 binQ_if2 eqQ_if1 eqQ_if2
theorem ofKind_ok (D K N : Int) (w : AW) (f : Fresh w) : CallT Tryz.prog Tryz.T1 (.fn (.func 53) #[]) #[.agg #[.int .i64 D, .int .i64 K, .int .i64 N]] w (Ret (kindV D K N) (Grown w)) := by
  have g := (Grown.refl f).push (.cells [.int .i64 D, .int .i64 K, .int .i64 N] 85 w.next 0 0)
  have hN := Own.new f 85 [.int .i64 D, .int .i64 K, .int .i64 N]
  have u0 := hN.cell (o := 0) rfl rfl
  have u1 := hN.cell (o := 1) rfl rfl
  have u2 := hN.cell (o := 2) rfl rfl
  refine callT_code rfl Tryz.func53 rfl Tryz.s53_eq rfl ?_
  unfold Tryz.s53
  by_cases k1 : K = 1
  · subst k1
    simp -dsimp -implicitDefEqProofs (maxSteps := 2000000) (disch := first | assumption | omega | (simp only [AW.next_push, AW.next_put]; omega) | ((repeat refine Fresh.push ?_ _); assumption) | (simp only [same_int, same_bool, same_ptr, same_slice, same_sliceP, same_nil, same_agg2, same_string]; done) | (simp [oneCell, AW.next_push]; done) | fail) only [go_sem, Nat.reduceEqDiff, reduceIte, Nat.reduceAdd, Int.toNat_natCast, Nat.add_zero, Owes_true, Tryz.results53, Nat.zero_add, u0, u1, u2]
    exact ⟨rfl, g⟩
  by_cases k2 : K = 2
  · subst k2
    simp -dsimp -implicitDefEqProofs (maxSteps := 2000000) (disch := first | assumption | omega | (simp only [AW.next_push, AW.next_put]; omega) | ((repeat refine Fresh.push ?_ _); assumption) | (simp only [same_int, same_bool, same_ptr, same_slice, same_sliceP, same_nil, same_agg2, same_string]; done) | (simp [oneCell, AW.next_push]; done) | fail) only [go_sem, Nat.reduceEqDiff, reduceIte, Nat.reduceAdd, Int.toNat_natCast, Nat.add_zero, Owes_true, Tryz.results53, Nat.zero_add, u0, u1, u2, k1]
    exact ⟨rfl, g⟩
  by_cases k3 : K = 3
  · subst k3
    simp -dsimp -implicitDefEqProofs (maxSteps := 2000000) (disch := first | assumption | omega | (simp only [AW.next_push, AW.next_put]; omega) | ((repeat refine Fresh.push ?_ _); assumption) | (simp only [same_int, same_bool, same_ptr, same_slice, same_sliceP, same_nil, same_agg2, same_string]; done) | (simp [oneCell, AW.next_push]; done) | fail) only [go_sem, Nat.reduceEqDiff, reduceIte, Nat.reduceAdd, Int.toNat_natCast, Nat.add_zero, Owes_true, Tryz.results53, Nat.zero_add, u0, u1, u2, k1, k2]
    exact ⟨rfl, g⟩
  by_cases k4 : K = 4
  · subst k4
    simp -dsimp -implicitDefEqProofs (maxSteps := 2000000) (disch := first | assumption | omega | (simp only [AW.next_push, AW.next_put]; omega) | ((repeat refine Fresh.push ?_ _); assumption) | (simp only [same_int, same_bool, same_ptr, same_slice, same_sliceP, same_nil, same_agg2, same_string]; done) | (simp [oneCell, AW.next_push]; done) | fail) only [go_sem, Nat.reduceEqDiff, reduceIte, Nat.reduceAdd, Int.toNat_natCast, Nat.add_zero, Owes_true, Tryz.results53, Nat.zero_add, u0, u1, u2, k1, k2, k3]
    exact ⟨rfl, g⟩
  · have hk : kindV D K N = .nilIface := by unfold kindV; rw [if_neg k1, if_neg k2, if_neg k3, if_neg k4]
    simp -dsimp -implicitDefEqProofs (maxSteps := 2000000) (disch := first | assumption | omega | (simp only [AW.next_push, AW.next_put]; omega) | ((repeat refine Fresh.push ?_ _); assumption) | (simp only [same_int, same_bool, same_ptr, same_slice, same_sliceP, same_nil, same_agg2, same_string]; done) | (simp [oneCell, AW.next_push]; done) | fail) only [go_sem, Nat.reduceEqDiff, reduceIte, Nat.reduceAdd, Int.toNat_natCast, Nat.add_zero, Owes_true, Tryz.results53, Nat.zero_add, u0, u1, u2, k1, k2, k3, k4]
    rw [hk]
    exact ⟨rfl, g⟩
theorem fit136_ok (D K n : Int) (w : AW) (f : Fresh w) : CallT Tryz.prog Tryz.T1 (.fn (.func 115) #[]) #[.agg #[.int .i64 D, .int .i64 K, .int .i64 n]] w (Ret (.bool (inR 1 n 1073741824)) (Grown w)) := by
  have g := (Grown.refl f).push (.cells [.int .i64 D, .int .i64 K, .int .i64 n] 124 w.next 0 0)
  have hN := Own.new f 124 [.int .i64 D, .int .i64 K, .int .i64 n]
  have u2 := hN.cell (o := 2) rfl rfl
  refine callT_code rfl Tryz.func115 rfl Tryz.s115_eq rfl ?_
  unfold Tryz.s115
  simp -dsimp -implicitDefEqProofs (maxSteps := 2000000) (disch := first | assumption | omega | (simp only [AW.next_push, AW.next_put]; omega) | ((repeat refine Fresh.push ?_ _); assumption) | (simp only [same_int, same_bool, same_ptr, same_slice, same_sliceP, same_nil, same_agg2, same_string]; done) | (simp [oneCell, AW.next_push]; done) | fail) only [go_sem, Nat.reduceEqDiff, reduceIte, Nat.reduceAdd, Int.toNat_natCast, Nat.add_zero, Owes_true, Tryz.results115, Nat.zero_add, u2]
  apply callV_of (e := rfl)
  · exact within_ok _ _ _ _
  rintro _ _ ⟨rfl, rfl⟩
  simp -dsimp -implicitDefEqProofs (maxSteps := 2000000) (disch := first | assumption | omega | (simp only [AW.next_push, AW.next_put]; omega) | ((repeat refine Fresh.push ?_ _); assumption) | (simp only [same_int, same_bool, same_ptr, same_slice, same_sliceP, same_nil, same_agg2, same_string]; done) | (simp [oneCell, AW.next_push]; done) | fail) only [go_sem, Nat.reduceEqDiff, reduceIte, Nat.reduceAdd, Int.toNat_natCast, Nat.add_zero, Owes_true, Tryz.results115]
  exact ⟨rfl, g⟩
theorem fit138_ok (D K n : Int) (w : AW) (f : Fresh w) : CallT Tryz.prog Tryz.T1 (.fn (.func 117) #[]) #[.agg #[.int .i64 D, .int .i64 K, .int .i64 n]] w (Ret (.bool (inR 1 n 366)) (Grown w)) := by
  have g := (Grown.refl f).push (.cells [.int .i64 D, .int .i64 K, .int .i64 n] 126 w.next 0 0)
  have hN := Own.new f 126 [.int .i64 D, .int .i64 K, .int .i64 n]
  have u2 := hN.cell (o := 2) rfl rfl
  refine callT_code rfl Tryz.func117 rfl Tryz.s117_eq rfl ?_
  unfold Tryz.s117
  simp -dsimp -implicitDefEqProofs (maxSteps := 2000000) (disch := first | assumption | omega | (simp only [AW.next_push, AW.next_put]; omega) | ((repeat refine Fresh.push ?_ _); assumption) | (simp only [same_int, same_bool, same_ptr, same_slice, same_sliceP, same_nil, same_agg2, same_string]; done) | (simp [oneCell, AW.next_push]; done) | fail) only [go_sem, Nat.reduceEqDiff, reduceIte, Nat.reduceAdd, Int.toNat_natCast, Nat.add_zero, Owes_true, Tryz.results117, Nat.zero_add, u2]
  apply callV_of (e := rfl)
  · exact within_ok _ _ _ _
  rintro _ _ ⟨rfl, rfl⟩
  simp -dsimp -implicitDefEqProofs (maxSteps := 2000000) (disch := first | assumption | omega | (simp only [AW.next_push, AW.next_put]; omega) | ((repeat refine Fresh.push ?_ _); assumption) | (simp only [same_int, same_bool, same_ptr, same_slice, same_sliceP, same_nil, same_agg2, same_string]; done) | (simp [oneCell, AW.next_push]; done) | fail) only [go_sem, Nat.reduceEqDiff, reduceIte, Nat.reduceAdd, Int.toNat_natCast, Nat.add_zero, Owes_true, Tryz.results117]
  exact ⟨rfl, g⟩
theorem fit137_ok (D K n : Int) (w : AW) (f : Fresh w) : CallT Tryz.prog Tryz.T1 (.fn (.func 116) #[]) #[.agg #[.int .i64 D, .int .i64 K, .int .i64 n]] w (Ret (.bool (decide (n = 0))) (Grown w)) := by
  have g := (Grown.refl f).push (.cells [.int .i64 D, .int .i64 K, .int .i64 n] 125 w.next 0 0)
  have hN := Own.new f 125 [.int .i64 D, .int .i64 K, .int .i64 n]
  have u2 := hN.cell (o := 2) rfl rfl
  refine callT_code rfl Tryz.func116 rfl Tryz.s116_eq rfl ?_
  unfold Tryz.s116
  simp -dsimp -implicitDefEqProofs (maxSteps := 2000000) (disch := first | assumption | omega | (simp only [AW.next_push, AW.next_put]; omega) | ((repeat refine Fresh.push ?_ _); assumption) | (simp only [same_int, same_bool, same_ptr, same_slice, same_sliceP, same_nil, same_agg2, same_string]; done) | (simp [oneCell, AW.next_push]; done) | fail) only [go_sem, Nat.reduceEqDiff, reduceIte, Nat.reduceAdd, Int.toNat_natCast, Nat.add_zero, Owes_true, Tryz.results116, Nat.zero_add, u2]
  exact ⟨rfl, g⟩
theorem fit88_ok (D K n : Int) (w : AW) (f : Fresh w) : CallT Tryz.prog Tryz.T1 (.fn (.func 54) #[]) #[.agg #[.int .i64 D, .int .i64 K, .int .i64 n]] w (Ret (.bool (decide (n = 0))) (Grown w)) := by
  have g := (Grown.refl f).push (.cells [.int .i64 D, .int .i64 K, .int .i64 n] 107 w.next 0 0)
  have hN := Own.new f 107 [.int .i64 D, .int .i64 K, .int .i64 n]
  have u2 := hN.cell (o := 2) rfl rfl
  refine callT_code rfl Tryz.func54 rfl Tryz.s54_eq rfl ?_
  unfold Tryz.s54
  simp -dsimp -implicitDefEqProofs (maxSteps := 2000000) (disch := first | assumption | omega | (simp only [AW.next_push, AW.next_put]; omega) | ((repeat refine Fresh.push ?_ _); assumption) | (simp only [same_int, same_bool, same_ptr, same_slice, same_sliceP, same_nil, same_agg2, same_string]; done) | (simp [oneCell, AW.next_push]; done) | fail) only [go_sem, Nat.reduceEqDiff, reduceIte, Nat.reduceAdd, Int.toNat_natCast, Nat.add_zero, Owes_true, Tryz.results54, Nat.zero_add, u2]
  exact ⟨rfl, g⟩
end Go.Proofs

/- Loans: lists of acts that are valid. -/
namespace Go.Proofs
open Go Go.RowKit Go.Sim
set_option maxRecDepth 100000
def dayAt (s : Int) (l : List ActN) (i : Nat) : Int := if i = 0 then s else (l.getD (i - 1) ⟨0, 0, 0⟩).D
theorem actsTo_drop {l : List ActN} {s : Int} {i : Nat} (h : i < l.length) : actsTo (dayAt s l i) (l.drop i) = (inR (dayAt s l i) l[i].D 36500 && fitB l[i] (decide (i + 1 = l.length)) && actsTo (dayAt s l (i + 1)) (l.drop (i + 1))) := by
  rw [List.drop_eq_getElem_cons h, actsTo]
  have h1 : (l.drop (i + 1)).isEmpty = decide (i + 1 = l.length) := by
    rw [Bool.eq_iff_iff, List.isEmpty_iff, List.drop_eq_nil_iff, decide_eq_true_iff]; omega
  have h2 : dayAt s l (i + 1) = l[i].D := by
    rw [dayAt, if_neg (by omega), Nat.add_sub_cancel, getD_at h]
  rw [h1, h2]
set_option maxHeartbeats 4000000 in
theorem areActs_ok (d : DealN) (cl : List Int) (l : List ActN) (v u : Value) (w : AW) (f : Fresh w) (hs : ArrOf w 1 icells v cl) (ht : ArrOf w 3 acells u l) (hst : 0 ≤ d.st ∧ d.st ≤ 36500) :
    CallT Tryz.prog Tryz.T1 (.fn (.func 36) #[]) #[.agg #[.int .i64 d.r, .int .i64 d.c, .int .i64 d.a, .int .i64 d.fr, .int .i64 d.fe, .int .i64 d.tm, .int .i64 d.gr, v, .int .i64 d.st, .int .i64 d.sm], u] w (Ret (.bool (actsB d l)) (Grown w)) := by
  obtain ⟨p, cap, rfl, hcap, hmax, hat⟩ := id ht.open
  obtain ⟨q, cap2, rfl, _⟩ := id hs.open
  have g := (Grown.refl f).push (.cells [.int .i64 d.r, .int .i64 d.c, .int .i64 d.a, .int .i64 d.fr, .int .i64 d.fe, .int .i64 d.tm, .int .i64 d.gr, (.slice q cl.length cap2), .int .i64 d.st, .int .i64 d.sm] 28 w.next 0 0)
  have hO := Own.new f 28 [.int .i64 d.r, .int .i64 d.c, .int .i64 d.a, .int .i64 d.fr, .int .i64 d.fe, .int .i64 d.tm, .int .i64 d.gr, (.slice q cl.length cap2), .int .i64 d.st, .int .i64 d.sm]
  have c8 := hO.cell (o := 8) rfl rfl
  refine callT_code rfl Tryz.func36 rfl Tryz.s36_eq rfl ?_
  unfold Tryz.s36
  by_cases h32 : 32 < (l.length : Int)
  · simp -dsimp -implicitDefEqProofs (maxSteps := 2000000) (disch := first | assumption | omega | (simp only [AW.next_push, AW.next_put]; omega) | ((repeat refine Fresh.push ?_ _); assumption) | (simp only [same_int, same_bool, same_ptr, same_slice, same_sliceP, same_nil, same_agg2, same_string]; done) | (simp [oneCell, AW.next_push]; done) | fail) only [go_sem, Nat.reduceEqDiff, reduceIte, Nat.reduceAdd, Int.toNat_natCast, Nat.add_zero, Owes_true, Tryz.results36, h32]
    exact ⟨by rw [actsB, decide_eq_false (by omega)]; rfl, g⟩
  simp -dsimp -implicitDefEqProofs (maxSteps := 2000000) (disch := first | assumption | omega | (simp only [AW.next_push, AW.next_put]; omega) | ((repeat refine Fresh.push ?_ _); assumption) | (simp only [same_int, same_bool, same_ptr, same_slice, same_sliceP, same_nil, same_agg2, same_string]; done) | (simp [oneCell, AW.next_push]; done) | fail) only [go_sem, Nat.reduceEqDiff, reduceIte, Nat.reduceAdd, Int.toNat_natCast, Nat.add_zero, Owes_true, Tryz.results36, Nat.zero_add, h32, c8]
  refine loopR (fun k t ds w2 => ∃ i : Nat, i ≤ l.length ∧ k = l.length - i ∧ ds = [] ∧ ev t (.tmp 1) = .slice p l.length cap ∧ ev t (.tmp 5) = .int .i64 (dayAt d.st l i) ∧ ev t (.tmp 17) = .slice p l.length cap ∧ ev t (.tmp 18) = .int .i64 (l.length : Int) ∧ ev t (.tmp 19) = .int .i64 (i : Int) ∧ actsTo d.st l = actsTo (dayAt d.st l i) (l.drop i) ∧ Grown w w2) (l.length) ?_ ?_
  · refine ⟨0, by omega, by omega, rfl, ?_, ?_, ?_, ?_, ?_, (by rw [dayAt, if_pos rfl, List.drop_zero]), g⟩ <;> simp -dsimp -implicitDefEqProofs (maxSteps := 2000000) (disch := first | assumption | omega | (simp only [AW.next_push, AW.next_put]; omega) | ((repeat refine Fresh.push ?_ _); assumption) | (simp only [same_int, same_bool, same_ptr, same_slice, same_sliceP, same_nil, same_agg2, same_string]; done) | (simp [oneCell, AW.next_push]; done) | fail) only [go_sem, Nat.reduceEqDiff, reduceIte, Nat.reduceAdd, Int.toNat_natCast, Nat.add_zero, Owes_true, dayAt] <;> rfl
  rintro k t ds w2 ⟨i, hii, rfl, rfl, e1, e5, e17, e18, e19, hall, g2⟩
  by_cases hlt : (i : Int) < (l.length : Int)
  case neg =>
    obtain rfl : i = l.length := by omega
    simp -dsimp -implicitDefEqProofs (maxSteps := 2000000) (disch := first | assumption | omega | (simp only [AW.next_push, AW.next_put]; omega) | ((repeat refine Fresh.push ?_ _); assumption) | (simp only [same_int, same_bool, same_ptr, same_slice, same_sliceP, same_nil, same_agg2, same_string]; done) | (simp [oneCell, AW.next_push]; done) | fail) only [go_sem, Nat.reduceEqDiff, reduceIte, Nat.reduceAdd, Int.toNat_natCast, Nat.add_zero, Owes_true, Tryz.results36, e1, e5, e17, e18, e19, hlt]
    exact ⟨by rw [actsB, hall, List.drop_length, actsTo, decide_eq_true (by omega)]; rfl, g2⟩
  have hlt' : i < l.length := by omega
  obtain ⟨b1, o1, rfl, hb1, hcell⟩ := hat i hlt'
  have a0 := hcell _ g2.1 0 _ rfl
  have a1 := hcell _ g2.1 1 _ rfl
  have a2 := hcell _ g2.1 2 _ rfl
  rw [Nat.add_zero] at a0
  have hdrop := actsTo_drop (s := d.st) hlt'
  have hdn : dayAt d.st l (i + 1) = l[i].D := by rw [dayAt, if_neg (by omega), Nat.add_sub_cancel, getD_at hlt']
  generalize hA : l[i] = a at *
  obtain ⟨D, K, N⟩ := a
  simp only at a0 a1 a2
  have f2 := g2.2
  have g3 := g2.push (.cells [.int .i64 D, .int .i64 K, .int .i64 N] 85 w2.next 0 0)
  have hN := Own.new f2 85 [.int .i64 D, .int .i64 K, .int .i64 N]
  have u0 := hN.cell (o := 0) rfl rfl
  have u1 := hN.cell (o := 1) rfl rfl
  have u2 := hN.cell (o := 2) rfl rfl
  simp -dsimp -implicitDefEqProofs (maxSteps := 2000000) (disch := first | assumption | omega | (simp only [AW.next_push, AW.next_put]; omega) | ((repeat refine Fresh.push ?_ _); assumption) | (simp only [same_int, same_bool, same_ptr, same_slice, same_sliceP, same_nil, same_agg2, same_string]; done) | (simp [oneCell, AW.next_push]; done) | fail) only [go_sem, Nat.reduceEqDiff, reduceIte, Nat.reduceAdd, Int.toNat_natCast, Nat.add_zero, Owes_true, Tryz.results36, e1, e5, e17, e18, e19, hlt, indexV_eq, a0, a1, a2, Nat.zero_add, u0]
  apply callV_of (e := rfl)
  · exact within_ok _ _ _ _
  rintro _ _ ⟨rfl, rfl⟩
  cases hr : inR (dayAt d.st l i) D 36500 with
  | false =>
    have hbad : actsTo (dayAt d.st l i) (l.drop i) = false := by rw [hdrop]; simp [hr]
    simp -dsimp -implicitDefEqProofs (maxSteps := 2000000) (disch := first | assumption | omega | (simp only [AW.next_push, AW.next_put]; omega) | ((repeat refine Fresh.push ?_ _); assumption) | (simp only [same_int, same_bool, same_ptr, same_slice, same_sliceP, same_nil, same_agg2, same_string]; done) | (simp [oneCell, AW.next_push]; done) | fail) only [go_sem, Nat.reduceEqDiff, reduceIte, Nat.reduceAdd, Int.toNat_natCast, Nat.add_zero, Owes_true, Tryz.results36]
    exact ⟨by rw [actsB, hall, hbad, Bool.and_false], g3⟩
  | true =>
  have hday := (inR_iff _ _ _).1 hr
  simp -dsimp -implicitDefEqProofs (maxSteps := 2000000) (disch := first | assumption | omega | (simp only [AW.next_push, AW.next_put]; omega) | ((repeat refine Fresh.push ?_ _); assumption) | (simp only [same_int, same_bool, same_ptr, same_slice, same_sliceP, same_nil, same_agg2, same_string]; done) | (simp [oneCell, AW.next_push]; done) | fail) only [go_sem, Nat.reduceEqDiff, reduceIte, Nat.reduceAdd, Int.toNat_natCast, Nat.add_zero, Owes_true, Tryz.results36, e1, e5, e17, e18, e19, Nat.zero_add, u0, u1, u2]
  apply callV_of (e := rfl)
  · exact ofKind_ok D K N _ g3.2
  rintro _ w4 ⟨rfl, hg4⟩
  have g4 := g3.trans hg4
  by_cases k1 : K = 1
  · subst k1
    have hkv : kindV D 1 N = .iface 124 (.agg #[.int .i64 D, .int .i64 1, .int .i64 N]) := rfl
    have hfb : fitB ⟨D, 1, N⟩ (decide (i + 1 = l.length)) = (inR 1 N 1073741824) := rfl
    rw [hfb] at hdrop
    simp -dsimp -implicitDefEqProofs (maxSteps := 2000000) (disch := first | assumption | omega | (simp only [AW.next_push, AW.next_put]; omega) | ((repeat refine Fresh.push ?_ _); assumption) | (simp only [same_int, same_bool, same_ptr, same_slice, same_sliceP, same_nil, same_agg2, same_string]; done) | (simp [oneCell, AW.next_push]; done) | fail) only [go_sem, Nat.reduceEqDiff, reduceIte, Nat.reduceAdd, Int.toNat_natCast, Nat.add_zero, Owes_true, Tryz.results36, hkv]
    apply callV_of (e := rfl)
    · exact fit136_ok D 1 N w4 g4.2
    rintro _ w5 ⟨rfl, hg5⟩
    have g5 := g4.trans hg5
    cases hq : (inR 1 N 1073741824) with
    | false =>
      have hbad : actsTo (dayAt d.st l i) (l.drop i) = false := by rw [hdrop, hq, Bool.and_false]; rfl
      simp -dsimp -implicitDefEqProofs (maxSteps := 2000000) (disch := first | assumption | omega | (simp only [AW.next_push, AW.next_put]; omega) | ((repeat refine Fresh.push ?_ _); assumption) | (simp only [same_int, same_bool, same_ptr, same_slice, same_sliceP, same_nil, same_agg2, same_string]; done) | (simp [oneCell, AW.next_push]; done) | fail) only [go_sem, Nat.reduceEqDiff, reduceIte, Nat.reduceAdd, Int.toNat_natCast, Nat.add_zero, Owes_true, Tryz.results36]
      exact ⟨by rw [actsB, hall, hbad, Bool.and_false], g5⟩
    | true =>
      simp -dsimp -implicitDefEqProofs (maxSteps := 2000000) (disch := first | assumption | omega | (simp only [AW.next_push, AW.next_put]; omega) | ((repeat refine Fresh.push ?_ _); assumption) | (simp only [same_int, same_bool, same_ptr, same_slice, same_sliceP, same_nil, same_agg2, same_string]; done) | (simp [oneCell, AW.next_push]; done) | fail) only [go_sem, Nat.reduceEqDiff, reduceIte, Nat.reduceAdd, Int.toNat_natCast, Nat.add_zero, Owes_true, Tryz.results36, e19]
      refine ⟨_, by omega, i + 1, by omega, rfl, rfl, by (simp -dsimp -implicitDefEqProofs (maxSteps := 2000000) (disch := first | assumption | omega | (simp only [AW.next_push, AW.next_put]; omega) | ((repeat refine Fresh.push ?_ _); assumption) | (simp only [same_int, same_bool, same_ptr, same_slice, same_sliceP, same_nil, same_agg2, same_string]; done) | (simp [oneCell, AW.next_push]; done) | fail) only [go_sem, Nat.reduceEqDiff, reduceIte, Nat.reduceAdd, Int.toNat_natCast, Nat.add_zero, Owes_true, e1, hdn]; try rfl), by (simp -dsimp -implicitDefEqProofs (maxSteps := 2000000) (disch := first | assumption | omega | (simp only [AW.next_push, AW.next_put]; omega) | ((repeat refine Fresh.push ?_ _); assumption) | (simp only [same_int, same_bool, same_ptr, same_slice, same_sliceP, same_nil, same_agg2, same_string]; done) | (simp [oneCell, AW.next_push]; done) | fail) only [go_sem, Nat.reduceEqDiff, reduceIte, Nat.reduceAdd, Int.toNat_natCast, Nat.add_zero, Owes_true, e5, hdn]; try rfl), by (simp -dsimp -implicitDefEqProofs (maxSteps := 2000000) (disch := first | assumption | omega | (simp only [AW.next_push, AW.next_put]; omega) | ((repeat refine Fresh.push ?_ _); assumption) | (simp only [same_int, same_bool, same_ptr, same_slice, same_sliceP, same_nil, same_agg2, same_string]; done) | (simp [oneCell, AW.next_push]; done) | fail) only [go_sem, Nat.reduceEqDiff, reduceIte, Nat.reduceAdd, Int.toNat_natCast, Nat.add_zero, Owes_true, e17, hdn]; try rfl), by (simp -dsimp -implicitDefEqProofs (maxSteps := 2000000) (disch := first | assumption | omega | (simp only [AW.next_push, AW.next_put]; omega) | ((repeat refine Fresh.push ?_ _); assumption) | (simp only [same_int, same_bool, same_ptr, same_slice, same_sliceP, same_nil, same_agg2, same_string]; done) | (simp [oneCell, AW.next_push]; done) | fail) only [go_sem, Nat.reduceEqDiff, reduceIte, Nat.reduceAdd, Int.toNat_natCast, Nat.add_zero, Owes_true, e18, hdn]; try rfl), by (simp -dsimp -implicitDefEqProofs (maxSteps := 2000000) (disch := first | assumption | omega | (simp only [AW.next_push, AW.next_put]; omega) | ((repeat refine Fresh.push ?_ _); assumption) | (simp only [same_int, same_bool, same_ptr, same_slice, same_sliceP, same_nil, same_agg2, same_string]; done) | (simp [oneCell, AW.next_push]; done) | fail) only [go_sem, Nat.reduceEqDiff, reduceIte, Nat.reduceAdd, Int.toNat_natCast, Nat.add_zero, Owes_true, e19, hdn]; try rfl), by rw [hall, hdrop, hr, hq]; rfl, g5⟩
  by_cases k2 : K = 2
  · subst k2
    have hkv : kindV D 2 N = .iface 125 (.agg #[.int .i64 D, .int .i64 2, .int .i64 N]) := rfl
    have hfb : fitB ⟨D, 2, N⟩ (decide (i + 1 = l.length)) = (decide (N = 0)) := rfl
    rw [hfb] at hdrop
    simp -dsimp -implicitDefEqProofs (maxSteps := 2000000) (disch := first | assumption | omega | (simp only [AW.next_push, AW.next_put]; omega) | ((repeat refine Fresh.push ?_ _); assumption) | (simp only [same_int, same_bool, same_ptr, same_slice, same_sliceP, same_nil, same_agg2, same_string]; done) | (simp [oneCell, AW.next_push]; done) | fail) only [go_sem, Nat.reduceEqDiff, reduceIte, Nat.reduceAdd, Int.toNat_natCast, Nat.add_zero, Owes_true, Tryz.results36, hkv]
    apply callV_of (e := rfl)
    · exact fit137_ok D 2 N w4 g4.2
    rintro _ w5 ⟨rfl, hg5⟩
    have g5 := g4.trans hg5
    cases hq : (decide (N = 0)) with
    | false =>
      have hbad : actsTo (dayAt d.st l i) (l.drop i) = false := by rw [hdrop, hq, Bool.and_false]; rfl
      simp -dsimp -implicitDefEqProofs (maxSteps := 2000000) (disch := first | assumption | omega | (simp only [AW.next_push, AW.next_put]; omega) | ((repeat refine Fresh.push ?_ _); assumption) | (simp only [same_int, same_bool, same_ptr, same_slice, same_sliceP, same_nil, same_agg2, same_string]; done) | (simp [oneCell, AW.next_push]; done) | fail) only [go_sem, Nat.reduceEqDiff, reduceIte, Nat.reduceAdd, Int.toNat_natCast, Nat.add_zero, Owes_true, Tryz.results36]
      exact ⟨by rw [actsB, hall, hbad, Bool.and_false], g5⟩
    | true =>
      simp -dsimp -implicitDefEqProofs (maxSteps := 2000000) (disch := first | assumption | omega | (simp only [AW.next_push, AW.next_put]; omega) | ((repeat refine Fresh.push ?_ _); assumption) | (simp only [same_int, same_bool, same_ptr, same_slice, same_sliceP, same_nil, same_agg2, same_string]; done) | (simp [oneCell, AW.next_push]; done) | fail) only [go_sem, Nat.reduceEqDiff, reduceIte, Nat.reduceAdd, Int.toNat_natCast, Nat.add_zero, Owes_true, Tryz.results36, e19]
      refine ⟨_, by omega, i + 1, by omega, rfl, rfl, by (simp -dsimp -implicitDefEqProofs (maxSteps := 2000000) (disch := first | assumption | omega | (simp only [AW.next_push, AW.next_put]; omega) | ((repeat refine Fresh.push ?_ _); assumption) | (simp only [same_int, same_bool, same_ptr, same_slice, same_sliceP, same_nil, same_agg2, same_string]; done) | (simp [oneCell, AW.next_push]; done) | fail) only [go_sem, Nat.reduceEqDiff, reduceIte, Nat.reduceAdd, Int.toNat_natCast, Nat.add_zero, Owes_true, e1, hdn]; try rfl), by (simp -dsimp -implicitDefEqProofs (maxSteps := 2000000) (disch := first | assumption | omega | (simp only [AW.next_push, AW.next_put]; omega) | ((repeat refine Fresh.push ?_ _); assumption) | (simp only [same_int, same_bool, same_ptr, same_slice, same_sliceP, same_nil, same_agg2, same_string]; done) | (simp [oneCell, AW.next_push]; done) | fail) only [go_sem, Nat.reduceEqDiff, reduceIte, Nat.reduceAdd, Int.toNat_natCast, Nat.add_zero, Owes_true, e5, hdn]; try rfl), by (simp -dsimp -implicitDefEqProofs (maxSteps := 2000000) (disch := first | assumption | omega | (simp only [AW.next_push, AW.next_put]; omega) | ((repeat refine Fresh.push ?_ _); assumption) | (simp only [same_int, same_bool, same_ptr, same_slice, same_sliceP, same_nil, same_agg2, same_string]; done) | (simp [oneCell, AW.next_push]; done) | fail) only [go_sem, Nat.reduceEqDiff, reduceIte, Nat.reduceAdd, Int.toNat_natCast, Nat.add_zero, Owes_true, e17, hdn]; try rfl), by (simp -dsimp -implicitDefEqProofs (maxSteps := 2000000) (disch := first | assumption | omega | (simp only [AW.next_push, AW.next_put]; omega) | ((repeat refine Fresh.push ?_ _); assumption) | (simp only [same_int, same_bool, same_ptr, same_slice, same_sliceP, same_nil, same_agg2, same_string]; done) | (simp [oneCell, AW.next_push]; done) | fail) only [go_sem, Nat.reduceEqDiff, reduceIte, Nat.reduceAdd, Int.toNat_natCast, Nat.add_zero, Owes_true, e18, hdn]; try rfl), by (simp -dsimp -implicitDefEqProofs (maxSteps := 2000000) (disch := first | assumption | omega | (simp only [AW.next_push, AW.next_put]; omega) | ((repeat refine Fresh.push ?_ _); assumption) | (simp only [same_int, same_bool, same_ptr, same_slice, same_sliceP, same_nil, same_agg2, same_string]; done) | (simp [oneCell, AW.next_push]; done) | fail) only [go_sem, Nat.reduceEqDiff, reduceIte, Nat.reduceAdd, Int.toNat_natCast, Nat.add_zero, Owes_true, e19, hdn]; try rfl), by rw [hall, hdrop, hr, hq]; rfl, g5⟩
  by_cases k3 : K = 3
  · subst k3
    have hkv : kindV D 3 N = .iface 126 (.agg #[.int .i64 D, .int .i64 3, .int .i64 N]) := rfl
    have hfb : fitB ⟨D, 3, N⟩ (decide (i + 1 = l.length)) = (inR 1 N 366) := rfl
    rw [hfb] at hdrop
    simp -dsimp -implicitDefEqProofs (maxSteps := 2000000) (disch := first | assumption | omega | (simp only [AW.next_push, AW.next_put]; omega) | ((repeat refine Fresh.push ?_ _); assumption) | (simp only [same_int, same_bool, same_ptr, same_slice, same_sliceP, same_nil, same_agg2, same_string]; done) | (simp [oneCell, AW.next_push]; done) | fail) only [go_sem, Nat.reduceEqDiff, reduceIte, Nat.reduceAdd, Int.toNat_natCast, Nat.add_zero, Owes_true, Tryz.results36, hkv]
    apply callV_of (e := rfl)
    · exact fit138_ok D 3 N w4 g4.2
    rintro _ w5 ⟨rfl, hg5⟩
    have g5 := g4.trans hg5
    cases hq : (inR 1 N 366) with
    | false =>
      have hbad : actsTo (dayAt d.st l i) (l.drop i) = false := by rw [hdrop, hq, Bool.and_false]; rfl
      simp -dsimp -implicitDefEqProofs (maxSteps := 2000000) (disch := first | assumption | omega | (simp only [AW.next_push, AW.next_put]; omega) | ((repeat refine Fresh.push ?_ _); assumption) | (simp only [same_int, same_bool, same_ptr, same_slice, same_sliceP, same_nil, same_agg2, same_string]; done) | (simp [oneCell, AW.next_push]; done) | fail) only [go_sem, Nat.reduceEqDiff, reduceIte, Nat.reduceAdd, Int.toNat_natCast, Nat.add_zero, Owes_true, Tryz.results36]
      exact ⟨by rw [actsB, hall, hbad, Bool.and_false], g5⟩
    | true =>
      simp -dsimp -implicitDefEqProofs (maxSteps := 2000000) (disch := first | assumption | omega | (simp only [AW.next_push, AW.next_put]; omega) | ((repeat refine Fresh.push ?_ _); assumption) | (simp only [same_int, same_bool, same_ptr, same_slice, same_sliceP, same_nil, same_agg2, same_string]; done) | (simp [oneCell, AW.next_push]; done) | fail) only [go_sem, Nat.reduceEqDiff, reduceIte, Nat.reduceAdd, Int.toNat_natCast, Nat.add_zero, Owes_true, Tryz.results36, e19]
      refine ⟨_, by omega, i + 1, by omega, rfl, rfl, by (simp -dsimp -implicitDefEqProofs (maxSteps := 2000000) (disch := first | assumption | omega | (simp only [AW.next_push, AW.next_put]; omega) | ((repeat refine Fresh.push ?_ _); assumption) | (simp only [same_int, same_bool, same_ptr, same_slice, same_sliceP, same_nil, same_agg2, same_string]; done) | (simp [oneCell, AW.next_push]; done) | fail) only [go_sem, Nat.reduceEqDiff, reduceIte, Nat.reduceAdd, Int.toNat_natCast, Nat.add_zero, Owes_true, e1, hdn]; try rfl), by (simp -dsimp -implicitDefEqProofs (maxSteps := 2000000) (disch := first | assumption | omega | (simp only [AW.next_push, AW.next_put]; omega) | ((repeat refine Fresh.push ?_ _); assumption) | (simp only [same_int, same_bool, same_ptr, same_slice, same_sliceP, same_nil, same_agg2, same_string]; done) | (simp [oneCell, AW.next_push]; done) | fail) only [go_sem, Nat.reduceEqDiff, reduceIte, Nat.reduceAdd, Int.toNat_natCast, Nat.add_zero, Owes_true, e5, hdn]; try rfl), by (simp -dsimp -implicitDefEqProofs (maxSteps := 2000000) (disch := first | assumption | omega | (simp only [AW.next_push, AW.next_put]; omega) | ((repeat refine Fresh.push ?_ _); assumption) | (simp only [same_int, same_bool, same_ptr, same_slice, same_sliceP, same_nil, same_agg2, same_string]; done) | (simp [oneCell, AW.next_push]; done) | fail) only [go_sem, Nat.reduceEqDiff, reduceIte, Nat.reduceAdd, Int.toNat_natCast, Nat.add_zero, Owes_true, e17, hdn]; try rfl), by (simp -dsimp -implicitDefEqProofs (maxSteps := 2000000) (disch := first | assumption | omega | (simp only [AW.next_push, AW.next_put]; omega) | ((repeat refine Fresh.push ?_ _); assumption) | (simp only [same_int, same_bool, same_ptr, same_slice, same_sliceP, same_nil, same_agg2, same_string]; done) | (simp [oneCell, AW.next_push]; done) | fail) only [go_sem, Nat.reduceEqDiff, reduceIte, Nat.reduceAdd, Int.toNat_natCast, Nat.add_zero, Owes_true, e18, hdn]; try rfl), by (simp -dsimp -implicitDefEqProofs (maxSteps := 2000000) (disch := first | assumption | omega | (simp only [AW.next_push, AW.next_put]; omega) | ((repeat refine Fresh.push ?_ _); assumption) | (simp only [same_int, same_bool, same_ptr, same_slice, same_sliceP, same_nil, same_agg2, same_string]; done) | (simp [oneCell, AW.next_push]; done) | fail) only [go_sem, Nat.reduceEqDiff, reduceIte, Nat.reduceAdd, Int.toNat_natCast, Nat.add_zero, Owes_true, e19, hdn]; try rfl), by rw [hall, hdrop, hr, hq]; rfl, g5⟩
  by_cases k4 : K = 4
  · subst k4
    have hkv : kindV D 4 N = .iface 107 (.agg #[.int .i64 D, .int .i64 4, .int .i64 N]) := rfl
    have hfb : fitB ⟨D, 4, N⟩ (decide (i + 1 = l.length)) = (decide (i + 1 = l.length) && decide (N = 0)) := rfl
    rw [hfb] at hdrop
    have f4 := g4.2
    have g5 := g4.push (.cells [.int .i64 D, .int .i64 4, .int .i64 N] 107 w4.next 0 0)
    have hM := Own.new f4 107 [.int .i64 D, .int .i64 4, .int .i64 N]
    have v0 := hM.cell (o := 0) rfl rfl
    have v1 := hM.cell (o := 1) rfl rfl
    have v2 := hM.cell (o := 2) rfl rfl
    by_cases hlast : i + 1 = l.length
    · have hb0 : ¬ 0 < (l.length : Int) - 1 - (i : Int) := by omega
      have hld : decide (i + 1 = l.length) = true := decide_eq_true hlast
      simp -dsimp -implicitDefEqProofs (maxSteps := 2000000) (disch := first | assumption | omega | (simp only [AW.next_push, AW.next_put]; omega) | ((repeat refine Fresh.push ?_ _); assumption) | (simp only [same_int, same_bool, same_ptr, same_slice, same_sliceP, same_nil, same_agg2, same_string]; done) | (simp [oneCell, AW.next_push]; done) | fail) only [go_sem, Nat.reduceEqDiff, reduceIte, Nat.reduceAdd, Int.toNat_natCast, Nat.add_zero, Owes_true, Tryz.results36, hkv, hb0, v0, v1, v2, Nat.zero_add]
      apply callV_of (e := rfl)
      · exact fit88_ok D 4 N _ g5.2
      rintro _ w6 ⟨rfl, hg6⟩
      have g6 := g5.trans hg6
      by_cases hN0 : N = 0
      · have hd0 : decide (N = 0) = true := decide_eq_true hN0
        simp -dsimp -implicitDefEqProofs (maxSteps := 2000000) (disch := first | assumption | omega | (simp only [AW.next_push, AW.next_put]; omega) | ((repeat refine Fresh.push ?_ _); assumption) | (simp only [same_int, same_bool, same_ptr, same_slice, same_sliceP, same_nil, same_agg2, same_string]; done) | (simp [oneCell, AW.next_push]; done) | fail) only [go_sem, Nat.reduceEqDiff, reduceIte, Nat.reduceAdd, Int.toNat_natCast, Nat.add_zero, Owes_true, Tryz.results36, e19, hd0]
        refine ⟨_, by omega, i + 1, by omega, rfl, rfl, by (simp -dsimp -implicitDefEqProofs (maxSteps := 2000000) (disch := first | assumption | omega | (simp only [AW.next_push, AW.next_put]; omega) | ((repeat refine Fresh.push ?_ _); assumption) | (simp only [same_int, same_bool, same_ptr, same_slice, same_sliceP, same_nil, same_agg2, same_string]; done) | (simp [oneCell, AW.next_push]; done) | fail) only [go_sem, Nat.reduceEqDiff, reduceIte, Nat.reduceAdd, Int.toNat_natCast, Nat.add_zero, Owes_true, e1, hdn]; try rfl), by (simp -dsimp -implicitDefEqProofs (maxSteps := 2000000) (disch := first | assumption | omega | (simp only [AW.next_push, AW.next_put]; omega) | ((repeat refine Fresh.push ?_ _); assumption) | (simp only [same_int, same_bool, same_ptr, same_slice, same_sliceP, same_nil, same_agg2, same_string]; done) | (simp [oneCell, AW.next_push]; done) | fail) only [go_sem, Nat.reduceEqDiff, reduceIte, Nat.reduceAdd, Int.toNat_natCast, Nat.add_zero, Owes_true, e5, hdn]; try rfl), by (simp -dsimp -implicitDefEqProofs (maxSteps := 2000000) (disch := first | assumption | omega | (simp only [AW.next_push, AW.next_put]; omega) | ((repeat refine Fresh.push ?_ _); assumption) | (simp only [same_int, same_bool, same_ptr, same_slice, same_sliceP, same_nil, same_agg2, same_string]; done) | (simp [oneCell, AW.next_push]; done) | fail) only [go_sem, Nat.reduceEqDiff, reduceIte, Nat.reduceAdd, Int.toNat_natCast, Nat.add_zero, Owes_true, e17, hdn]; try rfl), by (simp -dsimp -implicitDefEqProofs (maxSteps := 2000000) (disch := first | assumption | omega | (simp only [AW.next_push, AW.next_put]; omega) | ((repeat refine Fresh.push ?_ _); assumption) | (simp only [same_int, same_bool, same_ptr, same_slice, same_sliceP, same_nil, same_agg2, same_string]; done) | (simp [oneCell, AW.next_push]; done) | fail) only [go_sem, Nat.reduceEqDiff, reduceIte, Nat.reduceAdd, Int.toNat_natCast, Nat.add_zero, Owes_true, e18, hdn]; try rfl), by (simp -dsimp -implicitDefEqProofs (maxSteps := 2000000) (disch := first | assumption | omega | (simp only [AW.next_push, AW.next_put]; omega) | ((repeat refine Fresh.push ?_ _); assumption) | (simp only [same_int, same_bool, same_ptr, same_slice, same_sliceP, same_nil, same_agg2, same_string]; done) | (simp [oneCell, AW.next_push]; done) | fail) only [go_sem, Nat.reduceEqDiff, reduceIte, Nat.reduceAdd, Int.toNat_natCast, Nat.add_zero, Owes_true, e19, hdn]; try rfl), by rw [hall, hdrop, hr, hld, hd0]; rfl, g6⟩
      · have hbad : actsTo (dayAt d.st l i) (l.drop i) = false := by rw [hdrop, decide_eq_false hN0, Bool.and_false, Bool.and_false]; rfl
        simp -dsimp -implicitDefEqProofs (maxSteps := 2000000) (disch := first | assumption | omega | (simp only [AW.next_push, AW.next_put]; omega) | ((repeat refine Fresh.push ?_ _); assumption) | (simp only [same_int, same_bool, same_ptr, same_slice, same_sliceP, same_nil, same_agg2, same_string]; done) | (simp [oneCell, AW.next_push]; done) | fail) only [go_sem, Nat.reduceEqDiff, reduceIte, Nat.reduceAdd, Int.toNat_natCast, Nat.add_zero, Owes_true, Tryz.results36, hN0]
        exact ⟨by rw [actsB, hall, hbad, Bool.and_false], g6⟩
    · have hb0 : 0 < (l.length : Int) - 1 - (i : Int) := by omega
      have hbad : actsTo (dayAt d.st l i) (l.drop i) = false := by rw [hdrop, decide_eq_false hlast, Bool.false_and, Bool.and_false]; rfl
      simp -dsimp -implicitDefEqProofs (maxSteps := 2000000) (disch := first | assumption | omega | (simp only [AW.next_push, AW.next_put]; omega) | ((repeat refine Fresh.push ?_ _); assumption) | (simp only [same_int, same_bool, same_ptr, same_slice, same_sliceP, same_nil, same_agg2, same_string]; done) | (simp [oneCell, AW.next_push]; done) | fail) only [go_sem, Nat.reduceEqDiff, reduceIte, Nat.reduceAdd, Int.toNat_natCast, Nat.add_zero, Owes_true, Tryz.results36, hkv, hb0, v0, v1, v2, Nat.zero_add]
      exact ⟨by rw [actsB, hall, hbad, Bool.and_false], g5⟩
  · have hkv : kindV D K N = .nilIface := by unfold kindV; rw [if_neg k1, if_neg k2, if_neg k3, if_neg k4]
    have hfb : fitB ⟨D, K, N⟩ (decide (i + 1 = l.length)) = false := by unfold fitB; rw [if_neg k1, if_neg k2, if_neg k3, if_neg k4]
    have hbad : actsTo (dayAt d.st l i) (l.drop i) = false := by rw [hdrop, hfb, Bool.and_false]; rfl
    simp -dsimp -implicitDefEqProofs (maxSteps := 2000000) (disch := first | assumption | omega | (simp only [AW.next_push, AW.next_put]; omega) | ((repeat refine Fresh.push ?_ _); assumption) | (simp only [same_int, same_bool, same_ptr, same_slice, same_sliceP, same_nil, same_agg2, same_string]; done) | (simp [oneCell, AW.next_push]; done) | fail) only [go_sem, Nat.reduceEqDiff, reduceIte, Nat.reduceAdd, Int.toNat_natCast, Nat.add_zero, Owes_true, Tryz.results36, hkv]
    exact ⟨by rw [actsB, hall, hbad, Bool.and_false], g4⟩
end Go.Proofs

/- Loans: a run. -/
namespace Go.Proofs
open Go Go.RowKit Go.Sim
set_option maxRecDepth 100000
theorem bld70 (a : Int) : bldQ [(0, 1), (1, 1), (2, 1), (3, 1), (4, 1)] [.int .i64 0, .int .i64 0, .int .i64 0, .int .i64 0, .bool false] [(0, .int .i64 a), (4, .bool true)] = some (.agg #[.int .i64 a, .int .i64 0, .int .i64 0, .int .i64 0, .bool true]) := by kernel_rfl
theorem bld115 (d : DealN) (p : Option Addr) (n c : Nat) (a : Int) : bldQ [(0, 5), (5, 10), (15, 4), (19, 1), (20, 1)] [.int .i64 0, .int .i64 0, .int .i64 0, .int .i64 0, .bool false, .int .i64 0, .int .i64 0, .int .i64 0, .int .i64 0, .int .i64 0, .int .i64 0, .int .i64 0, .slice none 0 0, .int .i64 0, .int .i64 0, .int .i64 0, .int .i64 0, .int .i64 0, .int .i64 0, .int .i64 0, .int .i64 0]
    [(0, .agg #[.int .i64 a, .int .i64 0, .int .i64 0, .int .i64 0, .bool true]), (1, .agg #[.int .i64 d.r, .int .i64 d.c, .int .i64 d.a, .int .i64 d.fr, .int .i64 d.fe, .int .i64 d.tm, .int .i64 d.gr, (.slice p n c), .int .i64 d.st, .int .i64 d.sm]), (3, .int .i64 d.st), (4, .int .i64 d.st)] = some (.agg #[.int .i64 a, .int .i64 0, .int .i64 0, .int .i64 0, .bool true, .int .i64 d.r, .int .i64 d.c, .int .i64 d.a, .int .i64 d.fr, .int .i64 d.fe, .int .i64 d.tm, .int .i64 d.gr, .slice p n c, .int .i64 d.st, .int .i64 d.sm, .int .i64 0, .int .i64 0, .int .i64 0, .int .i64 0, .int .i64 d.st, .int .i64 d.st]) := by kernel_rfl
theorem bsQ_15 {e : TypeId} {z0 z1 z2 z3 z4 : Value} (a b c g : Int) (p : Bool) : bsQ e 1 5 [z0, z1, z2, z3, z4] [(0, .agg #[.int .i64 a, .int .i64 b, .int .i64 c, .int .i64 g, .bool p])] = some ([.int .i64 a, .int .i64 b, .int .i64 c, .int .i64 g, .bool p], e, fun n => .slice (some ⟨n, 0, none⟩) 1 1) := by
  simp [bsQ, Instr.fill, Value.cells]
theorem Tryz.bs30 (t : Tmps) (l : List (Nat × Operand)) : makes (prg Tryz.prog) t (.buildSlice 30 1 ⟨l⟩) = bsQ 37 1 5 [.int .i64 0, .int .i64 0, .int .i64 0, .int .i64 0, .bool false] (l.map fun p => (p.1, ev t p.2)) := makes_bs Tryz.ty30 Tryz.ty37 rfl (by kernel_rfl)
attribute [go_sem] bld70 bld115 bsQ_15 Tryz.bs30
set_option maxHeartbeats 1000000 in
theorem begin_ok (d : DealN) (cl : List Int) (v : Value) (w : AW) (f : Fresh w) (hs : ArrOf w 1 icells v cl) : CallT Tryz.prog Tryz.T1 (.fn (.func 37) #[]) #[.agg #[.int .i64 d.r, .int .i64 d.c, .int .i64 d.a, .int .i64 d.fr, .int .i64 d.fe, .int .i64 d.tm, .int .i64 d.gr, v, .int .i64 d.st, .int .i64 d.sm]] w (fun r w' => ∃ b, r = .pointer (some ⟨b, 0, none⟩) ∧ Own w' b 60 (lcells d v (beginL d)) ∧ w.next ≤ b ∧ Grown w w') := by
  obtain ⟨p, cap, rfl, _⟩ := id hs.open
  have g := (Grown.refl f).push (.cells [.int .i64 d.r, .int .i64 d.c, .int .i64 d.a, .int .i64 d.fr, .int .i64 d.fe, .int .i64 d.tm, .int .i64 d.gr, (.slice p cl.length cap), .int .i64 d.st, .int .i64 d.sm] 28 w.next 0 0)
  have hO := Own.new f 28 [.int .i64 d.r, .int .i64 d.c, .int .i64 d.a, .int .i64 d.fr, .int .i64 d.fe, .int .i64 d.tm, .int .i64 d.gr, (.slice p cl.length cap), .int .i64 d.st, .int .i64 d.sm]
  have hN := Own.new g.2 60 (lcells d (.slice p cl.length cap) (beginL d))
  have g2 := g.push (.cells (lcells d (.slice p cl.length cap) (beginL d)) 60 (w.push (.cells [.int .i64 d.r, .int .i64 d.c, .int .i64 d.a, .int .i64 d.fr, .int .i64 d.fe, .int .i64 d.tm, .int .i64 d.gr, (.slice p cl.length cap), .int .i64 d.st, .int .i64 d.sm] 28 w.next 0 0)).next 0 0)
  unfold lcells beginL at hN g2
  have c0 := (hO).cell (o := 0) rfl rfl
  have c1 := (hO).cell (o := 1) rfl rfl
  have c2 := (hO).cell (o := 2) rfl rfl
  have c3 := (hO).cell (o := 3) rfl rfl
  have c4 := (hO).cell (o := 4) rfl rfl
  have c5 := (hO).cell (o := 5) rfl rfl
  have c6 := (hO).cell (o := 6) rfl rfl
  have c7 := (hO).cell (o := 7) rfl rfl
  have c8 := (hO).cell (o := 8) rfl rfl
  have c9 := (hO).cell (o := 9) rfl rfl
  refine callT_code rfl Tryz.func37 rfl Tryz.s37_eq rfl ?_
  unfold Tryz.s37
  simp -dsimp -implicitDefEqProofs (maxSteps := 2000000) (disch := first | assumption | omega | (simp only [AW.next_push, AW.next_put]; omega) | ((repeat refine Fresh.push ?_ _); assumption) | (simp only [same_int, same_bool, same_ptr, same_slice, same_sliceP, same_nil, same_agg2, same_string]; done) | (simp [oneCell, AW.next_push]; done) | fail) only [go_sem, Nat.reduceEqDiff, reduceIte, Nat.reduceAdd, Int.toNat_natCast, Nat.add_zero, Owes_true, Tryz.results37, Nat.zero_add, c0, c1, c2, c3, c4, c5, c6, c7, c8, c9]
  rw [AW.next_push] at hN g2
  exact ⟨_, rfl, hN, by omega, g2⟩
def accells (x : LN) : List Value := [.int .i64 x.P, .int .i64 x.C, .int .i64 x.Q, .int .i64 x.A, .bool x.op]
theorem accells_len (x : LN) : (accells x).length = 5 := rfl
theorem accells_one (x : LN) : ∀ v ∈ accells x, oneCell v = true := by intro v hv; simp [accells] at hv; rcases hv with h | h | h | h | h <;> subst h <;> rfl
def runE (d : DealN) (cl : List Int) (l : List ActN) : Int := if dealB d cl = false then 23 else if actsB d l = false then 24 else (goL d cl (beginL d) l).2.2
def runAt (d : DealN) (cl : List Int) (l : List ActN) : Nat := if dealB d cl = false then 0 else if actsB d l = false then 0 else (goL d cl (beginL d) l).2.1.length
def RunPost (d : DealN) (cl : List Int) (l : List ActN) (v : Value) (w : AW) : Value → AW → Prop := fun r w' => Grown w w' ∧
  ((runE d cl l ≠ 0 ∧ r = .tuple #[.pointer none, .slice none 0 0, .int .i64 (runAt d cl l), .int .i64 (runE d cl l)]) ∨
   (runE d cl l = 0 ∧ dealB d cl = true ∧ actsB d l = true ∧ ∃ b s, r = .tuple #[.pointer (some ⟨b, 0, none⟩), s, .int .i64 (l.length : Int), .int .i64 0] ∧ w.next ≤ b ∧ Own w' b 60 (lcells d v (goL d cl (beginL d) l).1) ∧ (goL d cl (beginL d) l).2.1.length = l.length ∧ AOwn w.next w' 37 5 s l.length ((goL d cl (beginL d) l).2.1.flatMap accells) ∧ ∃ j, j ≤ 32 ∧ LOk d j (goL d cl (beginL d) l).1))
set_option maxHeartbeats 1000000 in
theorem run_ok (d : DealN) (cl : List Int) (l : List ActN) (v u : Value) (w : AW) (f : Fresh w) (hs : ArrOf w 1 icells v cl) (ht : ArrOf w 3 acells u l) :
    CallT Tryz.prog Tryz.T1 (.fn (.func 14) #[]) #[.agg #[.int .i64 d.r, .int .i64 d.c, .int .i64 d.a, .int .i64 d.fr, .int .i64 d.fe, .int .i64 d.tm, .int .i64 d.gr, v, .int .i64 d.st, .int .i64 d.sm], u] w (RunPost d cl l v w) := by
  obtain ⟨p, cap, rfl, hcap, hmax, hat⟩ := id ht.open
  obtain ⟨q, cap2, rfl, _⟩ := id hs.open
  have g := (Grown.refl f).push (.cells [.int .i64 d.r, .int .i64 d.c, .int .i64 d.a, .int .i64 d.fr, .int .i64 d.fe, .int .i64 d.tm, .int .i64 d.gr, (.slice q cl.length cap2), .int .i64 d.st, .int .i64 d.sm] 28 w.next 0 0)
  have hO := Own.new f 28 [.int .i64 d.r, .int .i64 d.c, .int .i64 d.a, .int .i64 d.fr, .int .i64 d.fe, .int .i64 d.tm, .int .i64 d.gr, (.slice q cl.length cap2), .int .i64 d.st, .int .i64 d.sm]
  have c0 := (hO).cell (o := 0) rfl rfl
  have c1 := (hO).cell (o := 1) rfl rfl
  have c2 := (hO).cell (o := 2) rfl rfl
  have c3 := (hO).cell (o := 3) rfl rfl
  have c4 := (hO).cell (o := 4) rfl rfl
  have c5 := (hO).cell (o := 5) rfl rfl
  have c6 := (hO).cell (o := 6) rfl rfl
  have c7 := (hO).cell (o := 7) rfl rfl
  have c8 := (hO).cell (o := 8) rfl rfl
  have c9 := (hO).cell (o := 9) rfl rfl
  refine callT_code rfl Tryz.func14 rfl Tryz.s14_eq rfl ?_
  unfold Tryz.s14
  simp -dsimp -implicitDefEqProofs (maxSteps := 2000000) (disch := first | assumption | omega | (simp only [AW.next_push, AW.next_put]; omega) | ((repeat refine Fresh.push ?_ _); assumption) | (simp only [same_int, same_bool, same_ptr, same_slice, same_sliceP, same_nil, same_agg2, same_string]; done) | (simp [oneCell, AW.next_push]; done) | fail) only [go_sem, Nat.reduceEqDiff, reduceIte, Nat.reduceAdd, Int.toNat_natCast, Nat.add_zero, Owes_true, Tryz.results14, Nat.zero_add, c0, c1, c2, c3, c4, c5, c6, c7, c8, c9]
  apply callV_of (e := rfl)
  · exact Check_ok d cl _ _ g.2 (hs.grown g)
  rintro _ w1 ⟨rfl, hg1⟩
  have g1 := g.trans hg1
  have hO1 := hO.keep hg1.1
  cases hd : dealB d cl with
  | false =>
    have hE : dealE d cl = 23 := dealE_bad hd
    have h230 : ¬ (23 : Int) = 0 := by decide
    have hR : runE d cl l = 23 := by rw [runE, if_pos hd]
    have hT : runAt d cl l = 0 := by rw [runAt, if_pos hd]
    simp -dsimp -implicitDefEqProofs (maxSteps := 2000000) (disch := first | assumption | omega | (simp only [AW.next_push, AW.next_put]; omega) | ((repeat refine Fresh.push ?_ _); assumption) | (simp only [same_int, same_bool, same_ptr, same_slice, same_sliceP, same_nil, same_agg2, same_string]; done) | (simp [oneCell, AW.next_push]; done) | fail) only [go_sem, Nat.reduceEqDiff, reduceIte, Nat.reduceAdd, Int.toNat_natCast, Nat.add_zero, Owes_true, Tryz.results14, hE, h230]
    exact ⟨g1, .inl ⟨by rw [hR]; decide, by rw [hR, hT]; rfl⟩⟩
  | true =>
  have hE : dealE d cl = 0 := by rw [dealE, hd]; rfl
  have hi := (dealB_in hd).1
  have c0 := (hO1).cell (o := 0) rfl rfl
  have c1 := (hO1).cell (o := 1) rfl rfl
  have c2 := (hO1).cell (o := 2) rfl rfl
  have c3 := (hO1).cell (o := 3) rfl rfl
  have c4 := (hO1).cell (o := 4) rfl rfl
  have c5 := (hO1).cell (o := 5) rfl rfl
  have c6 := (hO1).cell (o := 6) rfl rfl
  have c7 := (hO1).cell (o := 7) rfl rfl
  have c8 := (hO1).cell (o := 8) rfl rfl
  have c9 := (hO1).cell (o := 9) rfl rfl
  simp -dsimp -implicitDefEqProofs (maxSteps := 2000000) (disch := first | assumption | omega | (simp only [AW.next_push, AW.next_put]; omega) | ((repeat refine Fresh.push ?_ _); assumption) | (simp only [same_int, same_bool, same_ptr, same_slice, same_sliceP, same_nil, same_agg2, same_string]; done) | (simp [oneCell, AW.next_push]; done) | fail) only [go_sem, Nat.reduceEqDiff, reduceIte, Nat.reduceAdd, Int.toNat_natCast, Nat.add_zero, Owes_true, Tryz.results14, hE, Nat.zero_add, c0, c1, c2, c3, c4, c5, c6, c7, c8, c9]
  apply callV_of (e := rfl)
  · exact areActs_ok d cl l _ _ w1 g1.2 (hs.grown g1) (ht.grown g1) hi.st
  rintro _ w2 ⟨rfl, hg2⟩
  have g2 := g1.trans hg2
  have hO2 := hO1.keep hg2.1
  cases ha : actsB d l with
  | false =>
    have hR : runE d cl l = 24 := by rw [runE, if_neg (by rw [hd]; simp), if_pos ha]
    have hT : runAt d cl l = 0 := by rw [runAt, if_neg (by rw [hd]; simp), if_pos ha]
    simp -dsimp -implicitDefEqProofs (maxSteps := 2000000) (disch := first | assumption | omega | (simp only [AW.next_push, AW.next_put]; omega) | ((repeat refine Fresh.push ?_ _); assumption) | (simp only [same_int, same_bool, same_ptr, same_slice, same_sliceP, same_nil, same_agg2, same_string]; done) | (simp [oneCell, AW.next_push]; done) | fail) only [go_sem, Nat.reduceEqDiff, reduceIte, Nat.reduceAdd, Int.toNat_natCast, Nat.add_zero, Owes_true, Tryz.results14]
    exact ⟨g2, .inl ⟨by rw [hR]; decide, by rw [hR, hT]; rfl⟩⟩
  | true =>
  have hlen : l.length ≤ 32 := by rw [actsB, Bool.and_eq_true] at ha; exact of_decide_eq_true ha.1
  have hacts : actsTo d.st l = true := by rw [actsB, Bool.and_eq_true] at ha; exact ha.2
  have hR : runE d cl l = (goL d cl (beginL d) l).2.2 := by rw [runE, if_neg (by rw [hd]; simp), if_neg (by rw [ha]; simp)]
  have hT : runAt d cl l = (goL d cl (beginL d) l).2.1.length := by rw [runAt, if_neg (by rw [hd]; simp), if_neg (by rw [ha]; simp)]
  have c0 := (hO2).cell (o := 0) rfl rfl
  have c1 := (hO2).cell (o := 1) rfl rfl
  have c2 := (hO2).cell (o := 2) rfl rfl
  have c3 := (hO2).cell (o := 3) rfl rfl
  have c4 := (hO2).cell (o := 4) rfl rfl
  have c5 := (hO2).cell (o := 5) rfl rfl
  have c6 := (hO2).cell (o := 6) rfl rfl
  have c7 := (hO2).cell (o := 7) rfl rfl
  have c8 := (hO2).cell (o := 8) rfl rfl
  have c9 := (hO2).cell (o := 9) rfl rfl
  simp -dsimp -implicitDefEqProofs (maxSteps := 2000000) (disch := first | assumption | omega | (simp only [AW.next_push, AW.next_put]; omega) | ((repeat refine Fresh.push ?_ _); assumption) | (simp only [same_int, same_bool, same_ptr, same_slice, same_sliceP, same_nil, same_agg2, same_string]; done) | (simp [oneCell, AW.next_push]; done) | fail) only [go_sem, Nat.reduceEqDiff, reduceIte, Nat.reduceAdd, Int.toNat_natCast, Nat.add_zero, Owes_true, Tryz.results14, Nat.zero_add, c0, c1, c2, c3, c4, c5, c6, c7, c8, c9]
  apply callV_of (e := rfl)
  · exact begin_ok d cl _ w2 g2.2 (hs.grown g2)
  rintro _ w3 ⟨b, rfl, hL3, hb, hg3⟩
  have g3 := g2.trans hg3
  have hB : w.next ≤ b := by have := g2.1.next; omega
  simp -dsimp -implicitDefEqProofs (maxSteps := 2000000) (disch := first | assumption | omega | (simp only [AW.next_push, AW.next_put]; omega) | ((repeat refine Fresh.push ?_ _); assumption) | (simp only [same_int, same_bool, same_ptr, same_slice, same_sliceP, same_nil, same_agg2, same_string]; done) | (simp [oneCell, AW.next_push]; done) | fail) only [go_sem, Nat.reduceEqDiff, reduceIte, Nat.reduceAdd, Int.toNat_natCast, Nat.add_zero, Owes_true, Tryz.results14]
  refine loopR (fun k t ds w4 => ∃ i : Nat, i ≤ l.length ∧ k = l.length - i ∧ ds = [] ∧ ev t (.tmp 1) = .slice p l.length cap ∧ ev t (.tmp 4) = .pointer (some ⟨b, 0, none⟩) ∧ ev t (.tmp 6) = .int .i64 (i : Int) ∧ ev t (.tmp 7) = .int .i64 0 ∧ (∃ (x : LN) (ys : List LN) (s : Value), ev t (.tmp 5) = s ∧ AOwn (b + 1) w4 37 5 s i (ys.flatMap accells) ∧ ys.length = i ∧ LOk d i x ∧ Own w4 b 60 (lcells d (.slice q cl.length cap2) x) ∧ x.dy = dayAt d.st l i ∧ actsTo x.dy (l.drop i) = true ∧ goL d cl (beginL d) l = ((goL d cl x (l.drop i)).1, ys ++ (goL d cl x (l.drop i)).2.1, (goL d cl x (l.drop i)).2.2) ∧ Grown w w4)) (l.length) ?_ ?_
  · refine ⟨0, by omega, by omega, rfl, ?_, ?_, ?_, ?_, ⟨beginL d, [], .slice none 0 0, by simp -dsimp -implicitDefEqProofs (maxSteps := 2000000) (disch := first | assumption | omega | (simp only [AW.next_push, AW.next_put]; omega) | ((repeat refine Fresh.push ?_ _); assumption) | (simp only [same_int, same_bool, same_ptr, same_slice, same_sliceP, same_nil, same_agg2, same_string]; done) | (simp [oneCell, AW.next_push]; done) | fail) only [go_sem, Nat.reduceEqDiff, reduceIte, Nat.reduceAdd, Int.toNat_natCast, Nat.add_zero, Owes_true], .inl ⟨rfl, rfl, rfl⟩, rfl, begin_ok' hi, hL3, by rw [dayAt, if_pos rfl]; rfl, hacts, rfl, g3⟩⟩ <;> simp -dsimp -implicitDefEqProofs (maxSteps := 2000000) (disch := first | assumption | omega | (simp only [AW.next_push, AW.next_put]; omega) | ((repeat refine Fresh.push ?_ _); assumption) | (simp only [same_int, same_bool, same_ptr, same_slice, same_sliceP, same_nil, same_agg2, same_string]; done) | (simp [oneCell, AW.next_push]; done) | fail) only [go_sem, Nat.reduceEqDiff, reduceIte, Nat.reduceAdd, Int.toNat_natCast, Nat.add_zero, Owes_true] <;> rfl
  rintro k t ds w4 ⟨i, hii, rfl, rfl, e1, e4, e6, e7, hx⟩
  obtain ⟨x, ys, s, e5, hA, hys, hok, hL, hdy, hacts2, hgo, g4⟩ := hx
  by_cases hlt : (i : Int) < (l.length : Int)
  case neg =>
    obtain rfl : i = l.length := by omega
    have hgo2 : goL d cl (beginL d) l = (x, ys, 0) := by rw [hgo, List.drop_length]; simp [goL]
    simp -dsimp -implicitDefEqProofs (maxSteps := 2000000) (disch := first | assumption | omega | (simp only [AW.next_push, AW.next_put]; omega) | ((repeat refine Fresh.push ?_ _); assumption) | (simp only [same_int, same_bool, same_ptr, same_slice, same_sliceP, same_nil, same_agg2, same_string]; done) | (simp [oneCell, AW.next_push]; done) | fail) only [go_sem, Nat.reduceEqDiff, reduceIte, Nat.reduceAdd, Int.toNat_natCast, Nat.add_zero, Owes_true, Tryz.results14, e1, e4, e5, e6, e7, hlt]
    refine ⟨g4, .inr ⟨by rw [hR, hgo2], hd, ha, b, s, rfl, hB, ?_, ?_, ?_, l.length, hlen, ?_⟩⟩
    · rw [hgo2]; exact hL
    · rw [hgo2]; exact hys
    · rw [hgo2]
      rcases hA with z | ⟨b2, r2, z1, z2, z3, z4, z5, z6, z7, z8, z9⟩
      · exact .inl z
      · exact .inr ⟨b2, r2, z1, by omega, z3, by omega, z5, z6, z7, z8, fun j hj => let ⟨c1, c2⟩ := z9 j hj; ⟨by omega, c2⟩⟩
    · rw [hgo2]; exact hok
  have hlt' : i < l.length := by omega
  obtain ⟨b1, o1, rfl, hb1, hcell⟩ := hat i hlt'
  have a0 := hcell _ g4.1 0 _ rfl
  rw [Nat.add_zero] at a0
  have hdrop : l.drop i = l[i] :: l.drop (i + 1) := List.drop_eq_getElem_cons hlt'
  rw [hdrop] at hgo hacts2
  have hdn : dayAt d.st l (i + 1) = l[i].D := by rw [dayAt, if_neg (by omega), Nat.add_sub_cancel, getD_at hlt']
  generalize hAct : l[i] = a at *
  obtain ⟨D, K, N⟩ := a
  simp only at a0 hdn
  simp only [actsTo, Bool.and_eq_true, inR_iff] at hacts2
  obtain ⟨⟨hday, hfit⟩, hrest⟩ := hacts2
  have f4 := g4.2
  simp -dsimp -implicitDefEqProofs (maxSteps := 2000000) (disch := first | assumption | omega | (simp only [AW.next_push, AW.next_put]; omega) | ((repeat refine Fresh.push ?_ _); assumption) | (simp only [same_int, same_bool, same_ptr, same_slice, same_sliceP, same_nil, same_agg2, same_string]; done) | (simp [oneCell, AW.next_push]; done) | fail) only [go_sem, Nat.reduceEqDiff, reduceIte, Nat.reduceAdd, Int.toNat_natCast, Nat.add_zero, Owes_true, Tryz.results14, e1, e4, e5, e6, e7, hlt, indexV_eq, a0, Nat.zero_add]
  apply callV_of (e := rfl)
  · exact pass_ok d cl x D i b w.next _ w4 f4 (hs.keep g4.1 (Nat.le_refl _)) hB hL hd hok (by omega) hday.1 hday.2
  rintro _ w5 ⟨rfl, hL5, m5⟩
  have hp := pass_keeps hd hok hday.1 hday.2
  have g5 : Grown w w5 := ⟨g4.1.trans (m5.keep hB g4.1.next), m5.fresh⟩
  have hA5 := m5.aown (by omega) hA
  have a0 := hcell _ g5.1 0 _ rfl
  have a1 := hcell _ g5.1 1 _ rfl
  have a2 := hcell _ g5.1 2 _ rfl
  rw [Nat.add_zero] at a0
  simp -dsimp -implicitDefEqProofs (maxSteps := 2000000) (disch := first | assumption | omega | (simp only [AW.next_push, AW.next_put]; omega) | ((repeat refine Fresh.push ?_ _); assumption) | (simp only [same_int, same_bool, same_ptr, same_slice, same_sliceP, same_nil, same_agg2, same_string]; done) | (simp [oneCell, AW.next_push]; done) | fail) only [go_sem, Nat.reduceEqDiff, reduceIte, Nat.reduceAdd, Int.toNat_natCast, Nat.add_zero, Owes_true, Tryz.results14, e1, e4, e5, e6, e7, hlt, indexV_eq, a0, a1, a2, Nat.zero_add]
  apply callV_of (e := rfl)
  · exact do_ok d cl (passL d cl x D) D K N _ i b _ w5 m5.fresh rfl hL5 hd hp (by omega) hfit
  rintro _ w6 ⟨rfl, hL6, m6⟩
  have g6 : Grown w w6 := ⟨g5.1.trans (m6.keep hB g5.1.next), m6.fresh⟩
  have hA6 := m6.aown (by omega) hA5
  have f6 := m6.fresh
  by_cases he : actE d (passL d cl x D) ⟨D, K, N⟩ = 0
  · rw [if_pos he] at hL6
    have hok' := act_keeps (a := ⟨D, K, N⟩) hd hp (fit_pay hfit).1 (fit_pay hfit).2 he
    rw [goL_ok (a := ⟨D, K, N⟩) (l := l.drop (i + 1)) he] at hgo
    have hdy' : (actL d (passL d cl x D) ⟨D, K, N⟩).dy = D := by rw [act_day, pass_day]
    simp only at hgo
    generalize hx' : actL d (passL d cl x D) ⟨D, K, N⟩ = x' at *
    obtain ⟨s', w7, happ, hA7, hk7, f7, hn7, hap7⟩ := append_one (e' := 37) Tryz.ty30 Tryz.ty37 rfl (by decide) (by decide) hA6 f6 (by have := hL6.lt; omega) (accells_len x') (accells_one x') (by omega)
    unfold accells at happ
    have hL7 := hL6.keepC hk7 (by omega)
    have hL6' : Own w6 b 60 (lcells d (.slice q cl.length cap2) x') := hL6
    unfold lcells at hL6
    have c0 := hL6.cell (o := 0) rfl rfl
    have c1 := hL6.cell (o := 1) rfl rfl
    have c2 := hL6.cell (o := 2) rfl rfl
    have c3 := hL6.cell (o := 3) rfl rfl
    have c4 := hL6.cell (o := 4) rfl rfl
    have hed : decide (actE d (passL d cl x D) ⟨D, K, N⟩ = 0) = true := decide_eq_true he
    simp -dsimp -implicitDefEqProofs (maxSteps := 2000000) (disch := first | assumption | omega | (simp only [AW.next_push, AW.next_put]; omega) | ((repeat refine Fresh.push ?_ _); assumption) | (simp only [same_int, same_bool, same_ptr, same_slice, same_sliceP, same_nil, same_agg2, same_string]; done) | (simp [oneCell, AW.next_push]; done) | fail) only [go_sem, Nat.reduceEqDiff, reduceIte, Nat.reduceAdd, Int.toNat_natCast, Nat.add_zero, Owes_true, Tryz.results14, e1, e4, e5, e6, e7, hed, he, Nat.zero_add, c0, c1, c2, c3, c4, happ]
    refine ⟨_, by omega, i + 1, by omega, rfl, rfl, by (simp -dsimp -implicitDefEqProofs (maxSteps := 2000000) (disch := first | assumption | omega | (simp only [AW.next_push, AW.next_put]; omega) | ((repeat refine Fresh.push ?_ _); assumption) | (simp only [same_int, same_bool, same_ptr, same_slice, same_sliceP, same_nil, same_agg2, same_string]; done) | (simp [oneCell, AW.next_push]; done) | fail) only [go_sem, Nat.reduceEqDiff, reduceIte, Nat.reduceAdd, Int.toNat_natCast, Nat.add_zero, Owes_true, e1, he]; try rfl), by (simp -dsimp -implicitDefEqProofs (maxSteps := 2000000) (disch := first | assumption | omega | (simp only [AW.next_push, AW.next_put]; omega) | ((repeat refine Fresh.push ?_ _); assumption) | (simp only [same_int, same_bool, same_ptr, same_slice, same_sliceP, same_nil, same_agg2, same_string]; done) | (simp [oneCell, AW.next_push]; done) | fail) only [go_sem, Nat.reduceEqDiff, reduceIte, Nat.reduceAdd, Int.toNat_natCast, Nat.add_zero, Owes_true, e4, he]; try rfl), by (simp -dsimp -implicitDefEqProofs (maxSteps := 2000000) (disch := first | assumption | omega | (simp only [AW.next_push, AW.next_put]; omega) | ((repeat refine Fresh.push ?_ _); assumption) | (simp only [same_int, same_bool, same_ptr, same_slice, same_sliceP, same_nil, same_agg2, same_string]; done) | (simp [oneCell, AW.next_push]; done) | fail) only [go_sem, Nat.reduceEqDiff, reduceIte, Nat.reduceAdd, Int.toNat_natCast, Nat.add_zero, Owes_true, e6, he]; try rfl), by (simp -dsimp -implicitDefEqProofs (maxSteps := 2000000) (disch := first | assumption | omega | (simp only [AW.next_push, AW.next_put]; omega) | ((repeat refine Fresh.push ?_ _); assumption) | (simp only [same_int, same_bool, same_ptr, same_slice, same_sliceP, same_nil, same_agg2, same_string]; done) | (simp [oneCell, AW.next_push]; done) | fail) only [go_sem, Nat.reduceEqDiff, reduceIte, Nat.reduceAdd, Int.toNat_natCast, Nat.add_zero, Owes_true, e7, he]; try rfl), ⟨x', ys ++ [x'], s', by simp -dsimp -implicitDefEqProofs (maxSteps := 2000000) (disch := first | assumption | omega | (simp only [AW.next_push, AW.next_put]; omega) | ((repeat refine Fresh.push ?_ _); assumption) | (simp only [same_int, same_bool, same_ptr, same_slice, same_sliceP, same_nil, same_agg2, same_string]; done) | (simp [oneCell, AW.next_push]; done) | fail) only [go_sem, Nat.reduceEqDiff, reduceIte, Nat.reduceAdd, Int.toNat_natCast, Nat.add_zero, Owes_true], by rw [List.flatMap_append]; simpa using hA7, by simp [hys], hok', hL7, by rw [hdy', hdn], by rw [hdy']; exact hrest, by rw [hgo]; simp, ⟨g6.1.trans (hk7.mono (by omega)), f7⟩⟩⟩
  · rw [if_neg he] at hL6
    rw [goL_bad (a := ⟨D, K, N⟩) (l := l.drop (i + 1)) he] at hgo
    have hE2 : runE d cl l = actE d (passL d cl x D) ⟨D, K, N⟩ := by rw [hR, hgo]
    have hT2 : runAt d cl l = i := by rw [hT, hgo]; simp [hys]
    simp -dsimp -implicitDefEqProofs (maxSteps := 2000000) (disch := first | assumption | omega | (simp only [AW.next_push, AW.next_put]; omega) | ((repeat refine Fresh.push ?_ _); assumption) | (simp only [same_int, same_bool, same_ptr, same_slice, same_sliceP, same_nil, same_agg2, same_string]; done) | (simp [oneCell, AW.next_push]; done) | fail) only [go_sem, Nat.reduceEqDiff, reduceIte, Nat.reduceAdd, Int.toNat_natCast, Nat.add_zero, Owes_true, Tryz.results14, e1, e4, e5, e6, e7, he]
    exact ⟨g6, .inl ⟨by rw [hE2]; exact he, by rw [hE2, hT2]⟩⟩
end Go.Proofs

/- Loans: what is owed on a day. -/
namespace Go.Proofs
open Go Go.RowKit Go.Sim
set_option maxRecDepth 100000
theorem oweE_run {d : DealN} {cl : List Int} {l : List ActN} {day : Int} : oweE d cl l day = if runE d cl l ≠ 0 then runE d cl l else if inR (goL d cl (beginL d) l).1.dy day 36500 = false then 7 else 0 := by
  unfold oweE runE
  cases hd : dealB d cl with
  | false => simp
  | true =>
    cases ha : actsB d l with
    | false => simp
    | true => simp
def OnPost (d : DealN) (cl : List Int) (l : List ActN) (day : Int) (v : Value) (w : AW) : Value → AW → Prop := fun r w' => Grown w w' ∧
  ((oweE d cl l day ≠ 0 ∧ r = .tuple #[.pointer none, .int .i64 (oweE d cl l day)]) ∨
   (oweE d cl l day = 0 ∧ dealB d cl = true ∧ ∃ b, r = .tuple #[.pointer (some ⟨b, 0, none⟩), .int .i64 0] ∧ Own w' b 60 (lcells d v (oweX d cl l day)) ∧ ∃ j, j ≤ 32 ∧ LOk d j (oweX d cl l day)))
set_option maxHeartbeats 1000000 in
theorem on_ok (d : DealN) (cl : List Int) (l : List ActN) (day : Int) (v u : Value) (w : AW) (f : Fresh w) (hs : ArrOf w 1 icells v cl) (ht : ArrOf w 3 acells u l) :
    CallT Tryz.prog Tryz.T1 (.fn (.func 22) #[]) #[.agg #[.int .i64 d.r, .int .i64 d.c, .int .i64 d.a, .int .i64 d.fr, .int .i64 d.fe, .int .i64 d.tm, .int .i64 d.gr, v, .int .i64 d.st, .int .i64 d.sm], u, .int .i64 day] w (OnPost d cl l day v w) := by
  obtain ⟨p, cap, rfl, _⟩ := id ht.open
  obtain ⟨q, cap2, rfl, _⟩ := id hs.open
  have g := (Grown.refl f).push (.cells [.int .i64 d.r, .int .i64 d.c, .int .i64 d.a, .int .i64 d.fr, .int .i64 d.fe, .int .i64 d.tm, .int .i64 d.gr, (.slice q cl.length cap2), .int .i64 d.st, .int .i64 d.sm] 28 w.next 0 0)
  have hO := Own.new f 28 [.int .i64 d.r, .int .i64 d.c, .int .i64 d.a, .int .i64 d.fr, .int .i64 d.fe, .int .i64 d.tm, .int .i64 d.gr, (.slice q cl.length cap2), .int .i64 d.st, .int .i64 d.sm]
  have c0 := (hO).cell (o := 0) rfl rfl
  have c1 := (hO).cell (o := 1) rfl rfl
  have c2 := (hO).cell (o := 2) rfl rfl
  have c3 := (hO).cell (o := 3) rfl rfl
  have c4 := (hO).cell (o := 4) rfl rfl
  have c5 := (hO).cell (o := 5) rfl rfl
  have c6 := (hO).cell (o := 6) rfl rfl
  have c7 := (hO).cell (o := 7) rfl rfl
  have c8 := (hO).cell (o := 8) rfl rfl
  have c9 := (hO).cell (o := 9) rfl rfl
  refine callT_code rfl Tryz.func22 rfl Tryz.s22_eq rfl ?_
  unfold Tryz.s22
  simp -dsimp -implicitDefEqProofs (maxSteps := 2000000) (disch := first | assumption | omega | (simp only [AW.next_push, AW.next_put]; omega) | ((repeat refine Fresh.push ?_ _); assumption) | (simp only [same_int, same_bool, same_ptr, same_slice, same_sliceP, same_nil, same_agg2, same_string]; done) | (simp [oneCell, AW.next_push]; done) | fail) only [go_sem, Nat.reduceEqDiff, reduceIte, Nat.reduceAdd, Int.toNat_natCast, Nat.add_zero, Owes_true, Tryz.results22, Nat.zero_add, c0, c1, c2, c3, c4, c5, c6, c7, c8, c9]
  apply callV_of (e := rfl)
  · exact run_ok d cl l _ _ _ g.2 (hs.grown g) (ht.grown g)
  rintro _ w1 ⟨hg1, h⟩
  have g1 := g.trans hg1
  rcases h with ⟨hE, rfl⟩ | ⟨hE, hd, ha, b, s, rfl, hb, hL, hlen, hA, j, hj, hok⟩
  · have hO2 : oweE d cl l day = runE d cl l := by rw [oweE_run, if_pos hE]
    simp -dsimp -implicitDefEqProofs (maxSteps := 2000000) (disch := first | assumption | omega | (simp only [AW.next_push, AW.next_put]; omega) | ((repeat refine Fresh.push ?_ _); assumption) | (simp only [same_int, same_bool, same_ptr, same_slice, same_sliceP, same_nil, same_agg2, same_string]; done) | (simp [oneCell, AW.next_push]; done) | fail) only [go_sem, Nat.reduceEqDiff, reduceIte, Nat.reduceAdd, Int.toNat_natCast, Nat.add_zero, Owes_true, Tryz.results22, hE]
    exact ⟨g1, .inl ⟨by rw [hO2]; exact hE, by rw [hO2]⟩⟩
  obtain ⟨_, _, _, hsl⟩ : ∃ x y z, s = .slice x y z := by rcases hA with ⟨rfl, _⟩ | ⟨_, _, rfl, _⟩ <;> exact ⟨_, _, _, rfl⟩
  subst hsl
  have hL0 := hL
  unfold lcells at hL0
  have k19 := hL0.cell (o := 19) rfl rfl
  simp -dsimp -implicitDefEqProofs (maxSteps := 2000000) (disch := first | assumption | omega | (simp only [AW.next_push, AW.next_put]; omega) | ((repeat refine Fresh.push ?_ _); assumption) | (simp only [same_int, same_bool, same_ptr, same_slice, same_sliceP, same_nil, same_agg2, same_string]; done) | (simp [oneCell, AW.next_push]; done) | fail) only [go_sem, Nat.reduceEqDiff, reduceIte, Nat.reduceAdd, Int.toNat_natCast, Nat.add_zero, Owes_true, Tryz.results22, ne_eq, not_true, Nat.zero_add, k19]
  apply callV_of (e := rfl)
  · exact within_ok _ _ _ _
  rintro _ _ ⟨rfl, rfl⟩
  cases hr : inR (goL d cl (beginL d) l).1.dy day 36500 with
  | false =>
    have hO2 : oweE d cl l day = 7 := by rw [oweE_run, if_neg (by simpa using hE), if_pos hr]
    simp -dsimp -implicitDefEqProofs (maxSteps := 2000000) (disch := first | assumption | omega | (simp only [AW.next_push, AW.next_put]; omega) | ((repeat refine Fresh.push ?_ _); assumption) | (simp only [same_int, same_bool, same_ptr, same_slice, same_sliceP, same_nil, same_agg2, same_string]; done) | (simp [oneCell, AW.next_push]; done) | fail) only [go_sem, Nat.reduceEqDiff, reduceIte, Nat.reduceAdd, Int.toNat_natCast, Nat.add_zero, Owes_true, Tryz.results22]
    exact ⟨g1, .inl ⟨by rw [hO2]; decide, by rw [hO2]⟩⟩
  | true =>
  have hin := (inR_iff _ _ _).1 hr
  have hO2 : oweE d cl l day = 0 := by rw [oweE_run, if_neg (by simpa using hE), if_neg (by rw [hr]; simp)]
  have hbn : w.next ≤ b := by have := g.1.next; omega
  simp -dsimp -implicitDefEqProofs (maxSteps := 2000000) (disch := first | assumption | omega | (simp only [AW.next_push, AW.next_put]; omega) | ((repeat refine Fresh.push ?_ _); assumption) | (simp only [same_int, same_bool, same_ptr, same_slice, same_sliceP, same_nil, same_agg2, same_string]; done) | (simp [oneCell, AW.next_push]; done) | fail) only [go_sem, Nat.reduceEqDiff, reduceIte, Nat.reduceAdd, Int.toNat_natCast, Nat.add_zero, Owes_true, Tryz.results22]
  apply callV_of (e := rfl)
  · exact pass_ok d cl _ day j b w.next _ w1 g1.2 (Arr.keep hs g1.1 (Nat.le_refl _)) hbn hL hd hok (by omega) hin.1 hin.2
  rintro _ w2 ⟨rfl, hL2, m2⟩
  simp -dsimp -implicitDefEqProofs (maxSteps := 2000000) (disch := first | assumption | omega | (simp only [AW.next_push, AW.next_put]; omega) | ((repeat refine Fresh.push ?_ _); assumption) | (simp only [same_int, same_bool, same_ptr, same_slice, same_sliceP, same_nil, same_agg2, same_string]; done) | (simp [oneCell, AW.next_push]; done) | fail) only [go_sem, Nat.reduceEqDiff, reduceIte, Nat.reduceAdd, Int.toNat_natCast, Nat.add_zero, Owes_true, Tryz.results22]
  exact ⟨⟨g1.1.trans (m2.keep hbn g1.1.next), m2.fresh⟩, .inr ⟨hO2, hd, b, rfl, hL2, j, hj, pass_keeps hd hok hin.1 hin.2⟩⟩
def zacc : LN := ⟨0, 0, 0, 0, false, 0, 0, 0, 0, 0, 0⟩
/-- The account that is answered. -/
def oweA (d : DealN) (cl : List Int) (l : List ActN) (day : Int) : LN := if oweE d cl l day = 0 then oweX d cl l day else zacc
theorem oweA_ok {d : DealN} {cl : List Int} {l : List ActN} {day : Int} (h : oweE d cl l day = 0) : oweA d cl l day = oweX d cl l day := by rw [oweA, if_pos h]
theorem oweA_bad {d : DealN} {cl : List Int} {l : List ActN} {day : Int} (h : oweE d cl l day ≠ 0) : oweA d cl l day = zacc := by rw [oweA, if_neg h]
def accV (x : LN) : Value := .agg #[.int .i64 x.P, .int .i64 x.C, .int .i64 x.Q, .int .i64 x.A, .bool x.op]
set_option maxHeartbeats 1000000 in
theorem Owe_ok (d : DealN) (cl : List Int) (l : List ActN) (day : Int) (v u : Value) (w : AW) (f : Fresh w) (hs : ArrOf w 1 icells v cl) (ht : ArrOf w 3 acells u l) :
    CallT Tryz.prog Tryz.T1 (.fn (.func 9) #[]) #[.agg #[.int .i64 d.r, .int .i64 d.c, .int .i64 d.a, .int .i64 d.fr, .int .i64 d.fe, .int .i64 d.tm, .int .i64 d.gr, v, .int .i64 d.st, .int .i64 d.sm], u, .int .i64 day] w (Ret (.tuple #[accV (oweA d cl l day), .int .i64 (oweE d cl l day)]) (Grown w)) := by
  obtain ⟨p, cap, rfl, _⟩ := id ht.open
  obtain ⟨q, cap2, rfl, _⟩ := id hs.open
  have g0 := (Grown.refl f).push (.cells [.int .i64 d.r, .int .i64 d.c, .int .i64 d.a, .int .i64 d.fr, .int .i64 d.fe, .int .i64 d.tm, .int .i64 d.gr, (.slice q cl.length cap2), .int .i64 d.st, .int .i64 d.sm] 28 w.next 0 0)
  have hO0 := Own.new f 28 [.int .i64 d.r, .int .i64 d.c, .int .i64 d.a, .int .i64 d.fr, .int .i64 d.fe, .int .i64 d.tm, .int .i64 d.gr, (.slice q cl.length cap2), .int .i64 d.st, .int .i64 d.sm]
  have g := g0.push (.cells (accells zacc) 37 (w.next + 1) 0 0)
  have hO := hO0.push (.cells (accells zacc) 37 (w.next + 1) 0 0)
  have hZ := Own.new g0.2 37 (accells zacc)
  simp only [AW.next_push] at hZ
  unfold accells zacc at g hO hZ
  have c0 := (hO).cell (o := 0) rfl rfl
  have c1 := (hO).cell (o := 1) rfl rfl
  have c2 := (hO).cell (o := 2) rfl rfl
  have c3 := (hO).cell (o := 3) rfl rfl
  have c4 := (hO).cell (o := 4) rfl rfl
  have c5 := (hO).cell (o := 5) rfl rfl
  have c6 := (hO).cell (o := 6) rfl rfl
  have c7 := (hO).cell (o := 7) rfl rfl
  have c8 := (hO).cell (o := 8) rfl rfl
  have c9 := (hO).cell (o := 9) rfl rfl
  refine callT_code rfl Tryz.func9 rfl Tryz.s9_eq rfl ?_
  unfold Tryz.s9
  simp -dsimp -implicitDefEqProofs (maxSteps := 2000000) (disch := first | assumption | omega | (simp only [AW.next_push, AW.next_put]; omega) | ((repeat refine Fresh.push ?_ _); assumption) | (simp only [same_int, same_bool, same_ptr, same_slice, same_sliceP, same_nil, same_agg2, same_string]; done) | (simp [oneCell, AW.next_push]; done) | fail) only [go_sem, Nat.reduceEqDiff, reduceIte, Nat.reduceAdd, Int.toNat_natCast, Nat.add_zero, Owes_true, Tryz.results9, Nat.zero_add, c0, c1, c2, c3, c4, c5, c6, c7, c8, c9]
  apply callV_of (e := rfl)
  · exact on_ok d cl l day _ _ _ g.2 (hs.grown g) (ht.grown g)
  rintro _ w1 ⟨hg1, h⟩
  have g1 := g.trans hg1
  have hZ1 := hZ.keep hg1.1
  have put : ∀ x : LN, ∃ w2, storeV w1 true 5 (.pointer (some ⟨w.next + 1, 0, none⟩)) (.agg (accells x).toArray) = some w2 ∧ Own w2 (w.next + 1) 37 (accells x) ∧ Grown w w2 := by
    intro x
    have h1 := storeV_own (o := 0) (l := accells x) (size := 5) hZ1 rfl (by omega) (by simp) (List.all_eq_true.mpr (accells_one x))
    exact ⟨_, h1, hZ1.put _, ⟨g1.1.put (by omega) _, g1.2.put hZ1.lt _⟩⟩
  rcases h with ⟨hE, rfl⟩ | ⟨hE, hd, b, rfl, hL, _⟩
  · obtain ⟨w2, p1, hP, g2⟩ := put zacc
    unfold accells zacc at p1 hP
    have k0 := hP.cell (o := 0) rfl rfl
    have k1 := hP.cell (o := 1) rfl rfl
    have k2 := hP.cell (o := 2) rfl rfl
    have k3 := hP.cell (o := 3) rfl rfl
    have k4 := hP.cell (o := 4) rfl rfl
    simp -dsimp -implicitDefEqProofs (maxSteps := 2000000) (disch := first | assumption | omega | (simp only [AW.next_push, AW.next_put]; omega) | ((repeat refine Fresh.push ?_ _); assumption) | (simp only [same_int, same_bool, same_ptr, same_slice, same_sliceP, same_nil, same_agg2, same_string]; done) | (simp [oneCell, AW.next_push]; done) | fail) only [go_sem, Nat.reduceEqDiff, reduceIte, Nat.reduceAdd, Int.toNat_natCast, Nat.add_zero, Owes_true, Tryz.results9, hE, bldQ_zero, p1, k0, k1, k2, k3, k4]
    exact ⟨by rw [oweA_bad hE]; rfl, g2⟩
  · obtain ⟨w2, p1, hP, g2⟩ := put (oweX d cl l day)
    unfold accells at p1 hP
    unfold lcells at hL
    have c0 := hL.cell (o := 0) rfl rfl
    have c1 := hL.cell (o := 1) rfl rfl
    have c2 := hL.cell (o := 2) rfl rfl
    have c3 := hL.cell (o := 3) rfl rfl
    have c4 := hL.cell (o := 4) rfl rfl
    have k0 := hP.cell (o := 0) rfl rfl
    have k1 := hP.cell (o := 1) rfl rfl
    have k2 := hP.cell (o := 2) rfl rfl
    have k3 := hP.cell (o := 3) rfl rfl
    have k4 := hP.cell (o := 4) rfl rfl
    simp -dsimp -implicitDefEqProofs (maxSteps := 2000000) (disch := first | assumption | omega | (simp only [AW.next_push, AW.next_put]; omega) | ((repeat refine Fresh.push ?_ _); assumption) | (simp only [same_int, same_bool, same_ptr, same_slice, same_sliceP, same_nil, same_agg2, same_string]; done) | (simp [oneCell, AW.next_push]; done) | fail) only [go_sem, Nat.reduceEqDiff, reduceIte, Nat.reduceAdd, Int.toNat_natCast, Nat.add_zero, Owes_true, Tryz.results9, ne_eq, not_true, Nat.zero_add, c0, c1, c2, c3, c4, p1, k0, k1, k2, k3, k4]
    exact ⟨by rw [oweA_ok hE, hE]; rfl, g2⟩
set_option maxHeartbeats 1000000 in
theorem Legal_ok (d : DealN) (cl : List Int) (l : List ActN) (day : Int) (v u : Value) (w : AW) (f : Fresh w) (hs : ArrOf w 1 icells v cl) (ht : ArrOf w 3 acells u l) :
    CallT Tryz.prog Tryz.T1 (.fn (.func 11) #[]) #[.agg #[.int .i64 d.r, .int .i64 d.c, .int .i64 d.a, .int .i64 d.fr, .int .i64 d.fe, .int .i64 d.tm, .int .i64 d.gr, v, .int .i64 d.st, .int .i64 d.sm], u, .int .i64 day] w (fun r w' => ∃ n, r = .tuple #[.int .i64 n, .int .i64 (oweE d cl l day)] ∧ (oweE d cl l day = 0 → n = lwF d (oweX d cl l day).lw) ∧ (oweE d cl l day ≠ 0 → n = 0) ∧ Grown w w') := by
  obtain ⟨p, cap, rfl, _⟩ := id ht.open
  obtain ⟨q, cap2, rfl, _⟩ := id hs.open
  have g := (Grown.refl f).push (.cells [.int .i64 d.r, .int .i64 d.c, .int .i64 d.a, .int .i64 d.fr, .int .i64 d.fe, .int .i64 d.tm, .int .i64 d.gr, (.slice q cl.length cap2), .int .i64 d.st, .int .i64 d.sm] 28 w.next 0 0)
  have hO := Own.new f 28 [.int .i64 d.r, .int .i64 d.c, .int .i64 d.a, .int .i64 d.fr, .int .i64 d.fe, .int .i64 d.tm, .int .i64 d.gr, (.slice q cl.length cap2), .int .i64 d.st, .int .i64 d.sm]
  have c0 := (hO).cell (o := 0) rfl rfl
  have c1 := (hO).cell (o := 1) rfl rfl
  have c2 := (hO).cell (o := 2) rfl rfl
  have c3 := (hO).cell (o := 3) rfl rfl
  have c4 := (hO).cell (o := 4) rfl rfl
  have c5 := (hO).cell (o := 5) rfl rfl
  have c6 := (hO).cell (o := 6) rfl rfl
  have c7 := (hO).cell (o := 7) rfl rfl
  have c8 := (hO).cell (o := 8) rfl rfl
  have c9 := (hO).cell (o := 9) rfl rfl
  refine callT_code rfl Tryz.func11 rfl Tryz.s11_eq rfl ?_
  unfold Tryz.s11
  simp -dsimp -implicitDefEqProofs (maxSteps := 2000000) (disch := first | assumption | omega | (simp only [AW.next_push, AW.next_put]; omega) | ((repeat refine Fresh.push ?_ _); assumption) | (simp only [same_int, same_bool, same_ptr, same_slice, same_sliceP, same_nil, same_agg2, same_string]; done) | (simp [oneCell, AW.next_push]; done) | fail) only [go_sem, Nat.reduceEqDiff, reduceIte, Nat.reduceAdd, Int.toNat_natCast, Nat.add_zero, Owes_true, Tryz.results11, Nat.zero_add, c0, c1, c2, c3, c4, c5, c6, c7, c8, c9]
  apply callV_of (e := rfl)
  · exact on_ok d cl l day _ _ _ g.2 (hs.grown g) (ht.grown g)
  rintro _ w1 ⟨hg1, h⟩
  have g1 := g.trans hg1
  rcases h with ⟨hE, rfl⟩ | ⟨hE, hd, b, rfl, hL, j, hj, hok⟩
  · simp -dsimp -implicitDefEqProofs (maxSteps := 2000000) (disch := first | assumption | omega | (simp only [AW.next_push, AW.next_put]; omega) | ((repeat refine Fresh.push ?_ _); assumption) | (simp only [same_int, same_bool, same_ptr, same_slice, same_sliceP, same_nil, same_agg2, same_string]; done) | (simp [oneCell, AW.next_push]; done) | fail) only [go_sem, Nat.reduceEqDiff, reduceIte, Nat.reduceAdd, Int.toNat_natCast, Nat.add_zero, Owes_true, Tryz.results11, hE]
    exact ⟨_, rfl, (fun q => by first | exact absurd q hE | exact q.elim), fun _ => rfl, g1⟩
  · simp -dsimp -implicitDefEqProofs (maxSteps := 2000000) (disch := first | assumption | omega | (simp only [AW.next_push, AW.next_put]; omega) | ((repeat refine Fresh.push ?_ _); assumption) | (simp only [same_int, same_bool, same_ptr, same_slice, same_sliceP, same_nil, same_agg2, same_string]; done) | (simp [oneCell, AW.next_push]; done) | fail) only [go_sem, Nat.reduceEqDiff, reduceIte, Nat.reduceAdd, Int.toNat_natCast, Nat.add_zero, Owes_true, Tryz.results11, ne_eq, not_true]
    apply callV_of (e := rfl)
    · exact legal_ok d _ b _ w1 g1.2 rfl hL (dealB_in hd).1 (hok.fits hd (by omega))
    rintro _ w2 ⟨rfl, hg2⟩
    simp -dsimp -implicitDefEqProofs (maxSteps := 2000000) (disch := first | assumption | omega | (simp only [AW.next_push, AW.next_put]; omega) | ((repeat refine Fresh.push ?_ _); assumption) | (simp only [same_int, same_bool, same_ptr, same_slice, same_sliceP, same_nil, same_agg2, same_string]; done) | (simp [oneCell, AW.next_push]; done) | fail) only [go_sem, Nat.reduceEqDiff, reduceIte, Nat.reduceAdd, Int.toNat_natCast, Nat.add_zero, Owes_true, Tryz.results11]
    exact ⟨_, by rw [hE], (fun _ => rfl), (fun q => absurd hE q), g1.trans hg2⟩
set_option maxHeartbeats 1000000 in
theorem Run_ok (d : DealN) (cl : List Int) (l : List ActN) (v u : Value) (w : AW) (f : Fresh w) (hs : ArrOf w 1 icells v cl) (ht : ArrOf w 3 acells u l) :
    CallT Tryz.prog Tryz.T1 (.fn (.func 4) #[]) #[.agg #[.int .i64 d.r, .int .i64 d.c, .int .i64 d.a, .int .i64 d.fr, .int .i64 d.fe, .int .i64 d.tm, .int .i64 d.gr, v, .int .i64 d.st, .int .i64 d.sm], u] w (fun r w' => ∃ s ys, r = .tuple #[s, .int .i64 (runAt d cl l), .int .i64 (runE d cl l)] ∧ ArrOf w' 5 accells s ys ∧ Grown w w' ∧ ((runE d cl l ≠ 0 ∧ ys = []) ∨ (runE d cl l = 0 ∧ runAt d cl l = l.length ∧ ys = (goL d cl (beginL d) l).2.1 ∧ ys.length = l.length ∧ dealB d cl = true ∧ actsB d l = true))) := by
  obtain ⟨p, cap, rfl, _⟩ := id ht.open
  obtain ⟨q, cap2, rfl, _⟩ := id hs.open
  have g := (Grown.refl f).push (.cells [.int .i64 d.r, .int .i64 d.c, .int .i64 d.a, .int .i64 d.fr, .int .i64 d.fe, .int .i64 d.tm, .int .i64 d.gr, (.slice q cl.length cap2), .int .i64 d.st, .int .i64 d.sm] 28 w.next 0 0)
  have hO := Own.new f 28 [.int .i64 d.r, .int .i64 d.c, .int .i64 d.a, .int .i64 d.fr, .int .i64 d.fe, .int .i64 d.tm, .int .i64 d.gr, (.slice q cl.length cap2), .int .i64 d.st, .int .i64 d.sm]
  have c0 := (hO).cell (o := 0) rfl rfl
  have c1 := (hO).cell (o := 1) rfl rfl
  have c2 := (hO).cell (o := 2) rfl rfl
  have c3 := (hO).cell (o := 3) rfl rfl
  have c4 := (hO).cell (o := 4) rfl rfl
  have c5 := (hO).cell (o := 5) rfl rfl
  have c6 := (hO).cell (o := 6) rfl rfl
  have c7 := (hO).cell (o := 7) rfl rfl
  have c8 := (hO).cell (o := 8) rfl rfl
  have c9 := (hO).cell (o := 9) rfl rfl
  refine callT_code rfl Tryz.func4 rfl Tryz.s4_eq rfl ?_
  unfold Tryz.s4
  simp -dsimp -implicitDefEqProofs (maxSteps := 2000000) (disch := first | assumption | omega | (simp only [AW.next_push, AW.next_put]; omega) | ((repeat refine Fresh.push ?_ _); assumption) | (simp only [same_int, same_bool, same_ptr, same_slice, same_sliceP, same_nil, same_agg2, same_string]; done) | (simp [oneCell, AW.next_push]; done) | fail) only [go_sem, Nat.reduceEqDiff, reduceIte, Nat.reduceAdd, Int.toNat_natCast, Nat.add_zero, Owes_true, Tryz.results4, Nat.zero_add, c0, c1, c2, c3, c4, c5, c6, c7, c8, c9]
  apply callV_of (e := rfl)
  · exact run_ok d cl l _ _ _ g.2 (hs.grown g) (ht.grown g)
  rintro _ w1 ⟨hg1, h⟩
  have g1 := g.trans hg1
  rcases h with ⟨hE, rfl⟩ | ⟨hE, hd, ha, b, s, rfl, hb, hL, hlen, hA, j, hj, hok⟩
  · simp -dsimp -implicitDefEqProofs (maxSteps := 2000000) (disch := first | assumption | omega | (simp only [AW.next_push, AW.next_put]; omega) | ((repeat refine Fresh.push ?_ _); assumption) | (simp only [same_int, same_bool, same_ptr, same_slice, same_sliceP, same_nil, same_agg2, same_string]; done) | (simp [oneCell, AW.next_push]; done) | fail) only [go_sem, Nat.reduceEqDiff, reduceIte, Nat.reduceAdd, Int.toNat_natCast, Nat.add_zero, Owes_true, Tryz.results4]
    exact ⟨_, [], rfl, ArrOf.nil _ _ _, g1, .inl ⟨hE, rfl⟩⟩
  · have hT : runAt d cl l = l.length := by rw [runAt, if_neg (by rw [hd]; simp), if_neg (by rw [ha]; simp), hlen]
    have hl32 : l.length ≤ 32 := by rw [actsB, Bool.and_eq_true] at ha; exact of_decide_eq_true ha.1
    rw [← hlen] at hA
    have hArr := hA.arr accells_len (by omega)
    simp -dsimp -implicitDefEqProofs (maxSteps := 2000000) (disch := first | assumption | omega | (simp only [AW.next_push, AW.next_put]; omega) | ((repeat refine Fresh.push ?_ _); assumption) | (simp only [same_int, same_bool, same_ptr, same_slice, same_sliceP, same_nil, same_agg2, same_string]; done) | (simp [oneCell, AW.next_push]; done) | fail) only [go_sem, Nat.reduceEqDiff, reduceIte, Nat.reduceAdd, Int.toNat_natCast, Nat.add_zero, Owes_true, Tryz.results4]
    exact ⟨_, _, by rw [hT, hE], hArr, g1, .inr ⟨hE, hT, rfl, hlen, hd, ha⟩⟩
end Go.Proofs
