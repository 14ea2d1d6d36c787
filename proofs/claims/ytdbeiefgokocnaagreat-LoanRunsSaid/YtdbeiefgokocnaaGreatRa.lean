/- Loans, as the papers have them: charges, days, acts that are valid. -/
import Derived.Test.YtdbeiefgokocnaaGreatYc
import Derived.Test.YtdbeiefgokocnaaGreatTa
import Derived.Test.YtdbeiefgokocnaaGreatTd
import Derived.Test.YtdbeiefgokocnaaGreatKc
set_option linter.unusedVariables false
set_option linter.unusedSimpArgs false
/- Loans, as the chapter has them: what the law allows, the charge. -/
namespace Go.Proofs
open Go Go.RowKit Go.Sim
set_option maxRecDepth 100000
theorem Down6_ok (a : Int) (h0 : 0 ≤ a) (h1 : a ≤ 400000000000000000) (w : AW) : CallT Tryz.prog Tryz.T1 (.fn (.func 45) #[]) #[.int .i64 a, .int .i64 1000000] w (Ret (.int .i64 (a / 1000000)) fun w' => w = w') := by
  have hq : a.tdiv 1000000 = a / 1000000 := Int.tdiv_eq_ediv_of_nonneg h0
  have hb : 0 ≤ a / 1000000 ∧ a / 1000000 ≤ a := by omega
  have hno : ¬ a < a / 1000000 * 1000000 := by omega
  have hn0 : ¬ (1000000 : Int) = 0 := by decide
  refine callT_code rfl Tryz.func45 rfl Tryz.s45_eq rfl ?_
  unfold Tryz.s45
  simp -dsimp -implicitDefEqProofs (maxSteps := 2000000) (disch := first | assumption | omega | (simp only [AW.next_push, AW.next_put]; omega) | ((repeat refine Fresh.push ?_ _); assumption) | (simp only [same_int, same_bool, same_ptr, same_slice, same_sliceP, same_nil, same_agg2, same_string]; done) | (simp [oneCell, AW.next_push]; done) | fail) only [go_sem, Nat.reduceEqDiff, reduceIte, Nat.reduceAdd, Int.toNat_natCast, Nat.add_zero, Owes_true, Tryz.results45, hq, hno, hn0]
  exact ⟨rfl, rfl⟩
theorem Down64_ok (a : Int) (h0 : 0 ≤ a) (h1 : a ≤ 400000000000000000) (w : AW) : CallT Tryz.prog Tryz.T1 (.fn (.func 45) #[]) #[.int .i64 a, .int .i64 64] w (Ret (.int .i64 (a / 64)) fun w' => w = w') := by
  have hq : a.tdiv 64 = a / 64 := Int.tdiv_eq_ediv_of_nonneg h0
  have hb : 0 ≤ a / 64 ∧ a / 64 ≤ a := by omega
  have hno : ¬ a < a / 64 * 64 := by omega
  have hn0 : ¬ (64 : Int) = 0 := by decide
  refine callT_code rfl Tryz.func45 rfl Tryz.s45_eq rfl ?_
  unfold Tryz.s45
  simp -dsimp -implicitDefEqProofs (maxSteps := 2000000) (disch := first | assumption | omega | (simp only [AW.next_push, AW.next_put]; omega) | ((repeat refine Fresh.push ?_ _); assumption) | (simp only [same_int, same_bool, same_ptr, same_slice, same_sliceP, same_nil, same_agg2, same_string]; done) | (simp [oneCell, AW.next_push]; done) | fail) only [go_sem, Nat.reduceEqDiff, reduceIte, Nat.reduceAdd, Int.toNat_natCast, Nat.add_zero, Owes_true, Tryz.results45, hq, hno, hn0]
  exact ⟨rfl, rfl⟩
/-- The chapter's stand of a loan: rn renewals, held up to H. -/
def scells (d : DealN) (v : Value) (x : LN) (rn H : Int) : List Value :=
  [.int .i64 d.r, .int .i64 d.c, .int .i64 d.a, .int .i64 d.fr, .int .i64 d.fe, .int .i64 d.tm, .int .i64 d.gr, v, .int .i64 d.st, .int .i64 d.sm, .int .i64 x.P, .int .i64 0, .int .i64 x.Q, .int .i64 x.A, .bool x.op, .int .i64 x.dy, .int .i64 x.n, .int .i64 x.cs, .int .i64 x.lw, .int .i64 rn, .int .i64 H]
theorem refLegal_ok (d : DealN) (x : LN) (rn H : Int) (b : Nat) (v : Value) (w : AW) (hO : Own w b 93 (scells d v x rn H)) (hd : DealIn d) (hf : Fits d x) :
    CallT Tryz.prog Tryz.T1 (.fn (.func 26) #[]) #[.pointer (some ⟨b, 0, none⟩)] w (Ret (.int .i64 (lwF d x.lw)) fun w' => w = w') := by
  obtain ⟨P, C, Q, A, op, n, lw, cs, fe, dy, he⟩ := x
  have hr := hd.r; have hc := hd.c; have hsm := hd.sm; have hl := hf.lw
  simp only at hl
  have m1 := mul_mono2 hl.2 hr.2 hr.1 (by omega)
  have m2 := mul_mono2 hsm.2 hc.2 hc.1 (by omega)
  have p1 : 0 ≤ lw * d.r := mul_nonneg' hl.1 hr.1
  have p2 : 0 ≤ d.sm * d.c := mul_nonneg' (by omega) hc.1
  unfold scells at hO
  have c0 := hO.cell (o := 0) rfl rfl
  have c1 := hO.cell (o := 1) rfl rfl
  have c9 := hO.cell (o := 9) rfl rfl
  have c18 := hO.cell (o := 18) rfl rfl
  have hle := WLe.refl w
  refine callT_code rfl Tryz.func26 rfl Tryz.s26_eq rfl ?_
  unfold Tryz.s26
  simp -dsimp -implicitDefEqProofs (maxSteps := 2000000) (disch := first | assumption | omega | (simp only [AW.next_push, AW.next_put]; omega) | ((repeat refine Fresh.push ?_ _); assumption) | (simp only [same_int, same_bool, same_ptr, same_slice, same_sliceP, same_nil, same_agg2, same_string]; done) | (simp [oneCell, AW.next_push]; done) | fail) only [go_sem, Nat.reduceEqDiff, reduceIte, Nat.reduceAdd, Int.toNat_natCast, Nat.add_zero, Owes_true, Tryz.results26, Nat.zero_add, c0, c1, c9, c18]
  apply callV_of (e := rfl)
  · exact Down6_ok (lw * d.r) p1 (by omega) w
  rintro _ _ ⟨rfl, rfl⟩
  simp -dsimp -implicitDefEqProofs (maxSteps := 2000000) (disch := first | assumption | omega | (simp only [AW.next_push, AW.next_put]; omega) | ((repeat refine Fresh.push ?_ _); assumption) | (simp only [same_int, same_bool, same_ptr, same_slice, same_sliceP, same_nil, same_agg2, same_string]; done) | (simp [oneCell, AW.next_push]; done) | fail) only [go_sem, Nat.reduceEqDiff, reduceIte, Nat.reduceAdd, Int.toNat_natCast, Nat.add_zero, Owes_true, Tryz.results26, hle]
  apply callV_of (e := rfl)
  · exact Down64_ok (d.sm * d.c) p2 (by omega) w
  rintro _ _ ⟨rfl, rfl⟩
  simp -dsimp -implicitDefEqProofs (maxSteps := 2000000) (disch := first | assumption | omega | (simp only [AW.next_push, AW.next_put]; omega) | ((repeat refine Fresh.push ?_ _); assumption) | (simp only [same_int, same_bool, same_ptr, same_slice, same_sliceP, same_nil, same_agg2, same_string]; done) | (simp [oneCell, AW.next_push]; done) | fail) only [go_sem, Nat.reduceEqDiff, reduceIte, Nat.reduceAdd, Int.toNat_natCast, Nat.add_zero, Owes_true, Tryz.results26, hle]
  exact ⟨rfl, rfl⟩
theorem refCharge_ok (d : DealN) (x : LN) (rn H : Int) (b : Nat) (v : Value) (w : AW) (hO : Own w b 93 (scells d v x rn H)) (hd : DealIn d) (hf : Fits d x) (hrn : rn * d.fe = x.fe) (hrb : 0 ≤ rn ∧ rn ≤ 40) :
    CallT Tryz.prog Tryz.T1 (.fn (.func 44) #[]) #[.pointer (some ⟨b, 0, none⟩)] w (Ret (.int .i64 (chF d x.lw x.cs x.fe)) fun w' => w = w') := by
  have hLegal := refLegal_ok d x rn H b v w hO hd hf
  have hlp := lwF_pos hd hf.lw.1
  obtain ⟨P, C, Q, A, op, n, lw, cs, fe, dy, he⟩ := x
  have ha := hd.a; have hl := hf.lw; have hcs := hf.cs; have hfe := hf.fe
  simp only at hl hcs hfe hrn hlp
  have m1 := mul_mono2 (show cs ≤ 39191576576000 by omega) ha.2 ha.1 (by omega)
  have p1 : 0 ≤ cs * d.a := mul_nonneg' hcs.1 ha.1
  have b1 : 0 ≤ cs * d.a / 1000000 ∧ cs * d.a / 1000000 ≤ cs * d.a := by omega
  unfold scells at hO
  have c2 := hO.cell (o := 2) rfl rfl
  have c4 := hO.cell (o := 4) rfl rfl
  have c17 := hO.cell (o := 17) rfl rfl
  have c19 := hO.cell (o := 19) rfl rfl
  have hle := WLe.refl w
  have hch : min (cs * d.a / 1000000 + fe) (lwF d lw) = chF d lw cs fe := rfl
  refine callT_code rfl Tryz.func44 rfl Tryz.s44_eq rfl ?_
  unfold Tryz.s44
  simp -dsimp -implicitDefEqProofs (maxSteps := 2000000) (disch := first | assumption | omega | (simp only [AW.next_push, AW.next_put]; omega) | ((repeat refine Fresh.push ?_ _); assumption) | (simp only [same_int, same_bool, same_ptr, same_slice, same_sliceP, same_nil, same_agg2, same_string]; done) | (simp [oneCell, AW.next_push]; done) | fail) only [go_sem, Nat.reduceEqDiff, reduceIte, Nat.reduceAdd, Int.toNat_natCast, Nat.add_zero, Owes_true, Tryz.results44, Nat.zero_add, c2, c4, c17, c19, hrn]
  apply callV_of (e := rfl)
  · exact Down6_ok (cs * d.a) p1 (by omega) w
  rintro _ _ ⟨rfl, rfl⟩
  simp -dsimp -implicitDefEqProofs (maxSteps := 2000000) (disch := first | assumption | omega | (simp only [AW.next_push, AW.next_put]; omega) | ((repeat refine Fresh.push ?_ _); assumption) | (simp only [same_int, same_bool, same_ptr, same_slice, same_sliceP, same_nil, same_agg2, same_string]; done) | (simp [oneCell, AW.next_push]; done) | fail) only [go_sem, Nat.reduceEqDiff, reduceIte, Nat.reduceAdd, Int.toNat_natCast, Nat.add_zero, Owes_true, Tryz.results44, hle]
  apply callV_of (e := rfl)
  · exact hLegal
  rintro _ _ ⟨rfl, rfl⟩
  simp -dsimp -implicitDefEqProofs (maxSteps := 2000000) (disch := first | assumption | omega | (simp only [AW.next_push, AW.next_put]; omega) | ((repeat refine Fresh.push ?_ _); assumption) | (simp only [same_int, same_bool, same_ptr, same_slice, same_sliceP, same_nil, same_agg2, same_string]; done) | (simp [oneCell, AW.next_push]; done) | fail) only [go_sem, Nat.reduceEqDiff, reduceIte, Nat.reduceAdd, Int.toNat_natCast, Nat.add_zero, Owes_true, Tryz.results44, hle, hch]
  exact ⟨rfl, rfl⟩
end Go.Proofs

/- Loans, day by day: what a day more does, as numbers. -/
namespace Go.Proofs
open Go Go.RowKit Go.Sim
set_option maxRecDepth 100000
theorem cinc {c : Nat → Int} {n : Nat} (inc : ∀ k, k + 1 < n → c k < c (k + 1)) (j : Nat) : ∀ k, j < k → k < n → c j < c k
  | 0, h, _ => by omega
  | k + 1, h, hn => by
    have h1 := inc k hn
    by_cases q : j = k
    · rw [q]; exact h1
    · have := cinc inc j k (by omega) (by omega); omega
theorem odTo_one (c : Nat → Int) (a : Int) {n : Nat} (inc : ∀ k, k + 1 < n → c k < c (k + 1)) : ∀ i, i ≤ n → (odTo c a (a + 1) i = 0 ∧ ∃ k, k < i ∧ c k = a + 1) ∨ (odTo c a (a + 1) i = 1 ∧ ∀ k, k < i → c k ≠ a + 1)
  | 0, _ => .inr ⟨by rw [odTo]; omega, fun k h => by omega⟩
  | i + 1, hi => by
    rw [odTo]
    by_cases q : c i = a + 1
    · rw [if_pos (by omega)]
      rcases odTo_one c a inc i (by omega) with ⟨h, k, hk, hc⟩ | ⟨h, hn⟩
      · have := cinc inc k i hk (by omega); omega
      · exact .inl ⟨by omega, i, by omega, q⟩
    · rw [if_neg (by omega)]
      rcases odTo_one c a inc i (by omega) with ⟨h, k, hk, hc⟩ | ⟨h, hn⟩
      · exact .inl ⟨h, k, by omega, hc⟩
      · exact .inr ⟨h, fun k hk => by
          by_cases e : k = i
          · rw [e]; exact q
          · exact hn k (by omega)⟩
theorem oD_one {d : DealN} {cl : List Int} (hd : dealB d cl = true) (a : Int) : oD cl a (a + 1) = if a + 1 ∈ cl then 0 else 1 := by
  simp only [dealB, Bool.and_eq_true] at hd
  have hcl := hd.1.1.2
  rw [closedB, Bool.and_eq_true] at hcl
  rcases odTo_one (cAt cl) a (n := cl.length) (fun k hk => clTo_inc hcl.2 hk) cl.length (Nat.le_refl _) with ⟨h, k, hk, hc⟩ | ⟨h, hn⟩
  · rw [cAt, getD_at hk] at hc
    rw [if_pos (hc ▸ List.getElem_mem hk)]; exact h
  · rw [if_neg]
    · exact h
    · intro q
      obtain ⟨k, hk, e⟩ := List.getElem_of_mem q
      exact hn k hk (by rw [cAt, getD_at hk]; exact e)
theorem passN_next {d : DealN} {cl : List Int} (hd : dealB d cl = true) {x : LN} {D : Int} (h : x.dy ≤ D) : passN cl x (D + 1) = passN cl x D + if x.he ≤ D ∧ ¬ D + 1 ∈ cl then 1 else 0 := by
  unfold passN
  by_cases q : x.he ≤ D
  · rw [oD_add cl (a := max x.dy x.he) (m := D) (b := D + 1) (by omega) (by omega), oD_one hd]
    by_cases m : D + 1 ∈ cl
    · rw [if_pos m, if_neg (fun z => z.2 m)]
    · rw [if_neg m, if_pos ⟨q, m⟩]
  · rw [oD_flat cl (by omega), oD_flat cl (by omega), if_neg (fun z => q z.1)]; rfl
theorem scells_pass_zero {d : DealN} {cl : List Int} {v : Value} {x : LN} {rn H : Int} : scells d v (passL d cl x x.dy) rn H = scells d v x rn H := by
  obtain ⟨P, C, Q, A, op, n, lw, cs, fe, dy, he⟩ := x
  cases op with
  | false => rfl
  | true =>
    have hz : passN cl ⟨P, C, Q, A, true, n, lw, cs, fe, dy, he⟩ dy = 0 := oD_flat cl (by show dy ≤ max dy he; omega)
    have hm : max 0 (-max 0 (d.fr - n)) = 0 := by omega
    simp only [passL, scells, hz, Int.zero_mul, Int.add_zero, Int.zero_sub, hm]
/-- A day that isn't counted. -/
theorem pass_skip {d : DealN} {cl : List Int} (hd : dealB d cl = true) {v : Value} {x : LN} {rn H D : Int} (h : x.dy ≤ D) (hk : x.op = false ∨ D < x.he ∨ D + 1 ∈ cl) :
    scells d v (passL d cl x (D + 1)) rn H = scells d v { passL d cl x D with dy := D + 1 } rn H := by
  have hn := passN_next hd (cl := cl) h
  obtain ⟨P, C, Q, A, op, n, lw, cs, fe, dy, he⟩ := x
  cases op with
  | false => rfl
  | true =>
    have hn2 : passN cl ⟨P, C, Q, A, true, n, lw, cs, fe, dy, he⟩ (D + 1) = passN cl ⟨P, C, Q, A, true, n, lw, cs, fe, dy, he⟩ D := by
      rw [hn, if_neg, Int.add_zero]
      rintro ⟨z1, z2⟩
      simp only at z1
      rcases hk with q | q | q
      · simp at q
      · simp only at q; omega
      · exact z2 q
    simp only [passL, scells, hn2]
def sadd (d : DealN) (y : LN) (D : Int) : LN := ⟨y.P, 0, y.Q, y.A + 1, true, y.n + 1, y.lw + y.P, if d.fr < y.n + 1 then y.cs + y.P else y.cs, y.fe, D, y.he⟩
/-- A day that is counted. -/
theorem pass_count {d : DealN} {cl : List Int} (hd : dealB d cl = true) {j : Nat} {v : Value} {x : LN} {rn H D : Int} (hok : LOk d j x) (h : x.dy ≤ D) (ho : x.op = true) (h1 : ¬ D < x.he) (h2 : ¬ D + 1 ∈ cl) :
    scells d v (passL d cl x (D + 1)) rn H = scells d v (sadd d (passL d cl x D) (D + 1)) rn H := by
  have hn := passN_next hd (cl := cl) h
  have hp := (passN_in hd hok h).1
  have hn0 := hok.n.1
  obtain ⟨P, C, Q, A, op, n, lw, cs, fe, dy, he⟩ := x
  simp only at ho h1
  subst ho
  rw [if_pos ⟨by show he ≤ D; omega, h2⟩] at hn
  generalize hk : passN cl ⟨P, C, Q, A, true, n, lw, cs, fe, dy, he⟩ D = k at *
  simp only at hn0
  have e1 : A + (k + 1) = A + k + 1 := by omega
  have e2 : n + (k + 1) = n + k + 1 := by omega
  have e3 : lw + (k + 1) * P = lw + k * P + P := by rw [Int.add_mul, Int.one_mul]; omega
  have e4 : cs + max 0 (k + 1 - max 0 (d.fr - n)) * P = if d.fr < n + k + 1 then cs + max 0 (k - max 0 (d.fr - n)) * P + P else cs + max 0 (k - max 0 (d.fr - n)) * P := by
    split
    · have : max 0 (k + 1 - max 0 (d.fr - n)) = max 0 (k - max 0 (d.fr - n)) + 1 := by omega
      rw [this, Int.add_mul, Int.one_mul]; omega
    · have : max 0 (k + 1 - max 0 (d.fr - n)) = max 0 (k - max 0 (d.fr - n)) := by omega
      rw [this]
  simp only [passL, scells, sadd, hn, hk, e1, e2, e3, e4]
/-- The chapter's Held, and up to which day the program's loan is held. -/
def HRel (d : DealN) (x : LN) (H : Int) : Prop := H = x.he ∨ (H = 0 ∧ x.he = d.st)
theorem HRel.before {d : DealN} {x : LN} {H D : Int} (h : HRel d x H) (h0 : 0 ≤ d.st) (hD : d.st ≤ D) : D < H ↔ D < x.he := by
  rcases h with q | ⟨q, p⟩
  · rw [q]
  · omega
theorem pass_he {d : DealN} {cl : List Int} {x : LN} {D : Int} : (passL d cl x D).he = x.he := by
  unfold passL; cases x.op <;> rfl
theorem pass_op {d : DealN} {cl : List Int} {x : LN} {D : Int} : (passL d cl x D).op = x.op := by
  unfold passL; cases h : x.op <;> simp [h]
theorem pass_fe {d : DealN} {cl : List Int} {x : LN} {D : Int} : (passL d cl x D).fe = x.fe := by
  unfold passL; cases x.op <;> rfl
end Go.Proofs

/- Loans, as the chapter has them: the first day, on to another day, the account. -/
namespace Go.Proofs
open Go Go.RowKit Go.Sim
set_option maxRecDepth 100000
theorem bld93 (d : DealN) (p : Option Addr) (n c : Nat) (a : Int) : bldQ [(0, 10), (10, 5), (15, 1), (16, 1), (17, 1), (18, 1), (19, 1), (20, 1)] [.int .i64 0, .int .i64 0, .int .i64 0, .int .i64 0, .int .i64 0, .int .i64 0, .int .i64 0, .slice none 0 0, .int .i64 0, .int .i64 0, .int .i64 0, .int .i64 0, .int .i64 0, .int .i64 0, .bool false, .int .i64 0, .int .i64 0, .int .i64 0, .int .i64 0, .int .i64 0, .int .i64 0]
    [(0, .agg #[.int .i64 d.r, .int .i64 d.c, .int .i64 d.a, .int .i64 d.fr, .int .i64 d.fe, .int .i64 d.tm, .int .i64 d.gr, (.slice p n c), .int .i64 d.st, .int .i64 d.sm]), (1, .agg #[.int .i64 a, .int .i64 0, .int .i64 0, .int .i64 0, .bool true]), (2, .int .i64 d.st)] = some (.agg #[.int .i64 d.r, .int .i64 d.c, .int .i64 d.a, .int .i64 d.fr, .int .i64 d.fe, .int .i64 d.tm, .int .i64 d.gr, .slice p n c, .int .i64 d.st, .int .i64 d.sm, .int .i64 a, .int .i64 0, .int .i64 0, .int .i64 0, .bool true, .int .i64 d.st, .int .i64 0, .int .i64 0, .int .i64 0, .int .i64 0, .int .i64 0]) := by kernel_rfl
attribute [go_sem] bld93
set_option maxHeartbeats 1000000 in
theorem refBegin_ok (d : DealN) (cl : List Int) (v : Value) (w : AW) (f : Fresh w) (hs : ArrOf w 1 icells v cl) : CallT Tryz.prog Tryz.T1 (.fn (.func 41) #[]) #[.agg #[.int .i64 d.r, .int .i64 d.c, .int .i64 d.a, .int .i64 d.fr, .int .i64 d.fe, .int .i64 d.tm, .int .i64 d.gr, v, .int .i64 d.st, .int .i64 d.sm]] w (fun r w' => ∃ b, r = .pointer (some ⟨b, 0, none⟩) ∧ Own w' b 93 (scells d v (beginL d) 0 0) ∧ w.next ≤ b ∧ Grown w w') := by
  obtain ⟨p, cap, rfl, _⟩ := id hs.open
  have g := (Grown.refl f).push (.cells [.int .i64 d.r, .int .i64 d.c, .int .i64 d.a, .int .i64 d.fr, .int .i64 d.fe, .int .i64 d.tm, .int .i64 d.gr, (.slice p cl.length cap), .int .i64 d.st, .int .i64 d.sm] 28 w.next 0 0)
  have hO := Own.new f 28 [.int .i64 d.r, .int .i64 d.c, .int .i64 d.a, .int .i64 d.fr, .int .i64 d.fe, .int .i64 d.tm, .int .i64 d.gr, (.slice p cl.length cap), .int .i64 d.st, .int .i64 d.sm]
  have hN := Own.new g.2 93 (scells d (.slice p cl.length cap) (beginL d) 0 0)
  have g2 := g.push (.cells (scells d (.slice p cl.length cap) (beginL d) 0 0) 93 (w.push (.cells [.int .i64 d.r, .int .i64 d.c, .int .i64 d.a, .int .i64 d.fr, .int .i64 d.fe, .int .i64 d.tm, .int .i64 d.gr, (.slice p cl.length cap), .int .i64 d.st, .int .i64 d.sm] 28 w.next 0 0)).next 0 0)
  unfold scells beginL at hN g2
  have c0 := (hO).cell (o := 0) rfl rfl
  have c1 := (hO).cell (o := 1) rfl rfl
  have c2 := (hO).cell (o := 2) rfl rfl
  have c3 := (hO).cell (o := 3) rfl rfl
  have c4 := (hO).cell (o := 4) rfl rfl
  have c5 := (hO).cell (o := 5) rfl rfl
  have c6 := (hO).cell (o := 6) rfl rfl
  have c7 := (hO).cell (o := 7) rfl rfl
  have c8 := (hO).cell (o := 8) rfl rfl
  have c9 := (hO).cell (o := 9) rfl rfl
  refine callT_code rfl Tryz.func41 rfl Tryz.s41_eq rfl ?_
  unfold Tryz.s41
  simp -dsimp -implicitDefEqProofs (maxSteps := 2000000) (disch := first | assumption | omega | (simp only [AW.next_push, AW.next_put]; omega) | ((repeat refine Fresh.push ?_ _); assumption) | (simp only [same_int, same_bool, same_ptr, same_slice, same_sliceP, same_nil, same_agg2, same_string]; done) | (simp [oneCell, AW.next_push]; done) | fail) only [go_sem, Nat.reduceEqDiff, reduceIte, Nat.reduceAdd, Int.toNat_natCast, Nat.add_zero, Owes_true, Tryz.results41, Nat.zero_add, c0, c1, c2, c3, c4, c5, c6, c7, c8, c9]
  rw [AW.next_push] at hN g2
  exact ⟨_, rfl, hN, by omega, g2⟩
theorem Mut_side {b c : Nat} {u v w : AW} (h : Mut b u v) (k : Mut c v w) (hc : u.next ≤ c) : Mut b u w :=
  ⟨fun i hi hn => (k.blk i (by have := h.next; omega) (by omega)).trans (h.blk i hi hn), fun i hi => (k.fam i (by have := h.next; omega)).trans (h.fam i hi), Nat.le_trans h.next k.next, k.fresh⟩
theorem put_s {w : AW} {b o : Nat} {d : DealN} {v V : Value} {x x' : LN} {rn H rn' H' : Int} (hO : Own w b 93 (scells d v x rn H)) (f : Fresh w) (ho : o < 21) (hV : oneCell V = true) (he : setL (scells d v x rn H) o V = scells d v x' rn' H') :
    ∃ w1, storeV w false 1 (.pointer (some ⟨b, o, none⟩)) V = some w1 ∧ Own w1 b 93 (scells d v x' rn' H') ∧ Mut b w w1 := by
  have h := storeV_own1 (o := o) (v := V) hO ho hV
  rw [he] at h
  exact ⟨_, h, hO.put _, (Mut.refl f).put hO _⟩
theorem put_x {w : AW} {b : Nat} {d : DealN} {v : Value} {x : LN} {rn H : Int} (hO : Own w b 93 (scells d v x rn H)) (f : Fresh w) (P Q A : Int) (op : Bool) :
    ∃ w1, storeV w true 5 (.pointer (some ⟨b, 10, none⟩)) (.agg #[.int .i64 P, .int .i64 0, .int .i64 Q, .int .i64 A, .bool op]) = some w1 ∧ Own w1 b 93 (scells d v { x with P := P, Q := Q, A := A, op := op } rn H) ∧ Mut b w w1 := by
  have h := storeV_own (o := 10) (l := [.int .i64 P, .int .i64 0, .int .i64 Q, .int .i64 A, .bool op]) (size := 5) hO rfl (by omega) (by simp [scells]) (by rfl)
  exact ⟨_, h, hO.put _, (Mut.refl f).put hO _⟩
set_option maxHeartbeats 1000000 in
theorem refAccount_ok (d : DealN) (x : LN) (j : Nat) (rn H : Int) (b : Nat) (v : Value) (w : AW) (f : Fresh w) (hO : Own w b 93 (scells d v x rn H)) (hd : DealIn d) (hf : Fits d x) (hC : x.C = chF d x.lw x.cs x.fe) (hrn : rn * d.fe = x.fe) (hrb : 0 ≤ rn ∧ rn ≤ 40) :
    CallT Tryz.prog Tryz.T1 (.fn (.func 24) #[]) #[.pointer (some ⟨b, 0, none⟩)] w (Ret (accV x) (Grown w)) := by
  have g1 := (Grown.refl f).push (.cells [.int .i64 0, .int .i64 0, .int .i64 0, .int .i64 0, .bool false] 37 w.next 0 0)
  have g2 := g1.push (.cells [.int .i64 x.P, .int .i64 0, .int .i64 x.Q, .int .i64 x.A, .bool x.op] 37 (w.next + 1) 0 0)
  have hR := (Own.new f 37 [.int .i64 0, .int .i64 0, .int .i64 0, .int .i64 0, .bool false]).push (.cells [.int .i64 x.P, .int .i64 0, .int .i64 x.Q, .int .i64 x.A, .bool x.op] 37 (w.next + 1) 0 0)
  have hX := Own.new g1.2 37 [.int .i64 x.P, .int .i64 0, .int .i64 x.Q, .int .i64 x.A, .bool x.op]
  simp only [AW.next_push] at hX
  have hO1 := hO.push (.cells [.int .i64 0, .int .i64 0, .int .i64 0, .int .i64 0, .bool false] 37 w.next 0 0)
  have hO2 := hO1.push (.cells [.int .i64 x.P, .int .i64 0, .int .i64 x.Q, .int .i64 x.A, .bool x.op] 37 (w.next + 1) 0 0)
  have hCh := refCharge_ok d x rn H b v _ hO2 hd hf hrn hrb
  unfold scells at hO1
  have c10 := hO1.cell (o := 10) rfl rfl
  have c11 := hO1.cell (o := 11) rfl rfl
  have c12 := hO1.cell (o := 12) rfl rfl
  have c13 := hO1.cell (o := 13) rfl rfl
  have c14 := hO1.cell (o := 14) rfl rfl
  refine callT_code rfl Tryz.func24 rfl Tryz.s24_eq rfl ?_
  unfold Tryz.s24
  simp -dsimp -implicitDefEqProofs (maxSteps := 2000000) (disch := first | assumption | omega | (simp only [AW.next_push, AW.next_put]; omega) | ((repeat refine Fresh.push ?_ _); assumption) | (simp only [same_int, same_bool, same_ptr, same_slice, same_sliceP, same_nil, same_agg2, same_string]; done) | (simp [oneCell, AW.next_push]; done) | fail) only [go_sem, Nat.reduceEqDiff, reduceIte, Nat.reduceAdd, Int.toNat_natCast, Nat.add_zero, Owes_true, Tryz.results24, Nat.zero_add, c10, c11, c12, c13, c14]
  generalize ((w.push (.cells [.int .i64 0, .int .i64 0, .int .i64 0, .int .i64 0, .bool false] 37 w.next 0 0)).push (.cells [.int .i64 x.P, .int .i64 0, .int .i64 x.Q, .int .i64 x.A, .bool x.op] 37 (w.next + 1) 0 0)) = W at *
  apply callV_of (e := rfl)
  · exact hCh
  rintro _ _ ⟨rfl, rfl⟩
  have p1 := storeV_own1 (o := 1) (v := .int .i64 (chF d x.lw x.cs x.fe)) hX (by simp) rfl
  have hX1 := hX.put [.int .i64 x.P, .int .i64 (chF d x.lw x.cs x.fe), .int .i64 x.Q, .int .i64 x.A, .bool x.op]
  have g3 : Grown w (W.put (w.next + 1) (.cells [.int .i64 x.P, .int .i64 (chF d x.lw x.cs x.fe), .int .i64 x.Q, .int .i64 x.A, .bool x.op] 37 (w.next + 1) 0 0)) := ⟨g2.1.put (by omega) _, g2.2.put hX.lt _⟩
  generalize hW3 : W.put (w.next + 1) (.cells [.int .i64 x.P, .int .i64 (chF d x.lw x.cs x.fe), .int .i64 x.Q, .int .i64 x.A, .bool x.op] 37 (w.next + 1) 0 0) = W3 at *
  have hR1 := hR.keepC (C := w.next + 1) (w' := W3) (by rw [← hW3]; exact Keep.put (.refl _ _) (Nat.le_refl _) _) (by omega)
  have p2 := storeV_own (o := 0) (l := [.int .i64 x.P, .int .i64 (chF d x.lw x.cs x.fe), .int .i64 x.Q, .int .i64 x.A, .bool x.op]) (size := 5) hR1 rfl (by omega) (by simp) (by rfl)
  have hR2 := hR1.put [.int .i64 x.P, .int .i64 (chF d x.lw x.cs x.fe), .int .i64 x.Q, .int .i64 x.A, .bool x.op]
  have g4 : Grown w (W3.put w.next (.cells [.int .i64 x.P, .int .i64 (chF d x.lw x.cs x.fe), .int .i64 x.Q, .int .i64 x.A, .bool x.op] 37 w.next 0 0)) := ⟨g3.1.put (by omega) _, g3.2.put hR1.lt _⟩
  simp only [setL, setsL] at p1 p2
  rw [hW3] at p1
  generalize W3.put w.next (.cells [.int .i64 x.P, .int .i64 (chF d x.lw x.cs x.fe), .int .i64 x.Q, .int .i64 x.A, .bool x.op] 37 w.next 0 0) = W4 at *
  have u0 := hX1.cell (o := 0) rfl rfl
  have u1 := hX1.cell (o := 1) rfl rfl
  have u2 := hX1.cell (o := 2) rfl rfl
  have u3 := hX1.cell (o := 3) rfl rfl
  have u4 := hX1.cell (o := 4) rfl rfl
  have k0 := hR2.cell (o := 0) rfl rfl
  have k1 := hR2.cell (o := 1) rfl rfl
  have k2 := hR2.cell (o := 2) rfl rfl
  have k3 := hR2.cell (o := 3) rfl rfl
  have k4 := hR2.cell (o := 4) rfl rfl
  simp -dsimp -implicitDefEqProofs (maxSteps := 2000000) (disch := first | assumption | omega | (simp only [AW.next_push, AW.next_put]; omega) | ((repeat refine Fresh.push ?_ _); assumption) | (simp only [same_int, same_bool, same_ptr, same_slice, same_sliceP, same_nil, same_agg2, same_string]; done) | (simp [oneCell, AW.next_push]; done) | fail) only [go_sem, Nat.reduceEqDiff, reduceIte, Nat.reduceAdd, Int.toNat_natCast, Nat.add_zero, Owes_true, Tryz.results24, Nat.zero_add, p1, u0, u1, u2, u3, u4, p2, k0, k1, k2, k3, k4]
  exact ⟨by unfold accV; rw [hC], g4⟩
set_option maxHeartbeats 2000000 in
theorem refTo_ok (d : DealN) (cl : List Int) (x : LN) (day : Int) (j b B : Nat) (rn H : Int) (v : Value) (w : AW) (f : Fresh w) (hs : Arr B w 1 v (cl.map icells)) (hB : B ≤ b) (hO : Own w b 93 (scells d v x rn H)) (hd : dealB d cl = true) (h : LOk d j x) (hj : j ≤ 33) (hH : HRel d x H) (h1 : x.dy ≤ day) (h2 : day ≤ 36500) :
    CallT Tryz.prog Tryz.T1 (.fn (.func 43) #[]) #[.pointer (some ⟨b, 0, none⟩), .int .i64 day] w (fun r w' => r = .tuple #[] ∧ Own w' b 93 (scells d v (passL d cl x day) rn H) ∧ Mut b w w') := by
  have hv := Arr.one hs
  have hsv : same 12 v v = true := by obtain ⟨_, _, _, rfl, _⟩ := id hs; exact same_sliceP _ _ _
  have hi := (dealB_in hd).1
  have hst := hi.st; have hfr := hi.fr; have hsm := hi.sm
  have hxd := h.dy
  have hO0 : Own w b 93 (scells d v (passL d cl x x.dy) rn H) := by rw [scells_pass_zero]; exact hO
  refine callT_code rfl Tryz.func43 rfl Tryz.s43_eq rfl ?_
  unfold Tryz.s43
  simp -dsimp -implicitDefEqProofs (maxSteps := 2000000) (disch := first | assumption | omega | (simp only [AW.next_push, AW.next_put]; omega) | ((repeat refine Fresh.push ?_ _); assumption) | (simp only [same_int, same_bool, same_ptr, same_slice, same_sliceP, same_nil, same_agg2, same_string]; done) | (simp [oneCell, AW.next_push]; done) | fail) only [go_sem, Nat.reduceEqDiff, reduceIte, Nat.reduceAdd, Int.toNat_natCast, Nat.add_zero, Owes_true]
  refine loopR (fun k t ds w2 => ∃ i : Nat, i ≤ (day - x.dy).toNat ∧ k = (day - x.dy).toNat - i ∧ ds = [] ∧ ev t (.tmp 0) = .pointer (some ⟨b, 0, none⟩) ∧ ev t (.tmp 1) = .int .i64 day ∧ Own w2 b 93 (scells d v (passL d cl x (x.dy + (i : Int))) rn H) ∧ Mut b w w2) ((day - x.dy).toNat) ?_ ?_
  · refine ⟨0, by omega, by omega, rfl, ?_, ?_, (by simpa using hO0), Mut.refl f⟩ <;> simp -dsimp -implicitDefEqProofs (maxSteps := 2000000) (disch := first | assumption | omega | (simp only [AW.next_push, AW.next_put]; omega) | ((repeat refine Fresh.push ?_ _); assumption) | (simp only [same_int, same_bool, same_ptr, same_slice, same_sliceP, same_nil, same_agg2, same_string]; done) | (simp [oneCell, AW.next_push]; done) | fail) only [go_sem, Nat.reduceEqDiff, reduceIte, Nat.reduceAdd, Int.toNat_natCast, Nat.add_zero, Owes_true] <;> rfl
  rintro k t ds w2 ⟨i, hii, rfl, rfl, e0, e1, hO2, m2⟩
  have hp := pass_keeps hd h (day := x.dy + (i : Int)) (by omega) (by omega)
  have hyd : (passL d cl x (x.dy + (i : Int))).dy = x.dy + (i : Int) := pass_day
  have hft := hp.fits hd (by omega)
  have hbef := hH.before (D := x.dy + (i : Int)) hst.1 (by omega)
  have hskip := pass_skip hd (cl := cl) (v := v) (x := x) (rn := rn) (H := H) (D := x.dy + (i : Int)) (by omega)
  have hcount := pass_count hd (cl := cl) (v := v) (x := x) (rn := rn) (H := H) (D := x.dy + (i : Int)) h (by omega)
  have hnext : x.dy + ((i + 1 : Nat) : Int) = x.dy + (i : Int) + 1 := by omega
  have hyo : (passL d cl x (x.dy + (i : Int))).op = x.op := pass_op
  by_cases hlt : x.dy + (i : Int) < day
  case neg =>
    have hend : x.dy + (i : Int) = day := by omega
    rw [hend] at hO2
    have hO3 := hO2
    unfold scells at hO3
    have c15 := hO3.cell (o := 15) rfl rfl
    rw [pass_day] at c15
    have hno : ¬ day < day := by omega
    simp -dsimp -implicitDefEqProofs (maxSteps := 2000000) (disch := first | assumption | omega | (simp only [AW.next_push, AW.next_put]; omega) | ((repeat refine Fresh.push ?_ _); assumption) | (simp only [same_int, same_bool, same_ptr, same_slice, same_sliceP, same_nil, same_agg2, same_string]; done) | (simp [oneCell, AW.next_push]; done) | fail) only [go_sem, Nat.reduceEqDiff, reduceIte, Nat.reduceAdd, Int.toNat_natCast, Nat.add_zero, Owes_true, Tryz.results43, e0, e1, Nat.zero_add, c15, hno]
    exact ⟨trivial, hO2, m2⟩
  generalize passL d cl x (x.dy + (i : Int)) = y at *
  generalize hD : x.dy + (i : Int) = D at *
  obtain ⟨P, C, Q, A, op, n, lw, cs, fe, dy, he⟩ := y
  simp only at hyd hyo
  subst hyd
  have hA := hp.A; have hn := hp.n; have hP := hp.P
  have hlw := hft.lw; have hcs := hft.cs
  simp only at hA hn hP hlw hcs
  obtain ⟨w3, k3, hO3, m3⟩ := put_s (o := 15) (V := .int .i64 (dy + 1)) (x' := ⟨P, C, Q, A, op, n, lw, cs, fe, dy + 1, he⟩) hO2 m2.fresh (by decide) rfl rfl
  have m3' := m2.trans m3
  have c0 := (hO2).cell (o := 0) rfl rfl
  have c1 := (hO2).cell (o := 1) rfl rfl
  have c2 := (hO2).cell (o := 2) rfl rfl
  have c3 := (hO2).cell (o := 3) rfl rfl
  have c4 := (hO2).cell (o := 4) rfl rfl
  have c5 := (hO2).cell (o := 5) rfl rfl
  have c6 := (hO2).cell (o := 6) rfl rfl
  have c7 := (hO2).cell (o := 7) rfl hv
  have c8 := (hO2).cell (o := 8) rfl rfl
  have c9 := (hO2).cell (o := 9) rfl rfl
  have c10 := (hO2).cell (o := 10) rfl rfl
  have c11 := (hO2).cell (o := 11) rfl rfl
  have c12 := (hO2).cell (o := 12) rfl rfl
  have c13 := (hO2).cell (o := 13) rfl rfl
  have c14 := (hO2).cell (o := 14) rfl rfl
  have c15 := (hO2).cell (o := 15) rfl rfl
  have c16 := (hO2).cell (o := 16) rfl rfl
  have c17 := (hO2).cell (o := 17) rfl rfl
  have c18 := (hO2).cell (o := 18) rfl rfl
  have c19 := (hO2).cell (o := 19) rfl rfl
  have c20 := (hO2).cell (o := 20) rfl rfl
  simp -dsimp -implicitDefEqProofs (maxSteps := 2000000) (disch := first | assumption | omega | (simp only [AW.next_push, AW.next_put]; omega) | ((repeat refine Fresh.push ?_ _); assumption) | (simp only [same_int, same_bool, same_ptr, same_slice, same_sliceP, same_nil, same_agg2, same_string]; done) | (simp [oneCell, AW.next_push]; done) | fail) only [go_sem, Nat.reduceEqDiff, reduceIte, Nat.reduceAdd, Int.toNat_natCast, Nat.add_zero, Owes_true, Tryz.results43, e0, e1, Nat.zero_add, c15, hlt, k3]
  have c0 := (hO3).cell (o := 0) rfl rfl
  have c1 := (hO3).cell (o := 1) rfl rfl
  have c2 := (hO3).cell (o := 2) rfl rfl
  have c3 := (hO3).cell (o := 3) rfl rfl
  have c4 := (hO3).cell (o := 4) rfl rfl
  have c5 := (hO3).cell (o := 5) rfl rfl
  have c6 := (hO3).cell (o := 6) rfl rfl
  have c7 := (hO3).cell (o := 7) rfl hv
  have c8 := (hO3).cell (o := 8) rfl rfl
  have c9 := (hO3).cell (o := 9) rfl rfl
  have c10 := (hO3).cell (o := 10) rfl rfl
  have c11 := (hO3).cell (o := 11) rfl rfl
  have c12 := (hO3).cell (o := 12) rfl rfl
  have c13 := (hO3).cell (o := 13) rfl rfl
  have c14 := (hO3).cell (o := 14) rfl rfl
  have c15 := (hO3).cell (o := 15) rfl rfl
  have c16 := (hO3).cell (o := 16) rfl rfl
  have c17 := (hO3).cell (o := 17) rfl rfl
  have c18 := (hO3).cell (o := 18) rfl rfl
  have c19 := (hO3).cell (o := 19) rfl rfl
  have c20 := (hO3).cell (o := 20) rfl rfl
  cases op with
  | false =>
    have := hskip (.inl hyo.symm)
    simp -dsimp -implicitDefEqProofs (maxSteps := 2000000) (disch := first | assumption | omega | (simp only [AW.next_push, AW.next_put]; omega) | ((repeat refine Fresh.push ?_ _); assumption) | (simp only [same_int, same_bool, same_ptr, same_slice, same_sliceP, same_nil, same_agg2, same_string]; done) | (simp [oneCell, AW.next_push]; done) | fail) only [go_sem, Nat.reduceEqDiff, reduceIte, Nat.reduceAdd, Int.toNat_natCast, Nat.add_zero, Owes_true, Tryz.results43, e0, e1, Nat.zero_add, c14]
    refine ⟨_, by omega, i + 1, by omega, rfl, rfl, by (simp -dsimp -implicitDefEqProofs (maxSteps := 2000000) (disch := first | assumption | omega | (simp only [AW.next_push, AW.next_put]; omega) | ((repeat refine Fresh.push ?_ _); assumption) | (simp only [same_int, same_bool, same_ptr, same_slice, same_sliceP, same_nil, same_agg2, same_string]; done) | (simp [oneCell, AW.next_push]; done) | fail) only [go_sem, Nat.reduceEqDiff, reduceIte, Nat.reduceAdd, Int.toNat_natCast, Nat.add_zero, Owes_true, e0]; try rfl), by (simp -dsimp -implicitDefEqProofs (maxSteps := 2000000) (disch := first | assumption | omega | (simp only [AW.next_push, AW.next_put]; omega) | ((repeat refine Fresh.push ?_ _); assumption) | (simp only [same_int, same_bool, same_ptr, same_slice, same_sliceP, same_nil, same_agg2, same_string]; done) | (simp [oneCell, AW.next_push]; done) | fail) only [go_sem, Nat.reduceEqDiff, reduceIte, Nat.reduceAdd, Int.toNat_natCast, Nat.add_zero, Owes_true, e1]; try rfl), (by rw [hnext, this]; exact hO3), m3'⟩
  | true =>
  by_cases hheld : dy + 1 ≤ H
  · have := hskip (.inr (.inl (hbef.1 (by omega))))
    simp -dsimp -implicitDefEqProofs (maxSteps := 2000000) (disch := first | assumption | omega | (simp only [AW.next_push, AW.next_put]; omega) | ((repeat refine Fresh.push ?_ _); assumption) | (simp only [same_int, same_bool, same_ptr, same_slice, same_sliceP, same_nil, same_agg2, same_string]; done) | (simp [oneCell, AW.next_push]; done) | fail) only [go_sem, Nat.reduceEqDiff, reduceIte, Nat.reduceAdd, Int.toNat_natCast, Nat.add_zero, Owes_true, Tryz.results43, e0, e1, Nat.zero_add, c14, c15, c20, hheld]
    refine ⟨_, by omega, i + 1, by omega, rfl, rfl, by (simp -dsimp -implicitDefEqProofs (maxSteps := 2000000) (disch := first | assumption | omega | (simp only [AW.next_push, AW.next_put]; omega) | ((repeat refine Fresh.push ?_ _); assumption) | (simp only [same_int, same_bool, same_ptr, same_slice, same_sliceP, same_nil, same_agg2, same_string]; done) | (simp [oneCell, AW.next_push]; done) | fail) only [go_sem, Nat.reduceEqDiff, reduceIte, Nat.reduceAdd, Int.toNat_natCast, Nat.add_zero, Owes_true, e0]; try rfl), by (simp -dsimp -implicitDefEqProofs (maxSteps := 2000000) (disch := first | assumption | omega | (simp only [AW.next_push, AW.next_put]; omega) | ((repeat refine Fresh.push ?_ _); assumption) | (simp only [same_int, same_bool, same_ptr, same_slice, same_sliceP, same_nil, same_agg2, same_string]; done) | (simp [oneCell, AW.next_push]; done) | fail) only [go_sem, Nat.reduceEqDiff, reduceIte, Nat.reduceAdd, Int.toNat_natCast, Nat.add_zero, Owes_true, e1]; try rfl), (by rw [hnext, this]; exact hO3), m3'⟩
  have hs3 := hs.keep (m3'.keep hB (by have := hO.lt; omega)) (Nat.le_refl _)
  have hle := WLe.refl w3
  simp -dsimp -implicitDefEqProofs (maxSteps := 2000000) (disch := first | assumption | omega | (simp only [AW.next_push, AW.next_put]; omega) | ((repeat refine Fresh.push ?_ _); assumption) | (simp only [same_int, same_bool, same_ptr, same_slice, same_sliceP, same_nil, same_agg2, same_string]; done) | (simp [oneCell, AW.next_push]; done) | fail) only [go_sem, Nat.reduceEqDiff, reduceIte, Nat.reduceAdd, Int.toNat_natCast, Nat.add_zero, Owes_true, Tryz.results43, e0, e1, Nat.zero_add, c14, c15, c20, hheld, c7, hsv]
  apply callV_of (e := rfl)
  · exact seek_ok cl (dy + 1) v w3 (hs3.mono (by have := hO3.lt; omega))
  rintro _ _ ⟨z, rfl, hz, rfl⟩
  by_cases hm : dy + 1 ∈ cl
  · rw [decide_eq_true hm] at hz
    have hz' : 0 ≤ z := of_decide_eq_true hz
    have hge0 : decide (z ≥ 0) = true := hz
    have := hskip (.inr (.inr hm))
    simp -dsimp -implicitDefEqProofs (maxSteps := 2000000) (disch := first | assumption | omega | (simp only [AW.next_push, AW.next_put]; omega) | ((repeat refine Fresh.push ?_ _); assumption) | (simp only [same_int, same_bool, same_ptr, same_slice, same_sliceP, same_nil, same_agg2, same_string]; done) | (simp [oneCell, AW.next_push]; done) | fail) only [go_sem, Nat.reduceEqDiff, reduceIte, Nat.reduceAdd, Int.toNat_natCast, Nat.add_zero, Owes_true, Tryz.results43, e0, e1, hz', hge0, hle]
    refine ⟨_, by omega, i + 1, by omega, rfl, rfl, by (simp -dsimp -implicitDefEqProofs (maxSteps := 2000000) (disch := first | assumption | omega | (simp only [AW.next_push, AW.next_put]; omega) | ((repeat refine Fresh.push ?_ _); assumption) | (simp only [same_int, same_bool, same_ptr, same_slice, same_sliceP, same_nil, same_agg2, same_string]; done) | (simp [oneCell, AW.next_push]; done) | fail) only [go_sem, Nat.reduceEqDiff, reduceIte, Nat.reduceAdd, Int.toNat_natCast, Nat.add_zero, Owes_true, e0]; try rfl), by (simp -dsimp -implicitDefEqProofs (maxSteps := 2000000) (disch := first | assumption | omega | (simp only [AW.next_push, AW.next_put]; omega) | ((repeat refine Fresh.push ?_ _); assumption) | (simp only [same_int, same_bool, same_ptr, same_slice, same_sliceP, same_nil, same_agg2, same_string]; done) | (simp [oneCell, AW.next_push]; done) | fail) only [go_sem, Nat.reduceEqDiff, reduceIte, Nat.reduceAdd, Int.toNat_natCast, Nat.add_zero, Owes_true, e1]; try rfl), (by rw [hnext, this]; exact hO3), m3'⟩
  rw [decide_eq_false hm] at hz
  have hz' : ¬ 0 ≤ z := of_decide_eq_false hz
  have hge0 : decide (z ≥ 0) = false := hz
  have hcnt := hcount hyo.symm (fun q => by have := hbef.2 q; omega) hm
  obtain ⟨w4, k4, hO4, m4⟩ := put_s (o := 16) (V := .int .i64 (n + 1)) (x' := ⟨P, C, Q, A, true, n + 1, lw, cs, fe, dy + 1, he⟩) hO3 m3'.fresh (by decide) rfl rfl
  have m4' := m3'.trans m4
  simp -dsimp -implicitDefEqProofs (maxSteps := 2000000) (disch := first | assumption | omega | (simp only [AW.next_push, AW.next_put]; omega) | ((repeat refine Fresh.push ?_ _); assumption) | (simp only [same_int, same_bool, same_ptr, same_slice, same_sliceP, same_nil, same_agg2, same_string]; done) | (simp [oneCell, AW.next_push]; done) | fail) only [go_sem, Nat.reduceEqDiff, reduceIte, Nat.reduceAdd, Int.toNat_natCast, Nat.add_zero, Owes_true, Tryz.results43, e0, e1, hz', hge0, hle, Nat.zero_add, c16, k4]
  have c0 := (hO4).cell (o := 0) rfl rfl
  have c1 := (hO4).cell (o := 1) rfl rfl
  have c2 := (hO4).cell (o := 2) rfl rfl
  have c3 := (hO4).cell (o := 3) rfl rfl
  have c4 := (hO4).cell (o := 4) rfl rfl
  have c5 := (hO4).cell (o := 5) rfl rfl
  have c6 := (hO4).cell (o := 6) rfl rfl
  have c7 := (hO4).cell (o := 7) rfl hv
  have c8 := (hO4).cell (o := 8) rfl rfl
  have c9 := (hO4).cell (o := 9) rfl rfl
  have c10 := (hO4).cell (o := 10) rfl rfl
  have c11 := (hO4).cell (o := 11) rfl rfl
  have c12 := (hO4).cell (o := 12) rfl rfl
  have c13 := (hO4).cell (o := 13) rfl rfl
  have c14 := (hO4).cell (o := 14) rfl rfl
  have c15 := (hO4).cell (o := 15) rfl rfl
  have c16 := (hO4).cell (o := 16) rfl rfl
  have c17 := (hO4).cell (o := 17) rfl rfl
  have c18 := (hO4).cell (o := 18) rfl rfl
  have c19 := (hO4).cell (o := 19) rfl rfl
  have c20 := (hO4).cell (o := 20) rfl rfl
  have hX := Own.new m4'.fresh 37 [.int .i64 P, .int .i64 0, .int .i64 Q, .int .i64 A, .bool true]
  have hO5 := hO4.push (.cells [.int .i64 P, .int .i64 0, .int .i64 Q, .int .i64 A, .bool true] 37 w4.next 0 0)
  have m5 := m4'.push (.cells [.int .i64 P, .int .i64 0, .int .i64 Q, .int .i64 A, .bool true] 37 w4.next 0 0)
  have hne : w4.next ≠ b := by have := hO4.lt; omega
  have hne2 : b ≠ w4.next := by omega
  have f4 := m4'.fresh
  simp -dsimp -implicitDefEqProofs (maxSteps := 2000000) (disch := first | assumption | omega | (simp only [AW.next_push, AW.next_put]; omega) | ((repeat refine Fresh.push ?_ _); assumption) | (simp only [same_int, same_bool, same_ptr, same_slice, same_sliceP, same_nil, same_agg2, same_string]; done) | (simp [oneCell, AW.next_push]; done) | fail) only [go_sem, Nat.reduceEqDiff, reduceIte, Nat.reduceAdd, Int.toNat_natCast, Nat.add_zero, Owes_true, Tryz.results43, e0, e1, Nat.zero_add, c10, c11, c12, c13, c14]
  generalize w4.push (.cells [.int .i64 P, .int .i64 0, .int .i64 Q, .int .i64 A, .bool true] 37 w4.next 0 0) = w5 at *
  have u3 := hX.cell (o := 3) rfl rfl
  have p6 := storeV_own1 (o := 3) (v := .int .i64 (A + 1)) hX (by simp) rfl
  have hX6 := hX.put [.int .i64 P, .int .i64 0, .int .i64 Q, .int .i64 (A + 1), .bool true]
  have m6x : Mut w4.next w5 (w5.put w4.next (.cells [.int .i64 P, .int .i64 0, .int .i64 Q, .int .i64 (A + 1), .bool true] 37 w4.next 0 0)) := (Mut.refl m5.fresh).put hX _
  have hO6 := m6x.own hO5 hne2
  have m6 : Mut b w (w5.put w4.next (.cells [.int .i64 P, .int .i64 0, .int .i64 Q, .int .i64 (A + 1), .bool true] 37 w4.next 0 0)) := Mut_side m5 m6x m4'.next
  simp only [setL] at p6
  generalize w5.put w4.next (.cells [.int .i64 P, .int .i64 0, .int .i64 Q, .int .i64 (A + 1), .bool true] 37 w4.next 0 0) = w6 at *
  have v0 := hX6.cell (o := 0) rfl rfl
  have v1 := hX6.cell (o := 1) rfl rfl
  have v2 := hX6.cell (o := 2) rfl rfl
  have v3 := hX6.cell (o := 3) rfl rfl
  have v4 := hX6.cell (o := 4) rfl rfl
  obtain ⟨w7, k7, hO7, m7⟩ := put_x hO6 m6.fresh P Q (A + 1) true
  obtain ⟨w8, k8, hO8, m8⟩ := put_s (o := 18) (V := .int .i64 (lw + P)) (x' := ⟨P, C, Q, A + 1, true, n + 1, lw + P, cs, fe, dy + 1, he⟩) hO7 m7.fresh (by decide) rfl rfl
  have m8' := (m6.trans m7).trans m8
  simp -dsimp -implicitDefEqProofs (maxSteps := 2000000) (disch := first | assumption | omega | (simp only [AW.next_push, AW.next_put]; omega) | ((repeat refine Fresh.push ?_ _); assumption) | (simp only [same_int, same_bool, same_ptr, same_slice, same_sliceP, same_nil, same_agg2, same_string]; done) | (simp [oneCell, AW.next_push]; done) | fail) only [go_sem, Nat.reduceEqDiff, reduceIte, Nat.reduceAdd, Int.toNat_natCast, Nat.add_zero, Owes_true, Tryz.results43, e0, e1, Nat.zero_add, u3, p6, v0, v1, v2, v3, v4, k7]
  have c0 := (hO7).cell (o := 0) rfl rfl
  have c1 := (hO7).cell (o := 1) rfl rfl
  have c2 := (hO7).cell (o := 2) rfl rfl
  have c3 := (hO7).cell (o := 3) rfl rfl
  have c4 := (hO7).cell (o := 4) rfl rfl
  have c5 := (hO7).cell (o := 5) rfl rfl
  have c6 := (hO7).cell (o := 6) rfl rfl
  have c7 := (hO7).cell (o := 7) rfl hv
  have c8 := (hO7).cell (o := 8) rfl rfl
  have c9 := (hO7).cell (o := 9) rfl rfl
  have c10 := (hO7).cell (o := 10) rfl rfl
  have c11 := (hO7).cell (o := 11) rfl rfl
  have c12 := (hO7).cell (o := 12) rfl rfl
  have c13 := (hO7).cell (o := 13) rfl rfl
  have c14 := (hO7).cell (o := 14) rfl rfl
  have c15 := (hO7).cell (o := 15) rfl rfl
  have c16 := (hO7).cell (o := 16) rfl rfl
  have c17 := (hO7).cell (o := 17) rfl rfl
  have c18 := (hO7).cell (o := 18) rfl rfl
  have c19 := (hO7).cell (o := 19) rfl rfl
  have c20 := (hO7).cell (o := 20) rfl rfl
  simp -dsimp -implicitDefEqProofs (maxSteps := 2000000) (disch := first | assumption | omega | (simp only [AW.next_push, AW.next_put]; omega) | ((repeat refine Fresh.push ?_ _); assumption) | (simp only [same_int, same_bool, same_ptr, same_slice, same_sliceP, same_nil, same_agg2, same_string]; done) | (simp [oneCell, AW.next_push]; done) | fail) only [go_sem, Nat.reduceEqDiff, reduceIte, Nat.reduceAdd, Int.toNat_natCast, Nat.add_zero, Owes_true, Tryz.results43, e0, e1, Nat.zero_add, c18, c10, k8]
  have c0 := (hO8).cell (o := 0) rfl rfl
  have c1 := (hO8).cell (o := 1) rfl rfl
  have c2 := (hO8).cell (o := 2) rfl rfl
  have c3 := (hO8).cell (o := 3) rfl rfl
  have c4 := (hO8).cell (o := 4) rfl rfl
  have c5 := (hO8).cell (o := 5) rfl rfl
  have c6 := (hO8).cell (o := 6) rfl rfl
  have c7 := (hO8).cell (o := 7) rfl hv
  have c8 := (hO8).cell (o := 8) rfl rfl
  have c9 := (hO8).cell (o := 9) rfl rfl
  have c10 := (hO8).cell (o := 10) rfl rfl
  have c11 := (hO8).cell (o := 11) rfl rfl
  have c12 := (hO8).cell (o := 12) rfl rfl
  have c13 := (hO8).cell (o := 13) rfl rfl
  have c14 := (hO8).cell (o := 14) rfl rfl
  have c15 := (hO8).cell (o := 15) rfl rfl
  have c16 := (hO8).cell (o := 16) rfl rfl
  have c17 := (hO8).cell (o := 17) rfl rfl
  have c18 := (hO8).cell (o := 18) rfl rfl
  have c19 := (hO8).cell (o := 19) rfl rfl
  have c20 := (hO8).cell (o := 20) rfl rfl
  by_cases hfree : d.fr < n + 1
  · obtain ⟨w9, k9, hO9, m9⟩ := put_s (o := 17) (V := .int .i64 (cs + P)) (x' := ⟨P, C, Q, A + 1, true, n + 1, lw + P, cs + P, fe, dy + 1, he⟩) hO8 m8.fresh (by decide) rfl rfl
    simp -dsimp -implicitDefEqProofs (maxSteps := 2000000) (disch := first | assumption | omega | (simp only [AW.next_push, AW.next_put]; omega) | ((repeat refine Fresh.push ?_ _); assumption) | (simp only [same_int, same_bool, same_ptr, same_slice, same_sliceP, same_nil, same_agg2, same_string]; done) | (simp [oneCell, AW.next_push]; done) | fail) only [go_sem, Nat.reduceEqDiff, reduceIte, Nat.reduceAdd, Int.toNat_natCast, Nat.add_zero, Owes_true, Tryz.results43, e0, e1, Nat.zero_add, c16, c3, c17, c10, hfree, k9]
    refine ⟨_, by omega, i + 1, by omega, rfl, rfl, by (simp -dsimp -implicitDefEqProofs (maxSteps := 2000000) (disch := first | assumption | omega | (simp only [AW.next_push, AW.next_put]; omega) | ((repeat refine Fresh.push ?_ _); assumption) | (simp only [same_int, same_bool, same_ptr, same_slice, same_sliceP, same_nil, same_agg2, same_string]; done) | (simp [oneCell, AW.next_push]; done) | fail) only [go_sem, Nat.reduceEqDiff, reduceIte, Nat.reduceAdd, Int.toNat_natCast, Nat.add_zero, Owes_true, e0]; try rfl), by (simp -dsimp -implicitDefEqProofs (maxSteps := 2000000) (disch := first | assumption | omega | (simp only [AW.next_push, AW.next_put]; omega) | ((repeat refine Fresh.push ?_ _); assumption) | (simp only [same_int, same_bool, same_ptr, same_slice, same_sliceP, same_nil, same_agg2, same_string]; done) | (simp [oneCell, AW.next_push]; done) | fail) only [go_sem, Nat.reduceEqDiff, reduceIte, Nat.reduceAdd, Int.toNat_natCast, Nat.add_zero, Owes_true, e1]; try rfl), (by rw [hnext, hcnt, sadd, if_pos hfree]; exact hO9), m8'.trans m9⟩
  · simp -dsimp -implicitDefEqProofs (maxSteps := 2000000) (disch := first | assumption | omega | (simp only [AW.next_push, AW.next_put]; omega) | ((repeat refine Fresh.push ?_ _); assumption) | (simp only [same_int, same_bool, same_ptr, same_slice, same_sliceP, same_nil, same_agg2, same_string]; done) | (simp [oneCell, AW.next_push]; done) | fail) only [go_sem, Nat.reduceEqDiff, reduceIte, Nat.reduceAdd, Int.toNat_natCast, Nat.add_zero, Owes_true, Tryz.results43, e0, e1, Nat.zero_add, c16, c3, hfree]
    refine ⟨_, by omega, i + 1, by omega, rfl, rfl, by (simp -dsimp -implicitDefEqProofs (maxSteps := 2000000) (disch := first | assumption | omega | (simp only [AW.next_push, AW.next_put]; omega) | ((repeat refine Fresh.push ?_ _); assumption) | (simp only [same_int, same_bool, same_ptr, same_slice, same_sliceP, same_nil, same_agg2, same_string]; done) | (simp [oneCell, AW.next_push]; done) | fail) only [go_sem, Nat.reduceEqDiff, reduceIte, Nat.reduceAdd, Int.toNat_natCast, Nat.add_zero, Owes_true, e0]; try rfl), by (simp -dsimp -implicitDefEqProofs (maxSteps := 2000000) (disch := first | assumption | omega | (simp only [AW.next_push, AW.next_put]; omega) | ((repeat refine Fresh.push ?_ _); assumption) | (simp only [same_int, same_bool, same_ptr, same_slice, same_sliceP, same_nil, same_agg2, same_string]; done) | (simp [oneCell, AW.next_push]; done) | fail) only [go_sem, Nat.reduceEqDiff, reduceIte, Nat.reduceAdd, Int.toNat_natCast, Nat.add_zero, Owes_true, e1]; try rfl), (by rw [hnext, hcnt, sadd, if_neg hfree]; exact hO8), m8'⟩
end Go.Proofs

/- Loans, as the chapter has them: lists of acts that are valid. -/
namespace Go.Proofs
open Go Go.RowKit Go.Sim
set_option maxRecDepth 100000
def prevK (l : List ActN) (i : Nat) : Int := if i = 0 then 0 else (l.getD (i - 1) ⟨0, 0, 0⟩).K
theorem prevK_next {l : List ActN} {i : Nat} (h : i < l.length) : prevK l (i + 1) = l[i].K := by
  rw [prevK, if_neg (by omega), Nat.add_sub_cancel, getD_at h]
set_option maxHeartbeats 4000000 in
theorem refActs_ok (d : DealN) (cl : List Int) (l : List ActN) (v u : Value) (w : AW) (f : Fresh w) (hs : ArrOf w 1 icells v cl) (ht : ArrOf w 3 acells u l) (hst : 0 ≤ d.st ∧ d.st ≤ 36500) :
    CallT Tryz.prog Tryz.T1 (.fn (.func 40) #[]) #[.agg #[.int .i64 d.r, .int .i64 d.c, .int .i64 d.a, .int .i64 d.fr, .int .i64 d.fe, .int .i64 d.tm, .int .i64 d.gr, v, .int .i64 d.st, .int .i64 d.sm], u] w (Ret (.bool (actsB d l)) (Grown w)) := by
  have h31 : ¬ (3 : Int) = 1 := by decide
  have h21 : ¬ (2 : Int) = 1 := by decide
  have h23 : ¬ (2 : Int) = 3 := by decide
  have h41 : ¬ (4 : Int) = 1 := by decide
  have h42 : ¬ (4 : Int) = 2 := by decide
  have h43 : ¬ (4 : Int) = 3 := by decide
  obtain ⟨p, cap, rfl, hcap, hmax, hat⟩ := id ht.open
  obtain ⟨q, cap2, rfl, _⟩ := id hs.open
  have g := (Grown.refl f).push (.cells [.int .i64 d.r, .int .i64 d.c, .int .i64 d.a, .int .i64 d.fr, .int .i64 d.fe, .int .i64 d.tm, .int .i64 d.gr, (.slice q cl.length cap2), .int .i64 d.st, .int .i64 d.sm] 28 w.next 0 0)
  have hO := Own.new f 28 [.int .i64 d.r, .int .i64 d.c, .int .i64 d.a, .int .i64 d.fr, .int .i64 d.fe, .int .i64 d.tm, .int .i64 d.gr, (.slice q cl.length cap2), .int .i64 d.st, .int .i64 d.sm]
  have c8 := hO.cell (o := 8) rfl rfl
  refine callT_code rfl Tryz.func40 rfl Tryz.s40_eq rfl ?_
  unfold Tryz.s40
  simp -dsimp -implicitDefEqProofs (maxSteps := 2000000) (disch := first | assumption | omega | (simp only [AW.next_push, AW.next_put]; omega) | ((repeat refine Fresh.push ?_ _); assumption) | (simp only [same_int, same_bool, same_ptr, same_slice, same_sliceP, same_nil, same_agg2, same_string]; done) | (simp [oneCell, AW.next_push]; done) | fail) only [go_sem, Nat.reduceEqDiff, reduceIte, Nat.reduceAdd, Int.toNat_natCast, Nat.add_zero, Owes_true, Tryz.results40, Nat.zero_add, c8]
  refine loopR (fun k t ds w2 => ∃ i : Nat, i ≤ l.length ∧ k = l.length - i ∧ ds = [] ∧ ev t (.tmp 1) = .slice p l.length cap ∧ ev t (.tmp 5) = .int .i64 (dayAt d.st l i) ∧ ev t (.tmp 6) = .int .i64 (i : Int) ∧ ((prevK l i ≠ 4 ∧ actsTo d.st l = actsTo (dayAt d.st l i) (l.drop i)) ∨ (prevK l i = 4 ∧ actsTo d.st l = decide (i = l.length))) ∧ Grown w w2) (l.length) ?_ ?_
  · refine ⟨0, by omega, by omega, rfl, ?_, ?_, ?_, (.inl ⟨by rw [prevK, if_pos rfl]; decide, by rw [dayAt, if_pos rfl, List.drop_zero]⟩), g⟩ <;> simp -dsimp -implicitDefEqProofs (maxSteps := 2000000) (disch := first | assumption | omega | (simp only [AW.next_push, AW.next_put]; omega) | ((repeat refine Fresh.push ?_ _); assumption) | (simp only [same_int, same_bool, same_ptr, same_slice, same_sliceP, same_nil, same_agg2, same_string]; done) | (simp [oneCell, AW.next_push]; done) | fail) only [go_sem, Nat.reduceEqDiff, reduceIte, Nat.reduceAdd, Int.toNat_natCast, Nat.add_zero, Owes_true, dayAt] <;> rfl
  rintro k t ds w2 ⟨i, hii, rfl, rfl, e1, e5, e6, hcase, g2⟩
  by_cases hlt : (i : Int) < (l.length : Int)
  case neg =>
    obtain rfl : i = l.length := by omega
    have hall : actsTo d.st l = true := by
      rcases hcase with ⟨_, h⟩ | ⟨_, h⟩
      · rw [h, List.drop_length]; rfl
      · rw [h]; exact decide_eq_true rfl
    by_cases h32 : (l.length : Int) ≤ 32
    · simp -dsimp -implicitDefEqProofs (maxSteps := 2000000) (disch := first | assumption | omega | (simp only [AW.next_push, AW.next_put]; omega) | ((repeat refine Fresh.push ?_ _); assumption) | (simp only [same_int, same_bool, same_ptr, same_slice, same_sliceP, same_nil, same_agg2, same_string]; done) | (simp [oneCell, AW.next_push]; done) | fail) only [go_sem, Nat.reduceEqDiff, reduceIte, Nat.reduceAdd, Int.toNat_natCast, Nat.add_zero, Owes_true, Tryz.results40, e1, e5, e6, hlt, h32]
      exact ⟨by rw [actsB, hall, decide_eq_true (by omega)]; rfl, g2⟩
    · simp -dsimp -implicitDefEqProofs (maxSteps := 2000000) (disch := first | assumption | omega | (simp only [AW.next_push, AW.next_put]; omega) | ((repeat refine Fresh.push ?_ _); assumption) | (simp only [same_int, same_bool, same_ptr, same_slice, same_sliceP, same_nil, same_agg2, same_string]; done) | (simp [oneCell, AW.next_push]; done) | fail) only [go_sem, Nat.reduceEqDiff, reduceIte, Nat.reduceAdd, Int.toNat_natCast, Nat.add_zero, Owes_true, Tryz.results40, e1, e5, e6, hlt, h32]
      exact ⟨by rw [actsB, decide_eq_false (by omega)]; rfl, g2⟩
  have hlt' : i < l.length := by omega
  obtain ⟨b1, o1, rfl, hb1, hcell⟩ := hat i hlt'
  have a0 := hcell _ g2.1 0 _ rfl
  have a1 := hcell _ g2.1 1 _ rfl
  have a2 := hcell _ g2.1 2 _ rfl
  rw [Nat.add_zero] at a0
  have hdrop := actsTo_drop (s := d.st) hlt'
  have hdn : dayAt d.st l (i + 1) = l[i].D := by rw [dayAt, if_neg (by omega), Nat.add_sub_cancel, getD_at hlt']
  have hpn := prevK_next hlt'
  have hgt : ∀ z : Int, prevK l i = 4 → actsTo d.st l = false := fun z hz => by
    rcases hcase with ⟨h, _⟩ | ⟨_, h⟩
    · exact absurd hz h
    · rw [h]; exact decide_eq_false (by omega)
  generalize hA : l[i] = a at *
  obtain ⟨D, K, N⟩ := a
  simp only at a0 a1 a2 hpn
  have f2 := g2.2
  have g3 := g2.push (.cells [.int .i64 D, .int .i64 K, .int .i64 N] 85 w2.next 0 0)
  have hN := Own.new f2 85 [.int .i64 D, .int .i64 K, .int .i64 N]
  have u0 := hN.cell (o := 0) rfl rfl
  have u1 := hN.cell (o := 1) rfl rfl
  have u2 := hN.cell (o := 2) rfl rfl
  simp -dsimp -implicitDefEqProofs (maxSteps := 2000000) (disch := first | assumption | omega | (simp only [AW.next_push, AW.next_put]; omega) | ((repeat refine Fresh.push ?_ _); assumption) | (simp only [same_int, same_bool, same_ptr, same_slice, same_sliceP, same_nil, same_agg2, same_string]; done) | (simp [oneCell, AW.next_push]; done) | fail) only [go_sem, Nat.reduceEqDiff, reduceIte, Nat.reduceAdd, Int.toNat_natCast, Nat.add_zero, Owes_true, Tryz.results40, e1, e5, e6, hlt, indexV_eq, a0, a1, a2, Nat.zero_add, u0]
  apply callV_of (e := rfl)
  · exact From_ok _ _ _ _
  rintro _ _ ⟨rfl, rfl⟩
  cases hr : inR (dayAt d.st l i) D 36500 with
  | false =>
    have hbad : actsTo d.st l = false := by
      rcases hcase with ⟨_, h⟩ | ⟨_, h⟩
      · rw [h, hdrop]; simp [hr]
      · rw [h]; exact decide_eq_false (by omega)
    simp -dsimp -implicitDefEqProofs (maxSteps := 2000000) (disch := first | assumption | omega | (simp only [AW.next_push, AW.next_put]; omega) | ((repeat refine Fresh.push ?_ _); assumption) | (simp only [same_int, same_bool, same_ptr, same_slice, same_sliceP, same_nil, same_agg2, same_string]; done) | (simp [oneCell, AW.next_push]; done) | fail) only [go_sem, Nat.reduceEqDiff, reduceIte, Nat.reduceAdd, Int.toNat_natCast, Nat.add_zero, Owes_true, Tryz.results40]
    exact ⟨by rw [actsB, hbad, Bool.and_false], g3⟩
  | true =>
  have hday := (inR_iff _ _ _).1 hr
  by_cases hi0 : i = 0
  · have hnp : ¬ (0 : Int) < (i : Int) := by omega
    have hall : actsTo d.st l = actsTo (dayAt d.st l i) (l.drop i) := by
      rcases hcase with ⟨_, h⟩ | ⟨h, _⟩
      · exact h
      · rw [prevK, if_pos hi0] at h; exact absurd h (by decide)
    simp -dsimp -implicitDefEqProofs (maxSteps := 2000000) (disch := first | assumption | omega | (simp only [AW.next_push, AW.next_put]; omega) | ((repeat refine Fresh.push ?_ _); assumption) | (simp only [same_int, same_bool, same_ptr, same_slice, same_sliceP, same_nil, same_agg2, same_string]; done) | (simp [oneCell, AW.next_push]; done) | fail) only [go_sem, Nat.reduceEqDiff, reduceIte, Nat.reduceAdd, Int.toNat_natCast, Nat.add_zero, Owes_true, Tryz.results40, e1, e5, e6, hnp]
    by_cases k1 : K = 1
    · subst k1
      have hfb : fitB ⟨D, 1, N⟩ (decide (i + 1 = l.length)) = inR 1 N 1073741824 := rfl
      rw [hfb] at hdrop
      simp -dsimp -implicitDefEqProofs (maxSteps := 2000000) (disch := first | assumption | omega | (simp only [AW.next_push, AW.next_put]; omega) | ((repeat refine Fresh.push ?_ _); assumption) | (simp only [same_int, same_bool, same_ptr, same_slice, same_sliceP, same_nil, same_agg2, same_string]; done) | (simp [oneCell, AW.next_push]; done) | fail) only [go_sem, Nat.reduceEqDiff, reduceIte, Nat.reduceAdd, Int.toNat_natCast, Nat.add_zero, Owes_true, Tryz.results40, e1, e5, e6, Nat.zero_add, u0, u1, u2]
      apply callV_of (e := rfl)
      · exact From_ok _ _ _ _
      rintro _ _ ⟨rfl, rfl⟩
      cases hq : inR 1 N 1073741824 with
      | false =>
        have hbad : actsTo (dayAt d.st l i) (l.drop i) = false := by rw [hdrop, hq, Bool.and_false]; rfl
        simp -dsimp -implicitDefEqProofs (maxSteps := 2000000) (disch := first | assumption | omega | (simp only [AW.next_push, AW.next_put]; omega) | ((repeat refine Fresh.push ?_ _); assumption) | (simp only [same_int, same_bool, same_ptr, same_slice, same_sliceP, same_nil, same_agg2, same_string]; done) | (simp [oneCell, AW.next_push]; done) | fail) only [go_sem, Nat.reduceEqDiff, reduceIte, Nat.reduceAdd, Int.toNat_natCast, Nat.add_zero, Owes_true, Tryz.results40]
        exact ⟨by rw [actsB, hall, hbad, Bool.and_false], g3⟩
      | true =>
        simp -dsimp -implicitDefEqProofs (maxSteps := 2000000) (disch := first | assumption | omega | (simp only [AW.next_push, AW.next_put]; omega) | ((repeat refine Fresh.push ?_ _); assumption) | (simp only [same_int, same_bool, same_ptr, same_slice, same_sliceP, same_nil, same_agg2, same_string]; done) | (simp [oneCell, AW.next_push]; done) | fail) only [go_sem, Nat.reduceEqDiff, reduceIte, Nat.reduceAdd, Int.toNat_natCast, Nat.add_zero, Owes_true, Tryz.results40, e6]
        refine ⟨_, by omega, i + 1, by omega, rfl, rfl, by (simp -dsimp -implicitDefEqProofs (maxSteps := 2000000) (disch := first | assumption | omega | (simp only [AW.next_push, AW.next_put]; omega) | ((repeat refine Fresh.push ?_ _); assumption) | (simp only [same_int, same_bool, same_ptr, same_slice, same_sliceP, same_nil, same_agg2, same_string]; done) | (simp [oneCell, AW.next_push]; done) | fail) only [go_sem, Nat.reduceEqDiff, reduceIte, Nat.reduceAdd, Int.toNat_natCast, Nat.add_zero, Owes_true, e1, hdn]; try rfl), by (simp -dsimp -implicitDefEqProofs (maxSteps := 2000000) (disch := first | assumption | omega | (simp only [AW.next_push, AW.next_put]; omega) | ((repeat refine Fresh.push ?_ _); assumption) | (simp only [same_int, same_bool, same_ptr, same_slice, same_sliceP, same_nil, same_agg2, same_string]; done) | (simp [oneCell, AW.next_push]; done) | fail) only [go_sem, Nat.reduceEqDiff, reduceIte, Nat.reduceAdd, Int.toNat_natCast, Nat.add_zero, Owes_true, e5, hdn]; try rfl), by (simp -dsimp -implicitDefEqProofs (maxSteps := 2000000) (disch := first | assumption | omega | (simp only [AW.next_push, AW.next_put]; omega) | ((repeat refine Fresh.push ?_ _); assumption) | (simp only [same_int, same_bool, same_ptr, same_slice, same_sliceP, same_nil, same_agg2, same_string]; done) | (simp [oneCell, AW.next_push]; done) | fail) only [go_sem, Nat.reduceEqDiff, reduceIte, Nat.reduceAdd, Int.toNat_natCast, Nat.add_zero, Owes_true, e6, hdn]; try rfl), .inl ⟨by rw [hpn]; decide, by rw [hall, hdrop, hr, hq]; rfl⟩, g3⟩
    by_cases k3 : K = 3
    · subst k3
      have hfb : fitB ⟨D, 3, N⟩ (decide (i + 1 = l.length)) = inR 1 N 366 := rfl
      rw [hfb] at hdrop
      simp -dsimp -implicitDefEqProofs (maxSteps := 2000000) (disch := first | assumption | omega | (simp only [AW.next_push, AW.next_put]; omega) | ((repeat refine Fresh.push ?_ _); assumption) | (simp only [same_int, same_bool, same_ptr, same_slice, same_sliceP, same_nil, same_agg2, same_string]; done) | (simp [oneCell, AW.next_push]; done) | fail) only [go_sem, Nat.reduceEqDiff, reduceIte, Nat.reduceAdd, Int.toNat_natCast, Nat.add_zero, Owes_true, Tryz.results40, e1, e5, e6, Nat.zero_add, u0, u1, u2, h31]
      apply callV_of (e := rfl)
      · exact From_ok _ _ _ _
      rintro _ _ ⟨rfl, rfl⟩
      cases hq : inR 1 N 366 with
      | false =>
        have hbad : actsTo (dayAt d.st l i) (l.drop i) = false := by rw [hdrop, hq, Bool.and_false]; rfl
        simp -dsimp -implicitDefEqProofs (maxSteps := 2000000) (disch := first | assumption | omega | (simp only [AW.next_push, AW.next_put]; omega) | ((repeat refine Fresh.push ?_ _); assumption) | (simp only [same_int, same_bool, same_ptr, same_slice, same_sliceP, same_nil, same_agg2, same_string]; done) | (simp [oneCell, AW.next_push]; done) | fail) only [go_sem, Nat.reduceEqDiff, reduceIte, Nat.reduceAdd, Int.toNat_natCast, Nat.add_zero, Owes_true, Tryz.results40]
        exact ⟨by rw [actsB, hall, hbad, Bool.and_false], g3⟩
      | true =>
        simp -dsimp -implicitDefEqProofs (maxSteps := 2000000) (disch := first | assumption | omega | (simp only [AW.next_push, AW.next_put]; omega) | ((repeat refine Fresh.push ?_ _); assumption) | (simp only [same_int, same_bool, same_ptr, same_slice, same_sliceP, same_nil, same_agg2, same_string]; done) | (simp [oneCell, AW.next_push]; done) | fail) only [go_sem, Nat.reduceEqDiff, reduceIte, Nat.reduceAdd, Int.toNat_natCast, Nat.add_zero, Owes_true, Tryz.results40, e6]
        refine ⟨_, by omega, i + 1, by omega, rfl, rfl, by (simp -dsimp -implicitDefEqProofs (maxSteps := 2000000) (disch := first | assumption | omega | (simp only [AW.next_push, AW.next_put]; omega) | ((repeat refine Fresh.push ?_ _); assumption) | (simp only [same_int, same_bool, same_ptr, same_slice, same_sliceP, same_nil, same_agg2, same_string]; done) | (simp [oneCell, AW.next_push]; done) | fail) only [go_sem, Nat.reduceEqDiff, reduceIte, Nat.reduceAdd, Int.toNat_natCast, Nat.add_zero, Owes_true, e1, hdn]; try rfl), by (simp -dsimp -implicitDefEqProofs (maxSteps := 2000000) (disch := first | assumption | omega | (simp only [AW.next_push, AW.next_put]; omega) | ((repeat refine Fresh.push ?_ _); assumption) | (simp only [same_int, same_bool, same_ptr, same_slice, same_sliceP, same_nil, same_agg2, same_string]; done) | (simp [oneCell, AW.next_push]; done) | fail) only [go_sem, Nat.reduceEqDiff, reduceIte, Nat.reduceAdd, Int.toNat_natCast, Nat.add_zero, Owes_true, e5, hdn]; try rfl), by (simp -dsimp -implicitDefEqProofs (maxSteps := 2000000) (disch := first | assumption | omega | (simp only [AW.next_push, AW.next_put]; omega) | ((repeat refine Fresh.push ?_ _); assumption) | (simp only [same_int, same_bool, same_ptr, same_slice, same_sliceP, same_nil, same_agg2, same_string]; done) | (simp [oneCell, AW.next_push]; done) | fail) only [go_sem, Nat.reduceEqDiff, reduceIte, Nat.reduceAdd, Int.toNat_natCast, Nat.add_zero, Owes_true, e6, hdn]; try rfl), .inl ⟨by rw [hpn]; decide, by rw [hall, hdrop, hr, hq]; rfl⟩, g3⟩
    by_cases k2 : K = 2
    · subst k2
      have hfb : fitB ⟨D, 2, N⟩ (decide (i + 1 = l.length)) = decide (N = 0) := rfl
      rw [hfb] at hdrop
      by_cases hN : N = 0
      · have hNd : decide (N = 0) = true := decide_eq_true hN
        simp -dsimp -implicitDefEqProofs (maxSteps := 2000000) (disch := first | assumption | omega | (simp only [AW.next_push, AW.next_put]; omega) | ((repeat refine Fresh.push ?_ _); assumption) | (simp only [same_int, same_bool, same_ptr, same_slice, same_sliceP, same_nil, same_agg2, same_string]; done) | (simp [oneCell, AW.next_push]; done) | fail) only [go_sem, Nat.reduceEqDiff, reduceIte, Nat.reduceAdd, Int.toNat_natCast, Nat.add_zero, Owes_true, Tryz.results40, e1, e5, e6, Nat.zero_add, u0, u1, u2, h21, h23, hNd]
        refine ⟨_, by omega, i + 1, by omega, rfl, rfl, by (simp -dsimp -implicitDefEqProofs (maxSteps := 2000000) (disch := first | assumption | omega | (simp only [AW.next_push, AW.next_put]; omega) | ((repeat refine Fresh.push ?_ _); assumption) | (simp only [same_int, same_bool, same_ptr, same_slice, same_sliceP, same_nil, same_agg2, same_string]; done) | (simp [oneCell, AW.next_push]; done) | fail) only [go_sem, Nat.reduceEqDiff, reduceIte, Nat.reduceAdd, Int.toNat_natCast, Nat.add_zero, Owes_true, e1, hdn]; try rfl), by (simp -dsimp -implicitDefEqProofs (maxSteps := 2000000) (disch := first | assumption | omega | (simp only [AW.next_push, AW.next_put]; omega) | ((repeat refine Fresh.push ?_ _); assumption) | (simp only [same_int, same_bool, same_ptr, same_slice, same_sliceP, same_nil, same_agg2, same_string]; done) | (simp [oneCell, AW.next_push]; done) | fail) only [go_sem, Nat.reduceEqDiff, reduceIte, Nat.reduceAdd, Int.toNat_natCast, Nat.add_zero, Owes_true, e5, hdn]; try rfl), by (simp -dsimp -implicitDefEqProofs (maxSteps := 2000000) (disch := first | assumption | omega | (simp only [AW.next_push, AW.next_put]; omega) | ((repeat refine Fresh.push ?_ _); assumption) | (simp only [same_int, same_bool, same_ptr, same_slice, same_sliceP, same_nil, same_agg2, same_string]; done) | (simp [oneCell, AW.next_push]; done) | fail) only [go_sem, Nat.reduceEqDiff, reduceIte, Nat.reduceAdd, Int.toNat_natCast, Nat.add_zero, Owes_true, e6, hdn]; try rfl), .inl ⟨by rw [hpn]; decide, by rw [hall, hdrop, hr, hNd]; rfl⟩, g3⟩
      · have hNd : decide (N = 0) = false := decide_eq_false hN
        have hbad : actsTo (dayAt d.st l i) (l.drop i) = false := by rw [hdrop, hNd, Bool.and_false]; rfl
        simp -dsimp -implicitDefEqProofs (maxSteps := 2000000) (disch := first | assumption | omega | (simp only [AW.next_push, AW.next_put]; omega) | ((repeat refine Fresh.push ?_ _); assumption) | (simp only [same_int, same_bool, same_ptr, same_slice, same_sliceP, same_nil, same_agg2, same_string]; done) | (simp [oneCell, AW.next_push]; done) | fail) only [go_sem, Nat.reduceEqDiff, reduceIte, Nat.reduceAdd, Int.toNat_natCast, Nat.add_zero, Owes_true, Tryz.results40, e1, e5, e6, Nat.zero_add, u0, u1, u2, h21, h23, hNd, hN]
        exact ⟨by rw [actsB, hall, hbad, Bool.and_false], g3⟩
    by_cases k4 : K = 4
    · subst k4
      have hfb : fitB ⟨D, 4, N⟩ (decide (i + 1 = l.length)) = (decide (i + 1 = l.length) && decide (N = 0)) := rfl
      rw [hfb] at hdrop
      by_cases hN : N = 0
      · have hNd : decide (N = 0) = true := decide_eq_true hN
        have hlast : actsTo d.st l = decide (i + 1 = l.length) := by
          rw [hall, hdrop, hr, hNd]
          by_cases q : i + 1 = l.length
          · rw [decide_eq_true q, q, List.drop_length]; rfl
          · rw [decide_eq_false q]; rfl
        simp -dsimp -implicitDefEqProofs (maxSteps := 2000000) (disch := first | assumption | omega | (simp only [AW.next_push, AW.next_put]; omega) | ((repeat refine Fresh.push ?_ _); assumption) | (simp only [same_int, same_bool, same_ptr, same_slice, same_sliceP, same_nil, same_agg2, same_string]; done) | (simp [oneCell, AW.next_push]; done) | fail) only [go_sem, Nat.reduceEqDiff, reduceIte, Nat.reduceAdd, Int.toNat_natCast, Nat.add_zero, Owes_true, Tryz.results40, e1, e5, e6, Nat.zero_add, u0, u1, u2, h41, h43, h42, hNd]
        refine ⟨_, by omega, i + 1, by omega, rfl, rfl, by (simp -dsimp -implicitDefEqProofs (maxSteps := 2000000) (disch := first | assumption | omega | (simp only [AW.next_push, AW.next_put]; omega) | ((repeat refine Fresh.push ?_ _); assumption) | (simp only [same_int, same_bool, same_ptr, same_slice, same_sliceP, same_nil, same_agg2, same_string]; done) | (simp [oneCell, AW.next_push]; done) | fail) only [go_sem, Nat.reduceEqDiff, reduceIte, Nat.reduceAdd, Int.toNat_natCast, Nat.add_zero, Owes_true, e1, hdn]; try rfl), by (simp -dsimp -implicitDefEqProofs (maxSteps := 2000000) (disch := first | assumption | omega | (simp only [AW.next_push, AW.next_put]; omega) | ((repeat refine Fresh.push ?_ _); assumption) | (simp only [same_int, same_bool, same_ptr, same_slice, same_sliceP, same_nil, same_agg2, same_string]; done) | (simp [oneCell, AW.next_push]; done) | fail) only [go_sem, Nat.reduceEqDiff, reduceIte, Nat.reduceAdd, Int.toNat_natCast, Nat.add_zero, Owes_true, e5, hdn]; try rfl), by (simp -dsimp -implicitDefEqProofs (maxSteps := 2000000) (disch := first | assumption | omega | (simp only [AW.next_push, AW.next_put]; omega) | ((repeat refine Fresh.push ?_ _); assumption) | (simp only [same_int, same_bool, same_ptr, same_slice, same_sliceP, same_nil, same_agg2, same_string]; done) | (simp [oneCell, AW.next_push]; done) | fail) only [go_sem, Nat.reduceEqDiff, reduceIte, Nat.reduceAdd, Int.toNat_natCast, Nat.add_zero, Owes_true, e6, hdn]; try rfl), .inr ⟨hpn, hlast⟩, g3⟩
      · have hNd : decide (N = 0) = false := decide_eq_false hN
        have hbad : actsTo (dayAt d.st l i) (l.drop i) = false := by rw [hdrop, hNd, Bool.and_false, Bool.and_false]; rfl
        simp -dsimp -implicitDefEqProofs (maxSteps := 2000000) (disch := first | assumption | omega | (simp only [AW.next_push, AW.next_put]; omega) | ((repeat refine Fresh.push ?_ _); assumption) | (simp only [same_int, same_bool, same_ptr, same_slice, same_sliceP, same_nil, same_agg2, same_string]; done) | (simp [oneCell, AW.next_push]; done) | fail) only [go_sem, Nat.reduceEqDiff, reduceIte, Nat.reduceAdd, Int.toNat_natCast, Nat.add_zero, Owes_true, Tryz.results40, e1, e5, e6, Nat.zero_add, u0, u1, u2, h41, h43, h42, hNd, hN]
        exact ⟨by rw [actsB, hall, hbad, Bool.and_false], g3⟩
    have hfb : fitB ⟨D, K, N⟩ (decide (i + 1 = l.length)) = false := by unfold fitB; rw [if_neg k1, if_neg k2, if_neg k3, if_neg k4]
    have hbad : actsTo (dayAt d.st l i) (l.drop i) = false := by rw [hdrop, hfb, Bool.and_false]; rfl
    simp -dsimp -implicitDefEqProofs (maxSteps := 2000000) (disch := first | assumption | omega | (simp only [AW.next_push, AW.next_put]; omega) | ((repeat refine Fresh.push ?_ _); assumption) | (simp only [same_int, same_bool, same_ptr, same_slice, same_sliceP, same_nil, same_agg2, same_string]; done) | (simp [oneCell, AW.next_push]; done) | fail) only [go_sem, Nat.reduceEqDiff, reduceIte, Nat.reduceAdd, Int.toNat_natCast, Nat.add_zero, Owes_true, Tryz.results40, e1, e5, e6, Nat.zero_add, u0, u1, u2, k1, k2, k3, k4]
    exact ⟨by rw [actsB, hall, hbad, Bool.and_false], g3⟩
  · obtain ⟨j, hij⟩ : ∃ j, i = j + 1 := ⟨i - 1, by omega⟩
    have hnp : (0 : Int) < (i : Int) := by omega
    have hj : (i : Int) - 1 = (j : Int) := by omega
    have hjl : j < l.length := by omega
    have hjl' : (j : Int) < (l.length : Int) := by omega
    have hpk : prevK l i = l[j].K := by rw [hij]; exact prevK_next hjl
    obtain ⟨b2, o2, hp2, hb2, hcell2⟩ := hat j hjl
    injection hp2 with hp2
    injection hp2 with hp3 hp4 hp5
    subst hp3 hp4
    have d1 := hcell2 _ g3.1 1 _ rfl
    by_cases hpk4 : l[j].K = 4
    · have hbad := hgt 0 (hpk.trans hpk4)
      have hkd : decide (l[j].K = 4) = true := decide_eq_true hpk4
      simp -dsimp -implicitDefEqProofs (maxSteps := 2000000) (disch := first | assumption | omega | (simp only [AW.next_push, AW.next_put]; omega) | ((repeat refine Fresh.push ?_ _); assumption) | (simp only [same_int, same_bool, same_ptr, same_slice, same_sliceP, same_nil, same_agg2, same_string]; done) | (simp [oneCell, AW.next_push]; done) | fail) only [go_sem, Nat.reduceEqDiff, reduceIte, Nat.reduceAdd, Int.toNat_natCast, Nat.add_zero, Owes_true, Tryz.results40, e1, e5, e6, hnp, hj, hjl', indexV_eq, d1, hkd, Nat.zero_add]
      exact ⟨by rw [actsB, hbad, Bool.and_false], g3⟩
    · have hall : actsTo d.st l = actsTo (dayAt d.st l i) (l.drop i) := by
        rcases hcase with ⟨_, h⟩ | ⟨h, _⟩
        · exact h
        · exact absurd (hpk.symm.trans h) hpk4
      have hkd : decide (l[j].K = 4) = false := decide_eq_false hpk4
      simp -dsimp -implicitDefEqProofs (maxSteps := 2000000) (disch := first | assumption | omega | (simp only [AW.next_push, AW.next_put]; omega) | ((repeat refine Fresh.push ?_ _); assumption) | (simp only [same_int, same_bool, same_ptr, same_slice, same_sliceP, same_nil, same_agg2, same_string]; done) | (simp [oneCell, AW.next_push]; done) | fail) only [go_sem, Nat.reduceEqDiff, reduceIte, Nat.reduceAdd, Int.toNat_natCast, Nat.add_zero, Owes_true, Tryz.results40, e1, e5, e6, hnp, hj, hjl', indexV_eq, d1, hkd, Nat.zero_add]
      by_cases k1 : K = 1
      · subst k1
        have hfb : fitB ⟨D, 1, N⟩ (decide (i + 1 = l.length)) = inR 1 N 1073741824 := rfl
        rw [hfb] at hdrop
        simp -dsimp -implicitDefEqProofs (maxSteps := 2000000) (disch := first | assumption | omega | (simp only [AW.next_push, AW.next_put]; omega) | ((repeat refine Fresh.push ?_ _); assumption) | (simp only [same_int, same_bool, same_ptr, same_slice, same_sliceP, same_nil, same_agg2, same_string]; done) | (simp [oneCell, AW.next_push]; done) | fail) only [go_sem, Nat.reduceEqDiff, reduceIte, Nat.reduceAdd, Int.toNat_natCast, Nat.add_zero, Owes_true, Tryz.results40, e1, e5, e6, Nat.zero_add, u0, u1, u2]
        apply callV_of (e := rfl)
        · exact From_ok _ _ _ _
        rintro _ _ ⟨rfl, rfl⟩
        cases hq : inR 1 N 1073741824 with
        | false =>
          have hbad : actsTo (dayAt d.st l i) (l.drop i) = false := by rw [hdrop, hq, Bool.and_false]; rfl
          simp -dsimp -implicitDefEqProofs (maxSteps := 2000000) (disch := first | assumption | omega | (simp only [AW.next_push, AW.next_put]; omega) | ((repeat refine Fresh.push ?_ _); assumption) | (simp only [same_int, same_bool, same_ptr, same_slice, same_sliceP, same_nil, same_agg2, same_string]; done) | (simp [oneCell, AW.next_push]; done) | fail) only [go_sem, Nat.reduceEqDiff, reduceIte, Nat.reduceAdd, Int.toNat_natCast, Nat.add_zero, Owes_true, Tryz.results40]
          exact ⟨by rw [actsB, hall, hbad, Bool.and_false], g3⟩
        | true =>
          simp -dsimp -implicitDefEqProofs (maxSteps := 2000000) (disch := first | assumption | omega | (simp only [AW.next_push, AW.next_put]; omega) | ((repeat refine Fresh.push ?_ _); assumption) | (simp only [same_int, same_bool, same_ptr, same_slice, same_sliceP, same_nil, same_agg2, same_string]; done) | (simp [oneCell, AW.next_push]; done) | fail) only [go_sem, Nat.reduceEqDiff, reduceIte, Nat.reduceAdd, Int.toNat_natCast, Nat.add_zero, Owes_true, Tryz.results40, e6]
          refine ⟨_, by omega, i + 1, by omega, rfl, rfl, by (simp -dsimp -implicitDefEqProofs (maxSteps := 2000000) (disch := first | assumption | omega | (simp only [AW.next_push, AW.next_put]; omega) | ((repeat refine Fresh.push ?_ _); assumption) | (simp only [same_int, same_bool, same_ptr, same_slice, same_sliceP, same_nil, same_agg2, same_string]; done) | (simp [oneCell, AW.next_push]; done) | fail) only [go_sem, Nat.reduceEqDiff, reduceIte, Nat.reduceAdd, Int.toNat_natCast, Nat.add_zero, Owes_true, e1, hdn]; try rfl), by (simp -dsimp -implicitDefEqProofs (maxSteps := 2000000) (disch := first | assumption | omega | (simp only [AW.next_push, AW.next_put]; omega) | ((repeat refine Fresh.push ?_ _); assumption) | (simp only [same_int, same_bool, same_ptr, same_slice, same_sliceP, same_nil, same_agg2, same_string]; done) | (simp [oneCell, AW.next_push]; done) | fail) only [go_sem, Nat.reduceEqDiff, reduceIte, Nat.reduceAdd, Int.toNat_natCast, Nat.add_zero, Owes_true, e5, hdn]; try rfl), by (simp -dsimp -implicitDefEqProofs (maxSteps := 2000000) (disch := first | assumption | omega | (simp only [AW.next_push, AW.next_put]; omega) | ((repeat refine Fresh.push ?_ _); assumption) | (simp only [same_int, same_bool, same_ptr, same_slice, same_sliceP, same_nil, same_agg2, same_string]; done) | (simp [oneCell, AW.next_push]; done) | fail) only [go_sem, Nat.reduceEqDiff, reduceIte, Nat.reduceAdd, Int.toNat_natCast, Nat.add_zero, Owes_true, e6, hdn]; try rfl), .inl ⟨by rw [hpn]; decide, by rw [hall, hdrop, hr, hq]; rfl⟩, g3⟩
      by_cases k3 : K = 3
      · subst k3
        have hfb : fitB ⟨D, 3, N⟩ (decide (i + 1 = l.length)) = inR 1 N 366 := rfl
        rw [hfb] at hdrop
        simp -dsimp -implicitDefEqProofs (maxSteps := 2000000) (disch := first | assumption | omega | (simp only [AW.next_push, AW.next_put]; omega) | ((repeat refine Fresh.push ?_ _); assumption) | (simp only [same_int, same_bool, same_ptr, same_slice, same_sliceP, same_nil, same_agg2, same_string]; done) | (simp [oneCell, AW.next_push]; done) | fail) only [go_sem, Nat.reduceEqDiff, reduceIte, Nat.reduceAdd, Int.toNat_natCast, Nat.add_zero, Owes_true, Tryz.results40, e1, e5, e6, Nat.zero_add, u0, u1, u2, h31]
        apply callV_of (e := rfl)
        · exact From_ok _ _ _ _
        rintro _ _ ⟨rfl, rfl⟩
        cases hq : inR 1 N 366 with
        | false =>
          have hbad : actsTo (dayAt d.st l i) (l.drop i) = false := by rw [hdrop, hq, Bool.and_false]; rfl
          simp -dsimp -implicitDefEqProofs (maxSteps := 2000000) (disch := first | assumption | omega | (simp only [AW.next_push, AW.next_put]; omega) | ((repeat refine Fresh.push ?_ _); assumption) | (simp only [same_int, same_bool, same_ptr, same_slice, same_sliceP, same_nil, same_agg2, same_string]; done) | (simp [oneCell, AW.next_push]; done) | fail) only [go_sem, Nat.reduceEqDiff, reduceIte, Nat.reduceAdd, Int.toNat_natCast, Nat.add_zero, Owes_true, Tryz.results40]
          exact ⟨by rw [actsB, hall, hbad, Bool.and_false], g3⟩
        | true =>
          simp -dsimp -implicitDefEqProofs (maxSteps := 2000000) (disch := first | assumption | omega | (simp only [AW.next_push, AW.next_put]; omega) | ((repeat refine Fresh.push ?_ _); assumption) | (simp only [same_int, same_bool, same_ptr, same_slice, same_sliceP, same_nil, same_agg2, same_string]; done) | (simp [oneCell, AW.next_push]; done) | fail) only [go_sem, Nat.reduceEqDiff, reduceIte, Nat.reduceAdd, Int.toNat_natCast, Nat.add_zero, Owes_true, Tryz.results40, e6]
          refine ⟨_, by omega, i + 1, by omega, rfl, rfl, by (simp -dsimp -implicitDefEqProofs (maxSteps := 2000000) (disch := first | assumption | omega | (simp only [AW.next_push, AW.next_put]; omega) | ((repeat refine Fresh.push ?_ _); assumption) | (simp only [same_int, same_bool, same_ptr, same_slice, same_sliceP, same_nil, same_agg2, same_string]; done) | (simp [oneCell, AW.next_push]; done) | fail) only [go_sem, Nat.reduceEqDiff, reduceIte, Nat.reduceAdd, Int.toNat_natCast, Nat.add_zero, Owes_true, e1, hdn]; try rfl), by (simp -dsimp -implicitDefEqProofs (maxSteps := 2000000) (disch := first | assumption | omega | (simp only [AW.next_push, AW.next_put]; omega) | ((repeat refine Fresh.push ?_ _); assumption) | (simp only [same_int, same_bool, same_ptr, same_slice, same_sliceP, same_nil, same_agg2, same_string]; done) | (simp [oneCell, AW.next_push]; done) | fail) only [go_sem, Nat.reduceEqDiff, reduceIte, Nat.reduceAdd, Int.toNat_natCast, Nat.add_zero, Owes_true, e5, hdn]; try rfl), by (simp -dsimp -implicitDefEqProofs (maxSteps := 2000000) (disch := first | assumption | omega | (simp only [AW.next_push, AW.next_put]; omega) | ((repeat refine Fresh.push ?_ _); assumption) | (simp only [same_int, same_bool, same_ptr, same_slice, same_sliceP, same_nil, same_agg2, same_string]; done) | (simp [oneCell, AW.next_push]; done) | fail) only [go_sem, Nat.reduceEqDiff, reduceIte, Nat.reduceAdd, Int.toNat_natCast, Nat.add_zero, Owes_true, e6, hdn]; try rfl), .inl ⟨by rw [hpn]; decide, by rw [hall, hdrop, hr, hq]; rfl⟩, g3⟩
      by_cases k2 : K = 2
      · subst k2
        have hfb : fitB ⟨D, 2, N⟩ (decide (i + 1 = l.length)) = decide (N = 0) := rfl
        rw [hfb] at hdrop
        by_cases hN : N = 0
        · have hNd : decide (N = 0) = true := decide_eq_true hN
          simp -dsimp -implicitDefEqProofs (maxSteps := 2000000) (disch := first | assumption | omega | (simp only [AW.next_push, AW.next_put]; omega) | ((repeat refine Fresh.push ?_ _); assumption) | (simp only [same_int, same_bool, same_ptr, same_slice, same_sliceP, same_nil, same_agg2, same_string]; done) | (simp [oneCell, AW.next_push]; done) | fail) only [go_sem, Nat.reduceEqDiff, reduceIte, Nat.reduceAdd, Int.toNat_natCast, Nat.add_zero, Owes_true, Tryz.results40, e1, e5, e6, Nat.zero_add, u0, u1, u2, h21, h23, hNd]
          refine ⟨_, by omega, i + 1, by omega, rfl, rfl, by (simp -dsimp -implicitDefEqProofs (maxSteps := 2000000) (disch := first | assumption | omega | (simp only [AW.next_push, AW.next_put]; omega) | ((repeat refine Fresh.push ?_ _); assumption) | (simp only [same_int, same_bool, same_ptr, same_slice, same_sliceP, same_nil, same_agg2, same_string]; done) | (simp [oneCell, AW.next_push]; done) | fail) only [go_sem, Nat.reduceEqDiff, reduceIte, Nat.reduceAdd, Int.toNat_natCast, Nat.add_zero, Owes_true, e1, hdn]; try rfl), by (simp -dsimp -implicitDefEqProofs (maxSteps := 2000000) (disch := first | assumption | omega | (simp only [AW.next_push, AW.next_put]; omega) | ((repeat refine Fresh.push ?_ _); assumption) | (simp only [same_int, same_bool, same_ptr, same_slice, same_sliceP, same_nil, same_agg2, same_string]; done) | (simp [oneCell, AW.next_push]; done) | fail) only [go_sem, Nat.reduceEqDiff, reduceIte, Nat.reduceAdd, Int.toNat_natCast, Nat.add_zero, Owes_true, e5, hdn]; try rfl), by (simp -dsimp -implicitDefEqProofs (maxSteps := 2000000) (disch := first | assumption | omega | (simp only [AW.next_push, AW.next_put]; omega) | ((repeat refine Fresh.push ?_ _); assumption) | (simp only [same_int, same_bool, same_ptr, same_slice, same_sliceP, same_nil, same_agg2, same_string]; done) | (simp [oneCell, AW.next_push]; done) | fail) only [go_sem, Nat.reduceEqDiff, reduceIte, Nat.reduceAdd, Int.toNat_natCast, Nat.add_zero, Owes_true, e6, hdn]; try rfl), .inl ⟨by rw [hpn]; decide, by rw [hall, hdrop, hr, hNd]; rfl⟩, g3⟩
        · have hNd : decide (N = 0) = false := decide_eq_false hN
          have hbad : actsTo (dayAt d.st l i) (l.drop i) = false := by rw [hdrop, hNd, Bool.and_false]; rfl
          simp -dsimp -implicitDefEqProofs (maxSteps := 2000000) (disch := first | assumption | omega | (simp only [AW.next_push, AW.next_put]; omega) | ((repeat refine Fresh.push ?_ _); assumption) | (simp only [same_int, same_bool, same_ptr, same_slice, same_sliceP, same_nil, same_agg2, same_string]; done) | (simp [oneCell, AW.next_push]; done) | fail) only [go_sem, Nat.reduceEqDiff, reduceIte, Nat.reduceAdd, Int.toNat_natCast, Nat.add_zero, Owes_true, Tryz.results40, e1, e5, e6, Nat.zero_add, u0, u1, u2, h21, h23, hNd, hN]
          exact ⟨by rw [actsB, hall, hbad, Bool.and_false], g3⟩
      by_cases k4 : K = 4
      · subst k4
        have hfb : fitB ⟨D, 4, N⟩ (decide (i + 1 = l.length)) = (decide (i + 1 = l.length) && decide (N = 0)) := rfl
        rw [hfb] at hdrop
        by_cases hN : N = 0
        · have hNd : decide (N = 0) = true := decide_eq_true hN
          have hlast : actsTo d.st l = decide (i + 1 = l.length) := by
            rw [hall, hdrop, hr, hNd]
            by_cases q : i + 1 = l.length
            · rw [decide_eq_true q, q, List.drop_length]; rfl
            · rw [decide_eq_false q]; rfl
          simp -dsimp -implicitDefEqProofs (maxSteps := 2000000) (disch := first | assumption | omega | (simp only [AW.next_push, AW.next_put]; omega) | ((repeat refine Fresh.push ?_ _); assumption) | (simp only [same_int, same_bool, same_ptr, same_slice, same_sliceP, same_nil, same_agg2, same_string]; done) | (simp [oneCell, AW.next_push]; done) | fail) only [go_sem, Nat.reduceEqDiff, reduceIte, Nat.reduceAdd, Int.toNat_natCast, Nat.add_zero, Owes_true, Tryz.results40, e1, e5, e6, Nat.zero_add, u0, u1, u2, h41, h43, h42, hNd]
          refine ⟨_, by omega, i + 1, by omega, rfl, rfl, by (simp -dsimp -implicitDefEqProofs (maxSteps := 2000000) (disch := first | assumption | omega | (simp only [AW.next_push, AW.next_put]; omega) | ((repeat refine Fresh.push ?_ _); assumption) | (simp only [same_int, same_bool, same_ptr, same_slice, same_sliceP, same_nil, same_agg2, same_string]; done) | (simp [oneCell, AW.next_push]; done) | fail) only [go_sem, Nat.reduceEqDiff, reduceIte, Nat.reduceAdd, Int.toNat_natCast, Nat.add_zero, Owes_true, e1, hdn]; try rfl), by (simp -dsimp -implicitDefEqProofs (maxSteps := 2000000) (disch := first | assumption | omega | (simp only [AW.next_push, AW.next_put]; omega) | ((repeat refine Fresh.push ?_ _); assumption) | (simp only [same_int, same_bool, same_ptr, same_slice, same_sliceP, same_nil, same_agg2, same_string]; done) | (simp [oneCell, AW.next_push]; done) | fail) only [go_sem, Nat.reduceEqDiff, reduceIte, Nat.reduceAdd, Int.toNat_natCast, Nat.add_zero, Owes_true, e5, hdn]; try rfl), by (simp -dsimp -implicitDefEqProofs (maxSteps := 2000000) (disch := first | assumption | omega | (simp only [AW.next_push, AW.next_put]; omega) | ((repeat refine Fresh.push ?_ _); assumption) | (simp only [same_int, same_bool, same_ptr, same_slice, same_sliceP, same_nil, same_agg2, same_string]; done) | (simp [oneCell, AW.next_push]; done) | fail) only [go_sem, Nat.reduceEqDiff, reduceIte, Nat.reduceAdd, Int.toNat_natCast, Nat.add_zero, Owes_true, e6, hdn]; try rfl), .inr ⟨hpn, hlast⟩, g3⟩
        · have hNd : decide (N = 0) = false := decide_eq_false hN
          have hbad : actsTo (dayAt d.st l i) (l.drop i) = false := by rw [hdrop, hNd, Bool.and_false, Bool.and_false]; rfl
          simp -dsimp -implicitDefEqProofs (maxSteps := 2000000) (disch := first | assumption | omega | (simp only [AW.next_push, AW.next_put]; omega) | ((repeat refine Fresh.push ?_ _); assumption) | (simp only [same_int, same_bool, same_ptr, same_slice, same_sliceP, same_nil, same_agg2, same_string]; done) | (simp [oneCell, AW.next_push]; done) | fail) only [go_sem, Nat.reduceEqDiff, reduceIte, Nat.reduceAdd, Int.toNat_natCast, Nat.add_zero, Owes_true, Tryz.results40, e1, e5, e6, Nat.zero_add, u0, u1, u2, h41, h43, h42, hNd, hN]
          exact ⟨by rw [actsB, hall, hbad, Bool.and_false], g3⟩
      have hfb : fitB ⟨D, K, N⟩ (decide (i + 1 = l.length)) = false := by unfold fitB; rw [if_neg k1, if_neg k2, if_neg k3, if_neg k4]
      have hbad : actsTo (dayAt d.st l i) (l.drop i) = false := by rw [hdrop, hfb, Bool.and_false]; rfl
      simp -dsimp -implicitDefEqProofs (maxSteps := 2000000) (disch := first | assumption | omega | (simp only [AW.next_push, AW.next_put]; omega) | ((repeat refine Fresh.push ?_ _); assumption) | (simp only [same_int, same_bool, same_ptr, same_slice, same_sliceP, same_nil, same_agg2, same_string]; done) | (simp [oneCell, AW.next_push]; done) | fail) only [go_sem, Nat.reduceEqDiff, reduceIte, Nat.reduceAdd, Int.toNat_natCast, Nat.add_zero, Owes_true, Tryz.results40, e1, e5, e6, Nat.zero_add, u0, u1, u2, k1, k2, k3, k4]
      exact ⟨by rw [actsB, hall, hbad, Bool.and_false], g3⟩
end Go.Proofs
