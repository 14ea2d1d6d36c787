/- Markets: the chapter's craft, and the crafts of a kind. -/
import Derived.Test.YtdbeiefgokocnaaVc
import Derived.Test.YtdbeiefgokocnaaOa
import Derived.Test.YtdbeiefgokocnaaTv
set_option linter.unusedVariables false
set_option linter.unusedSimpArgs false
/- Markets: the chapter's craft of a sale. -/
namespace Go.Proofs
open Go Go.RowKit Go.Sim
set_option maxRecDepth 100000
set_option maxHeartbeats 1000000 in
theorem refcraft_ok (x : MarkN) (S : List SaleN) (F : List Int) (vs vf : Value) (s : SaleN) (w : AW) (f : Fresh w) (hvs : oneCell vs = true) (hs : ArrOf w 1 icells vf F) (hk : inR 0 s.k ((F.length : Int) - 1) = true) (hsh : 0 ≤ F.getD s.k.toNat 0 ∧ F.getD s.k.toNat 0 ≤ 64) (hd : x.d ≤ 36500) (h : SaleIn x.d s) :
    CallT Try.prog Try.T1 (.fn (.func 70) #[]) #[.agg #[vs, vf, .int .i64 x.m, .int .i64 x.d, .int .i64 x.f], .agg #[.int .i64 s.k, .int .i64 s.d, .int .i64 s.w, .int .i64 s.m, .int .i64 s.p]] w (Ret (.int .i64 (craftN (F.getD s.k.toNat 0) x.d s)) (Grown w)) := by
  obtain ⟨q, cap2, rfl, _, _, hat⟩ := id hs.open
  have hvf : oneCell (.slice q F.length cap2) = true := rfl
  rw [inR_iff] at hk
  obtain ⟨n, hn⟩ := Int.eq_ofNat_of_zero_le hk.1
  have hn' : n < F.length := by omega
  have hnl : (n : Int) < (F.length : Int) := by omega
  obtain ⟨b1, o1, rfl, hb1, hcell⟩ := hat n hn'
  have hgd : F.getD s.k.toNat 0 = F[n] := by rw [hn, Int.toNat_natCast]; exact getD_at hn'
  rw [hgd] at hsh ⊢
  generalize F[n] = sh at *
  have g := (Grown.refl f).push (.cells [vs, .slice (some ⟨b1, o1, none⟩) F.length cap2, .int .i64 x.m, .int .i64 x.d, .int .i64 x.f] 25 w.next 0 0)
  have hO := (Own.new f 25 [vs, .slice (some ⟨b1, o1, none⟩) F.length cap2, .int .i64 x.m, .int .i64 x.d, .int .i64 x.f]).push (.cells (scel s) 66 (w.next + 1) 0 0)
  have hS := Own.new g.2 66 (scel s)
  have g1 := g.push (.cells (scel s) 66 (w.next + 1) 0 0)
  rw [AW.next_push] at hS
  unfold scel at hS hO g1
  have c0 := (hO).cell (o := 0) rfl hvs
  have c1 := (hO).cell (o := 1) rfl hvf
  have c2 := (hO).cell (o := 2) rfl rfl
  have c3 := (hO).cell (o := 3) rfl rfl
  have c4 := (hO).cell (o := 4) rfl rfl
  have s0 := (hS).cell (o := 0) rfl rfl
  have s1 := (hS).cell (o := 1) rfl rfl
  have s2 := (hS).cell (o := 2) rfl rfl
  have s3 := (hS).cell (o := 3) rfl rfl
  have s4 := (hS).cell (o := 4) rfl rfl
  have a0 := hcell _ g1.1 0 (.int .i64 sh) rfl
  have hsd := h.d; have hsw := h.w; have hsm := h.m; have hsp := h.p
  have htop := h.top
  have m1 : s.w * s.m ≤ 1000 * 100000 := Int.mul_le_mul hsw.2 hsm.2 hsm.1 (by omega)
  have m2 : 0 ≤ s.w * s.m := Int.mul_nonneg hsw.1 hsm.1
  have hmax : max 0 (s.p - s.w * s.m) = max 0 (s.p - s.w * s.m) := rfl
  have hN : 0 ≤ (x.d - s.d) / 365 ∧ (x.d - s.d) / 365 ≤ 36500 := by omega
  refine callT_code rfl Try.func70 rfl Try.s70_eq rfl ?_
  unfold Try.s70
  simp -dsimp -implicitDefEqProofs (maxSteps := 2000000) (disch := first | assumption | omega | (simp only [AW.next_push, AW.next_put]; omega) | ((repeat refine Fresh.push ?_ _); assumption) | (simp only [same_int, same_bool, same_ptr, same_slice, same_sliceP, same_nil, same_agg2, same_string]; done) | (simp [oneCell, AW.next_push]; done) | fail) only [go_sem, Nat.reduceEqDiff, reduceIte, Nat.reduceAdd, Int.toNat_natCast, Nat.add_zero, Owes_true, Try.results70, Nat.zero_add, s1, s2, s3, s4]
  generalize ((w.push (.cells [vs, .slice (some ⟨b1, o1, none⟩) F.length cap2, .int .i64 x.m, .int .i64 x.d, .int .i64 x.f] 25 w.next 0 0)).push (.cells [.int .i64 s.k, .int .i64 s.d, .int .i64 s.w, .int .i64 s.m, .int .i64 s.p] 66 (w.next + 1) 0 0)) = W at *
  refine loopR (fun k t ds w2 => ∃ i : Nat, i ≤ ((x.d - s.d) / 365).toNat ∧ k = ((x.d - s.d) / 365).toNat - i ∧ ds = [] ∧ ev t (.tmp 2) = .pointer (some ⟨w.next, 0, none⟩) ∧ ev t (.tmp 3) = .pointer (some ⟨w.next + 1, 0, none⟩) ∧ ev t (.tmp 5) = .int .i64 (fadeTo (max 0 (s.p - s.w * s.m)) sh i) ∧ W = w2 ∧ (∃ dd : Int, ev t (.tmp 6) = .int .i64 dd ∧ dd = s.d + 365 + 365 * i)) (((x.d - s.d) / 365).toNat) ?_ ?_
  · refine ⟨0, by omega, by omega, rfl, ?_, ?_, ?_, ⟨rfl, s.d + 365, by simp -dsimp -implicitDefEqProofs (maxSteps := 2000000) (disch := first | assumption | omega | (simp only [AW.next_push, AW.next_put]; omega) | ((repeat refine Fresh.push ?_ _); assumption) | (simp only [same_int, same_bool, same_ptr, same_slice, same_sliceP, same_nil, same_agg2, same_string]; done) | (simp [oneCell, AW.next_push]; done) | fail) only [go_sem, Nat.reduceEqDiff, reduceIte, Nat.reduceAdd, Int.toNat_natCast, Nat.add_zero, Owes_true], by omega⟩⟩ <;> simp -dsimp -implicitDefEqProofs (maxSteps := 2000000) (disch := first | assumption | omega | (simp only [AW.next_push, AW.next_put]; omega) | ((repeat refine Fresh.push ?_ _); assumption) | (simp only [same_int, same_bool, same_ptr, same_slice, same_sliceP, same_nil, same_agg2, same_string]; done) | (simp [oneCell, AW.next_push]; done) | fail) only [go_sem, Nat.reduceEqDiff, reduceIte, Nat.reduceAdd, Int.toNat_natCast, Nat.add_zero, Owes_true, fadeTo] <;> rfl
  rintro k t ds w2 ⟨i, hii, rfl, rfl, e2, e3, e5, hw⟩
  obtain ⟨hw, dd, e6, hdd⟩ := hw
  subst hw
  by_cases hlt : dd ≤ x.d
  case neg =>
    obtain rfl : i = ((x.d - s.d) / 365).toNat := by omega
    simp -dsimp -implicitDefEqProofs (maxSteps := 2000000) (disch := first | assumption | omega | (simp only [AW.next_push, AW.next_put]; omega) | ((repeat refine Fresh.push ?_ _); assumption) | (simp only [same_int, same_bool, same_ptr, same_slice, same_sliceP, same_nil, same_agg2, same_string]; done) | (simp [oneCell, AW.next_push]; done) | fail) only [go_sem, Nat.reduceEqDiff, reduceIte, Nat.reduceAdd, Int.toNat_natCast, Nat.add_zero, Owes_true, Try.results70, e2, e3, e5, e6, c3, hlt]
    exact ⟨rfl, g1⟩
  have hi2 : i < ((x.d - s.d) / 365).toNat := by omega
  have hin := fadeTo_in htop hsh i
  have hnext : fadeTo (max 0 (s.p - s.w * s.m)) sh (i + 1) = fadeTo (max 0 (s.p - s.w * s.m)) sh i * sh / 64 := rfl
  generalize fadeTo (max 0 (s.p - s.w * s.m)) sh i = c at *
  have k1 : c * sh ≤ 1073741824 * 64 := Int.mul_le_mul hin.2 hsh.2 hsh.1 (by omega)
  have k2 : 0 ≤ c * sh := Int.mul_nonneg hin.1 hsh.1
  rw [hn] at s0
  simp only [Nat.add_zero] at a0
  simp -dsimp -implicitDefEqProofs (maxSteps := 2000000) (disch := first | assumption | omega | (simp only [AW.next_push, AW.next_put]; omega) | ((repeat refine Fresh.push ?_ _); assumption) | (simp only [same_int, same_bool, same_ptr, same_slice, same_sliceP, same_nil, same_agg2, same_string]; done) | (simp [oneCell, AW.next_push]; done) | fail) only [go_sem, Nat.reduceEqDiff, reduceIte, Nat.reduceAdd, Int.toNat_natCast, Nat.add_zero, Owes_true, Try.results70, e2, e3, e5, e6, hlt, Nat.zero_add, c1, c3, s0, hnl, indexV_eq, a0]
  apply callV_of (e := rfl)
  · exact Down_ok (c * sh) k2 (by omega) W
  rintro _ _ ⟨rfl, rfl⟩
  simp -dsimp -implicitDefEqProofs (maxSteps := 2000000) (disch := first | assumption | omega | (simp only [AW.next_push, AW.next_put]; omega) | ((repeat refine Fresh.push ?_ _); assumption) | (simp only [same_int, same_bool, same_ptr, same_slice, same_sliceP, same_nil, same_agg2, same_string]; done) | (simp [oneCell, AW.next_push]; done) | fail) only [go_sem, Nat.reduceEqDiff, reduceIte, Nat.reduceAdd, Int.toNat_natCast, Nat.add_zero, Owes_true, Try.results70, e2, e3, e5, e6]
  refine ⟨_, by omega, i + 1, by omega, rfl, rfl, by (simp -dsimp -implicitDefEqProofs (maxSteps := 2000000) (disch := first | assumption | omega | (simp only [AW.next_push, AW.next_put]; omega) | ((repeat refine Fresh.push ?_ _); assumption) | (simp only [same_int, same_bool, same_ptr, same_slice, same_sliceP, same_nil, same_agg2, same_string]; done) | (simp [oneCell, AW.next_push]; done) | fail) only [go_sem, Nat.reduceEqDiff, reduceIte, Nat.reduceAdd, Int.toNat_natCast, Nat.add_zero, Owes_true, e2, hnext]; try rfl), by (simp -dsimp -implicitDefEqProofs (maxSteps := 2000000) (disch := first | assumption | omega | (simp only [AW.next_push, AW.next_put]; omega) | ((repeat refine Fresh.push ?_ _); assumption) | (simp only [same_int, same_bool, same_ptr, same_slice, same_sliceP, same_nil, same_agg2, same_string]; done) | (simp [oneCell, AW.next_push]; done) | fail) only [go_sem, Nat.reduceEqDiff, reduceIte, Nat.reduceAdd, Int.toNat_natCast, Nat.add_zero, Owes_true, e3, hnext]; try rfl), by (simp -dsimp -implicitDefEqProofs (maxSteps := 2000000) (disch := first | assumption | omega | (simp only [AW.next_push, AW.next_put]; omega) | ((repeat refine Fresh.push ?_ _); assumption) | (simp only [same_int, same_bool, same_ptr, same_slice, same_sliceP, same_nil, same_agg2, same_string]; done) | (simp [oneCell, AW.next_push]; done) | fail) only [go_sem, Nat.reduceEqDiff, reduceIte, Nat.reduceAdd, Int.toNat_natCast, Nat.add_zero, Owes_true, e5, hnext]; try rfl), ⟨rfl, dd + 365, by simp -dsimp -implicitDefEqProofs (maxSteps := 2000000) (disch := first | assumption | omega | (simp only [AW.next_push, AW.next_put]; omega) | ((repeat refine Fresh.push ?_ _); assumption) | (simp only [same_int, same_bool, same_ptr, same_slice, same_sliceP, same_nil, same_agg2, same_string]; done) | (simp [oneCell, AW.next_push]; done) | fail) only [go_sem, Nat.reduceEqDiff, reduceIte, Nat.reduceAdd, Int.toNat_natCast, Nat.add_zero, Owes_true], by omega⟩⟩
end Go.Proofs

/- Markets: a number put into a sorted list. -/
namespace Go.Proofs
open Go Go.RowKit Go.Sim
/-- A number, put in behind all that are not greater. -/
def putIn (L : List Int) (a : Nat) (n : Int) : List Int := L.take a ++ n :: L.drop a
theorem putIn_perm (L : List Int) (a : Nat) (n : Int) : (putIn L a n).Perm (n :: L) := by
  unfold putIn
  refine List.perm_middle.trans ?_
  rw [List.take_append_drop]
theorem putIn_sorted {L : List Int} {a : Nat} {n : Int} (h : L.Pairwise (· ≤ ·)) (h1 : ∀ y ∈ L.take a, y ≤ n) (h2 : ∀ y ∈ L.drop a, n ≤ y) : (putIn L a n).Pairwise (· ≤ ·) := by
  unfold putIn
  rw [← List.take_append_drop a L] at h
  rw [List.pairwise_append] at h ⊢
  refine ⟨h.1, List.pairwise_cons.mpr ⟨h2, h.2.1⟩, ?_⟩
  intro x hx y hy
  rcases List.mem_cons.mp hy with rfl | hy
  · exact h1 x hx
  · exact h.2.2 x hx y hy
theorem sortedL_put {l : List Int} {a : Nat} {n : Int} (h1 : ∀ (j : Nat) (hj : j < (sortedL l).length), j < a → (sortedL l)[j] ≤ n) (h2 : ∀ h : a < (sortedL l).length, n < (sortedL l)[a]) : putIn (sortedL l) a n = sortedL (l ++ [n]) := by
  have hs := sortedL_pair l
  refine List.Perm.eq_of_pairwise (fun a b _ _ h1 h2 => by omega) (putIn_sorted hs ?_ ?_) (sortedL_pair _) ?_
  · intro y hy
    obtain ⟨j, hj, rfl⟩ := List.getElem_of_mem hy
    rw [List.length_take] at hj
    rw [List.getElem_take]
    exact h1 j (by omega) (by omega)
  · intro y hy
    obtain ⟨j, hj, rfl⟩ := List.getElem_of_mem hy
    rw [List.length_drop] at hj
    rw [List.getElem_drop]
    have q := h2 (by omega)
    have := sortedL_le (l := l) (i := a) (j := a + j) (by omega) (by omega)
    omega
  · exact (putIn_perm _ _ _).trans (((List.mergeSort_perm _ _).cons n).trans ((List.perm_append_singleton n l).symm.trans (List.mergeSort_perm _ _).symm))
theorem putIn_len {L : List Int} {a : Nat} {n : Int} (h : a ≤ L.length) : (putIn L a n).length = L.length + 1 := by
  simp only [putIn, List.length_append, List.length_take, List.length_cons, List.length_drop]; omega
end Go.Proofs

/- Markets: the chapter's crafts. -/
namespace Go.Proofs
open Go Go.RowKit Go.Sim
set_option maxRecDepth 100000
theorem Try.sl23a (t : Tmps) (w : AW) (x hi : Operand) : fast (prg Try.prog) t w (.slice 23 x none (some hi) none) = sliceV w 1 (ev t x) none (some (ev t hi)) := by
  simp only [fast, Try.ty23, Try.ty3, Option.map]
theorem Try.sl23b (t : Tmps) (w : AW) (x lo : Operand) : fast (prg Try.prog) t w (.slice 23 x (some lo) none none) = sliceV w 1 (ev t x) (some (ev t lo)) none := by
  simp only [fast, Try.ty23, Try.ty3, Option.map]
attribute [go_sem] Try.sl23a Try.sl23b
theorem flat_take (L : List Int) (a : Nat) : (L.flatMap icells).take a = (L.take a).flatMap icells := by
  induction L generalizing a with
  | nil => simp
  | cons y q ih => cases a with
    | zero => rfl
    | succ a => rw [List.flatMap_cons, icells, List.singleton_append, List.take_succ_cons, ih, List.take_succ_cons, List.flatMap_cons]; rfl
theorem flat_drop (L : List Int) (a : Nat) : (L.flatMap icells).drop a = (L.drop a).flatMap icells := by
  induction L generalizing a with
  | nil => simp
  | cons y q ih => cases a with
    | zero => rfl
    | succ a => rw [List.flatMap_cons, icells, List.singleton_append, List.drop_succ_cons, ih, List.drop_succ_cons]
theorem same_sale (a b c d e : Int) : same 12 (.agg #[.int .i64 a, .int .i64 b, .int .i64 c, .int .i64 d, .int .i64 e]) (.agg #[.int .i64 a, .int .i64 b, .int .i64 c, .int .i64 d, .int .i64 e]) = true := by simp [same, same.all, intEq_eq]
theorem same_mark (p q : Option Addr) (n n' c c' : Nat) (a b e : Int) : same 12 (.agg #[.slice p n c, .slice q n' c', .int .i64 a, .int .i64 b, .int .i64 e]) (.agg #[.slice p n c, .slice q n' c', .int .i64 a, .int .i64 b, .int .i64 e]) = true := by
  have h1 : ∀ (p : Option Addr) (n c : Nat), same 11 (.slice p n c) (.slice p n c) = true := by
    intro p n c
    cases p with
    | none => simp [same]
    | some a => obtain ⟨b, o, s⟩ := a; cases s <;> simp [same]
  simp [same, same.all, intEq_eq, h1]
set_option maxHeartbeats 4000000 in
theorem refcrafts_ok (x : MarkN) (S : List SaleN) (F : List Int) (vs vf : Value) (kd : Int) (w : AW) (f : Fresh w) (hS : ArrOf w 5 scel vs S) (hs : ArrOf w 1 icells vf F) (hm : MarkIn x S F) (hk : inR 0 kd ((F.length : Int) - 1) = true) :
    CallT Try.prog Try.T1 (.fn (.func 48) #[]) #[.agg #[vs, vf, .int .i64 x.m, .int .i64 x.d, .int .i64 x.f], .int .i64 kd] w (fun r w' => ArrOf w' 1 icells r (craftsL x S F kd) ∧ Grown w w') := by
  obtain ⟨q, cap2, rfl, _, _, _⟩ := id hs.open
  obtain ⟨p, cap, rfl, _, _, hat⟩ := id hS.open
  have hvs : oneCell (.slice p S.length cap) = true := rfl
  have hvf : oneCell (.slice q F.length cap2) = true := rfl
  have hml := hm.len
  have g := (Grown.refl f).push (.cells [.slice p S.length cap, .slice q F.length cap2, .int .i64 x.m, .int .i64 x.d, .int .i64 x.f] 25 w.next 0 0)
  have hO := Own.new f 25 [.slice p S.length cap, .slice q F.length cap2, .int .i64 x.m, .int .i64 x.d, .int .i64 x.f]
  have c0 := (hO).cell (o := 0) rfl hvs
  have c1 := (hO).cell (o := 1) rfl hvf
  have c2 := (hO).cell (o := 2) rfl rfl
  have c3 := (hO).cell (o := 3) rfl rfl
  have c4 := (hO).cell (o := 4) rfl rfl
  refine callT_code rfl Try.func48 rfl Try.s48b_eq rfl ?_
  unfold Try.s48b
  simp -dsimp -implicitDefEqProofs (maxSteps := 2000000) (disch := first | assumption | omega | (simp only [AW.next_push, AW.next_put]; omega) | ((repeat refine Fresh.push ?_ _); assumption) | (simp only [same_int, same_bool, same_ptr, same_slice, same_sliceP, same_nil, same_agg2, same_string]; done) | (simp [oneCell, AW.next_push]; done) | fail) only [go_sem, Nat.reduceEqDiff, reduceIte, Nat.reduceAdd, Int.toNat_natCast, Nat.add_zero, Owes_true, Try.results48, Nat.zero_add, c0, c1, c2, c3, c4]
  generalize hW : w.push (.cells [.slice p S.length cap, .slice q F.length cap2, .int .i64 x.m, .int .i64 x.d, .int .i64 x.f] 25 w.next 0 0) = W at *
  have hnW : W.next = w.next + 1 := by rw [← hW, AW.next_push]
  have hnil : sortedL (craftsTo (F.getD kd.toNat 0) x.d kd (S.take 0)) = [] := by simp [craftsTo, sortedL]
  refine loopR (fun k t ds w2 => ∃ i : Nat, i ≤ S.length ∧ k = S.length - i ∧ ds = [] ∧ ev t (.tmp 1) = .int .i64 kd ∧ ev t (.tmp 2) = .pointer (some ⟨w.next, 0, none⟩) ∧ ev t (.tmp 6) = .int .i64 (i : Int) ∧ (∃ v, ev t (.tmp 5) = v ∧ AOwn W.next w2 3 1 v (sortedL (craftsTo (F.getD kd.toNat 0) x.d kd (S.take i))).length ((sortedL (craftsTo (F.getD kd.toNat 0) x.d kd (S.take i))).flatMap icells) ∧ Keep W.next W w2 ∧ Fresh w2)) (S.length) ?_ ?_
  · refine ⟨0, by omega, by omega, rfl, ?_, ?_, ?_, ⟨.slice none 0 0, by simp -dsimp -implicitDefEqProofs (maxSteps := 2000000) (disch := first | assumption | omega | (simp only [AW.next_push, AW.next_put]; omega) | ((repeat refine Fresh.push ?_ _); assumption) | (simp only [same_int, same_bool, same_ptr, same_slice, same_sliceP, same_nil, same_agg2, same_string]; done) | (simp [oneCell, AW.next_push]; done) | fail) only [go_sem, Nat.reduceEqDiff, reduceIte, Nat.reduceAdd, Int.toNat_natCast, Nat.add_zero, Owes_true], by rw [hnil]; exact .inl ⟨rfl, rfl, rfl⟩, .refl _ _, g.2⟩⟩ <;> simp -dsimp -implicitDefEqProofs (maxSteps := 2000000) (disch := first | assumption | omega | (simp only [AW.next_push, AW.next_put]; omega) | ((repeat refine Fresh.push ?_ _); assumption) | (simp only [same_int, same_bool, same_ptr, same_slice, same_sliceP, same_nil, same_agg2, same_string]; done) | (simp [oneCell, AW.next_push]; done) | fail) only [go_sem, Nat.reduceEqDiff, reduceIte, Nat.reduceAdd, Int.toNat_natCast, Nat.add_zero, Owes_true] <;> rfl
  rintro k t ds w2 ⟨i, hii, rfl, rfl, e1, e2, e6, hM⟩
  obtain ⟨v, e5, hA, hk2, f2⟩ := hM
  have g2 : Grown w w2 := ⟨g.1.trans (hk2.mono (by omega)), f2⟩
  have hO2 := hO.keepC hk2 (by rw [hnW]; omega)
  have c0 := (hO2).cell (o := 0) rfl hvs
  have c1 := (hO2).cell (o := 1) rfl hvf
  have c2 := (hO2).cell (o := 2) rfl rfl
  have c3 := (hO2).cell (o := 3) rfl rfl
  have c4 := (hO2).cell (o := 4) rfl rfl
  by_cases hlt : (i : Int) < (S.length : Int)
  case neg =>
    obtain rfl : i = S.length := by omega
    rw [List.take_of_length_le (Nat.le_refl _)] at hA
    simp -dsimp -implicitDefEqProofs (maxSteps := 2000000) (disch := first | assumption | omega | (simp only [AW.next_push, AW.next_put]; omega) | ((repeat refine Fresh.push ?_ _); assumption) | (simp only [same_int, same_bool, same_ptr, same_slice, same_sliceP, same_nil, same_agg2, same_string]; done) | (simp [oneCell, AW.next_push]; done) | fail) only [go_sem, Nat.reduceEqDiff, reduceIte, Nat.reduceAdd, Int.toNat_natCast, Nat.add_zero, Owes_true, Try.results48, e1, e2, e5, e6, c0, hlt]
    exact ⟨hA.arr icells_len (by rw [sortedL_len]; have := craftsTo_len (F.getD kd.toNat 0) x.d kd S; omega), g2⟩
  have hlt' : i < S.length := by omega
  obtain ⟨b1, o1, rfl, hb1, hcell⟩ := hat i hlt'
  have a0 := hcell _ g2.1 0 _ rfl
  have a1 := hcell _ g2.1 1 _ rfl
  have a2 := hcell _ g2.1 2 _ rfl
  have a3 := hcell _ g2.1 3 _ rfl
  have a4 := hcell _ g2.1 4 _ rfl
  simp only [Nat.add_zero] at a0
  have htake : S.take (i + 1) = S.take i ++ [S[i]] := List.take_succ_eq_append_getElem hlt'
  have hsale := hm.sale _ (List.getElem_mem hlt')
  generalize S[i] = s at *
  have hsn := craftsTo_snoc (F.getD kd.toNat 0) x.d kd (S.take i) s
  rw [← htake] at hsn
  obtain ⟨vp, vn, vc, rfl⟩ : ∃ x y z, v = .slice x y z := by rcases hA with ⟨rfl, _⟩ | ⟨_, _, rfl, _⟩ <;> exact ⟨_, _, _, rfl⟩
  by_cases hkd : s.k = kd
  case neg =>
    rw [if_neg hkd] at hsn
    simp -dsimp -implicitDefEqProofs (maxSteps := 2000000) (disch := first | assumption | omega | (simp only [AW.next_push, AW.next_put]; omega) | ((repeat refine Fresh.push ?_ _); assumption) | (simp only [same_int, same_bool, same_ptr, same_slice, same_sliceP, same_nil, same_agg2, same_string]; done) | (simp [oneCell, AW.next_push]; done) | fail) only [go_sem, Nat.reduceEqDiff, reduceIte, Nat.reduceAdd, Int.toNat_natCast, Nat.add_zero, Owes_true, Try.results48, e1, e2, e5, e6, c0, hlt, indexV_eq, a0, hkd, Nat.zero_add]
    refine ⟨_, by omega, i + 1, by omega, rfl, rfl, by (simp -dsimp -implicitDefEqProofs (maxSteps := 2000000) (disch := first | assumption | omega | (simp only [AW.next_push, AW.next_put]; omega) | ((repeat refine Fresh.push ?_ _); assumption) | (simp only [same_int, same_bool, same_ptr, same_slice, same_sliceP, same_nil, same_agg2, same_string]; done) | (simp [oneCell, AW.next_push]; done) | fail) only [go_sem, Nat.reduceEqDiff, reduceIte, Nat.reduceAdd, Int.toNat_natCast, Nat.add_zero, Owes_true, e1]; try rfl), by (simp -dsimp -implicitDefEqProofs (maxSteps := 2000000) (disch := first | assumption | omega | (simp only [AW.next_push, AW.next_put]; omega) | ((repeat refine Fresh.push ?_ _); assumption) | (simp only [same_int, same_bool, same_ptr, same_slice, same_sliceP, same_nil, same_agg2, same_string]; done) | (simp [oneCell, AW.next_push]; done) | fail) only [go_sem, Nat.reduceEqDiff, reduceIte, Nat.reduceAdd, Int.toNat_natCast, Nat.add_zero, Owes_true, e2]; try rfl), by (simp -dsimp -implicitDefEqProofs (maxSteps := 2000000) (disch := first | assumption | omega | (simp only [AW.next_push, AW.next_put]; omega) | ((repeat refine Fresh.push ?_ _); assumption) | (simp only [same_int, same_bool, same_ptr, same_slice, same_sliceP, same_nil, same_agg2, same_string]; done) | (simp [oneCell, AW.next_push]; done) | fail) only [go_sem, Nat.reduceEqDiff, reduceIte, Nat.reduceAdd, Int.toNat_natCast, Nat.add_zero, Owes_true, e6]; try rfl), ⟨.slice vp vn vc, by simp -dsimp -implicitDefEqProofs (maxSteps := 2000000) (disch := first | assumption | omega | (simp only [AW.next_push, AW.next_put]; omega) | ((repeat refine Fresh.push ?_ _); assumption) | (simp only [same_int, same_bool, same_ptr, same_slice, same_sliceP, same_nil, same_agg2, same_string]; done) | (simp [oneCell, AW.next_push]; done) | fail) only [go_sem, Nat.reduceEqDiff, reduceIte, Nat.reduceAdd, Int.toNat_natCast, Nat.add_zero, Owes_true, e5], by rw [hsn]; exact hA, hk2, f2⟩⟩
  rw [if_pos hkd] at hsn
  subst hkd
  have hsm := same_sale s.k s.d s.w s.m s.p
  have hsk := same_mark (some ⟨b1, o1, none⟩) q S.length F.length cap cap2 x.m x.d x.f
  have hfd : 0 ≤ F.getD s.k.toNat 0 ∧ F.getD s.k.toNat 0 ≤ 64 := by
    have hk' := hk
    rw [inR_iff] at hk'
    have hn : s.k.toNat < F.length := by omega
    have := hm.fade _ (List.getElem_mem hn)
    rw [getD_at hn]; exact this
  simp -dsimp -implicitDefEqProofs (maxSteps := 2000000) (disch := first | assumption | omega | (simp only [AW.next_push, AW.next_put]; omega) | ((repeat refine Fresh.push ?_ _); assumption) | (simp only [same_int, same_bool, same_ptr, same_slice, same_sliceP, same_nil, same_agg2, same_string]; done) | (simp [oneCell, AW.next_push]; done) | fail) only [go_sem, Nat.reduceEqDiff, reduceIte, Nat.reduceAdd, Int.toNat_natCast, Nat.add_zero, Owes_true, Try.results48, e1, e2, e5, e6, c0, c1, c2, c3, c4, hlt, hsm, hsk, indexV_eq, a0, a1, a2, a3, a4, Nat.zero_add, ne_eq, not_true]
  apply callV_of (e := rfl)
  · exact refcraft_ok x S F _ _ s w2 f2 rfl (hs.grown g2) hk hfd hm.d.2 hsale
  rintro _ w3 ⟨rfl, hg3⟩
  generalize craftN (F.getD s.k.toNat 0) x.d s = nn at *
  have hA3 := hA.keep hg3.1 (Nat.le_refl _)
  have g3 := g2.trans hg3
  simp -dsimp -implicitDefEqProofs (maxSteps := 2000000) (disch := first | assumption | omega | (simp only [AW.next_push, AW.next_put]; omega) | ((repeat refine Fresh.push ?_ _); assumption) | (simp only [same_int, same_bool, same_ptr, same_slice, same_sliceP, same_nil, same_agg2, same_string]; done) | (simp [oneCell, AW.next_push]; done) | fail) only [go_sem, Nat.reduceEqDiff, reduceIte, Nat.reduceAdd, Int.toNat_natCast, Nat.add_zero, Owes_true, Try.results48, e1, e2, e5, e6]
  have hll := craftsTo_len (F.getD s.k.toNat 0) x.d s.k (S.take i)
  rw [List.length_take] at hll
  generalize craftsTo (F.getD s.k.toNat 0) x.d s.k (S.take i) = l at *
  have hsl := sortedL_len l
  obtain ⟨rp, rc, hv, hrc, hrc2, hat2⟩ := (hA3.arr icells_len (by omega)).open
  cases hv
  have hcl : ((sortedL l).flatMap icells).length = (sortedL l).length := by
    generalize sortedL l = q
    induction q with
    | nil => rfl
    | cons y q ih => rw [List.flatMap_cons, List.length_append, ih]; simp [icells]; omega
  have h1c : ∀ y ∈ (sortedL l).flatMap icells, oneCell y = true := by
    intro y hy
    obtain ⟨z, _, hz⟩ := List.mem_flatMap.mp hy
    exact icells_one z y hz
  refine loopR (fun k t ds w4 => ∃ a : Nat, a ≤ (sortedL l).length ∧ k = (sortedL l).length - a ∧ ds = [] ∧ ev t (.tmp 1) = .int .i64 s.k ∧ ev t (.tmp 2) = .pointer (some ⟨w.next, 0, none⟩) ∧ ev t (.tmp 5) = .slice vp (sortedL l).length vc ∧ ev t (.tmp 6) = .int .i64 (i : Int) ∧ ev t (.tmp 7) = .int .i64 nn ∧ ev t (.tmp 8) = .int .i64 (a : Int) ∧ w3 = w4 ∧ ∀ (j : Nat) (hj : j < (sortedL l).length), j < a → (sortedL l)[j] ≤ nn) ((sortedL l).length) ?_ ?_
  · refine ⟨0, by omega, by omega, rfl, ?_, ?_, ?_, ?_, ?_, ?_, ⟨rfl, fun j _ h => by omega⟩⟩ <;> simp -dsimp -implicitDefEqProofs (maxSteps := 2000000) (disch := first | assumption | omega | (simp only [AW.next_push, AW.next_put]; omega) | ((repeat refine Fresh.push ?_ _); assumption) | (simp only [same_int, same_bool, same_ptr, same_slice, same_sliceP, same_nil, same_agg2, same_string]; done) | (simp [oneCell, AW.next_push]; done) | fail) only [go_sem, Nat.reduceEqDiff, reduceIte, Nat.reduceAdd, Int.toNat_natCast, Nat.add_zero, Owes_true, e1, e2, e5, e6] <;> rfl
  rintro k t ds w4 ⟨a, hia, rfl, rfl, e1, e2, e5, e6, e7, e8, hI⟩
  obtain ⟨hw, hI2⟩ := hI
  subst hw
  by_cases hla : (a : Int) < ((sortedL l).length : Int)
  case neg =>
    simp -dsimp -implicitDefEqProofs (maxSteps := 2000000) (disch := first | assumption | omega | (simp only [AW.next_push, AW.next_put]; omega) | ((repeat refine Fresh.push ?_ _); assumption) | (simp only [same_int, same_bool, same_ptr, same_slice, same_sliceP, same_nil, same_agg2, same_string]; done) | (simp [oneCell, AW.next_push]; done) | fail) only [go_sem, Nat.reduceEqDiff, reduceIte, Nat.reduceAdd, Int.toNat_natCast, Nat.add_zero, Owes_true, Try.results48, e1, e2, e5, e6, e7, e8, hla]
    have hput := sortedL_put (l := l) (a := a) (n := nn) hI2 (fun h => absurd h (by omega))
    obtain ⟨p1, q1, d1, hcut⟩ := hA3.cut (a := a) (by omega)
    obtain ⟨u1, u2, u3, u4⟩ := hcut w3 (.refl _ _)
    have f3 := hg3.2
    have hX := Own.new f3 3 [.int .i64 nn]
    have kX := (Keep.refl w3.next w3).push (Nat.le_refl _) (.cells [.int .i64 nn] 3 w3.next 0 0)
    obtain ⟨v5, w5, h5, hA5, k5, f5, l5⟩ := append_own0R (B := (w3.push (.cells [.int .i64 nn] 3 w3.next 0 0)).next) (v := .slice none 0 0) (n := 0) (cells := []) Try.ty23 Try.ty3 rfl (by decide) (.inl ⟨rfl, rfl, rfl⟩) (f3.push _) (Nat.le_refl _) rfl (hcut _ kX).2.1 (by rw [List.length_take, hcl]; omega) (fun y hy => h1c y (List.mem_of_mem_take hy)) (by omega) (by omega)
    have hX5 := hX.keep k5
    obtain ⟨v6, w6, h6, hA6, k6, f6, l6⟩ := append_own0R (x := .slice (some ⟨w3.next, 0, none⟩) 1 1) (new := [.int .i64 nn]) Try.ty23 Try.ty3 rfl (by decide) hA5 f5 k5.next rfl (by simp [aNew, aFirst, aCells, hX5.cell (o := 0) rfl rfl]) rfl (icells_one nn) (by omega) (by omega)
    have hnp : (w3.push (.cells [.int .i64 nn] 3 w3.next 0 0)).next = w3.next + 1 := AW.next_push _ _
    have k36 : Keep w3.next w3 w6 := (kX.trans (k5.mono (by omega))).trans (k6.mono (by omega))
    obtain ⟨v7, w7, h7, hA7, k7, f7, l7⟩ := append_own0R (x := .slice q1 ((sortedL l).length - a) d1) Try.ty23 Try.ty3 rfl (by decide) hA6 f6 (by have := k5.next; have := k6.next; omega) rfl (hcut w6 k36).2.2.2 (by rw [List.length_drop, hcl]; omega) (fun y hy => h1c y (List.mem_of_mem_drop hy)) (by omega) (by omega)
    have u5 := (hcut _ kX).2.2.1
    have k37 : Keep w3.next w3 w7 := k36.trans (k7.mono (by omega))
    have hn3 := hk2.next
    have hn4 := hg3.1.next
    have hA8 : AOwn W.next w7 3 1 v7 (putIn (sortedL l) a nn).length ((putIn (sortedL l) a nn).flatMap icells) := by
      have e1 : 0 + a + 1 + ((sortedL l).length - a) = (putIn (sortedL l) a nn).length := by rw [putIn_len (by omega)]; omega
      have e2 : ([] ++ ((sortedL l).flatMap icells).take (a * 1)) ++ [.int .i64 nn] ++ ((sortedL l).flatMap icells).drop (a * 1) = (putIn (sortedL l) a nn).flatMap icells := by
        rw [Nat.mul_one, List.nil_append, flat_take, flat_drop, putIn, List.flatMap_append, List.flatMap_cons, List.append_assoc]
        rfl
      rw [← e1, ← e2]
      exact hA7.weak (by omega)
    rw [hput, ← hsn] at hA8
    obtain ⟨x5, y5, z5, rfl⟩ : ∃ x y z, v5 = .slice x y z := by rcases hA5 with ⟨rfl, _⟩ | ⟨_, _, rfl, _⟩ <;> exact ⟨_, _, _, rfl⟩
    obtain ⟨x6, y6, z6, rfl⟩ : ∃ x y z, v6 = .slice x y z := by rcases hA6 with ⟨rfl, _⟩ | ⟨_, _, rfl, _⟩ <;> exact ⟨_, _, _, rfl⟩
    obtain ⟨x7, y7, z7, rfl⟩ : ∃ x y z, v7 = .slice x y z := by rcases hA8 with ⟨rfl, _⟩ | ⟨_, _, rfl, _⟩ <;> exact ⟨_, _, _, rfl⟩
    unfold Try.s48_c9
    simp -dsimp -implicitDefEqProofs (maxSteps := 2000000) (disch := first | assumption | omega | (simp only [AW.next_push, AW.next_put]; omega) | ((repeat refine Fresh.push ?_ _); assumption) | (simp only [same_int, same_bool, same_ptr, same_slice, same_sliceP, same_nil, same_agg2, same_string]; done) | (simp [oneCell, AW.next_push]; done) | fail) only [go_sem, Nat.reduceEqDiff, reduceIte, Nat.reduceAdd, Int.toNat_natCast, Nat.add_zero, Owes_true, Try.results48, e1, e2, e5, e6, e7, e8, Nat.zero_add, u1, u5, h5, h6, h7, l5, l6, l7]
    refine ⟨_, by omega, i + 1, by omega, rfl, rfl, by (simp -dsimp -implicitDefEqProofs (maxSteps := 2000000) (disch := first | assumption | omega | (simp only [AW.next_push, AW.next_put]; omega) | ((repeat refine Fresh.push ?_ _); assumption) | (simp only [same_int, same_bool, same_ptr, same_slice, same_sliceP, same_nil, same_agg2, same_string]; done) | (simp [oneCell, AW.next_push]; done) | fail) only [go_sem, Nat.reduceEqDiff, reduceIte, Nat.reduceAdd, Int.toNat_natCast, Nat.add_zero, Owes_true, e1]; try rfl), by (simp -dsimp -implicitDefEqProofs (maxSteps := 2000000) (disch := first | assumption | omega | (simp only [AW.next_push, AW.next_put]; omega) | ((repeat refine Fresh.push ?_ _); assumption) | (simp only [same_int, same_bool, same_ptr, same_slice, same_sliceP, same_nil, same_agg2, same_string]; done) | (simp [oneCell, AW.next_push]; done) | fail) only [go_sem, Nat.reduceEqDiff, reduceIte, Nat.reduceAdd, Int.toNat_natCast, Nat.add_zero, Owes_true, e2]; try rfl), by (simp -dsimp -implicitDefEqProofs (maxSteps := 2000000) (disch := first | assumption | omega | (simp only [AW.next_push, AW.next_put]; omega) | ((repeat refine Fresh.push ?_ _); assumption) | (simp only [same_int, same_bool, same_ptr, same_slice, same_sliceP, same_nil, same_agg2, same_string]; done) | (simp [oneCell, AW.next_push]; done) | fail) only [go_sem, Nat.reduceEqDiff, reduceIte, Nat.reduceAdd, Int.toNat_natCast, Nat.add_zero, Owes_true, e6]; try rfl), ⟨.slice x7 y7 z7, by simp -dsimp -implicitDefEqProofs (maxSteps := 2000000) (disch := first | assumption | omega | (simp only [AW.next_push, AW.next_put]; omega) | ((repeat refine Fresh.push ?_ _); assumption) | (simp only [same_int, same_bool, same_ptr, same_slice, same_sliceP, same_nil, same_agg2, same_string]; done) | (simp [oneCell, AW.next_push]; done) | fail) only [go_sem, Nat.reduceEqDiff, reduceIte, Nat.reduceAdd, Int.toNat_natCast, Nat.add_zero, Owes_true], hA8, (hk2.trans (hg3.1.mono (by omega))).trans (k37.mono (by omega)), f7⟩⟩
  have hla' : a < (sortedL l).length := by omega
  obtain ⟨b3, o3, rfl, hb3, hcell3⟩ := hat2 a hla'
  have d0 := hcell3 _ (.refl _ _) 0 _ rfl
  simp only [Nat.add_zero] at d0
  by_cases hle : (sortedL l)[a] ≤ nn
  case neg =>
    simp -dsimp -implicitDefEqProofs (maxSteps := 2000000) (disch := first | assumption | omega | (simp only [AW.next_push, AW.next_put]; omega) | ((repeat refine Fresh.push ?_ _); assumption) | (simp only [same_int, same_bool, same_ptr, same_slice, same_sliceP, same_nil, same_agg2, same_string]; done) | (simp [oneCell, AW.next_push]; done) | fail) only [go_sem, Nat.reduceEqDiff, reduceIte, Nat.reduceAdd, Int.toNat_natCast, Nat.add_zero, Owes_true, Try.results48, e1, e2, e5, e6, e7, e8, hla, indexV_eq, d0, hle]
    have hput := sortedL_put (l := l) (a := a) (n := nn) hI2 (fun _ => by omega)
    obtain ⟨p1, q1, d1, hcut⟩ := hA3.cut (a := a) (by omega)
    obtain ⟨u1, u2, u3, u4⟩ := hcut w3 (.refl _ _)
    have f3 := hg3.2
    have hX := Own.new f3 3 [.int .i64 nn]
    have kX := (Keep.refl w3.next w3).push (Nat.le_refl _) (.cells [.int .i64 nn] 3 w3.next 0 0)
    obtain ⟨v5, w5, h5, hA5, k5, f5, l5⟩ := append_own0R (B := (w3.push (.cells [.int .i64 nn] 3 w3.next 0 0)).next) (v := .slice none 0 0) (n := 0) (cells := []) Try.ty23 Try.ty3 rfl (by decide) (.inl ⟨rfl, rfl, rfl⟩) (f3.push _) (Nat.le_refl _) rfl (hcut _ kX).2.1 (by rw [List.length_take, hcl]; omega) (fun y hy => h1c y (List.mem_of_mem_take hy)) (by omega) (by omega)
    have hX5 := hX.keep k5
    obtain ⟨v6, w6, h6, hA6, k6, f6, l6⟩ := append_own0R (x := .slice (some ⟨w3.next, 0, none⟩) 1 1) (new := [.int .i64 nn]) Try.ty23 Try.ty3 rfl (by decide) hA5 f5 k5.next rfl (by simp [aNew, aFirst, aCells, hX5.cell (o := 0) rfl rfl]) rfl (icells_one nn) (by omega) (by omega)
    have hnp : (w3.push (.cells [.int .i64 nn] 3 w3.next 0 0)).next = w3.next + 1 := AW.next_push _ _
    have k36 : Keep w3.next w3 w6 := (kX.trans (k5.mono (by omega))).trans (k6.mono (by omega))
    obtain ⟨v7, w7, h7, hA7, k7, f7, l7⟩ := append_own0R (x := .slice q1 ((sortedL l).length - a) d1) Try.ty23 Try.ty3 rfl (by decide) hA6 f6 (by have := k5.next; have := k6.next; omega) rfl (hcut w6 k36).2.2.2 (by rw [List.length_drop, hcl]; omega) (fun y hy => h1c y (List.mem_of_mem_drop hy)) (by omega) (by omega)
    have u5 := (hcut _ kX).2.2.1
    have k37 : Keep w3.next w3 w7 := k36.trans (k7.mono (by omega))
    have hn3 := hk2.next
    have hn4 := hg3.1.next
    have hA8 : AOwn W.next w7 3 1 v7 (putIn (sortedL l) a nn).length ((putIn (sortedL l) a nn).flatMap icells) := by
      have e1 : 0 + a + 1 + ((sortedL l).length - a) = (putIn (sortedL l) a nn).length := by rw [putIn_len (by omega)]; omega
      have e2 : ([] ++ ((sortedL l).flatMap icells).take (a * 1)) ++ [.int .i64 nn] ++ ((sortedL l).flatMap icells).drop (a * 1) = (putIn (sortedL l) a nn).flatMap icells := by
        rw [Nat.mul_one, List.nil_append, flat_take, flat_drop, putIn, List.flatMap_append, List.flatMap_cons, List.append_assoc]
        rfl
      rw [← e1, ← e2]
      exact hA7.weak (by omega)
    rw [hput, ← hsn] at hA8
    obtain ⟨x5, y5, z5, rfl⟩ : ∃ x y z, v5 = .slice x y z := by rcases hA5 with ⟨rfl, _⟩ | ⟨_, _, rfl, _⟩ <;> exact ⟨_, _, _, rfl⟩
    obtain ⟨x6, y6, z6, rfl⟩ : ∃ x y z, v6 = .slice x y z := by rcases hA6 with ⟨rfl, _⟩ | ⟨_, _, rfl, _⟩ <;> exact ⟨_, _, _, rfl⟩
    obtain ⟨x7, y7, z7, rfl⟩ : ∃ x y z, v7 = .slice x y z := by rcases hA8 with ⟨rfl, _⟩ | ⟨_, _, rfl, _⟩ <;> exact ⟨_, _, _, rfl⟩
    unfold Try.s48_c9
    simp -dsimp -implicitDefEqProofs (maxSteps := 2000000) (disch := first | assumption | omega | (simp only [AW.next_push, AW.next_put]; omega) | ((repeat refine Fresh.push ?_ _); assumption) | (simp only [same_int, same_bool, same_ptr, same_slice, same_sliceP, same_nil, same_agg2, same_string]; done) | (simp [oneCell, AW.next_push]; done) | fail) only [go_sem, Nat.reduceEqDiff, reduceIte, Nat.reduceAdd, Int.toNat_natCast, Nat.add_zero, Owes_true, Try.results48, e1, e2, e5, e6, e7, e8, Nat.zero_add, u1, u5, h5, h6, h7, l5, l6, l7]
    refine ⟨_, by omega, i + 1, by omega, rfl, rfl, by (simp -dsimp -implicitDefEqProofs (maxSteps := 2000000) (disch := first | assumption | omega | (simp only [AW.next_push, AW.next_put]; omega) | ((repeat refine Fresh.push ?_ _); assumption) | (simp only [same_int, same_bool, same_ptr, same_slice, same_sliceP, same_nil, same_agg2, same_string]; done) | (simp [oneCell, AW.next_push]; done) | fail) only [go_sem, Nat.reduceEqDiff, reduceIte, Nat.reduceAdd, Int.toNat_natCast, Nat.add_zero, Owes_true, e1]; try rfl), by (simp -dsimp -implicitDefEqProofs (maxSteps := 2000000) (disch := first | assumption | omega | (simp only [AW.next_push, AW.next_put]; omega) | ((repeat refine Fresh.push ?_ _); assumption) | (simp only [same_int, same_bool, same_ptr, same_slice, same_sliceP, same_nil, same_agg2, same_string]; done) | (simp [oneCell, AW.next_push]; done) | fail) only [go_sem, Nat.reduceEqDiff, reduceIte, Nat.reduceAdd, Int.toNat_natCast, Nat.add_zero, Owes_true, e2]; try rfl), by (simp -dsimp -implicitDefEqProofs (maxSteps := 2000000) (disch := first | assumption | omega | (simp only [AW.next_push, AW.next_put]; omega) | ((repeat refine Fresh.push ?_ _); assumption) | (simp only [same_int, same_bool, same_ptr, same_slice, same_sliceP, same_nil, same_agg2, same_string]; done) | (simp [oneCell, AW.next_push]; done) | fail) only [go_sem, Nat.reduceEqDiff, reduceIte, Nat.reduceAdd, Int.toNat_natCast, Nat.add_zero, Owes_true, e6]; try rfl), ⟨.slice x7 y7 z7, by simp -dsimp -implicitDefEqProofs (maxSteps := 2000000) (disch := first | assumption | omega | (simp only [AW.next_push, AW.next_put]; omega) | ((repeat refine Fresh.push ?_ _); assumption) | (simp only [same_int, same_bool, same_ptr, same_slice, same_sliceP, same_nil, same_agg2, same_string]; done) | (simp [oneCell, AW.next_push]; done) | fail) only [go_sem, Nat.reduceEqDiff, reduceIte, Nat.reduceAdd, Int.toNat_natCast, Nat.add_zero, Owes_true], hA8, (hk2.trans (hg3.1.mono (by omega))).trans (k37.mono (by omega)), f7⟩⟩
  have hI3 : ∀ (j : Nat) (hj : j < (sortedL l).length), j < a + 1 → (sortedL l)[j] ≤ nn := fun j hj h => by
    by_cases q : j = a
    · subst q; exact hle
    · exact hI2 j hj (by omega)
  simp -dsimp -implicitDefEqProofs (maxSteps := 2000000) (disch := first | assumption | omega | (simp only [AW.next_push, AW.next_put]; omega) | ((repeat refine Fresh.push ?_ _); assumption) | (simp only [same_int, same_bool, same_ptr, same_slice, same_sliceP, same_nil, same_agg2, same_string]; done) | (simp [oneCell, AW.next_push]; done) | fail) only [go_sem, Nat.reduceEqDiff, reduceIte, Nat.reduceAdd, Int.toNat_natCast, Nat.add_zero, Owes_true, Try.results48, e1, e2, e5, e6, e7, e8, hla, indexV_eq, d0, hle]
  refine ⟨_, by omega, a + 1, by omega, rfl, rfl, by (simp -dsimp -implicitDefEqProofs (maxSteps := 2000000) (disch := first | assumption | omega | (simp only [AW.next_push, AW.next_put]; omega) | ((repeat refine Fresh.push ?_ _); assumption) | (simp only [same_int, same_bool, same_ptr, same_slice, same_sliceP, same_nil, same_agg2, same_string]; done) | (simp [oneCell, AW.next_push]; done) | fail) only [go_sem, Nat.reduceEqDiff, reduceIte, Nat.reduceAdd, Int.toNat_natCast, Nat.add_zero, Owes_true, e1]; try rfl), by (simp -dsimp -implicitDefEqProofs (maxSteps := 2000000) (disch := first | assumption | omega | (simp only [AW.next_push, AW.next_put]; omega) | ((repeat refine Fresh.push ?_ _); assumption) | (simp only [same_int, same_bool, same_ptr, same_slice, same_sliceP, same_nil, same_agg2, same_string]; done) | (simp [oneCell, AW.next_push]; done) | fail) only [go_sem, Nat.reduceEqDiff, reduceIte, Nat.reduceAdd, Int.toNat_natCast, Nat.add_zero, Owes_true, e2]; try rfl), by (simp -dsimp -implicitDefEqProofs (maxSteps := 2000000) (disch := first | assumption | omega | (simp only [AW.next_push, AW.next_put]; omega) | ((repeat refine Fresh.push ?_ _); assumption) | (simp only [same_int, same_bool, same_ptr, same_slice, same_sliceP, same_nil, same_agg2, same_string]; done) | (simp [oneCell, AW.next_push]; done) | fail) only [go_sem, Nat.reduceEqDiff, reduceIte, Nat.reduceAdd, Int.toNat_natCast, Nat.add_zero, Owes_true, e5]; try rfl), by (simp -dsimp -implicitDefEqProofs (maxSteps := 2000000) (disch := first | assumption | omega | (simp only [AW.next_push, AW.next_put]; omega) | ((repeat refine Fresh.push ?_ _); assumption) | (simp only [same_int, same_bool, same_ptr, same_slice, same_sliceP, same_nil, same_agg2, same_string]; done) | (simp [oneCell, AW.next_push]; done) | fail) only [go_sem, Nat.reduceEqDiff, reduceIte, Nat.reduceAdd, Int.toNat_natCast, Nat.add_zero, Owes_true, e6]; try rfl), by (simp -dsimp -implicitDefEqProofs (maxSteps := 2000000) (disch := first | assumption | omega | (simp only [AW.next_push, AW.next_put]; omega) | ((repeat refine Fresh.push ?_ _); assumption) | (simp only [same_int, same_bool, same_ptr, same_slice, same_sliceP, same_nil, same_agg2, same_string]; done) | (simp [oneCell, AW.next_push]; done) | fail) only [go_sem, Nat.reduceEqDiff, reduceIte, Nat.reduceAdd, Int.toNat_natCast, Nat.add_zero, Owes_true, e7]; try rfl), by (simp -dsimp -implicitDefEqProofs (maxSteps := 2000000) (disch := first | assumption | omega | (simp only [AW.next_push, AW.next_put]; omega) | ((repeat refine Fresh.push ?_ _); assumption) | (simp only [same_int, same_bool, same_ptr, same_slice, same_sliceP, same_nil, same_agg2, same_string]; done) | (simp [oneCell, AW.next_push]; done) | fail) only [go_sem, Nat.reduceEqDiff, reduceIte, Nat.reduceAdd, Int.toNat_natCast, Nat.add_zero, Owes_true, e8]; try rfl), rfl, hI3⟩
end Go.Proofs
