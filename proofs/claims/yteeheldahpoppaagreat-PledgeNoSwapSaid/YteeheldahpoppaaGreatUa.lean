/- Numbers that are chosen, readings that are true, and the law of readings at any two times on the machine. -/
import Derived.Test.YteeheldahpoppaaGreatRa
import Derived.Test.YteeheldahpoppaaGreatTc
import Derived.Test.YteeheldahpoppaaGreatTa
import Derived.Test.YteeheldahpoppaaGreatFa
set_option linter.unusedVariables false
set_option linter.unusedSimpArgs false
/- Numbers that are chosen: what is left on a ring, what is picked, what is read. -/
namespace Go.Proofs
open Go Go.RowKit Go.Sim
set_option maxRecDepth 100000
theorem ring_eq (n m : Int) (h : 0 < m) : (n.tmod m + m).tmod m = n % m := by
  have h2 : 0 ≤ n.tmod m + m := by have := Int.lt_tmod_of_pos n h; omega
  rw [Int.tmod_eq_emod_of_nonneg h2, Int.tmod_def, Int.add_emod_right, Int.sub_mul_emod_self_left]
theorem getD_at0 {l : List Int} {i : Nat} {d : Int} (h : i < l.length) : l.getD i d = l[i] := by
  simp only [List.getD_eq_getElem?_getD, List.getElem?_eq_getElem h, Option.getD_some]
def ringZ (n m : Int) : Int := if m ≤ 0 then 0 else n % m
theorem ringZ_lt {n m : Int} (h : 0 < m) : 0 ≤ ringZ n m ∧ ringZ n m < m := by
  rw [ringZ, if_neg (by omega)]
  exact ⟨Int.emod_nonneg _ (by omega), Int.emod_lt_of_pos _ h⟩
theorem ring_ok (n m : Int) (hm : m ≤ 4611686018427387904) (w : AW) : CallT Tryz.prog Tryz.T (.fn (.func 27) #[]) #[.int .i64 n, .int .i64 m] w (Ret (.int .i64 (ringZ n m)) fun w' => w = w') := by
  refine callT_code rfl Tryz.func27 rfl Tryz.s27_eq rfl ?_
  unfold Tryz.s27
  by_cases h : m ≤ 0
  · simp -dsimp -implicitDefEqProofs (maxSteps := 2000000) (disch := first | assumption | omega | (simp only [AW.next_push, AW.next_put]; omega) | ((repeat refine Fresh.push ?_ _); assumption) | (simp only [same_int, same_bool, same_ptr, same_slice, same_sliceP, same_nil, same_agg2, same_string]; done) | (simp [oneCell, AW.next_push]; done) | fail) only [go_sem, Nat.reduceEqDiff, reduceIte, Nat.reduceAdd, Int.toNat_natCast, Nat.add_zero, Owes_true, Tryz.results27, h]
    exact ⟨by rw [ringZ, if_pos h], rfl⟩
  have h0 : ¬ m = 0 := by omega
  have h1 := Int.lt_tmod_of_pos n (show 0 < m by omega)
  have h2 := Int.tmod_lt_of_pos n (show 0 < m by omega)
  simp -dsimp -implicitDefEqProofs (maxSteps := 2000000) (disch := first | assumption | omega | (simp only [AW.next_push, AW.next_put]; omega) | ((repeat refine Fresh.push ?_ _); assumption) | (simp only [same_int, same_bool, same_ptr, same_slice, same_sliceP, same_nil, same_agg2, same_string]; done) | (simp [oneCell, AW.next_push]; done) | fail) only [go_sem, Nat.reduceEqDiff, reduceIte, Nat.reduceAdd, Int.toNat_natCast, Nat.add_zero, Owes_true, Tryz.results27, h, h0]
  exact ⟨by rw [ringZ, if_neg h, ring_eq n m (by omega)], rfl⟩
def pickZ (xs : List Int) (i : Int) : Int := if xs.length = 0 then 0 else xs.getD (i % (xs.length : Int)).toNat 0
theorem pick_ok (xs : List Int) (i : Int) (u : Value) (w : AW) (hx : ArrOf w 1 icells u xs) : CallT Tryz.prog Tryz.T (.fn (.func 28) #[]) #[u, .int .i64 i] w (Ret (.int .i64 (pickZ xs i)) fun w' => w = w') := by
  obtain ⟨p, cap, rfl, hcap, hmax, hat⟩ := hx.open
  refine callT_code rfl Tryz.func28 rfl Tryz.s28_eq rfl ?_
  unfold Tryz.s28
  by_cases h : (xs.length : Int) = 0
  · simp -dsimp -implicitDefEqProofs (maxSteps := 2000000) (disch := first | assumption | omega | (simp only [AW.next_push, AW.next_put]; omega) | ((repeat refine Fresh.push ?_ _); assumption) | (simp only [same_int, same_bool, same_ptr, same_slice, same_sliceP, same_nil, same_agg2, same_string]; done) | (simp [oneCell, AW.next_push]; done) | fail) only [go_sem, Nat.reduceEqDiff, reduceIte, Nat.reduceAdd, Int.toNat_natCast, Nat.add_zero, Owes_true, Tryz.results28, h]
    exact ⟨by rw [pickZ, if_pos (by omega)], rfl⟩
  simp -dsimp -implicitDefEqProofs (maxSteps := 2000000) (disch := first | assumption | omega | (simp only [AW.next_push, AW.next_put]; omega) | ((repeat refine Fresh.push ?_ _); assumption) | (simp only [same_int, same_bool, same_ptr, same_slice, same_sliceP, same_nil, same_agg2, same_string]; done) | (simp [oneCell, AW.next_push]; done) | fail) only [go_sem, Nat.reduceEqDiff, reduceIte, Nat.reduceAdd, Int.toNat_natCast, Nat.add_zero, Owes_true, Tryz.results28, h]
  apply callV_of (e := rfl)
  · exact ring_ok i (xs.length : Int) (by omega) w
  rintro _ w1 ⟨rfl, rfl⟩
  have hr := ringZ_lt (n := i) (m := (xs.length : Int)) (by omega)
  have he : ringZ i (xs.length : Int) = i % (xs.length : Int) := by rw [ringZ, if_neg (by omega)]
  have hlt : (ringZ i (xs.length : Int)).toNat < xs.length := by omega
  obtain ⟨b, o, rfl, hb, hcell⟩ := hat _ hlt
  have hc0 := hcell w (.refl _ _) 0 _ rfl
  rw [Nat.add_zero] at hc0
  have hr1 := hr.1
  have hr2 := hr.2
  simp -dsimp -implicitDefEqProofs (maxSteps := 2000000) (disch := first | assumption | omega | (simp only [AW.next_push, AW.next_put]; omega) | ((repeat refine Fresh.push ?_ _); assumption) | (simp only [same_int, same_bool, same_ptr, same_slice, same_sliceP, same_nil, same_agg2, same_string]; done) | (simp [oneCell, AW.next_push]; done) | fail) only [go_sem, Nat.reduceEqDiff, reduceIte, Nat.reduceAdd, Int.toNat_natCast, Nat.add_zero, Owes_true, Tryz.results28, indexV_eq, hr1, hr2, hc0]
  exact ⟨by rw [pickZ, if_neg (by omega), ← he, getD_at0 hlt], rfl⟩
def lowOf (tol size : Int) : Int := max 0 (size - tol)
def highOf (tol size : Int) : Int := min 100000 (size + tol)
def readZ (tol size bit : Int) : Int := lowOf tol size + ringZ bit (highOf tol size - lowOf tol size + 1)
theorem read_ok (m : Int × Int) (size bit : Int) (hm : 0 ≤ m.1 ∧ m.1 ≤ 1000) (hsz : 0 ≤ size ∧ size ≤ 100000) (w : AW) (f : Fresh w) :
    CallT Tryz.prog Tryz.T (.fn (.func 26) #[]) #[.agg #[.int .i64 m.1, .int .i64 m.2], .int .i64 size, .int .i64 bit] w (Ret (.int .i64 (readZ m.1 size bit)) (Grown w)) := by
  have hlo : 0 ≤ lowOf m.1 size ∧ lowOf m.1 size ≤ 100000 := by unfold lowOf; omega
  have hhi : 0 ≤ highOf m.1 size ∧ highOf m.1 size ≤ 100000 := by unfold highOf; omega
  have hle : lowOf m.1 size ≤ highOf m.1 size := by unfold lowOf highOf; omega
  have hr := ringZ_lt (n := bit) (m := highOf m.1 size - lowOf m.1 size + 1) (by omega)
  have e1 : max 0 (size - m.1) = lowOf m.1 size := rfl
  have e2 : min 100000 (size + m.1) = highOf m.1 size := rfl
  have g1 := (Grown.refl f).push (.cells [.int .i64 m.1, .int .i64 m.2] 53 w.next 0 0)
  refine callT_code rfl Tryz.func26 rfl Tryz.s26_eq rfl ?_
  unfold Tryz.s26
  simp -dsimp -implicitDefEqProofs (maxSteps := 2000000) (disch := first | assumption | omega | (simp only [AW.next_push, AW.next_put]; omega) | ((repeat refine Fresh.push ?_ _); assumption) | (simp only [same_int, same_bool, same_ptr, same_slice, same_sliceP, same_nil, same_agg2, same_string]; done) | (simp [oneCell, AW.next_push]; done) | fail) only [go_sem, Nat.reduceEqDiff, reduceIte, Nat.reduceAdd, Int.toNat_natCast, Nat.add_zero, Owes_true, Tryz.results26, Nat.zero_add, e1, e2]
  apply callV_of (e := rfl)
  · exact ring_ok bit _ (by omega) _
  rintro _ w1 ⟨rfl, rfl⟩
  simp -dsimp -implicitDefEqProofs (maxSteps := 2000000) (disch := first | assumption | omega | (simp only [AW.next_push, AW.next_put]; omega) | ((repeat refine Fresh.push ?_ _); assumption) | (simp only [same_int, same_bool, same_ptr, same_slice, same_sliceP, same_nil, same_agg2, same_string]; done) | (simp [oneCell, AW.next_push]; done) | fail) only [go_sem, Nat.reduceEqDiff, reduceIte, Nat.reduceAdd, Int.toNat_natCast, Nat.add_zero, Owes_true, Tryz.results26]
  exact ⟨rfl, g1⟩
theorem readZ_true {tol size bit : Int} (ht : 0 ≤ tol) (hs : 0 ≤ size ∧ size ≤ 100000) : 0 ≤ readZ tol size bit ∧ readZ tol size bit ≤ 100000 ∧ size - tol ≤ readZ tol size bit ∧ readZ tol size bit ≤ size + tol := by
  have hle : lowOf tol size ≤ highOf tol size := by unfold lowOf highOf; omega
  have hr := ringZ_lt (n := bit) (m := highOf tol size - lowOf tol size + 1) (by omega)
  have h1 : readZ tol size bit = lowOf tol size + ringZ bit (highOf tol size - lowOf tol size + 1) := rfl
  have h2 : lowOf tol size = max 0 (size - tol) := rfl
  have h3 : highOf tol size = min 100000 (size + tol) := rfl
  omega
end Go.Proofs

/- Readings that are true: what is said of them. -/
namespace Go.Proofs
open Go Go.RowKit Go.Sim
set_option maxRecDepth 100000
def sizeZ (sizes : List Int) (k : Int) : Int := ringZ (pickZ sizes k) 100001
def rdZ (ms : List (Int × Int)) (sizes bits : List Int) (i k : Nat) : Int :=
  if ringZ (pickZ bits (2 * (i : Int) + (k : Int))) 5 = 0 then -1 else readZ (ms.getD k (0, 0)).1 (sizeZ sizes (k : Int)) (pickZ bits ((i : Int) + 4 * (k : Int)))
def rowTo (ms : List (Int × Int)) (sizes bits : List Int) (i k : Nat) : List Int := (List.range k).map (rdZ ms sizes bits i)
def readsTo (ms : List (Int × Int)) (sizes bits : List Int) (n : Nat) : List (List Int) := (List.range n).map fun i => rowTo ms sizes bits i ms.length
theorem rowTo_succ (ms : List (Int × Int)) (sizes bits : List Int) (i k : Nat) : rowTo ms sizes bits i (k + 1) = rowTo ms sizes bits i k ++ [rdZ ms sizes bits i k] := by simp [rowTo, List.range_succ]
theorem rowTo_len (ms : List (Int × Int)) (sizes bits : List Int) (i k : Nat) : (rowTo ms sizes bits i k).length = k := by simp [rowTo]
theorem readsTo_succ (ms : List (Int × Int)) (sizes bits : List Int) (n : Nat) : readsTo ms sizes bits (n + 1) = readsTo ms sizes bits n ++ [rowTo ms sizes bits n ms.length] := by simp [readsTo, List.range_succ]
theorem readsTo_len (ms : List (Int × Int)) (sizes bits : List Int) (n : Nat) : (readsTo ms sizes bits n).length = n := by simp [readsTo]
theorem sizeZ_in (sizes : List Int) (k : Int) : 0 ≤ sizeZ sizes k ∧ sizeZ sizes k ≤ 100000 := by
  have := ringZ_lt (n := pickZ sizes k) (m := 100001) (by omega)
  simp only [sizeZ]; omega
theorem okMs_tol {ms : List (Int × Int)} (h : okMs ms = true) : 1 ≤ ms.length ∧ ms.length ≤ 8 ∧ ∀ m ∈ ms, 0 ≤ m.1 ∧ m.1 ≤ 1000 := by
  simp only [okMs, Bool.and_eq_true, decide_eq_true_eq, List.all_eq_true] at h
  refine ⟨h.1.1, h.1.2, fun m hm => ?_⟩
  have := h.2 m hm
  simp only [okM, Bool.and_eq_true] at this
  exact (inR_iff _ _ _).1 this.1
theorem rdZ_true {ms : List (Int × Int)} (hM : okMs ms = true) (sizes bits : List Int) (i : Nat) {k : Nat} (hk : k < ms.length) :
    rdZ ms sizes bits i k = -1 ∨ (0 ≤ rdZ ms sizes bits i k ∧ rdZ ms sizes bits i k ≤ 100000 ∧ sizeZ sizes (k : Int) - (ms.getD k (0, 0)).1 ≤ rdZ ms sizes bits i k ∧ rdZ ms sizes bits i k ≤ sizeZ sizes (k : Int) + (ms.getD k (0, 0)).1) := by
  rw [rdZ]
  split
  · exact .inl rfl
  · have ht := (okMs_tol hM).2.2 ms[k] (List.getElem_mem hk)
    rw [getD_at hk]
    exact .inr (readZ_true ht.1 (sizeZ_in sizes k))
theorem rowTo_ok {ms : List (Int × Int)} (hM : okMs ms = true) (sizes bits : List Int) (i : Nat) : okRs ms.length (rowTo ms sizes bits i ms.length) = true := by
  simp only [okRs, rowTo_len, decide_true, Bool.true_and, List.all_eq_true]
  intro r hr
  obtain ⟨k, hk, rfl⟩ := List.mem_map.mp hr
  rw [inR_iff]
  rcases rdZ_true hM sizes bits i (by simpa using hk) with h | h <;> omega
theorem readsTo_ok {ms : List (Int × Int)} (hM : okMs ms = true) (sizes bits : List Int) (n : Nat) : (readsTo ms sizes bits n).all (okRs ms.length) = true := by
  rw [List.all_eq_true]
  intro rs hr
  obtain ⟨i, _, rfl⟩ := List.mem_map.mp hr
  exact rowTo_ok hM sizes bits i
theorem narrow1_has {tol size : Int} : ∀ (col : List Int) (s : Int × Int), (∀ r ∈ col, r = -1 ∨ (size - tol ≤ r ∧ r ≤ size + tol)) → s.1 ≤ size ∧ size ≤ s.2 → (col.foldl (upd tol) s).1 ≤ size ∧ size ≤ (col.foldl (upd tol) s).2
  | [], s, _, h => h
  | r :: col, s, hc, h => by
    rw [List.foldl_cons]
    refine narrow1_has col _ (fun q hq => hc q (List.mem_cons_of_mem _ hq)) ?_
    have := hc r List.mem_cons_self
    rw [upd]
    split
    · exact h
    · simp only; omega
theorem sp_has {ms : List (Int × Int)} (hM : okMs ms = true) (sizes bits : List Int) (n : Nat) {k : Nat} (hk : k < ms.length) :
    (sp ms (readsTo ms sizes bits n) k).1 ≤ sizeZ sizes (k : Int) ∧ sizeZ sizes (k : Int) ≤ (sp ms (readsTo ms sizes bits n) k).2 := by
  rw [sp, narrow1]
  refine narrow1_has _ _ ?_ (sizeZ_in sizes k)
  intro r hr
  obtain ⟨rs, hrs, rfl⟩ := List.mem_map.mp hr
  obtain ⟨i, _, rfl⟩ := List.mem_map.mp hrs
  have : (rowTo ms sizes bits i ms.length).getD k 0 = rdZ ms sizes bits i k := by
    rw [getD_at (by rw [rowTo_len]; exact hk)]; simp [rowTo]
  simp only [this]
  rcases rdZ_true hM sizes bits i hk with h | h
  · exact .inl h
  · exact .inr h.2.2
theorem reads_narrowE {ms : List (Int × Int)} (hM : okMs ms = true) (sizes bits : List Int) : narrowE ms (readsTo ms sizes bits 5) = 0 := by
  have h1 : ¬ 16 < (readsTo ms sizes bits 5).length := by rw [readsTo_len]; omega
  have h2 : (spansTo ms (readsTo ms sizes bits 5) ms.length).any bad = false := by
    rw [List.any_eq_false]
    intro s hs
    obtain ⟨k, hk, rfl⟩ := List.mem_map.mp hs
    have := sp_has hM sizes bits 5 (k := k) (by simpa using hk)
    simp only [bad, decide_eq_true_eq]; omega
  simp only [narrowE, hM, if_true, h1, if_false, readsTo_ok hM, h2]
  rfl
theorem reads_agree {ms : List (Int × Int)} (hM : okMs ms = true) (sizes bits : List Int) (i j : Nat) : checkE ms [rowTo ms sizes bits i ms.length, rowTo ms sizes bits j ms.length] = 0 ∧ agreeB ms (rowTo ms sizes bits i ms.length) (rowTo ms sizes bits j ms.length) = true := by
  have hE : checkE ms [rowTo ms sizes bits i ms.length, rowTo ms sizes bits j ms.length] = 0 := by simp [checkE, hM, rowTo_ok hM]
  refine ⟨hE, ?_⟩
  rw [agreeB, if_pos hE, agreeTo, List.all_eq_true]
  intro k hk
  have hk : k < ms.length := by simpa using hk
  rw [dis_at hk (by rw [rowTo_len]; exact hk) (by rw [rowTo_len]; exact hk)]
  have e : ∀ i, (rowTo ms sizes bits i ms.length)[k]'(by rw [rowTo_len]; exact hk) = rdZ ms sizes bits i k := fun i => by simp [rowTo]
  rw [e, e]
  have h1 := rdZ_true hM sizes bits i hk
  have h2 := rdZ_true hM sizes bits j hk
  rw [getD_at hk] at h1 h2
  simp only [dis1, Bool.not_eq_true', Bool.and_eq_false_iff, decide_eq_false_iff_not]
  omega
end Go.Proofs

/- Readings at any two times agree: the law on the machine. -/
namespace Go.Proofs
open Go Go.RowKit Go.Sim
set_option maxRecDepth 100000
theorem ArrOf.app {α : Type} {w w' : AW} {z : Nat} {enc : α → List Value} {v : Value} {xs : List α} (h : ArrOf w z enc v xs) (k : Apnd w w') : ArrOf w' z enc v xs := Arr.app h k
theorem aown_slice {B : Nat} {w : AW} {e : TypeId} {size n : Nat} {v : Value} {cells : List Value} (h : AOwn B w e size v n cells) : ∃ p n c, v = .slice p n c := by
  rcases h with ⟨rfl, _⟩ | ⟨_, _, rfl, _⟩
  · exact ⟨_, _, _, rfl⟩
  · exact ⟨_, _, _, rfl⟩
/-- A slice of something, opened at once. -/
theorem ArrOf.open1 {α : Type} {w : AW} {z : Nat} {enc : α → List Value} {v : Value} {xs : List α} (h : ArrOf w z enc v xs) (h0 : 0 < xs.length) :
    ∃ b o cap, v = .slice (some ⟨b, o, none⟩) xs.length cap ∧ xs.length ≤ cap ∧ (cap : Int) ≤ 140737488355328 ∧ b < w.next ∧
      ∀ i (hi : i < xs.length), ∀ w', Keep w.next w w' → ∀ (j : Nat) x, (enc xs[i])[j]? = some x → w'.cell? ⟨b, o + i * z + j, none⟩ = some x := by
  obtain ⟨p, n, cap, rfl, hn, hc, hm, hat⟩ := h
  obtain rfl : xs.length = n := by simpa using hn
  obtain ⟨b, o, rfl, hb, hcell⟩ := hat h0
  exact ⟨b, o, cap, rfl, hc, hm, hb, fun i hi w' hk j x hx => by rw [hk.cell hb]; exact hcell i j (enc xs[i]) x (by simp [hi]) hx⟩
theorem vcells_len (v : Value) : (vcells v).length = 1 := rfl
/-- Rows of numbers that are of one's own. -/
def ORows (B : Nat) (w : AW) (s : Value) (rss : List (List Int)) : Prop :=
  ∃ vs : List Value, vs.length = rss.length ∧ AOwn B w 24 1 s rss.length (vs.flatMap vcells) ∧ ∀ (j : Nat) v rs, vs[j]? = some v → rss[j]? = some rs → ArrOf w 1 icells v rs
theorem ORows.nil (B : Nat) (w : AW) : ORows B w (.slice none 0 0) [] := ⟨[], rfl, .inl ⟨rfl, rfl, rfl⟩, fun j v rs h => by simp at h⟩
theorem ORows.keep {B : Nat} {w w' : AW} {s : Value} {rss : List (List Int)} (h : ORows B w s rss) (k : Grown w w') : ORows B w' s rss := by
  obtain ⟨vs, a, b, c⟩ := h
  exact ⟨vs, a, b.keep k.1 (Nat.le_refl _), fun j v rs h1 h2 => (c j v rs h1 h2).grown k⟩
theorem ORows.rows {B : Nat} {w : AW} {s : Value} {rss : List (List Int)} (h : ORows B w s rss) (hl : rss.length ≤ 1048576) : Rows w s rss := by
  obtain ⟨vs, a, b, c⟩ := h
  refine ⟨vs, a, ?_, c⟩
  rw [← a] at b
  exact AOwn.arr b vcells_len (by omega)

set_option maxHeartbeats 4000000 in
theorem true_law (w : AW) (xs : List Value) (f : Fresh w) (h : HdAll Tryz.prog w [22, 24, 24] xs) : CallT Tryz.prog Tryz.T (.fn (.func 6) #[]) xs.toArray w fun v _ => v = .bool true := by
  cases h with
  | cons n1 h1 h =>
  cases h with
  | cons n2 h2 h =>
  cases h with
  | cons n3 h3 h =>
  cases h
  obtain ⟨ms, hs⟩ := given_measures h1
  obtain ⟨sizes, hz⟩ := given_intsV h2
  obtain ⟨bits, hb⟩ := given_intsV h3
  clear h1 h2 h3
  rename_i v u y
  show CallT Tryz.prog Tryz.T (.fn (.func 6) #[]) #[v, u, y] w _
  obtain ⟨p, cap, rfl, hcap, hmax, hat⟩ := hs.open
  obtain ⟨pz, capz, rfl, hcapz, hmaxz, hatz⟩ := hz.open
  obtain ⟨py, capy, rfl, hcapy, hmaxy, haty⟩ := hb.open
  refine callT_code rfl Tryz.func6 rfl Tryz.s6_eq rfl ?_
  unfold Tryz.s6
  simp -dsimp -implicitDefEqProofs (maxSteps := 2000000) (disch := first | assumption | omega | (simp only [AW.next_push, AW.next_put]; omega) | ((repeat refine Fresh.push ?_ _); assumption) | (simp only [same_int, same_bool, same_ptr, same_slice, same_sliceP, same_nil, same_agg2, same_string]; done) | (simp [oneCell, AW.next_push]; done) | fail) only [go_sem, Nat.reduceEqDiff, reduceIte, Nat.reduceAdd, Int.toNat_natCast, Nat.add_zero, Owes_true, Tryz.results6]
  apply callV_of (e := rfl)
  · exact checkMeasures_ok ms _ w f hs
  rintro _ w0 ⟨rfl, g0⟩
  by_cases hM : okMs ms = true
  case neg =>
    have e : (if okMs ms = true then (0 : Int) else 12) = 12 := by rw [if_neg hM]
    have d : ¬ (12 : Int) = 0 := by omega
    simp -dsimp -implicitDefEqProofs (maxSteps := 2000000) (disch := first | assumption | omega | (simp only [AW.next_push, AW.next_put]; omega) | ((repeat refine Fresh.push ?_ _); assumption) | (simp only [same_int, same_bool, same_ptr, same_slice, same_sliceP, same_nil, same_agg2, same_string]; done) | (simp [oneCell, AW.next_push]; done) | fail) only [go_sem, Nat.reduceEqDiff, reduceIte, Nat.reduceAdd, Int.toNat_natCast, Nat.add_zero, Owes_true, Tryz.results6, e, d]
    apply callV_of (e := rfl)
    · exact checkMeasures_ok ms _ w0 g0.2 (hs.grown g0)
    rintro _ w1 ⟨rfl, g1⟩
    simp -dsimp -implicitDefEqProofs (maxSteps := 2000000) (disch := first | assumption | omega | (simp only [AW.next_push, AW.next_put]; omega) | ((repeat refine Fresh.push ?_ _); assumption) | (simp only [same_int, same_bool, same_ptr, same_slice, same_sliceP, same_nil, same_agg2, same_string]; done) | (simp [oneCell, AW.next_push]; done) | fail) only [go_sem, Nat.reduceEqDiff, reduceIte, Nat.reduceAdd, Int.toNat_natCast, Nat.add_zero, Owes_true, Tryz.results6, e]
    apply callV_of (e := rfl)
    · exact callT_told (Q := fun v w' => v = .bool true ∧ w1 = w') (v := .bool true) (w' := w1) rfl ⟨rfl, rfl⟩
    rintro _ w8 ⟨rfl, rfl⟩
    simp -dsimp -implicitDefEqProofs (maxSteps := 2000000) (disch := first | assumption | omega | (simp only [AW.next_push, AW.next_put]; omega) | ((repeat refine Fresh.push ?_ _); assumption) | (simp only [same_int, same_bool, same_ptr, same_slice, same_sliceP, same_nil, same_agg2, same_string]; done) | (simp [oneCell, AW.next_push]; done) | fail) only [go_sem, Nat.reduceEqDiff, reduceIte, Nat.reduceAdd, Int.toNat_natCast, Nat.add_zero, Owes_true, Tryz.results6]
  have e : (if okMs ms = true then (0 : Int) else 12) = 0 := by rw [if_pos hM]
  obtain ⟨hm1, hm8, htol⟩ := okMs_tol hM
  have h8 : ¬ 8 < (ms.length : Int) := by omega
  simp -dsimp -implicitDefEqProofs (maxSteps := 2000000) (disch := first | assumption | omega | (simp only [AW.next_push, AW.next_put]; omega) | ((repeat refine Fresh.push ?_ _); assumption) | (simp only [same_int, same_bool, same_ptr, same_slice, same_sliceP, same_nil, same_agg2, same_string]; done) | (simp [oneCell, AW.next_push]; done) | fail) only [go_sem, Nat.reduceEqDiff, reduceIte, Nat.reduceAdd, Int.toNat_natCast, Nat.add_zero, Owes_true, Tryz.results6, e, h8]
  refine loopR (fun k t ds w1 => ∃ i : Nat, i ≤ 5 ∧ k = 5 - i ∧ ds = [] ∧ ev t (.tmp 0) = .slice p ms.length cap ∧ ev t (.tmp 1) = .slice pz sizes.length capz ∧ ev t (.tmp 2) = .slice py bits.length capy ∧ ev t (.tmp 8) = .int .i64 (i : Int) ∧ (∃ s, ev t (.tmp 7) = s ∧ ORows w.next w1 s (readsTo ms sizes bits i)) ∧ Grown w w1) (5) ?_ ?_
  · refine ⟨0, by omega, by omega, rfl, ?_, ?_, ?_, ?_, ⟨.slice none 0 0, by simp -dsimp -implicitDefEqProofs (maxSteps := 2000000) (disch := first | assumption | omega | (simp only [AW.next_push, AW.next_put]; omega) | ((repeat refine Fresh.push ?_ _); assumption) | (simp only [same_int, same_bool, same_ptr, same_slice, same_sliceP, same_nil, same_agg2, same_string]; done) | (simp [oneCell, AW.next_push]; done) | fail) only [go_sem, Nat.reduceEqDiff, reduceIte, Nat.reduceAdd, Int.toNat_natCast, Nat.add_zero, Owes_true], ORows.nil _ _⟩, g0⟩ <;> simp -dsimp -implicitDefEqProofs (maxSteps := 2000000) (disch := first | assumption | omega | (simp only [AW.next_push, AW.next_put]; omega) | ((repeat refine Fresh.push ?_ _); assumption) | (simp only [same_int, same_bool, same_ptr, same_slice, same_sliceP, same_nil, same_agg2, same_string]; done) | (simp [oneCell, AW.next_push]; done) | fail) only [go_sem, Nat.reduceEqDiff, reduceIte, Nat.reduceAdd, Int.toNat_natCast, Nat.add_zero, Owes_true] <;> rfl
  rintro k t ds w1 ⟨i, hii, rfl, rfl, e0, e1, e2, e8, hR, hg⟩
  obtain ⟨s, e7, hR⟩ := hR
  obtain ⟨hk, hf⟩ := id hg
  by_cases hlt : (i : Int) < 5
  · simp -dsimp -implicitDefEqProofs (maxSteps := 2000000) (disch := first | assumption | omega | (simp only [AW.next_push, AW.next_put]; omega) | ((repeat refine Fresh.push ?_ _); assumption) | (simp only [same_int, same_bool, same_ptr, same_slice, same_sliceP, same_nil, same_agg2, same_string]; done) | (simp [oneCell, AW.next_push]; done) | fail) only [go_sem, Nat.reduceEqDiff, reduceIte, Nat.reduceAdd, Int.toNat_natCast, Nat.add_zero, Owes_true, Tryz.results6, e0, e1, e2, e7, e8, hlt]
    refine loopR (fun k t ds w2 => ∃ j : Nat, j ≤ ms.length ∧ k = ms.length - j ∧ ds = [] ∧ ev t (.tmp 0) = .slice p ms.length cap ∧ ev t (.tmp 1) = .slice pz sizes.length capz ∧ ev t (.tmp 2) = .slice py bits.length capy ∧ ev t (.tmp 7) = s ∧ ev t (.tmp 8) = .int .i64 (i : Int) ∧ ev t (.tmp 10) = .int .i64 (j : Int) ∧ (∃ l, ev t (.tmp 9) = l ∧ AOwn w1.next w2 3 1 l j ((rowTo ms sizes bits i j).flatMap icells)) ∧ Keep w1.next w1 w2 ∧ Fresh w2) (ms.length) ?_ ?_
    · refine ⟨0, by omega, by omega, rfl, ?_, ?_, ?_, ?_, ?_, ?_, ⟨.slice none 0 0, by simp -dsimp -implicitDefEqProofs (maxSteps := 2000000) (disch := first | assumption | omega | (simp only [AW.next_push, AW.next_put]; omega) | ((repeat refine Fresh.push ?_ _); assumption) | (simp only [same_int, same_bool, same_ptr, same_slice, same_sliceP, same_nil, same_agg2, same_string]; done) | (simp [oneCell, AW.next_push]; done) | fail) only [go_sem, Nat.reduceEqDiff, reduceIte, Nat.reduceAdd, Int.toNat_natCast, Nat.add_zero, Owes_true], .inl ⟨rfl, rfl, rfl⟩⟩, .refl _ _, hf⟩ <;> simp -dsimp -implicitDefEqProofs (maxSteps := 2000000) (disch := first | assumption | omega | (simp only [AW.next_push, AW.next_put]; omega) | ((repeat refine Fresh.push ?_ _); assumption) | (simp only [same_int, same_bool, same_ptr, same_slice, same_sliceP, same_nil, same_agg2, same_string]; done) | (simp [oneCell, AW.next_push]; done) | fail) only [go_sem, Nat.reduceEqDiff, reduceIte, Nat.reduceAdd, Int.toNat_natCast, Nat.add_zero, Owes_true, e0, e1, e2, e7, e8] <;> rfl
    rintro k t ds w2 ⟨j, hij, rfl, rfl, e0, e1, e2, e7, e8, e10, hA, hk2, hf2⟩
    obtain ⟨l, e9, hA⟩ := hA
    have g2 : Grown w w2 := ⟨hk.trans (hk2.mono hk.next), hf2⟩
    by_cases hkt : (j : Int) < (ms.length : Int)
    case neg =>
      obtain rfl : j = ms.length := by omega
      have hrow : ArrOf w2 1 icells l (rowTo ms sizes bits i ms.length) := AOwn.arr (by rw [rowTo_len]; exact hA) icells_len (by rw [rowTo_len]; omega)
      have hl1 := hA.one
      obtain ⟨pl, nl, cl, rfl⟩ := aown_slice hA
      obtain ⟨vs, hvl, hvA, hvr⟩ := hR
      rw [readsTo_len] at hvl
      rw [readsTo_len] at hvA
      have hvA2 := hvA.keep hk2 (Nat.le_refl _)
      obtain ⟨s', w3, happ, hA3, hk3, hf3, hn3, hap⟩ := append_one (e' := 24) Tryz.ty23 Tryz.ty24 rfl (by omega) (by omega) hvA2 hf2 (by have := hk.next; have := hk2.next; omega) (vcells_len (.slice pl nl cl)) (by intro q hq; simp [vcells] at hq; subst hq; exact hl1) (by omega)
      simp only [vcells] at happ
      simp -dsimp -implicitDefEqProofs (maxSteps := 2000000) (disch := first | assumption | omega | (simp only [AW.next_push, AW.next_put]; omega) | ((repeat refine Fresh.push ?_ _); assumption) | (simp only [same_int, same_bool, same_ptr, same_slice, same_sliceP, same_nil, same_agg2, same_string]; done) | (simp [oneCell, AW.next_push]; done) | fail) only [go_sem, Nat.reduceEqDiff, reduceIte, Nat.reduceAdd, Int.toNat_natCast, Nat.add_zero, Owes_true, Tryz.results6, e0, e1, e2, e7, e8, e9, e10, hkt, hl1, happ]
      refine ⟨_, by omega, i + 1, by omega, rfl, rfl, by (simp -dsimp -implicitDefEqProofs (maxSteps := 2000000) (disch := first | assumption | omega | (simp only [AW.next_push, AW.next_put]; omega) | ((repeat refine Fresh.push ?_ _); assumption) | (simp only [same_int, same_bool, same_ptr, same_slice, same_sliceP, same_nil, same_agg2, same_string]; done) | (simp [oneCell, AW.next_push]; done) | fail) only [go_sem, Nat.reduceEqDiff, reduceIte, Nat.reduceAdd, Int.toNat_natCast, Nat.add_zero, Owes_true, e0]; try rfl), by (simp -dsimp -implicitDefEqProofs (maxSteps := 2000000) (disch := first | assumption | omega | (simp only [AW.next_push, AW.next_put]; omega) | ((repeat refine Fresh.push ?_ _); assumption) | (simp only [same_int, same_bool, same_ptr, same_slice, same_sliceP, same_nil, same_agg2, same_string]; done) | (simp [oneCell, AW.next_push]; done) | fail) only [go_sem, Nat.reduceEqDiff, reduceIte, Nat.reduceAdd, Int.toNat_natCast, Nat.add_zero, Owes_true, e1]; try rfl), by (simp -dsimp -implicitDefEqProofs (maxSteps := 2000000) (disch := first | assumption | omega | (simp only [AW.next_push, AW.next_put]; omega) | ((repeat refine Fresh.push ?_ _); assumption) | (simp only [same_int, same_bool, same_ptr, same_slice, same_sliceP, same_nil, same_agg2, same_string]; done) | (simp [oneCell, AW.next_push]; done) | fail) only [go_sem, Nat.reduceEqDiff, reduceIte, Nat.reduceAdd, Int.toNat_natCast, Nat.add_zero, Owes_true, e2]; try rfl), by (simp -dsimp -implicitDefEqProofs (maxSteps := 2000000) (disch := first | assumption | omega | (simp only [AW.next_push, AW.next_put]; omega) | ((repeat refine Fresh.push ?_ _); assumption) | (simp only [same_int, same_bool, same_ptr, same_slice, same_sliceP, same_nil, same_agg2, same_string]; done) | (simp [oneCell, AW.next_push]; done) | fail) only [go_sem, Nat.reduceEqDiff, reduceIte, Nat.reduceAdd, Int.toNat_natCast, Nat.add_zero, Owes_true, e8]; try rfl), ⟨s', by simp -dsimp -implicitDefEqProofs (maxSteps := 2000000) (disch := first | assumption | omega | (simp only [AW.next_push, AW.next_put]; omega) | ((repeat refine Fresh.push ?_ _); assumption) | (simp only [same_int, same_bool, same_ptr, same_slice, same_sliceP, same_nil, same_agg2, same_string]; done) | (simp [oneCell, AW.next_push]; done) | fail) only [go_sem, Nat.reduceEqDiff, reduceIte, Nat.reduceAdd, Int.toNat_natCast, Nat.add_zero, Owes_true], vs ++ [.slice pl nl cl], ?_, ?_, ?_⟩, ⟨g2.1.trans hk3, hf3⟩⟩
      · rw [readsTo_succ, List.length_append, List.length_append, readsTo_len, hvl]; rfl
      · rw [readsTo_len, List.flatMap_append]
        have : [Value.slice pl nl cl].flatMap vcells = [.slice pl nl cl] := rfl
        rw [this]; exact hA3
      · intro n v' rs hv hrs
        rw [readsTo_succ] at hrs
        by_cases hj : n < i
        · rw [List.getElem?_append_left (by omega)] at hv
          rw [List.getElem?_append_left (by rw [readsTo_len]; omega)] at hrs
          exact ((hvr n v' rs hv hrs).grown ⟨hk2, hf2⟩).app hap
        · rw [List.getElem?_append_right (by omega)] at hv
          rw [List.getElem?_append_right (by rw [readsTo_len]; omega), readsTo_len] at hrs
          rw [hvl] at hv
          have hj0 : n - i = 0 := by
            rcases Nat.eq_zero_or_pos (n - i) with q | q
            · exact q
            · rw [List.getElem?_eq_none (by simp; omega)] at hv; cases hv
          rw [hj0] at hv hrs
          simp only [List.getElem?_cons_zero, Option.some.injEq] at hv hrs
          subst hv hrs
          exact hrow.app hap
    have hkt' : j < ms.length := by omega
    have hi5 : i < 5 := by omega
    have hle : WLe w2 w2 := .refl _
    obtain ⟨b1, o1, rfl, hb1, hcell⟩ := hat j hkt'
    have hc0 := hcell w2 g2.1 0 _ rfl
    have hc1 := hcell w2 g2.1 1 _ rfl
    rw [Nat.add_zero] at hc0
    have hsz := sizeZ_in sizes (j : Int)
    have htj := htol ms[j] (List.getElem_mem hkt')
    simp -dsimp -implicitDefEqProofs (maxSteps := 2000000) (disch := first | assumption | omega | (simp only [AW.next_push, AW.next_put]; omega) | ((repeat refine Fresh.push ?_ _); assumption) | (simp only [same_int, same_bool, same_ptr, same_slice, same_sliceP, same_nil, same_agg2, same_string]; done) | (simp [oneCell, AW.next_push]; done) | fail) only [go_sem, Nat.reduceEqDiff, reduceIte, Nat.reduceAdd, Int.toNat_natCast, Nat.add_zero, Owes_true, Tryz.results6, e0, e1, e2, e7, e8, e10, hkt, indexV_eq, hc0, hc1]
    apply callV_of (e := rfl)
    · exact pick_ok sizes (j : Int) _ w2 (hz.grown g2)
    rintro _ _ ⟨rfl, rfl⟩
    simp -dsimp -implicitDefEqProofs (maxSteps := 2000000) (disch := first | assumption | omega | (simp only [AW.next_push, AW.next_put]; omega) | ((repeat refine Fresh.push ?_ _); assumption) | (simp only [same_int, same_bool, same_ptr, same_slice, same_sliceP, same_nil, same_agg2, same_string]; done) | (simp [oneCell, AW.next_push]; done) | fail) only [go_sem, Nat.reduceEqDiff, reduceIte, Nat.reduceAdd, Int.toNat_natCast, Nat.add_zero, Owes_true, Tryz.results6]
    apply callV_of (e := rfl)
    · exact ring_ok _ 100001 (by omega) w2
    rintro _ _ ⟨rfl, rfl⟩
    simp -dsimp -implicitDefEqProofs (maxSteps := 2000000) (disch := first | assumption | omega | (simp only [AW.next_push, AW.next_put]; omega) | ((repeat refine Fresh.push ?_ _); assumption) | (simp only [same_int, same_bool, same_ptr, same_slice, same_sliceP, same_nil, same_agg2, same_string]; done) | (simp [oneCell, AW.next_push]; done) | fail) only [go_sem, Nat.reduceEqDiff, reduceIte, Nat.reduceAdd, Int.toNat_natCast, Nat.add_zero, Owes_true, Tryz.results6]
    apply callV_of (e := rfl)
    · exact pick_ok bits ((i : Int) + 4 * (j : Int)) _ w2 (hb.grown g2)
    rintro _ _ ⟨rfl, rfl⟩
    simp -dsimp -implicitDefEqProofs (maxSteps := 2000000) (disch := first | assumption | omega | (simp only [AW.next_push, AW.next_put]; omega) | ((repeat refine Fresh.push ?_ _); assumption) | (simp only [same_int, same_bool, same_ptr, same_slice, same_sliceP, same_nil, same_agg2, same_string]; done) | (simp [oneCell, AW.next_push]; done) | fail) only [go_sem, Nat.reduceEqDiff, reduceIte, Nat.reduceAdd, Int.toNat_natCast, Nat.add_zero, Owes_true, Tryz.results6]
    apply callV_of (e := rfl)
    · exact read_ok ms[j] (sizeZ sizes (j : Int)) (pickZ bits ((i : Int) + 4 * (j : Int))) htj hsz w2 hf2
    rintro _ w3 ⟨rfl, hg3⟩
    have hle3 := hg3.1.wle hf2
    have g3 := g2.trans hg3
    have hA3 := hA.keep hg3.1 (Nat.le_refl _)
    simp -dsimp -implicitDefEqProofs (maxSteps := 2000000) (disch := first | assumption | omega | (simp only [AW.next_push, AW.next_put]; omega) | ((repeat refine Fresh.push ?_ _); assumption) | (simp only [same_int, same_bool, same_ptr, same_slice, same_sliceP, same_nil, same_agg2, same_string]; done) | (simp [oneCell, AW.next_push]; done) | fail) only [go_sem, Nat.reduceEqDiff, reduceIte, Nat.reduceAdd, Int.toNat_natCast, Nat.add_zero, Owes_true, Tryz.results6, e0, e1, e2, e7, e8, e10]
    apply callV_of (e := rfl)
    · exact pick_ok bits (2 * (i : Int) + (j : Int)) _ w3 (hb.grown g3)
    rintro _ _ ⟨rfl, rfl⟩
    simp -dsimp -implicitDefEqProofs (maxSteps := 2000000) (disch := first | assumption | omega | (simp only [AW.next_push, AW.next_put]; omega) | ((repeat refine Fresh.push ?_ _); assumption) | (simp only [same_int, same_bool, same_ptr, same_slice, same_sliceP, same_nil, same_agg2, same_string]; done) | (simp [oneCell, AW.next_push]; done) | fail) only [go_sem, Nat.reduceEqDiff, reduceIte, Nat.reduceAdd, Int.toNat_natCast, Nat.add_zero, Owes_true, Tryz.results6]
    apply callV_of (e := rfl)
    · exact ring_ok _ 5 (by omega) w3
    rintro _ _ ⟨rfl, rfl⟩
    have hrd : rdZ ms sizes bits i j = if ringZ (pickZ bits (2 * (i : Int) + (j : Int))) 5 = 0 then -1 else readZ ms[j].1 (sizeZ sizes (j : Int)) (pickZ bits ((i : Int) + 4 * (j : Int))) := by rw [rdZ, getD_at hkt']
    have happ := fun x : Int => append_one (e' := 3) Tryz.ty24 Tryz.ty3 rfl (by omega) (by omega) hA3 g3.2 (by have := hk2.next; have := hg3.1.next; omega) (icells_len x) (icells_one _) (by omega)
    by_cases hr5 : ringZ (pickZ bits (2 * (i : Int) + (j : Int))) 5 = 0
    · obtain ⟨l', w4, happ, hA4, hk4, hf4, hn4, hap⟩ := happ (-1)
      simp only [icells] at happ
      rw [if_pos hr5] at hrd
      simp -dsimp -implicitDefEqProofs (maxSteps := 2000000) (disch := first | assumption | omega | (simp only [AW.next_push, AW.next_put]; omega) | ((repeat refine Fresh.push ?_ _); assumption) | (simp only [same_int, same_bool, same_ptr, same_slice, same_sliceP, same_nil, same_agg2, same_string]; done) | (simp [oneCell, AW.next_push]; done) | fail) only [go_sem, Nat.reduceEqDiff, reduceIte, Nat.reduceAdd, Int.toNat_natCast, Nat.add_zero, Owes_true, Tryz.results6, e0, e1, e2, e7, e8, e9, e10, hr5, happ]
      refine ⟨_, by omega, j + 1, by omega, rfl, rfl, by (simp -dsimp -implicitDefEqProofs (maxSteps := 2000000) (disch := first | assumption | omega | (simp only [AW.next_push, AW.next_put]; omega) | ((repeat refine Fresh.push ?_ _); assumption) | (simp only [same_int, same_bool, same_ptr, same_slice, same_sliceP, same_nil, same_agg2, same_string]; done) | (simp [oneCell, AW.next_push]; done) | fail) only [go_sem, Nat.reduceEqDiff, reduceIte, Nat.reduceAdd, Int.toNat_natCast, Nat.add_zero, Owes_true, e0]; try rfl), by (simp -dsimp -implicitDefEqProofs (maxSteps := 2000000) (disch := first | assumption | omega | (simp only [AW.next_push, AW.next_put]; omega) | ((repeat refine Fresh.push ?_ _); assumption) | (simp only [same_int, same_bool, same_ptr, same_slice, same_sliceP, same_nil, same_agg2, same_string]; done) | (simp [oneCell, AW.next_push]; done) | fail) only [go_sem, Nat.reduceEqDiff, reduceIte, Nat.reduceAdd, Int.toNat_natCast, Nat.add_zero, Owes_true, e1]; try rfl), by (simp -dsimp -implicitDefEqProofs (maxSteps := 2000000) (disch := first | assumption | omega | (simp only [AW.next_push, AW.next_put]; omega) | ((repeat refine Fresh.push ?_ _); assumption) | (simp only [same_int, same_bool, same_ptr, same_slice, same_sliceP, same_nil, same_agg2, same_string]; done) | (simp [oneCell, AW.next_push]; done) | fail) only [go_sem, Nat.reduceEqDiff, reduceIte, Nat.reduceAdd, Int.toNat_natCast, Nat.add_zero, Owes_true, e2]; try rfl), by (simp -dsimp -implicitDefEqProofs (maxSteps := 2000000) (disch := first | assumption | omega | (simp only [AW.next_push, AW.next_put]; omega) | ((repeat refine Fresh.push ?_ _); assumption) | (simp only [same_int, same_bool, same_ptr, same_slice, same_sliceP, same_nil, same_agg2, same_string]; done) | (simp [oneCell, AW.next_push]; done) | fail) only [go_sem, Nat.reduceEqDiff, reduceIte, Nat.reduceAdd, Int.toNat_natCast, Nat.add_zero, Owes_true, e7]; try rfl), by (simp -dsimp -implicitDefEqProofs (maxSteps := 2000000) (disch := first | assumption | omega | (simp only [AW.next_push, AW.next_put]; omega) | ((repeat refine Fresh.push ?_ _); assumption) | (simp only [same_int, same_bool, same_ptr, same_slice, same_sliceP, same_nil, same_agg2, same_string]; done) | (simp [oneCell, AW.next_push]; done) | fail) only [go_sem, Nat.reduceEqDiff, reduceIte, Nat.reduceAdd, Int.toNat_natCast, Nat.add_zero, Owes_true, e8]; try rfl), by (simp -dsimp -implicitDefEqProofs (maxSteps := 2000000) (disch := first | assumption | omega | (simp only [AW.next_push, AW.next_put]; omega) | ((repeat refine Fresh.push ?_ _); assumption) | (simp only [same_int, same_bool, same_ptr, same_slice, same_sliceP, same_nil, same_agg2, same_string]; done) | (simp [oneCell, AW.next_push]; done) | fail) only [go_sem, Nat.reduceEqDiff, reduceIte, Nat.reduceAdd, Int.toNat_natCast, Nat.add_zero, Owes_true, e10]; try rfl), ⟨l', by simp -dsimp -implicitDefEqProofs (maxSteps := 2000000) (disch := first | assumption | omega | (simp only [AW.next_push, AW.next_put]; omega) | ((repeat refine Fresh.push ?_ _); assumption) | (simp only [same_int, same_bool, same_ptr, same_slice, same_sliceP, same_nil, same_agg2, same_string]; done) | (simp [oneCell, AW.next_push]; done) | fail) only [go_sem, Nat.reduceEqDiff, reduceIte, Nat.reduceAdd, Int.toNat_natCast, Nat.add_zero, Owes_true], by rw [rowTo_succ, hrd, List.flatMap_append]; simpa using hA4⟩, (hk2.trans (hg3.1.mono hk2.next)).trans hk4, hf4⟩
    · obtain ⟨l', w4, happ, hA4, hk4, hf4, hn4, hap⟩ := happ (readZ ms[j].1 (sizeZ sizes (j : Int)) (pickZ bits ((i : Int) + 4 * (j : Int))))
      simp only [icells] at happ
      rw [if_neg hr5] at hrd
      simp -dsimp -implicitDefEqProofs (maxSteps := 2000000) (disch := first | assumption | omega | (simp only [AW.next_push, AW.next_put]; omega) | ((repeat refine Fresh.push ?_ _); assumption) | (simp only [same_int, same_bool, same_ptr, same_slice, same_sliceP, same_nil, same_agg2, same_string]; done) | (simp [oneCell, AW.next_push]; done) | fail) only [go_sem, Nat.reduceEqDiff, reduceIte, Nat.reduceAdd, Int.toNat_natCast, Nat.add_zero, Owes_true, Tryz.results6, e0, e1, e2, e7, e8, e9, e10, hr5, happ]
      refine ⟨_, by omega, j + 1, by omega, rfl, rfl, by (simp -dsimp -implicitDefEqProofs (maxSteps := 2000000) (disch := first | assumption | omega | (simp only [AW.next_push, AW.next_put]; omega) | ((repeat refine Fresh.push ?_ _); assumption) | (simp only [same_int, same_bool, same_ptr, same_slice, same_sliceP, same_nil, same_agg2, same_string]; done) | (simp [oneCell, AW.next_push]; done) | fail) only [go_sem, Nat.reduceEqDiff, reduceIte, Nat.reduceAdd, Int.toNat_natCast, Nat.add_zero, Owes_true, e0]; try rfl), by (simp -dsimp -implicitDefEqProofs (maxSteps := 2000000) (disch := first | assumption | omega | (simp only [AW.next_push, AW.next_put]; omega) | ((repeat refine Fresh.push ?_ _); assumption) | (simp only [same_int, same_bool, same_ptr, same_slice, same_sliceP, same_nil, same_agg2, same_string]; done) | (simp [oneCell, AW.next_push]; done) | fail) only [go_sem, Nat.reduceEqDiff, reduceIte, Nat.reduceAdd, Int.toNat_natCast, Nat.add_zero, Owes_true, e1]; try rfl), by (simp -dsimp -implicitDefEqProofs (maxSteps := 2000000) (disch := first | assumption | omega | (simp only [AW.next_push, AW.next_put]; omega) | ((repeat refine Fresh.push ?_ _); assumption) | (simp only [same_int, same_bool, same_ptr, same_slice, same_sliceP, same_nil, same_agg2, same_string]; done) | (simp [oneCell, AW.next_push]; done) | fail) only [go_sem, Nat.reduceEqDiff, reduceIte, Nat.reduceAdd, Int.toNat_natCast, Nat.add_zero, Owes_true, e2]; try rfl), by (simp -dsimp -implicitDefEqProofs (maxSteps := 2000000) (disch := first | assumption | omega | (simp only [AW.next_push, AW.next_put]; omega) | ((repeat refine Fresh.push ?_ _); assumption) | (simp only [same_int, same_bool, same_ptr, same_slice, same_sliceP, same_nil, same_agg2, same_string]; done) | (simp [oneCell, AW.next_push]; done) | fail) only [go_sem, Nat.reduceEqDiff, reduceIte, Nat.reduceAdd, Int.toNat_natCast, Nat.add_zero, Owes_true, e7]; try rfl), by (simp -dsimp -implicitDefEqProofs (maxSteps := 2000000) (disch := first | assumption | omega | (simp only [AW.next_push, AW.next_put]; omega) | ((repeat refine Fresh.push ?_ _); assumption) | (simp only [same_int, same_bool, same_ptr, same_slice, same_sliceP, same_nil, same_agg2, same_string]; done) | (simp [oneCell, AW.next_push]; done) | fail) only [go_sem, Nat.reduceEqDiff, reduceIte, Nat.reduceAdd, Int.toNat_natCast, Nat.add_zero, Owes_true, e8]; try rfl), by (simp -dsimp -implicitDefEqProofs (maxSteps := 2000000) (disch := first | assumption | omega | (simp only [AW.next_push, AW.next_put]; omega) | ((repeat refine Fresh.push ?_ _); assumption) | (simp only [same_int, same_bool, same_ptr, same_slice, same_sliceP, same_nil, same_agg2, same_string]; done) | (simp [oneCell, AW.next_push]; done) | fail) only [go_sem, Nat.reduceEqDiff, reduceIte, Nat.reduceAdd, Int.toNat_natCast, Nat.add_zero, Owes_true, e10]; try rfl), ⟨l', by simp -dsimp -implicitDefEqProofs (maxSteps := 2000000) (disch := first | assumption | omega | (simp only [AW.next_push, AW.next_put]; omega) | ((repeat refine Fresh.push ?_ _); assumption) | (simp only [same_int, same_bool, same_ptr, same_slice, same_sliceP, same_nil, same_agg2, same_string]; done) | (simp [oneCell, AW.next_push]; done) | fail) only [go_sem, Nat.reduceEqDiff, reduceIte, Nat.reduceAdd, Int.toNat_natCast, Nat.add_zero, Owes_true], by rw [rowTo_succ, hrd, List.flatMap_append]; simpa using hA4⟩, (hk2.trans (hg3.1.mono hk2.next)).trans hk4, hf4⟩
  obtain rfl : i = 5 := by omega
  have hRows := hR.rows (by rw [readsTo_len]; omega)
  obtain ⟨vs, hvl, hvs, hvr⟩ := id hRows
  rw [readsTo_len] at hvl
  obtain ⟨br, orr, capr, rfl, hcapr, hmaxr, hbr, hatr⟩ := hvs.open1 (by omega)
  simp -dsimp -implicitDefEqProofs (maxSteps := 2000000) (disch := first | assumption | omega | (simp only [AW.next_push, AW.next_put]; omega) | ((repeat refine Fresh.push ?_ _); assumption) | (simp only [same_int, same_bool, same_ptr, same_slice, same_sliceP, same_nil, same_agg2, same_string]; done) | (simp [oneCell, AW.next_push]; done) | fail) only [go_sem, Nat.reduceEqDiff, reduceIte, Nat.reduceAdd, Int.toNat_natCast, Nat.add_zero, Owes_true, Tryz.results6, e0, e1, e2, e7, e8, hlt]
  apply callV_of (e := rfl)
  · exact narrow_ok ms (readsTo ms sizes bits 5) _ _ w1 hf (hs.grown hg) hRows
  rintro _ w2 ⟨s1, rfl, hs1, hg1⟩
  have hE := reads_narrowE hM sizes bits
  rw [narrowR, if_pos hE] at hs1
  rw [hE]
  obtain ⟨ps, caps, rfl, hcaps, hmaxs, hats⟩ := hs1.open
  have hsl := spansTo_len ms (readsTo ms sizes bits 5) ms.length
  have g2 := hg.trans hg1
  simp -dsimp -implicitDefEqProofs (maxSteps := 2000000) (disch := first | assumption | omega | (simp only [AW.next_push, AW.next_put]; omega) | ((repeat refine Fresh.push ?_ _); assumption) | (simp only [same_int, same_bool, same_ptr, same_slice, same_sliceP, same_nil, same_agg2, same_string]; done) | (simp [oneCell, AW.next_push]; done) | fail) only [go_sem, Nat.reduceEqDiff, reduceIte, Nat.reduceAdd, Int.toNat_natCast, Nat.add_zero, Owes_true, Tryz.results6, e0, e1, e7, hsl]
  refine loopR (fun k t ds w3 => ∃ j : Nat, j ≤ ms.length ∧ k = ms.length - j ∧ ds = [] ∧ ev t (.tmp 0) = .slice p ms.length cap ∧ ev t (.tmp 1) = .slice pz sizes.length capz ∧ ev t (.tmp 7) = .slice (some ⟨br, orr, none⟩) vs.length capr ∧ ev t (.tmp 12) = .slice ps ms.length caps ∧ ev t (.tmp 14) = .int .i64 (j : Int) ∧ w2 = w3) (ms.length) ?_ ?_
  · refine ⟨0, by omega, by omega, rfl, ?_, ?_, ?_, ?_, ?_, rfl⟩ <;> simp -dsimp -implicitDefEqProofs (maxSteps := 2000000) (disch := first | assumption | omega | (simp only [AW.next_push, AW.next_put]; omega) | ((repeat refine Fresh.push ?_ _); assumption) | (simp only [same_int, same_bool, same_ptr, same_slice, same_sliceP, same_nil, same_agg2, same_string]; done) | (simp [oneCell, AW.next_push]; done) | fail) only [go_sem, Nat.reduceEqDiff, reduceIte, Nat.reduceAdd, Int.toNat_natCast, Nat.add_zero, Owes_true, e0, e1, e7, hsl] <;> rfl
  rintro k t ds w3 ⟨j, hij, rfl, rfl, e0, e1, e7, e12, e14, hw⟩
  subst hw
  have hle : WLe w2 w2 := .refl _
  by_cases hjt : (j : Int) < (ms.length : Int)
  · have hjt' : j < ms.length := by omega
    obtain ⟨b1, o1, rfl, hb1, hcell⟩ := hats j (by omega)
    have hc0 := hcell w2 (.refl _ _) 0 _ rfl
    have hc1 := hcell w2 (.refl _ _) 1 _ rfl
    rw [Nat.add_zero] at hc0
    have hsp : (spansTo ms (readsTo ms sizes bits 5) ms.length)[j]'(by omega) = sp ms (readsTo ms sizes bits 5) j := by simp [spansTo]
    rw [hsp] at hc0 hc1
    have hin := sp_has hM sizes bits 5 hjt'
    simp -dsimp -implicitDefEqProofs (maxSteps := 2000000) (disch := first | assumption | omega | (simp only [AW.next_push, AW.next_put]; omega) | ((repeat refine Fresh.push ?_ _); assumption) | (simp only [same_int, same_bool, same_ptr, same_slice, same_sliceP, same_nil, same_agg2, same_string]; done) | (simp [oneCell, AW.next_push]; done) | fail) only [go_sem, Nat.reduceEqDiff, reduceIte, Nat.reduceAdd, Int.toNat_natCast, Nat.add_zero, Owes_true, Tryz.results6, e0, e1, e7, e12, e14, hjt, indexV_eq, hc0, hc1]
    apply callV_of (e := rfl)
    · exact pick_ok sizes (j : Int) _ w2 (hz.grown g2)
    rintro _ _ ⟨rfl, rfl⟩
    simp -dsimp -implicitDefEqProofs (maxSteps := 2000000) (disch := first | assumption | omega | (simp only [AW.next_push, AW.next_put]; omega) | ((repeat refine Fresh.push ?_ _); assumption) | (simp only [same_int, same_bool, same_ptr, same_slice, same_sliceP, same_nil, same_agg2, same_string]; done) | (simp [oneCell, AW.next_push]; done) | fail) only [go_sem, Nat.reduceEqDiff, reduceIte, Nat.reduceAdd, Int.toNat_natCast, Nat.add_zero, Owes_true, Tryz.results6]
    apply callV_of (e := rfl)
    · exact ring_ok _ 100001 (by omega) w2
    rintro _ _ ⟨rfl, rfl⟩
    simp -dsimp -implicitDefEqProofs (maxSteps := 2000000) (disch := first | assumption | omega | (simp only [AW.next_push, AW.next_put]; omega) | ((repeat refine Fresh.push ?_ _); assumption) | (simp only [same_int, same_bool, same_ptr, same_slice, same_sliceP, same_nil, same_agg2, same_string]; done) | (simp [oneCell, AW.next_push]; done) | fail) only [go_sem, Nat.reduceEqDiff, reduceIte, Nat.reduceAdd, Int.toNat_natCast, Nat.add_zero, Owes_true, Tryz.results6]
    apply callV_of (e := rfl)
    · exact From_ok _ _ _ w2
    rintro _ _ ⟨rfl, rfl⟩
    have hin2 : inR (sp ms (readsTo ms sizes bits 5) j).1 (ringZ (pickZ sizes (j : Int)) 100001) (sp ms (readsTo ms sizes bits 5) j).2 = true := (inR_iff _ _ _).2 hin
    rw [hin2]
    simp -dsimp -implicitDefEqProofs (maxSteps := 2000000) (disch := first | assumption | omega | (simp only [AW.next_push, AW.next_put]; omega) | ((repeat refine Fresh.push ?_ _); assumption) | (simp only [same_int, same_bool, same_ptr, same_slice, same_sliceP, same_nil, same_agg2, same_string]; done) | (simp [oneCell, AW.next_push]; done) | fail) only [go_sem, Nat.reduceEqDiff, reduceIte, Nat.reduceAdd, Int.toNat_natCast, Nat.add_zero, Owes_true, Tryz.results6, e0, e1, e7, e12, e14]
    refine ⟨_, by omega, j + 1, by omega, rfl, rfl, by (simp -dsimp -implicitDefEqProofs (maxSteps := 2000000) (disch := first | assumption | omega | (simp only [AW.next_push, AW.next_put]; omega) | ((repeat refine Fresh.push ?_ _); assumption) | (simp only [same_int, same_bool, same_ptr, same_slice, same_sliceP, same_nil, same_agg2, same_string]; done) | (simp [oneCell, AW.next_push]; done) | fail) only [go_sem, Nat.reduceEqDiff, reduceIte, Nat.reduceAdd, Int.toNat_natCast, Nat.add_zero, Owes_true, e0]; try rfl), by (simp -dsimp -implicitDefEqProofs (maxSteps := 2000000) (disch := first | assumption | omega | (simp only [AW.next_push, AW.next_put]; omega) | ((repeat refine Fresh.push ?_ _); assumption) | (simp only [same_int, same_bool, same_ptr, same_slice, same_sliceP, same_nil, same_agg2, same_string]; done) | (simp [oneCell, AW.next_push]; done) | fail) only [go_sem, Nat.reduceEqDiff, reduceIte, Nat.reduceAdd, Int.toNat_natCast, Nat.add_zero, Owes_true, e1]; try rfl), by (simp -dsimp -implicitDefEqProofs (maxSteps := 2000000) (disch := first | assumption | omega | (simp only [AW.next_push, AW.next_put]; omega) | ((repeat refine Fresh.push ?_ _); assumption) | (simp only [same_int, same_bool, same_ptr, same_slice, same_sliceP, same_nil, same_agg2, same_string]; done) | (simp [oneCell, AW.next_push]; done) | fail) only [go_sem, Nat.reduceEqDiff, reduceIte, Nat.reduceAdd, Int.toNat_natCast, Nat.add_zero, Owes_true, e7]; try rfl), by (simp -dsimp -implicitDefEqProofs (maxSteps := 2000000) (disch := first | assumption | omega | (simp only [AW.next_push, AW.next_put]; omega) | ((repeat refine Fresh.push ?_ _); assumption) | (simp only [same_int, same_bool, same_ptr, same_slice, same_sliceP, same_nil, same_agg2, same_string]; done) | (simp [oneCell, AW.next_push]; done) | fail) only [go_sem, Nat.reduceEqDiff, reduceIte, Nat.reduceAdd, Int.toNat_natCast, Nat.add_zero, Owes_true, e12]; try rfl), by (simp -dsimp -implicitDefEqProofs (maxSteps := 2000000) (disch := first | assumption | omega | (simp only [AW.next_push, AW.next_put]; omega) | ((repeat refine Fresh.push ?_ _); assumption) | (simp only [same_int, same_bool, same_ptr, same_slice, same_sliceP, same_nil, same_agg2, same_string]; done) | (simp [oneCell, AW.next_push]; done) | fail) only [go_sem, Nat.reduceEqDiff, reduceIte, Nat.reduceAdd, Int.toNat_natCast, Nat.add_zero, Owes_true, e14]; try rfl), rfl⟩
  simp -dsimp -implicitDefEqProofs (maxSteps := 2000000) (disch := first | assumption | omega | (simp only [AW.next_push, AW.next_put]; omega) | ((repeat refine Fresh.push ?_ _); assumption) | (simp only [same_int, same_bool, same_ptr, same_slice, same_sliceP, same_nil, same_agg2, same_string]; done) | (simp [oneCell, AW.next_push]; done) | fail) only [go_sem, Nat.reduceEqDiff, reduceIte, Nat.reduceAdd, Int.toNat_natCast, Nat.add_zero, Owes_true, Tryz.results6, e0, e1, e7, e12, e14, hjt]
  refine loopR (fun k t ds w3 => ∃ i : Nat, i ≤ 5 ∧ k = 5 - i ∧ ds = [] ∧ ev t (.tmp 0) = .slice p ms.length cap ∧ ev t (.tmp 7) = .slice (some ⟨br, orr, none⟩) vs.length capr ∧ ev t (.tmp 15) = .int .i64 (i : Int) ∧ Grown w w3 ∧ Grown w1 w3) (5) ?_ ?_
  · refine ⟨0, by omega, by omega, rfl, ?_, ?_, ?_, g2, hg1⟩ <;> simp -dsimp -implicitDefEqProofs (maxSteps := 2000000) (disch := first | assumption | omega | (simp only [AW.next_push, AW.next_put]; omega) | ((repeat refine Fresh.push ?_ _); assumption) | (simp only [same_int, same_bool, same_ptr, same_slice, same_sliceP, same_nil, same_agg2, same_string]; done) | (simp [oneCell, AW.next_push]; done) | fail) only [go_sem, Nat.reduceEqDiff, reduceIte, Nat.reduceAdd, Int.toNat_natCast, Nat.add_zero, Owes_true, e0, e7] <;> rfl
  rintro k t ds w3 ⟨i, hii, rfl, rfl, e0, e7, e15, hg3, hk13⟩
  by_cases hit : (i : Int) < 5
  · simp -dsimp -implicitDefEqProofs (maxSteps := 2000000) (disch := first | assumption | omega | (simp only [AW.next_push, AW.next_put]; omega) | ((repeat refine Fresh.push ?_ _); assumption) | (simp only [same_int, same_bool, same_ptr, same_slice, same_sliceP, same_nil, same_agg2, same_string]; done) | (simp [oneCell, AW.next_push]; done) | fail) only [go_sem, Nat.reduceEqDiff, reduceIte, Nat.reduceAdd, Int.toNat_natCast, Nat.add_zero, Owes_true, Tryz.results6, e0, e7, e15, hit]
    refine loopR (fun k t ds w4 => ∃ n : Nat, n ≤ 5 ∧ k = 5 - n ∧ ds = [] ∧ ev t (.tmp 0) = .slice p ms.length cap ∧ ev t (.tmp 7) = .slice (some ⟨br, orr, none⟩) vs.length capr ∧ ev t (.tmp 15) = .int .i64 (i : Int) ∧ ev t (.tmp 16) = .int .i64 (n : Int) ∧ Grown w w4 ∧ Grown w1 w4) (5) ?_ ?_
    · refine ⟨0, by omega, by omega, rfl, ?_, ?_, ?_, ?_, hg3, hk13⟩ <;> simp -dsimp -implicitDefEqProofs (maxSteps := 2000000) (disch := first | assumption | omega | (simp only [AW.next_push, AW.next_put]; omega) | ((repeat refine Fresh.push ?_ _); assumption) | (simp only [same_int, same_bool, same_ptr, same_slice, same_sliceP, same_nil, same_agg2, same_string]; done) | (simp [oneCell, AW.next_push]; done) | fail) only [go_sem, Nat.reduceEqDiff, reduceIte, Nat.reduceAdd, Int.toNat_natCast, Nat.add_zero, Owes_true, e0, e7, e15] <;> rfl
    rintro k t ds w4 ⟨n, hin, rfl, rfl, e0, e7, e15, e16, hg4, hk14⟩
    by_cases hnt : (n : Int) < 5
    · have row : ∀ (i : Nat) (hi : i < 5), ∃ p1 c1, vs[i]'(by omega) = .slice p1 ms.length c1 ∧ ArrOf w1 1 icells (vs[i]'(by omega)) (rowTo ms sizes bits i ms.length) := by
        intro i hi
        have hri := hvr i (vs[i]'(by omega)) (rowTo ms sizes bits i ms.length) (by simp [show i < vs.length from by omega]) (by simp [readsTo, hi])
        obtain ⟨p1, c1, hv1, _⟩ := hri.open
        rw [rowTo_len] at hv1
        exact ⟨p1, c1, hv1, hri⟩
      obtain ⟨p1, c1, hv1, hr1⟩ := row i (by omega)
      obtain ⟨p2, c2, hv2, hr2⟩ := row n (by omega)
      have hc1 := hatr i (by omega) w4 hk14.1 0 _ rfl
      have hc2 := hatr n (by omega) w4 hk14.1 0 _ rfl
      rw [Nat.add_zero, hv1] at hc1
      rw [Nat.add_zero, hv2] at hc2
      rw [hv1] at hr1
      rw [hv2] at hr2
      have hst : same 12 (.tuple #[.bool true, .int .i64 0]) (.tuple #[.bool true, .int .i64 0]) = true := by simp [same, same.all, intEq_eq]
      simp -dsimp -implicitDefEqProofs (maxSteps := 2000000) (disch := first | assumption | omega | (simp only [AW.next_push, AW.next_put]; omega) | ((repeat refine Fresh.push ?_ _); assumption) | (simp only [same_int, same_bool, same_ptr, same_slice, same_sliceP, same_nil, same_agg2, same_string]; done) | (simp [oneCell, AW.next_push]; done) | fail) only [go_sem, Nat.reduceEqDiff, reduceIte, Nat.reduceAdd, Int.toNat_natCast, Nat.add_zero, Owes_true, Tryz.results6, e0, e7, e15, e16, hnt, indexV_eq, hc1, hc2]
      apply callV_of (e := rfl)
      · exact agree_ok ms (rowTo ms sizes bits i ms.length) (rowTo ms sizes bits n ms.length) _ _ _ w4 hg4.2 (hs.grown hg4) (hr1.grown hk14) (hr2.grown hk14)
      rintro _ w5 ⟨rfl, hg5⟩
      have hle5 := hg5.1.wle hg4.2
      obtain ⟨hE, hA⟩ := reads_agree hM sizes bits i n
      rw [hE, hA]
      simp -dsimp -implicitDefEqProofs (maxSteps := 2000000) (disch := first | assumption | omega | (simp only [AW.next_push, AW.next_put]; omega) | ((repeat refine Fresh.push ?_ _); assumption) | (simp only [same_int, same_bool, same_ptr, same_slice, same_sliceP, same_nil, same_agg2, same_string]; done) | (simp [oneCell, AW.next_push]; done) | fail) only [go_sem, Nat.reduceEqDiff, reduceIte, Nat.reduceAdd, Int.toNat_natCast, Nat.add_zero, Owes_true, Tryz.results6, e0, e7, e15, e16]
      refine ⟨_, by omega, n + 1, by omega, rfl, rfl, by (simp -dsimp -implicitDefEqProofs (maxSteps := 2000000) (disch := first | assumption | omega | (simp only [AW.next_push, AW.next_put]; omega) | ((repeat refine Fresh.push ?_ _); assumption) | (simp only [same_int, same_bool, same_ptr, same_slice, same_sliceP, same_nil, same_agg2, same_string]; done) | (simp [oneCell, AW.next_push]; done) | fail) only [go_sem, Nat.reduceEqDiff, reduceIte, Nat.reduceAdd, Int.toNat_natCast, Nat.add_zero, Owes_true, e0]; try rfl), by (simp -dsimp -implicitDefEqProofs (maxSteps := 2000000) (disch := first | assumption | omega | (simp only [AW.next_push, AW.next_put]; omega) | ((repeat refine Fresh.push ?_ _); assumption) | (simp only [same_int, same_bool, same_ptr, same_slice, same_sliceP, same_nil, same_agg2, same_string]; done) | (simp [oneCell, AW.next_push]; done) | fail) only [go_sem, Nat.reduceEqDiff, reduceIte, Nat.reduceAdd, Int.toNat_natCast, Nat.add_zero, Owes_true, e7]; try rfl), by (simp -dsimp -implicitDefEqProofs (maxSteps := 2000000) (disch := first | assumption | omega | (simp only [AW.next_push, AW.next_put]; omega) | ((repeat refine Fresh.push ?_ _); assumption) | (simp only [same_int, same_bool, same_ptr, same_slice, same_sliceP, same_nil, same_agg2, same_string]; done) | (simp [oneCell, AW.next_push]; done) | fail) only [go_sem, Nat.reduceEqDiff, reduceIte, Nat.reduceAdd, Int.toNat_natCast, Nat.add_zero, Owes_true, e15]; try rfl), by (simp -dsimp -implicitDefEqProofs (maxSteps := 2000000) (disch := first | assumption | omega | (simp only [AW.next_push, AW.next_put]; omega) | ((repeat refine Fresh.push ?_ _); assumption) | (simp only [same_int, same_bool, same_ptr, same_slice, same_sliceP, same_nil, same_agg2, same_string]; done) | (simp [oneCell, AW.next_push]; done) | fail) only [go_sem, Nat.reduceEqDiff, reduceIte, Nat.reduceAdd, Int.toNat_natCast, Nat.add_zero, Owes_true, e16]; try rfl), hg4.trans hg5, hk14.trans hg5⟩
    · simp -dsimp -implicitDefEqProofs (maxSteps := 2000000) (disch := first | assumption | omega | (simp only [AW.next_push, AW.next_put]; omega) | ((repeat refine Fresh.push ?_ _); assumption) | (simp only [same_int, same_bool, same_ptr, same_slice, same_sliceP, same_nil, same_agg2, same_string]; done) | (simp [oneCell, AW.next_push]; done) | fail) only [go_sem, Nat.reduceEqDiff, reduceIte, Nat.reduceAdd, Int.toNat_natCast, Nat.add_zero, Owes_true, Tryz.results6, e0, e7, e15, e16, hnt]
      refine ⟨_, by omega, i + 1, by omega, rfl, rfl, by (simp -dsimp -implicitDefEqProofs (maxSteps := 2000000) (disch := first | assumption | omega | (simp only [AW.next_push, AW.next_put]; omega) | ((repeat refine Fresh.push ?_ _); assumption) | (simp only [same_int, same_bool, same_ptr, same_slice, same_sliceP, same_nil, same_agg2, same_string]; done) | (simp [oneCell, AW.next_push]; done) | fail) only [go_sem, Nat.reduceEqDiff, reduceIte, Nat.reduceAdd, Int.toNat_natCast, Nat.add_zero, Owes_true, e0]; try rfl), by (simp -dsimp -implicitDefEqProofs (maxSteps := 2000000) (disch := first | assumption | omega | (simp only [AW.next_push, AW.next_put]; omega) | ((repeat refine Fresh.push ?_ _); assumption) | (simp only [same_int, same_bool, same_ptr, same_slice, same_sliceP, same_nil, same_agg2, same_string]; done) | (simp [oneCell, AW.next_push]; done) | fail) only [go_sem, Nat.reduceEqDiff, reduceIte, Nat.reduceAdd, Int.toNat_natCast, Nat.add_zero, Owes_true, e7]; try rfl), by (simp -dsimp -implicitDefEqProofs (maxSteps := 2000000) (disch := first | assumption | omega | (simp only [AW.next_push, AW.next_put]; omega) | ((repeat refine Fresh.push ?_ _); assumption) | (simp only [same_int, same_bool, same_ptr, same_slice, same_sliceP, same_nil, same_agg2, same_string]; done) | (simp [oneCell, AW.next_push]; done) | fail) only [go_sem, Nat.reduceEqDiff, reduceIte, Nat.reduceAdd, Int.toNat_natCast, Nat.add_zero, Owes_true, e15]; try rfl), hg4, hk14⟩
  · simp -dsimp -implicitDefEqProofs (maxSteps := 2000000) (disch := first | assumption | omega | (simp only [AW.next_push, AW.next_put]; omega) | ((repeat refine Fresh.push ?_ _); assumption) | (simp only [same_int, same_bool, same_ptr, same_slice, same_sliceP, same_nil, same_agg2, same_string]; done) | (simp [oneCell, AW.next_push]; done) | fail) only [go_sem, Nat.reduceEqDiff, reduceIte, Nat.reduceAdd, Int.toNat_natCast, Nat.add_zero, Owes_true, Tryz.results6, e0, e7, e15, hit]
    apply callV_of (e := rfl)
    · exact callT_told (Q := fun v w' => v = .bool true ∧ w3 = w') (v := .bool true) (w' := w3) rfl ⟨rfl, rfl⟩
    rintro _ w8 ⟨rfl, rfl⟩
    simp -dsimp -implicitDefEqProofs (maxSteps := 2000000) (disch := first | assumption | omega | (simp only [AW.next_push, AW.next_put]; omega) | ((repeat refine Fresh.push ?_ _); assumption) | (simp only [same_int, same_bool, same_ptr, same_slice, same_sliceP, same_nil, same_agg2, same_string]; done) | (simp [oneCell, AW.next_push]; done) | fail) only [go_sem, Nat.reduceEqDiff, reduceIte, Nat.reduceAdd, Int.toNat_natCast, Nat.add_zero, Owes_true, Tryz.results6]
end Go.Proofs
