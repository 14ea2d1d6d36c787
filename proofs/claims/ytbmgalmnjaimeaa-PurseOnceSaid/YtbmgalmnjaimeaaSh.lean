/- Sums shared out by the greatest quotient, and spread over dues: the numbers. Rows that are filled in place. -/
import Derived.Test.YtbmgalmnjaimeaaNc
set_option linter.unusedVariables false
set_option linter.unusedSimpArgs false
namespace Go.Sim
def W (l : List Int) (i : Nat) : Int := l.getD i 0
theorem W_at {l : List Int} {i : Nat} (h : i < l.length) : W l i = l[i] := by simp [W, List.getD, h]
theorem W_out {l : List Int} {i : Nat} (h : l.length ≤ i) : W l i = 0 := by simp [W, List.getD, List.getElem?_eq_none h]
theorem W_ext {l m : List Int} (h : l.length = m.length) (k : ∀ i, i < l.length → W l i = W m i) : l = m := by
  apply List.ext_getElem h
  intro i h1 h2
  have := k i h1
  rwa [W_at h1, W_at h2] at this
theorem W_nil (i : Nat) : W [] i = 0 := rfl
theorem W_zero (x : Int) (l : List Int) : W (x :: l) 0 = x := rfl
theorem W_succ (x : Int) (l : List Int) (i : Nat) : W (x :: l) (i + 1) = W l i := rfl
theorem W_map {α : Type} (f : α → Int) {l : List α} {i : Nat} (h : i < l.length) : W (l.map f) i = f l[i] := by rw [W_at (by simpa using h)]; simp
theorem W_set {l : List Int} {b : Nat} (hb : b < l.length) (x : Int) (i : Nat) : W (l.set b x) i = if i = b then x else W l i := by
  simp only [W, List.getD]
  by_cases h : i = b
  · subst h; simp [hb]
  · rw [if_neg h, List.getElem?_set_ne (Ne.symm h)]
structure Shared (w l : List Int) : Prop where
  len : l.length = w.length
  nn : ∀ i, 0 ≤ W l i
  best : ∀ i k, i < w.length → k < w.length → 0 < W l i → W w k * W l i < W w i * (W l k + 1) ∨ (W w k * W l i = W w i * (W l k + 1) ∧ i ≤ k)
def NN (w : List Int) : Prop := ∀ i, 0 ≤ W w i
theorem sum_le : ∀ {l m : List Int}, l.length = m.length → (∀ i, i < l.length → W l i ≤ W m i) → l.sum ≤ m.sum
  | [], [], _, _ => Int.le_refl _
  | x :: l, y :: m, h, k => by
    have h0 := k 0 (by simp)
    have h1 := sum_le (l := l) (m := m) (by simpa using h) fun i hi => k (i + 1) (by simpa using hi)
    rw [W_zero, W_zero] at h0
    rw [List.sum_cons, List.sum_cons]; omega
theorem sum_lt : ∀ {l m : List Int}, l.length = m.length → (∀ i, i < l.length → W l i ≤ W m i) → (∃ i, i < l.length ∧ W l i < W m i) → l.sum < m.sum
  | [], [], _, _, ⟨i, hi, _⟩ => by simp at hi
  | x :: l, y :: m, h, k, ⟨i, hi, hlt⟩ => by
    have h0 := k 0 (by simp)
    rw [W_zero, W_zero] at h0
    rw [List.sum_cons, List.sum_cons]
    cases i with
    | zero =>
      rw [W_zero, W_zero] at hlt
      have h1 := sum_le (l := l) (m := m) (by simpa using h) fun i hi => k (i + 1) (by simpa using hi)
      omega
    | succ i =>
      have h1 := sum_lt (l := l) (m := m) (by simpa using h) (fun i hi => k (i + 1) (by simpa using hi)) ⟨i, by simpa using hi, hlt⟩
      omega
theorem sum_ex {l m : List Int} (h : l.length = m.length) (hs : m.sum ≤ l.sum) {k : Nat} (hk : k < l.length) (hlt : W l k < W m k) : ∃ i, i < l.length ∧ W m i < W l i := by
  apply Classical.byContradiction
  intro q
  have : l.sum < m.sum := sum_lt h (fun i hi => by
    apply Classical.byContradiction
    intro z
    exact q ⟨i, hi, by omega⟩) ⟨k, hk, hlt⟩
  omega
theorem exch2 {w v l m : List Int} (h : Shared w l) (h' : Shared v m) (hw : NN w) (hv : NN v) (hlen : v.length = w.length) {i k : Nat} (hi : i < w.length) (hk : k < w.length) (h1 : W m i < W l i) (h2 : W l k < W m k) (q1 : W w i ≤ W v i) (q2 : W v k ≤ W w k) : False := by
  have a0 := h.nn k
  have b0 := h'.nn i
  have a := h.best i k hi hk (by omega)
  have b := h'.best k i (by omega) (by omega) (by omega)
  have c1 : W w i * (W l k + 1) ≤ W v i * (W l k + 1) := Int.mul_le_mul_of_nonneg_right q1 (by omega)
  have c2 : W v i * (W l k + 1) ≤ W v i * W m k := Int.mul_le_mul_of_nonneg_left (by omega) (hv i)
  have c3 : W v k * (W m i + 1) ≤ W w k * (W m i + 1) := Int.mul_le_mul_of_nonneg_right q2 (by omega)
  have c4 : W w k * (W m i + 1) ≤ W w k * W l i := Int.mul_le_mul_of_nonneg_left (by omega) (hw k)
  rcases a with a | ⟨a, a'⟩ <;> rcases b with b | ⟨b, b'⟩
  · omega
  · omega
  · omega
  · obtain rfl : i = k := by omega
    omega
theorem shared_mono {w l m : List Int} (hw : NN w) (h : Shared w l) (h' : Shared w m) (hs : l.sum ≤ m.sum) : ∀ j, W l j ≤ W m j := by
  intro j
  apply Classical.byContradiction
  intro q
  have hj : j < l.length := by
    rcases Nat.lt_or_ge j l.length with z | z
    · exact z
    · rw [W_out z] at q; have := h'.nn j; omega
  have hl := h.len
  have hm := h'.len
  obtain ⟨i, hi, hlt⟩ := sum_ex (l := m) (m := l) (by omega) hs (k := j) (by omega) (by omega)
  exact exch2 h h' hw hw rfl (i := j) (k := i) (by omega) (by omega) (by omega) hlt (Int.le_refl _) (Int.le_refl _)
theorem shared_one {w l m : List Int} (hw : NN w) (h : Shared w l) (h' : Shared w m) (hs : l.sum = m.sum) : l = m := by
  have hl := h.len
  have hm := h'.len
  exact W_ext (by omega) fun i _ => by
    have a := shared_mono hw h h' (by omega) i
    have b := shared_mono hw h' h (by omega) i
    omega
theorem shared_self {w : List Int} (hw : NN w) : Shared w w := by
  refine ⟨rfl, hw, fun i k _ _ hp => .inl ?_⟩
  have : W w i * (W w k + 1) = W w k * W w i + W w i := by rw [Int.mul_add, Int.mul_one, Int.mul_comm]
  omega
theorem shared_zero {w l : List Int} (hw : NN w) (h : Shared w l) {k : Nat} (hk : k < w.length) (hp : 0 < W w k) {i : Nat} (hi : W w i = 0) : W l i = 0 := by
  apply Classical.byContradiction
  intro q
  have hil : i < l.length := by
    rcases Nat.lt_or_ge i l.length with y | y
    · exact y
    · exact absurd (W_out y) q
  have hl := h.len
  have hn := h.nn i
  have := h.best i k (by omega) hk (by omega)
  rw [hi, Int.zero_mul] at this
  have : 0 < W w k * W l i := Int.mul_pos hp (by omega)
  omega
def floors (w : List Int) (s all : Int) : List Int := w.map fun x => s * x / all
theorem W_floors (w : List Int) (s all : Int) (i : Nat) : W (floors w s all) i = s * W w i / all := by
  rcases Nat.lt_or_ge i w.length with h | h
  · rw [floors, W_map _ h, W_at h]
  · rw [W_out (by rw [floors, List.length_map]; exact h), W_out h, Int.mul_zero, Int.zero_ediv]
theorem floors_shared {w : List Int} (hw : NN w) {s all : Int} (hs : 0 ≤ s) (ha : 0 < all) : Shared w (floors w s all) := by
  refine ⟨by rw [floors, List.length_map], fun i => ?_, fun i k hi hk hp => .inl ?_⟩
  · rw [W_floors]; exact Int.ediv_nonneg (Int.mul_nonneg hs (hw i)) (by omega)
  · rw [W_floors] at hp ⊢
    rw [W_floors]
    have e1 : s * W w i / all * all ≤ s * W w i := Int.ediv_mul_le _ (by omega)
    have e2 : s * W w k < (s * W w k / all + 1) * all := Int.lt_ediv_add_one_mul_self _ ha
    have hwi : 0 < W w i := by
      have := hw i
      rcases Int.lt_or_le 0 (W w i) with z | z
      · exact z
      · obtain z : W w i = 0 := by omega
        rw [z, Int.mul_zero, Int.zero_ediv] at hp; omega
    generalize s * W w i / all = a at *
    generalize s * W w k / all = b at *
    have f1 : W w k * (a * all) ≤ W w k * (s * W w i) := Int.mul_le_mul_of_nonneg_left e1 (hw k)
    have f2 : W w i * (s * W w k) < W w i * ((b + 1) * all) := Int.mul_lt_mul_of_pos_left e2 hwi
    have f3 : W w k * (s * W w i) = W w i * (s * W w k) := by
      rw [Int.mul_left_comm, Int.mul_comm (W w k) (W w i), Int.mul_left_comm]
    rw [← Int.mul_assoc] at f1 f2
    rw [← Int.mul_assoc (W w i) (b + 1) all] at f2
    have : W w k * a * all < W w i * (b + 1) * all := by rw [Int.mul_assoc (W w i) s] at f2; omega
    exact Int.lt_of_mul_lt_mul_right this (by omega)
theorem floors_sum {s all : Int} (ha : 0 < all) : ∀ (w : List Int), (floors w s all).sum * all ≤ s * w.sum
  | [] => by simp [floors]
  | x :: w => by
    have := floors_sum (s := s) ha w
    rw [floors] at this ⊢
    rw [List.map_cons, List.sum_cons, List.sum_cons, Int.add_mul, Int.mul_add]
    have := Int.ediv_mul_le (s * x) (show all ≠ 0 by omega)
    omega
theorem floors_le {w : List Int} {s : Int} (ha : 0 < w.sum) : (floors w s w.sum).sum ≤ s := by
  have := floors_sum (s := s) ha w
  exact Int.le_of_mul_le_mul_right this ha
structure IsNext (w l : List Int) (n b : Nat) : Prop where
  lt : b < n ∨ b = 0
  all : ∀ k, k < n → W w k * (W l b + 1) ≤ W w b * (W l k + 1)
  first : ∀ k, k < n → k < b → W w k * (W l b + 1) < W w b * (W l k + 1)
theorem IsNext.zero (w l : List Int) : IsNext w l 0 0 := ⟨.inr rfl, fun k h => by omega, fun k h => by omega⟩
theorem IsNext.keep {w l : List Int} {n b : Nat} (h : IsNext w l n b) (k : ¬ W w b * (W l n + 1) < W w n * (W l b + 1)) : IsNext w l (n + 1) b := by
  refine ⟨by have := h.lt; omega, fun i hi => ?_, fun i hi hb => ?_⟩
  · rcases Nat.lt_or_ge i n with z | z
    · exact h.all i z
    · obtain rfl : i = n := by omega
      omega
  · exact h.first i (by have := h.lt; omega) hb
theorem IsNext.take {w l : List Int} {n b : Nat} (hl : ∀ i, 0 ≤ W l i) (h : IsNext w l n b) (k : W w b * (W l n + 1) < W w n * (W l b + 1)) : IsNext w l (n + 1) n := by
  have key : ∀ i, i < n → W w i * (W l n + 1) < W w n * (W l i + 1) := by
    intro i hi
    have a := h.all i hi
    have l1 := hl i
    have l2 := hl n
    have l3 := hl b
    have a2 : W w i * (W l b + 1) * (W l n + 1) ≤ W w b * (W l i + 1) * (W l n + 1) := Int.mul_le_mul_of_nonneg_right a (by omega)
    have k2 : W w b * (W l n + 1) * (W l i + 1) < W w n * (W l b + 1) * (W l i + 1) := Int.mul_lt_mul_of_pos_right k (by omega)
    have e1 : W w b * (W l i + 1) * (W l n + 1) = W w b * (W l n + 1) * (W l i + 1) := by rw [Int.mul_assoc, Int.mul_assoc, Int.mul_comm (W l i + 1)]
    have e2 : W w i * (W l b + 1) * (W l n + 1) = W w i * (W l n + 1) * (W l b + 1) := by rw [Int.mul_assoc, Int.mul_assoc, Int.mul_comm (W l b + 1)]
    have e3 : W w n * (W l b + 1) * (W l i + 1) = W w n * (W l i + 1) * (W l b + 1) := by rw [Int.mul_assoc, Int.mul_assoc, Int.mul_comm (W l b + 1)]
    exact Int.lt_of_mul_lt_mul_right (show W w i * (W l n + 1) * (W l b + 1) < W w n * (W l i + 1) * (W l b + 1) by omega) (by omega)
  refine ⟨.inl (by omega), fun i hi => ?_, fun i hi hb => key i hb⟩
  rcases Nat.lt_or_ge i n with z | z
  · have := key i z; omega
  · obtain rfl : i = n := by omega
    exact Int.le_refl _
theorem exists_pos : ∀ {w : List Int}, NN w → 0 < w.sum → ∃ k, k < w.length ∧ 0 < W w k
  | [], _, h => by simp at h
  | x :: w, hw, h => by
    have h0 := hw 0
    rw [W_zero] at h0
    rcases Int.lt_or_le 0 x with z | z
    · exact ⟨0, by simp, z⟩
    · rw [List.sum_cons] at h
      obtain ⟨k, h1, h2⟩ := exists_pos (w := w) (fun i => hw (i + 1)) (by omega)
      exact ⟨k + 1, by simpa using h1, h2⟩
theorem IsNext.pos {w l : List Int} {b : Nat} (hw : NN w) (hs : 0 < w.sum) (hl : ∀ i, 0 ≤ W l i) (h : IsNext w l w.length b) : b < w.length ∧ 0 < W w b := by
  obtain ⟨k, h1, h2⟩ := exists_pos hw hs
  have a := h.all k h1
  have l1 := hl b
  have l2 := hl k
  have p : 0 < W w k * (W l b + 1) := Int.mul_pos h2 (by omega)
  refine ⟨by have := h.lt; omega, ?_⟩
  rcases Int.lt_or_le 0 (W w b) with z | z
  · exact z
  · have := hw b
    have e : W w b = 0 := by omega
    rw [e, Int.zero_mul] at a; omega
theorem shared_step {w l : List Int} {b : Nat} (hw : NN w) (hs : 0 < w.sum) (h : Shared w l) (k : IsNext w l w.length b) : Shared w (l.set b (W l b + 1)) := by
  obtain ⟨hb, hp⟩ := k.pos hw hs h.nn
  have hl := h.len
  have hbl : b < l.length := by omega
  have nb := h.nn b
  refine ⟨by rw [List.length_set]; exact hl, fun i => ?_, fun i j hi hj => ?_⟩
  · rw [W_set hbl]
    split
    · omega
    · exact h.nn i
  · rw [W_set hbl, W_set hbl]
    have nj := h.nn j
    by_cases h1 : i = b
    · subst h1
      rw [if_pos rfl]
      intro _
      by_cases h2 : j = i
      · subst h2
        rw [if_pos rfl]
        left
        exact Int.mul_lt_mul_of_pos_left (by omega) hp
      · rw [if_neg h2]
        have a := k.all j hj
        rcases Int.lt_or_le (W w j * (W l i + 1)) (W w i * (W l j + 1)) with z | z
        · exact .inl z
        · refine .inr ⟨by omega, ?_⟩
          rcases Nat.lt_or_ge j i with y | y
          · have := k.first j hj y; omega
          · exact y
    · rw [if_neg h1]
      intro hpi
      have a := h.best i j hi hj hpi
      by_cases h2 : j = b
      · subst h2
        rw [if_pos rfl]
        left
        have hwi : 0 < W w i := by
          have := hw i
          rcases Int.lt_or_le 0 (W w i) with z | z
          · exact z
          · have e : W w i = 0 := by omega
            rw [e, Int.zero_mul] at a
            have : 0 < W w j * W l i := Int.mul_pos hp hpi
            omega
        have : W w i * (W l j + 1) < W w i * (W l j + 1 + 1) := Int.mul_lt_mul_of_pos_left (by omega) hwi
        omega
      · rw [if_neg h2]; exact a
theorem sum_set : ∀ {l : List Int} {b : Nat}, b < l.length → ∀ x, (l.set b x).sum = l.sum - W l b + x
  | y :: l, 0, _, x => by rw [List.set_cons_zero, List.sum_cons, List.sum_cons, W_zero]; omega
  | y :: l, b + 1, h, x => by
    rw [List.set_cons_succ, List.sum_cons, List.sum_cons, W_succ, sum_set (by simpa using h) x]; omega
theorem shared_alone {w l : List Int} (h : Shared w l) {ix : List Nat} (hi : ∀ i ∈ ix, i < w.length) (ho : ix.Pairwise (· < ·)) : Shared (ix.map (W w)) (ix.map (W l)) := by
  refine ⟨by simp, fun i => ?_, fun i k hi' hk' => ?_⟩
  · rcases Nat.lt_or_ge i ix.length with z | z
    · rw [W_map _ z]; exact h.nn _
    · rw [W_out (by simpa using z)]; omega
  · rw [List.length_map] at hi' hk'
    rw [W_map _ hi', W_map _ hi', W_map _ hk', W_map _ hk']
    intro hp
    rcases h.best _ _ (hi _ (List.getElem_mem hi')) (hi _ (List.getElem_mem hk')) hp with a | ⟨a, a'⟩
    · exact .inl a
    · refine .inr ⟨a, ?_⟩
      rcases Nat.lt_or_ge k i with z | z
      · have := List.pairwise_iff_getElem.mp ho k i hk' hi' z; omega
      · exact z
open Classical in
noncomputable def shareL (w : List Int) (s : Int) : List Int := if h : ∃ l, Shared w l ∧ l.sum = s then h.choose else []
theorem shareL_eq {w l : List Int} {s : Int} (hw : NN w) (h : Shared w l) (hs : l.sum = s) : l = shareL w s := by
  have hx : ∃ l, Shared w l ∧ l.sum = s := ⟨l, h, hs⟩
  rw [shareL, dif_pos hx]
  have := hx.choose_spec
  exact shared_one hw h this.1 (by omega)
end Go.Sim

namespace Go.Sim
theorem exists_next (w l : List Int) (hl : ∀ i, 0 ≤ W l i) : ∀ n, ∃ b, IsNext w l n b
  | 0 => ⟨0, IsNext.zero w l⟩
  | n + 1 => by
    obtain ⟨b, h⟩ := exists_next w l hl n
    by_cases k : W w b * (W l n + 1) < W w n * (W l b + 1)
    · exact ⟨n, h.take hl k⟩
    · exact ⟨b, h.keep k⟩
theorem share_more {w : List Int} (hw : NN w) (hs : 0 < w.sum) : ∀ (k : Nat) {l : List Int}, Shared w l → ∃ m, Shared w m ∧ m.sum = l.sum + k
  | 0, l, h => ⟨l, h, by omega⟩
  | k + 1, l, h => by
    obtain ⟨b, hb⟩ := exists_next w l h.nn w.length
    have hbl := (hb.pos hw hs h.nn).1
    obtain ⟨m, h1, h2⟩ := share_more hw hs k (shared_step hw hs h hb)
    refine ⟨m, h1, ?_⟩
    rw [h2, sum_set (by rw [h.len]; exact hbl)]; omega
theorem share_is {w : List Int} (hw : NN w) (hs : 0 < w.sum) {s : Int} (h0 : 0 ≤ s) : Shared w (shareL w s) ∧ (shareL w s).sum = s := by
  have a := floors_shared hw h0 hs
  have b := floors_le (s := s) hs
  obtain ⟨m, h1, h2⟩ := share_more hw hs (s - (floors w s w.sum).sum).toNat a
  have h3 : m.sum = s := by omega
  rw [← shareL_eq hw h1 h3]
  exact ⟨h1, h3⟩
theorem sum_nn : ∀ {l : List Int}, NN l → 0 ≤ l.sum
  | [], _ => by simp
  | x :: l, h => by
    have a := h 0
    have b := sum_nn (l := l) fun i => h (i + 1)
    rw [W_zero] at a
    rw [List.sum_cons]; omega
theorem W_le_sum : ∀ {l : List Int}, NN l → ∀ i, W l i ≤ l.sum
  | [], _, i => by rw [W_nil]; simp
  | x :: l, h, i => by
    have a := h 0
    rw [W_zero] at a
    have b := sum_nn (l := l) fun i => h (i + 1)
    rw [List.sum_cons]
    cases i with
    | zero => rw [W_zero]; omega
    | succ i => have := W_le_sum (l := l) (fun i => h (i + 1)) i; rw [W_succ]; omega
theorem take_sum {l : List Int} {n : Nat} (h : n < l.length) : (l.take (n + 1)).sum = (l.take n).sum + W l n := by
  rw [List.take_succ_eq_append_getElem h, List.sum_append_int, W_at h]; simp
def pick (p : Nat → Bool) (n : Nat) : List Nat := (List.range n).filter p
theorem pick_succ (p : Nat → Bool) (n : Nat) : pick p (n + 1) = pick p n ++ if p n then [n] else [] := by
  rw [pick, pick, List.range_succ, List.filter_append]
  cases h : p n <;> simp [h]
theorem pick_lt {p : Nat → Bool} {n i : Nat} (h : i ∈ pick p n) : i < n ∧ p i = true := by
  rw [pick, List.mem_filter, List.mem_range] at h; exact h
theorem pick_mem {p : Nat → Bool} {n i : Nat} (h : i < n) (k : p i = true) : i ∈ pick p n := by
  rw [pick, List.mem_filter, List.mem_range]; exact ⟨h, k⟩
theorem pick_order (p : Nat → Bool) (n : Nat) : (pick p n).Pairwise (· < ·) := List.Pairwise.filter _ List.pairwise_lt_range
theorem pick_sum {p : Nat → Bool} {l : List Int} (h : ∀ i, p i = false → W l i = 0) : ((pick p l.length).map (W l)).sum = l.sum := by
  have key : ∀ n, n ≤ l.length → ((pick p n).map (W l)).sum = (l.take n).sum := by
    intro n
    induction n with
    | zero => intro _; simp [pick]
    | succ n ih =>
      intro hn
      rw [pick_succ, List.map_append, List.sum_append_int, ih (by omega), take_sum (by omega)]
      cases hp : p n with
      | true => simp
      | false => simp [h n hp]
  rw [key _ (Nat.le_refl _), List.take_of_length_le (Nat.le_refl _)]
structure DueN where
  r : Int
  a : Int
def ownR (D : List DueN) (r : Int) : List Int := D.map fun d => if d.r = r then d.a else 0
def DNN (D : List DueN) : Prop := ∀ d ∈ D, 0 ≤ d.a
theorem ownR_len (D : List DueN) (r : Int) : (ownR D r).length = D.length := by rw [ownR, List.length_map]
theorem ownR_nn {D : List DueN} (h : DNN D) (r : Int) : NN (ownR D r) := by
  intro i
  rcases Nat.lt_or_ge i D.length with q | q
  · rw [ownR, W_map _ q]
    split
    · exact h _ (List.getElem_mem q)
    · exact Int.le_refl _
  · rw [W_out (by rw [ownR_len]; exact q)]; exact Int.le_refl _
theorem ownR_at {D : List DueN} {i : Nat} (h : i < D.length) (r : Int) : W (ownR D r) i = if D[i].r = r then D[i].a else 0 := by rw [ownR, W_map _ h]
noncomputable def payR (D : List DueN) (r : Int) (s : Int) : List Int := if (ownR D r).sum ≤ s then ownR D r else shareL (ownR D r) s
structure Pays (o : List Int) (s : Int) (p : List Int) : Prop where
  len : p.length = o.length
  nn : NN p
  le : ∀ i, W p i ≤ W o i
  sum : 0 ≤ p.sum ∧ p.sum ≤ s
  all : p = o ∨ p.sum = s
theorem payR_pays {D : List DueN} (h : DNN D) (r : Int) {s : Int} (h0 : 0 ≤ s) : Pays (ownR D r) s (payR D r s) := by
  have hn := ownR_nn h r
  unfold payR
  by_cases hs : (ownR D r).sum ≤ s
  · rw [if_pos hs]
    exact ⟨rfl, hn, fun _ => Int.le_refl _, ⟨sum_nn hn, hs⟩, .inl rfl⟩
  · rw [if_neg hs]
    obtain ⟨a, b⟩ := share_is hn (show 0 < (ownR D r).sum by omega) h0
    exact ⟨a.len, a.nn, shared_mono hn a (shared_self hn) (by omega), by omega, .inr b⟩
noncomputable def leftN (D : List DueN) (s : Int) : Nat → Int
  | 0 => s
  | n + 1 => leftN D s n - (payR D (n : Int) (leftN D s n)).sum
noncomputable def paidAt (D : List DueN) (s : Int) (n : Nat) (i : Nat) : Int :=
  match D[i]? with
  | some d => if d.r < (n : Int) then W (payR D d.r (leftN D s d.r.toNat)) i else 0
  | none => 0
noncomputable def paidN (D : List DueN) (s : Int) (n : Nat) : List Int := (List.range D.length).map (paidAt D s n)
theorem paidN_len (D : List DueN) (s : Int) (n : Nat) : (paidN D s n).length = D.length := by simp [paidN]
theorem W_paidN {D : List DueN} {s : Int} {n i : Nat} (h : i < D.length) : W (paidN D s n) i = if D[i].r < (n : Int) then W (payR D D[i].r (leftN D s D[i].r.toNat)) i else 0 := by
  rw [paidN, W_map _ (by simpa using h), List.getElem_range, paidAt]
  simp [h]
theorem leftN_nn {D : List DueN} (h : DNN D) {s : Int} (h0 : 0 ≤ s) : ∀ n, 0 ≤ leftN D s n
  | 0 => h0
  | n + 1 => by
    have := (payR_pays h (n : Int) (leftN_nn h h0 n)).sum
    rw [leftN]; omega
theorem leftN_le {D : List DueN} (h : DNN D) {s : Int} (h0 : 0 ≤ s) {n m : Nat} (hnm : n ≤ m) : leftN D s m ≤ leftN D s n := by
  induction m with
  | zero => obtain rfl : n = 0 := by omega
            exact Int.le_refl _
  | succ m ih =>
    rcases Nat.lt_or_ge m n with q | q
    · obtain rfl : n = m + 1 := by omega
      exact Int.le_refl _
    · have := ih q
      have := (payR_pays h (m : Int) (leftN_nn h h0 m)).sum
      rw [leftN]; omega
def DIn (D : List DueN) : Prop := ∀ d ∈ D, 0 ≤ d.r ∧ d.r ≤ 9 ∧ 0 ≤ d.a ∧ d.a ≤ 67108864
theorem DIn.nn {D : List DueN} (h : DIn D) : DNN D := fun d hd => (h d hd).2.2.1
theorem payR_off {D : List DueN} (h : DNN D) {r s : Int} (h0 : 0 ≤ s) {i : Nat} (hi : i < D.length) (hr : D[i].r ≠ r) : W (payR D r s) i = 0 := by
  have p := payR_pays h r h0
  have a := p.le i
  have b := p.nn i
  rw [ownR_at hi, if_neg hr] at a
  omega
theorem paidN_succ {D : List DueN} (h : DIn D) {s : Int} (h0 : 0 ≤ s) (n : Nat) {i : Nat} (hi : i < D.length) : W (paidN D s (n + 1)) i = W (paidN D s n) i + W (payR D (n : Int) (leftN D s n)) i := by
  rw [W_paidN hi, W_paidN hi]
  have hd := h _ (List.getElem_mem hi)
  by_cases hr : D[i].r = (n : Int)
  · rw [if_pos (by omega), if_neg (by omega), hr]
    rw [Int.toNat_natCast]; omega
  · rw [payR_off h.nn (leftN_nn h.nn h0 n) hi hr]
    by_cases hl : D[i].r < (n : Int)
    · rw [if_pos (by omega), if_pos hl]; omega
    · rw [if_neg (by omega), if_neg hl]; rfl
noncomputable def settleL (l : List Int) (s : Int) : List Int := if l.sum ≤ s then l else shareL l s
theorem settle_pay {D : List DueN} (h : DNN D) {r s : Int} (h0 : 0 ≤ s) {p : Nat → Bool} (hp : ∀ i (hi : i < D.length), p i = decide (D[i].r = r)) : settleL ((pick p D.length).map (W (ownR D r))) s = (pick p D.length).map (W (payR D r s)) := by
  have hz : ∀ i, i < D.length → p i = false → W (ownR D r) i = 0 := fun i hi q => by
    rw [hp i hi] at q
    rw [ownR_at hi, if_neg (of_decide_eq_false q)]
  have hz' : ∀ i, (fun i => p i || decide (D.length ≤ i)) i = false → W (ownR D r) i = 0 := fun i q => by
    simp only [Bool.or_eq_false_iff, decide_eq_false_iff_not] at q
    exact hz i (by omega) q.1
  have epick : ∀ n, n ≤ D.length → pick p n = pick (fun i => p i || decide (D.length ≤ i)) n := fun n hn => by
    rw [pick, pick]
    refine List.filter_congr fun i hi => ?_
    rw [List.mem_range] at hi
    have : ¬ D.length ≤ i := by omega
    simp [this]
  have hsum : ((pick p D.length).map (W (ownR D r))).sum = (ownR D r).sum := by
    have := pick_sum (l := ownR D r) hz'
    rw [ownR_len] at this
    rw [epick _ (Nat.le_refl _)]; exact this
  have hn := ownR_nn h r
  unfold settleL payR
  rw [hsum]
  by_cases hs : (ownR D r).sum ≤ s
  · rw [if_pos hs, if_pos hs]
  · rw [if_neg hs, if_neg hs]
    have hpos : 0 < (ownR D r).sum := by omega
    obtain ⟨a, b⟩ := share_is hn hpos h0
    have c := shared_alone a (ix := pick p D.length) (fun i hi => by rw [ownR_len]; exact (pick_lt hi).1) (pick_order _ _)
    obtain ⟨k, hk1, hk2⟩ := exists_pos hn hpos
    have hzl : ∀ i, (fun i => p i || decide (D.length ≤ i)) i = false → W (shareL (ownR D r) s) i = 0 := fun i q => shared_zero hn a hk1 hk2 (hz' i q)
    have d := pick_sum (l := shareL (ownR D r) s) hzl
    rw [a.len, ownR_len, ← epick _ (Nat.le_refl _), b] at d
    refine (shareL_eq (fun i => ?_) c d).symm
    rcases Nat.lt_or_ge i (pick p D.length).length with q | q
    · rw [W_map _ q]; exact hn _
    · rw [W_out (by simpa using q)]; exact Int.le_refl _
end Go.Sim

namespace Go.Sim
open Go Go.RowKit
section
variable {P : Program} {told : ToldF} {draw tie : Bool} {d : Option Tmp} {ty0 : TypeId} {pos : String} {af : Array Edge} {gd : Option (Tmp × Bool)}
theorem flat_icells (L : List Int) : L.flatMap icells = L.map (Value.int .i64) := by
  induction L with
  | nil => rfl
  | cons x L ih => rw [List.flatMap_cons, ih]; rfl
theorem icells_flat_len (L : List Int) : (L.flatMap icells).length = L.length := by rw [flat_icells, List.length_map]
theorem icells_at {L : List Int} {i : Nat} (h : i < L.length) : (L.flatMap icells)[i]? = some (.int .i64 (W L i)) := by
  rw [flat_icells, List.getElem?_map, W_at h]; simp [h]
theorem setL_ic (L : List Int) (i : Nat) (x : Int) : setL (L.flatMap icells) i (.int .i64 x) = (L.set i x).flatMap icells := by
  rw [setL_eq, flat_icells, flat_icells, List.map_set]
theorem Own.icell {w : AW} {b : Nat} {e : TypeId} {L : List Int} (h : Own w b e (L.flatMap icells)) {i : Nat} (hi : i < L.length) : w.cell? ⟨b, i, none⟩ = some (.int .i64 (W L i)) := h.cell (icells_at hi) rfl
theorem Own.arr {α : Type} {w : AW} {b : Nat} {e : TypeId} {enc : α → List Value} {z : Nat} {L : List α} (h : Own w b e (L.flatMap enc)) (hz : ∀ x, (enc x).length = z) (h1 : ∀ x, ∀ v ∈ enc x, oneCell v = true) (hl : L.length ≤ 140737488355328) : ArrOf w z enc (.slice (some ⟨b, 0, none⟩) L.length L.length) L := by
  refine ⟨_, _, _, rfl, by simp, Nat.le_refl _, by omega, fun _ => ⟨b, 0, rfl, h.lt, fun i j r x hi hx => ?_⟩⟩
  rw [List.getElem?_map] at hi
  obtain ⟨y, hy, rfl⟩ := Option.map_eq_some_iff.mp hi
  have hj : j < z := by
    rw [← hz y]
    rcases Nat.lt_or_ge j (enc y).length with q | q
    · exact q
    · rw [List.getElem?_eq_none q] at hx; cases hx
  rw [Nat.zero_add]
  have hx' : (L.flatMap enc)[i * z + j]? = some x := by rw [flatMap_get hz L i j y hy hj]; exact hx
  exact h.cell hx' (h1 y x (List.mem_of_getElem? hx))
theorem Own.iarr {w : AW} {b : Nat} {e : TypeId} {L : List Int} (h : Own w b e (L.flatMap icells)) (hl : L.length ≤ 140737488355328) : ArrOf w 1 icells (.slice (some ⟨b, 0, none⟩) L.length L.length) L := h.arr icells_len icells_one hl
theorem makeSliceV_room {g : Prg} {w : AW} {ty e : TypeId} {a1 a2 : Bool} {n1 b1 n2 b2 : Nat} {d2 : TypeDesc} {z1 z2 : Value} (h : g.ty ty = some ⟨a1, .slice e, n1, b1, z1⟩) (h2 : g.ty e = some ⟨a2, d2, n2, b2, z2⟩) {q q' : IntKind} {n : Nat} (hn : n ≤ 1048576) (hb : b2 ≤ 1048576) (hs : n2 ≤ 1048576) (hz : z2.cells.size = n2) :
    makeSliceV g w ty (.int q 0) (.int q' (n : Int)) = some (.slice (some ⟨w.next, 0, none⟩) 0 n, w.push (.cells (List.replicate n z2.cells.toList).flatten e w.next 0 0)) := by
  have c : (Nat.ble 0 n && Nat.ble n bound && Nat.ble b2 bound && Nat.ble n2 bound && Nat.beq z2.cells.size n2 && !w.full) = true := by
    have : bound = 1048576 := rfl
    simp only [Bool.and_eq_true]
    refine ⟨⟨⟨⟨⟨Nat.ble_eq_true_of_le (Nat.zero_le _), Nat.ble_eq_true_of_le (by omega)⟩, Nat.ble_eq_true_of_le (by omega)⟩, Nat.ble_eq_true_of_le (by omega)⟩, by rw [hz]; exact Nat.beq_refl _⟩, rfl⟩
  show (match g.ty ty, (Value.int q (Int.ofNat 0)), (Value.int q' (Int.ofNat n)) with
    | some ⟨_, .slice e, _, _, _⟩, .int _ (.ofNat l), .int _ (.ofNat c) =>
      match g.ty e with
      | some ⟨_, _, size, bytes, zero⟩ =>
        match Nat.ble l c && Nat.ble c bound && Nat.ble bytes bound && Nat.ble size bound && Nat.beq zero.cells.size size && !w.full with
        | true => some (Value.slice (some ⟨w.next, 0, none⟩) l c, w.push (.cells (List.flatten (List.replicate c zero.cells.toList)) e w.next 0 0))
        | false => none
      | none => none
    | _, _, _ => none) = _
  simp only [h, h2, c]
theorem step_makeSliceK {ty : TypeId} {l : Value} {c : Tmp} {t : Tmps} {w : AW} {K : Tmps → AW → Prop} {tk : Tok ((⟨d, .makeSlice ty (.const l) (.tmp c), ty0, pos, af, gd⟩ : Oper), t, w, K)} : StepR P told draw tie ⟨d, .makeSlice ty (.const l) (.tmp c), ty0, pos, af, gd⟩ t w K tk =
    Then (makeSliceV (prg P) w ty l (ev t (.tmp c))) (fun r => Owes (draw && tie) (WLe w r.2) (K (putTmp t d r.1) r.2) .mk) .mk := rfl
attribute [go_sem] step_makeSliceK
theorem append_in {g : Prg} {w : AW} {ty e e' : TypeId} {a1 a2 : Bool} {n1 b1 b2 : Nat} {d2 : TypeDesc} {z1 z2 : Value} (h : g.ty ty = some ⟨a1, .slice e, n1, b1, z1⟩) (h2 : g.ty e = some ⟨a2, d2, 1, b2, z2⟩) (hz : z2.cells.size = 1) (hb2 : b2 ≤ 1048576)
    {b i n : Nat} {c : List Value} (hO : Own w b e c) (f : Fresh w) (hi : i < n) (hc : c.length = n) (hn : n ≤ 1048576) (x : Int) :
    append g (w.push (.cells [.int .i64 x] e' w.next 0 0)) ty ty (.slice (some ⟨b, 0, none⟩) i n) (.slice (some ⟨w.next, 0, none⟩) 1 1) = some (.slice (some ⟨b, 0, none⟩) (i + 1) n, (w.push (.cells [.int .i64 x] e' w.next 0 0)).put b (.cells (setL c i (.int .i64 x)) e b 0 0)) := by
  have cond : (Nat.beq z2.cells.size 1 && Nat.ble (i + 1) room && Nat.ble ((i + 1) * b2) room && Nat.ble 1 1 && Nat.beq ty ty) = true := by
    have : room = 140737488355328 := rfl
    have hp := Nat.mul_le_mul (show i + 1 ≤ 1048576 by omega) hb2
    simp only [Bool.and_eq_true]
    exact ⟨⟨⟨⟨by rw [hz]; rfl, Nat.ble_eq_true_of_le (by omega)⟩, Nat.ble_eq_true_of_le (by omega)⟩, rfl⟩, Nat.beq_refl _⟩
  have hN := Own.new f e' [.int .i64 x]
  have hO1 := hO.push (.cells [.int .i64 x] e' w.next 0 0)
  generalize w.push (.cells [.int .i64 x] e' w.next 0 0) = u at *
  have hnew : aNew u 1 1 (.slice (some ⟨w.next, 0, none⟩) 1 1) = some [.int .i64 x] := by
    have : aFirst u 1 1 (.slice (some ⟨w.next, 0, none⟩) 1 1) = some [.int .i64 x] := by
      show aCells _ w.next 0 (1 * 1) = _
      exact aCells_of [.int .i64 x] 0 fun k v hv => by
        rw [Nat.zero_add]
        exact hN.cell hv (by
          match k with
          | 0 => simp at hv; subst hv; rfl
          | k + 1 => simp at hv)
    unfold aNew; rw [this]
  have hle : Nat.ble (i + 1) n = true := Nat.ble_eq_true_of_le (by omega)
  have hst : aStores b (0 + i * 1) [.int .i64 x] u = some (u.put b (.cells (setL c i (.int .i64 x)) e b 0 0)) := by
    rw [Nat.zero_add, Nat.mul_one]
    have hi' : i < c.length := by omega
    have := store_own (o := i) hO1.blk hO1.fam (u := c[i]) (by rw [getL_eq]; simp [hi']) (show oneCell (.int .i64 x) = true from rfl)
    simp only [aStores, this]
  unfold append
  simp only [h, h2, cond, hnew, hle, hst]
end
end Go.Sim

namespace Go.Sim
open Go Go.RowKit
theorem strike_same {me cls j i : Nat} {w : AW} {c : List Value} {e r z : Nat} (h : w.blk i = some (.cells c e r 0 z)) : ∃ c', (strike me cls w j).blk i = some (.cells c' e r 0 z) ∧ c'.length = c.length ∧ (i = me → c' = c) := by
  by_cases hij : i = j
  · subst hij
    unfold strike
    cases hb : Nat.beq i me with
    | true => exact ⟨c, h, rfl, fun _ => rfl⟩
    | false =>
      have hne : i ≠ me := fun q => by rw [q, Nat.beq_refl] at hb; cases hb
      simp only [h]
      split
      · split
        · exact ⟨_, by rw [AW.blk_put _ _ _ _ (Trie.in_ _) (Trie.in_ _), if_pos rfl], by rw [setL_eq, List.length_set], fun q => absurd q hne⟩
        · exact ⟨c, h, rfl, fun _ => rfl⟩
      · exact ⟨c, h, rfl, fun _ => rfl⟩
  · rw [strike_other hij]; exact ⟨c, h, rfl, fun _ => rfl⟩
theorem strikes_same {me cls i e r z : Nat} : ∀ (l : List Nat) {w : AW} {c : List Value}, w.blk i = some (.cells c e r 0 z) → ∃ c', (strikes me cls l w).blk i = some (.cells c' e r 0 z) ∧ c'.length = c.length ∧ (i = me → c' = c)
  | [], w, c, h => ⟨c, h, rfl, fun _ => rfl⟩
  | j :: l, w, c, h => by
    obtain ⟨c1, h1, h2, h3⟩ := strike_same (me := me) (cls := cls) (j := j) h
    obtain ⟨c2, k1, k2, k3⟩ := strikes_same (me := me) (cls := cls) l h1
    exact ⟨c2, k1, by omega, fun q => by rw [k3 q, h3 q]⟩
end Go.Sim

namespace Go.Sim
open Go Go.RowKit
theorem append_anyS {g : Prg} {u : AW} {S : Nat → Prop} {ty e : TypeId} {a1 a2 : Bool} {n1 b1 size b2 : Nat} {d2 : TypeDesc} {z1 z2 : Value} (h : g.ty ty = some ⟨a1, .slice e, n1, b1, z1⟩) (h2 : g.ty e = some ⟨a2, d2, size, b2, z2⟩) (hz : z2.cells.size = size) (hb2 : b2 ≤ 1048576) (hs : 1 ≤ size)
    {v : Value} {n : Nat} {cells : List Value} (hv1 : AOwnS S u e size v n cells) (f1 : Fresh u) {p : Option Addr} {cap : Nat} {new : List Value} (hnew : aFirst u size 1 (.slice p 1 cap) = some new) (hlen : new.length = size) (h1 : ∀ y ∈ new, oneCell y = true) (hroom : n + 1 ≤ 1048576) :
    ∃ v' w', append g u ty ty v (.slice p 1 cap) = some (v', w') ∧ AOwnS (fun j => S j ∨ j = u.next) w' e size v' (n + 1) (cells ++ new) ∧ Fresh w' ∧ w'.next = u.next + 1 ∧
      (∀ j, j < u.next → w'.blk j = u.blk j) ∧ (∀ j, j < u.next → ¬ S j → w'.family j = u.family j) ∧ WLe u w' := by
  have cond : (Nat.beq z2.cells.size size && Nat.ble (n + 1) room && Nat.ble ((n + 1) * b2) room && Nat.ble 1 size && Nat.beq ty ty) = true := by
    have : room = 140737488355328 := rfl
    have hp := Nat.mul_le_mul hroom hb2
    simp only [Bool.and_eq_true]
    exact ⟨⟨⟨⟨by rw [hz]; exact Nat.beq_refl _, Nat.ble_eq_true_of_le (by omega)⟩, Nat.ble_eq_true_of_le (by omega)⟩, Nat.ble_eq_true_of_le hs⟩, Nat.beq_refl _⟩
  have hle : ∀ k, Nat.ble (k + 1) k = false := fun k => by
    cases q : Nat.ble (k + 1) k with
    | false => rfl
    | true => have := Nat.le_of_ble_eq_true q; omega
  have hfull : u.full = false := rfl
  have wle : ∀ w' : AW, (∀ j, j < u.next → w'.blk j = u.blk j) → WLe u w' := fun w' hw j y hj => by
    by_cases q : j < u.next
    · rw [hw j q]; exact hj
    · rw [f1.1 j (by omega)] at hj; cases hj
  rcases hv1 with ⟨rfl, rfl, rfl⟩ | ⟨b, r, rfl, q1, q2, q3, q4, q5, q6, q8, q7⟩
  · refine ⟨.slice (some ⟨u.next, 0, none⟩) (0 + 1) (0 + 1), u.push (.cells ([] ++ new) e u.next 0 size), ?_, .inr ⟨u.next, u.next, rfl, .inr rfl, by rw [AW.next_push]; omega, .inr rfl, by rw [AW.next_push]; omega, blk_push_top _ _, by simp [hlen], by simpa using h1, fun j hj => ?_⟩, f1.push _, by rw [AW.next_push],
      fun j hj => blk_push_ne hj _, fun j hj _ => AW.family_push _ _ _, wle _ fun j hj => blk_push_ne hj _⟩
    · have hnil : aFirst u size 0 (.slice none 0 0) = some [] := rfl
      unfold append
      simp only [h, h2, cond, aNew, hnew, hle, hnil, AW.grow, hfull]
    · rw [AW.family_push, f1.2 _ (Nat.le_refl _)] at hj
      simp only [members, List.mem_singleton] at hj
      subst hj
      exact ⟨.inr rfl, by rw [AW.next_push]; omega, _, _, blk_push_top _ _, by simp [hlen]⟩
  · have hsz0 : Nat.beq size 0 = false := by rw [nbeq]; simp; omega
    have hszz : Nat.beq size size = true := Nat.beq_refl _
    have hold : aFirst u size n (.slice (some ⟨b, 0, none⟩) n n) = some cells := by
      show aCells u b 0 (n * size) = some cells
      rw [← q6]
      exact aCells_of cells 0 fun i y hy => by simp only [AW.cell?, q5, Nat.zero_add, getL_eq, hy, q8 y (List.mem_of_getElem? hy)]
    have hstr : struckOver u.next (members (u.family r) r) (1 * size) (0 + 0 + n * size) u = u := struckOver_none _ _ _ _ _ fun j hj => by
      obtain ⟨_, _, c, e', a, b⟩ := q7 j hj
      exact ⟨c, e', r, size, a, by omega⟩
    have hbk : ∀ j, (u.lay r (members (u.family r) r) (.cells (cells ++ new) e r (0 + 0) size)).blk j = if j = u.next then some (.cells (cells ++ new) e r (0 + 0) size) else u.blk j := fun j => AW.blk_lay _ _ _ _ _ (Trie.in_ _) (Trie.in_ _)
    have hfm : ∀ j, (u.lay r (members (u.family r) r) (.cells (cells ++ new) e r (0 + 0) size)).family j = if j = r then u.next :: members (u.family r) r else u.family j := fun j => AW.family_lay _ _ _ _ _ (Trie.in_ _) (Trie.in_ _)
    refine ⟨.slice (some ⟨u.next, 0, none⟩) (n + 1) (n + 1), u.lay r (members (u.family r) r) (.cells (cells ++ new) e r (0 + 0) size), ?_, .inr ⟨u.next, r, rfl, .inr rfl, by rw [AW.next_lay]; omega, .inl q3, by rw [AW.next_lay]; omega, by rw [hbk, if_pos rfl], by rw [List.length_append, q6, hlen, Nat.add_mul, Nat.one_mul], fun y hy => ?_, fun j hj => ?_⟩, ⟨fun i hi => ?_, fun i hi => ?_⟩, by rw [AW.next_lay],
      fun j hj => by rw [hbk, if_neg (by omega)], fun j hj hS => ?_, wle _ fun j hj => by rw [hbk, if_neg (by omega)]⟩
    · unfold append
      simp only [h, h2, cond, aNew, hnew, hle, hold, AW.grow, hfull, q5, hsz0, hszz, hstr]
    · rcases List.mem_append.mp hy with q | q
      · exact q8 y q
      · exact h1 y q
    · rw [hfm, if_pos rfl] at hj
      simp only [members] at hj
      rcases List.mem_cons.mp hj with q | q
      · subst q
        exact ⟨.inr rfl, by rw [AW.next_lay]; omega, _, _, by rw [hbk, if_pos rfl], by rw [List.length_append, q6, hlen, Nat.add_mul]; omega⟩
      · obtain ⟨c1, c2, c, e', c3, c4⟩ := q7 j q
        exact ⟨.inl c1, by rw [AW.next_lay]; omega, c, e', by rw [hbk, if_neg (by omega)]; exact c3, by rw [Nat.add_mul]; omega⟩
    · rw [AW.next_lay] at hi
      rw [hbk, if_neg (by omega)]; exact f1.1 i (by omega)
    · rw [AW.next_lay] at hi
      rw [hfm, if_neg (by omega)]; exact f1.2 i (by omega)
    · rw [hfm, if_neg (fun q => hS (by subst q; exact q3))]
end Go.Sim
