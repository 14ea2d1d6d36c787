/- Sets, labour and prices; one fake less. -/
import Derived.Test.YteeheldahpoppaaGreatLb
set_option linter.unusedVariables false
set_option linter.unusedSimpArgs false
/- The cheapest set: what is known of sets, labour and prices. -/
namespace Go.Proofs
open Go Go.RowKit Go.Sim
set_option maxRecDepth 100000
def Asc (n : Nat) (L : List Int) : Prop := L.Pairwise (· < ·) ∧ ∀ i ∈ L, 0 ≤ i ∧ i < (n : Int)
theorem okTo_lt {n : Nat} {set : List Int} : ∀ {k i j : Nat}, okTo n set k = true → i < j → j < k → set.getD i 0 < set.getD j 0
  | 0, _, _, _, _, h => by omega
  | k + 1, i, j, h, hi, hj => by
    rw [okTo_succ, Bool.and_eq_true] at h
    by_cases e : j = k
    · subst e
      have h2 := ((inR_iff _ _ _).1 h.2).1
      have h0 : ¬ j = 0 := by omega
      simp only [prevS, h0, if_false] at h2
      by_cases e2 : i = j - 1
      · rw [e2]; omega
      · have := okTo_lt (i := i) (j := j - 1) h.1 (by omega) (by omega)
        omega
    · exact okTo_lt h.1 hi (by omega)
theorem Asc.of {n : Nat} {L : List Int} (h : okTo n L L.length = true) : Asc n L := by
  refine ⟨List.pairwise_iff_getElem.mpr fun i j hi hj hij => ?_, okTo_all h⟩
  have := okTo_lt h hij hj
  rwa [getD_at hi, getD_at hj] at this
theorem Asc.ok {n : Nat} {L : List Int} (h : Asc n L) : okTo n L L.length = true := by
  rw [okTo, List.all_eq_true]
  intro j hj
  have hj' : j < L.length := by simpa using hj
  have hb := h.2 _ (List.getElem_mem hj')
  refine (inR_iff _ _ _).2 ?_
  rw [getD_at hj', prevS]
  by_cases h0 : j = 0
  · rw [if_pos h0]; omega
  · rw [if_neg h0, getD_at (show j - 1 < L.length by omega)]
    have := List.pairwise_iff_getElem.mp h.1 (j - 1) j (by omega) hj' (by omega)
    omega
theorem setOf_asc (n b : Nat) : Asc n (setOf n b) := by
  refine ⟨?_, setOf_in n b⟩
  rw [setOf, List.pairwise_map]
  exact (List.Pairwise.filter _ List.pairwise_lt_range).imp fun h => by omega
theorem bits_of : ∀ (n : Nat) (p : Nat → Bool), ∃ b, b < 2 ^ n ∧ ∀ k, k < n → bitZ b k = p k
  | 0, p => ⟨0, by simp, fun k hk => by omega⟩
  | n + 1, p => by
    obtain ⟨b, hb, h⟩ := bits_of n (fun k => p (k + 1))
    refine ⟨2 * b + (p 0).toNat, ?_, fun k hk => ?_⟩
    · rw [Nat.pow_succ]; have := Bool.toNat_le (p 0); omega
    · cases k with
      | zero =>
        simp only [bitZ, Nat.pow_zero, Nat.div_one]
        cases p 0 <;> simp <;> omega
      | succ k =>
        have := h k (by omega)
        rw [← this]
        simp only [bitZ]
        congr 2
        rw [Nat.pow_succ', ← Nat.div_div_eq_div_mul]
        have : (2 * b + (p 0).toNat) / 2 = b := by have := Bool.toNat_le (p 0); omega
        rw [this]
theorem asc_is : ∀ (n : Nat) (L : List Int), Asc n L → ∃ p : Nat → Bool, ((List.range n).filter p).map (fun (i : Nat) => (i : Int)) = L
  | 0, L, h => by
    cases L with
    | nil => exact ⟨fun _ => false, rfl⟩
    | cons x l => have := h.2 x List.mem_cons_self; omega
  | n + 1, L, h => by
    by_cases hn : (n : Int) ∈ L
    · obtain ⟨L1, L2, rfl⟩ := List.append_of_mem hn
      have hp := List.pairwise_append.mp h.1
      have h2 : L2 = [] := by
        cases L2 with
        | nil => rfl
        | cons y l =>
          have := (List.pairwise_cons.mp hp.2.1).1 y List.mem_cons_self
          have := h.2 y (by simp)
          omega
      subst h2
      obtain ⟨p, hq⟩ := asc_is n L1 ⟨hp.1, fun i hi => ⟨(h.2 i (by simp [hi])).1, hp.2.2 i hi _ (by simp)⟩⟩
      refine ⟨fun k => if k = n then true else p k, ?_⟩
      rw [List.range_succ, List.filter_append, List.map_append, ← hq]
      congr 1
      · congr 1
        exact List.filter_congr fun k hk => by rw [List.mem_range] at hk; rw [if_neg (by omega)]
      · simp
    · obtain ⟨p, hq⟩ := asc_is n L ⟨h.1, fun i hi => by
        have := h.2 i hi
        have : i ≠ (n : Int) := fun e => hn (e ▸ hi)
        omega⟩
      refine ⟨fun k => if k = n then false else p k, ?_⟩
      rw [List.range_succ, List.filter_append, List.map_append, ← hq]
      have : ((List.filter (fun k => if k = n then false else p k) [n]).map fun (i : Nat) => (i : Int)) = [] := by simp
      rw [this, List.append_nil]
      congr 1
      exact List.filter_congr fun k hk => by rw [List.mem_range] at hk; rw [if_neg (by omega)]
theorem Asc.setOf {n : Nat} {L : List Int} (h : Asc n L) : ∃ b, b < 2 ^ n ∧ Go.Proofs.setOf n b = L := by
  obtain ⟨p, hp⟩ := asc_is n L h
  obtain ⟨b, hb, hk⟩ := bits_of n p
  refine ⟨b, hb, ?_⟩
  rw [← hp, Go.Proofs.setOf]
  congr 1
  exact List.filter_congr fun k hk2 => hk k (List.mem_range.mp hk2)
section
variable {ms : List (Int × Int)} {rs : List Int} {fss : List (List (Int × Int))}
/-- What Least comes to. -/
theorem least_is (h8 : ms.length ≤ 8) :
    ((leastOf ms rs fss).1 = false ∧ ∀ L, Asc ms.length L → showsB ms rs fss L = false) ∨
    ((leastOf ms rs fss).1 = true ∧ Asc ms.length (leastOf ms rs fss).2.2 ∧ (leastOf ms rs fss).2.1 = labZ ms (leastOf ms rs fss).2.2 ∧ showsB ms rs fss (leastOf ms rs fss).2.2 = true ∧
      ∀ L, Asc ms.length L → showsB ms rs fss L = true → (leastOf ms rs fss).2.1 ≤ labZ ms L) := by
  obtain ⟨hall, hpair, hfull⟩ := all_sets h8
  have hb := bestOf_ok ms rs fss (allFrom ms.length ms.length [] 0) [] (by simpa using hpair) (false, 0, []) (.inl ⟨rfl, fun L hL => by cases hL⟩)
  simp only [List.nil_append] at hb
  rw [show (allFrom ms.length ms.length [] 0).foldl (stepL ms rs fss) (false, 0, []) = leastOf ms rs fss from rfl] at hb
  rcases hb with ⟨h1, h2⟩ | ⟨h1, h2, h3, h4, h5⟩
  · exact .inl ⟨h1, fun L hL => h2 L ((hall L).2 hL.setOf)⟩
  · refine .inr ⟨h1, ?_, h3, h4, fun L hL hs => ?_⟩
    · obtain ⟨b, _, e⟩ := (hall _).1 h2
      rw [← e]; exact setOf_asc _ _
    · rcases h5 L ((hall L).2 hL.setOf) hs with e | e
      · rw [h3, e]; exact Int.le_refl _
      · rw [h3]
        simp only [betterZ, Bool.or_eq_true, Bool.and_eq_true, decide_eq_true_eq] at e
        omega
theorem sumZ_le {f g : Int → Int} : ∀ {L : List Int}, (∀ i ∈ L, f i ≤ g i) → sumZ f L ≤ sumZ g L
  | [], _ => by simp [sumZ]
  | x :: l, h => by
    have := sumZ_le (L := l) fun i hi => h i (List.mem_cons_of_mem _ hi)
    have := h x List.mem_cons_self
    simp only [sumZ, List.map_cons, List.sum_cons] at *
    omega
theorem sumZ_zero : ∀ L : List Int, sumZ (fun _ => 0) L = 0
  | [] => rfl
  | x :: l => by
    have := sumZ_zero l
    simp only [sumZ, List.map_cons, List.sum_cons] at *
    omega
theorem sumZ_add {f g : Int → Int} : ∀ {L : List Int}, sumZ (fun i => f i + g i) L = sumZ f L + sumZ g L
  | [] => by simp [sumZ]
  | x :: l => by
    have := sumZ_add (f := f) (g := g) (L := l)
    simp only [sumZ, List.map_cons, List.sum_cons] at *
    omega
theorem sumZ_ge {f : Int → Int} {x : Int} : ∀ {L : List Int}, (∀ i ∈ L, 0 ≤ f i) → x ∈ L → f x ≤ sumZ f L
  | [], _, h => by cases h
  | y :: l, h0, h => by
    have h1 := h0 y List.mem_cons_self
    have h2 : 0 ≤ sumZ f l := by
      have := sumZ_le (f := fun _ => 0) (g := f) (L := l) fun i hi => h0 i (List.mem_cons_of_mem _ hi)
      rwa [sumZ_zero] at this
    simp only [sumZ, List.map_cons, List.sum_cons] at *
    rcases List.mem_cons.mp h with rfl | h
    · omega
    · have := sumZ_ge (f := f) (fun i hi => h0 i (List.mem_cons_of_mem _ hi)) h
      simp only [sumZ] at this
      omega
/-- Prices are paid by those that find. -/
theorem prices_le {ps L : List Int} (hp : ∀ p ∈ ps, 0 ≤ p) (hL : ∀ i ∈ L, 0 ≤ i) (hs : showsB ms rs fss L = true) :
    ∀ n, n ≤ fss.length → n ≤ ps.length → sumZ id (ps.take n) ≤ sumZ (fun i => paidTo ms rs fss ps n i.toNat) L
  | 0, _, _ => by
    have : sumZ (fun i => paidTo ms rs fss ps 0 i.toNat) L = sumZ (fun _ => 0) L := rfl
    have h2 := sumZ_le (f := fun _ => 0) (g := fun i => paidTo ms rs fss ps 0 i.toNat) (L := L) fun i _ => Int.le_refl _
    rw [List.take_zero]
    rw [sumZ_zero] at h2
    exact h2
  | n + 1, h1, h2 => by
    have ih := prices_le hp hL hs n (by omega) (by omega)
    have e : (fun i : Int => paidTo ms rs fss ps (n + 1) i.toNat) = fun i : Int => paidTo ms rs fss ps n i.toNat + if findAt ms rs (fss.getD n []) (i.toNat : Int) = true then ps.getD n 0 else 0 := by
      funext i; exact paidTo_succ _ _ _ _ _ _
    rw [e, sumZ_add, List.take_succ_eq_append_getElem (by omega), sumZ_snoc]
    have hpn : 0 ≤ ps[n] := hp _ (List.getElem_mem _)
    have hf := List.all_eq_true.mp hs fss[n] (List.getElem_mem _)
    obtain ⟨x, hx, hfx⟩ := List.any_eq_true.mp hf
    have hge := sumZ_ge (f := fun i : Int => if findAt ms rs (fss.getD n []) (i.toNat : Int) = true then ps.getD n 0 else 0) (x := x) (L := L)
      (fun i _ => by split; · rw [getD_at (show n < ps.length by omega)]; exact hpn
                     · exact Int.le_refl _) hx
    have hx0 : ((x.toNat : Nat) : Int) = x := Int.toNat_of_nonneg (hL x hx)
    rw [getD_at (show n < fss.length by omega), getD_at (show n < ps.length by omega)] at hge ⊢
    rw [hx0, if_pos hfx] at hge
    have : id ps[n] = ps[n] := rfl
    rw [this]
    omega
theorem bound_le (h8 : ms.length ≤ 8) {ps : List Int} (hb : boundOk ms rs fss ps = true) (hl : (leastOf ms rs fss).1 = true) : sumZ id ps ≤ (leastOf ms rs fss).2.1 := by
  rw [boundOk, Bool.and_eq_true] at hb
  obtain ⟨hlen, hps⟩ := okPr_in hb.1
  rcases least_is (rs := rs) (fss := fss) h8 with ⟨h1, _⟩ | ⟨_, ha, he, hs, _⟩
  · rw [h1] at hl; cases hl
  have h := prices_le (ps := ps) (L := (leastOf ms rs fss).2.2) (fun p hp => (hps p hp).1) (fun i hi => (ha.2 i hi).1) hs fss.length (Nat.le_refl _) (by omega)
  rw [List.take_of_length_le (by omega)] at h
  refine Int.le_trans h ?_
  rw [he, labZ]
  refine sumZ_le fun i hi => ?_
  have hi2 := ha.2 i hi
  have := List.all_eq_true.mp hb.2 i.toNat (by simp; omega)
  exact of_decide_eq_true this
/-- One fake less. -/
theorem fewer_le (h8 : ms.length ≤ 8) {fs : List (Int × Int)} (hl : (leastOf ms rs (fs :: fss)).1 = true) : (leastOf ms rs fss).1 = true ∧ (leastOf ms rs fss).2.1 ≤ (leastOf ms rs (fs :: fss)).2.1 := by
  rcases least_is (rs := rs) (fss := fs :: fss) h8 with ⟨h1, _⟩ | ⟨_, ha, he, hs, _⟩
  · rw [h1] at hl; cases hl
  have hs2 : showsB ms rs fss (leastOf ms rs (fs :: fss)).2.2 = true := by
    rw [showsB, List.all_cons, Bool.and_eq_true] at hs
    exact hs.2
  rcases least_is (rs := rs) (fss := fss) h8 with ⟨_, h2⟩ | ⟨h1, _, _, _, h5⟩
  · rw [h2 _ ha] at hs2; cases hs2
  · exact ⟨h1, by rw [he]; exact h5 _ ha hs2⟩
end
end Go.Proofs

/- The cheapest set: what the law asks, of what is answered; one fake less, in memory. -/
namespace Go.Proofs
open Go Go.RowKit Go.Sim
set_option maxRecDepth 100000
theorem ask_len {ms : List (Int × Int)} {rs : List Int} {fss : List (List (Int × Int))} (h : askE ms [rs] fss = 0) : okMs ms = true ∧ okRs ms.length rs = true ∧ okFs ms.length fss = true := by
  by_cases h1 : okMs ms = true
  · by_cases h2 : okRs ms.length rs = true
    · by_cases h3 : okFs ms.length fss = true
      · exact ⟨h1, h2, h3⟩
      · simp [askE, h1, h2, h3] at h
    · simp [askE, h1, h2] at h
  · simp [askE, h1] at h
theorem ask_of {ms : List (Int × Int)} {rs : List Int} {fss : List (List (Int × Int))} (h1 : okMs ms = true) (h2 : okRs ms.length rs = true) (h3 : okFs ms.length fss = true) : askE ms [rs] fss = 0 := by
  simp [askE, h1, h2, h3]
theorem ask_not4 (ms : List (Int × Int)) (rs : List Int) (fss : List (List (Int × Int))) : askE ms [rs] fss ≠ 4 := by
  unfold askE; repeat' split
  all_goals omega
theorem okMs_lab {ms : List (Int × Int)} (h : okMs ms = true) : ms.length ≤ 8 ∧ ∀ m ∈ ms, 1 ≤ m.2 ∧ m.2 ≤ 1000 := by
  simp only [okMs, Bool.and_eq_true, decide_eq_true_eq, List.all_eq_true] at h
  refine ⟨h.1.2, fun m hm => ?_⟩
  have := h.2 m hm
  simp only [okM, Bool.and_eq_true] at this
  exact (inR_iff _ _ _).1 this.2
section
variable {ms : List (Int × Int)} {rs : List Int} {fss : List (List (Int × Int))}
theorem least_zero (h : leastE ms rs fss = 0) : askE ms [rs] fss = 0 ∧ (leastOf ms rs fss).1 = true ∧ leastN ms rs fss = (leastOf ms rs fss).2.1 ∧ leastS ms rs fss = (leastOf ms rs fss).2.2 := by
  have h0 := h
  rw [leastE] at h
  split at h
  · rename_i h1
    split at h
    · rename_i h2
      exact ⟨h1, h2, by rw [leastN, if_pos h0], by rw [leastS, if_pos h0]⟩
    · omega
  · rename_i h1; exact absurd h h1
theorem least_of (h1 : askE ms [rs] fss = 0) (h2 : (leastOf ms rs fss).1 = true) : leastE ms rs fss = 0 := by rw [leastE, if_pos h1, if_pos h2]
theorem shows_zero {set : List Int} (h : showsE ms rs fss set = 0) : askE ms [rs] fss = 0 ∧ okTo ms.length set set.length = true := by
  rw [showsE] at h
  split at h
  · rename_i h1
    split at h
    · rename_i h2; exact ⟨h1, h2⟩
    · omega
  · rename_i h1; exact absurd h h1
theorem showsR_parts {set : List Int} (h : showsR ms rs fss set = true) : showsE ms rs fss set = 0 ∧ showsB ms rs fss set = true := by
  rw [showsR, Bool.and_eq_true, decide_eq_true_eq] at h; exact h
/-- None finds all: then this one does not either. -/
theorem least_none (set : List Int) (h : leastE ms rs fss = 4) : showsR ms rs fss set = false := by
  rw [← Bool.not_eq_true]
  intro hR
  obtain ⟨hE, hB⟩ := showsR_parts hR
  obtain ⟨hA, hok⟩ := shows_zero hE
  rw [leastE, if_pos hA] at h
  split at h
  · omega
  rename_i h1
  rcases least_is (rs := rs) (fss := fss) (okMs_lab (ask_len hA).1).1 with ⟨_, q⟩ | ⟨q, _⟩
  · rw [q _ (Asc.of hok)] at hB; cases hB
  · exact h1 q
/-- What Least answers shows all fakes, and its labour is what is said. -/
theorem least_own (h : leastE ms rs fss = 0) : showsE ms rs fss (leastS ms rs fss) = 0 ∧ showsR ms rs fss (leastS ms rs fss) = true ∧ Asc ms.length (leastS ms rs fss) ∧ labZ ms (leastS ms rs fss) = leastN ms rs fss := by
  obtain ⟨hA, h1, hN, hS⟩ := least_zero h
  rcases least_is (rs := rs) (fss := fss) (okMs_lab (ask_len hA).1).1 with ⟨q, _⟩ | ⟨_, ha, he, hs, _⟩
  · rw [q] at h1; cases h1
  rw [← hS] at ha he hs
  have hE : showsE ms rs fss (leastS ms rs fss) = 0 := by rw [showsE, if_pos hA, if_pos ha.ok]
  exact ⟨hE, by rw [showsR, hE, hs]; rfl, ha, by rw [hN, he]⟩
theorem least_less (h : leastE ms rs fss = 0) {set : List Int} (hR : showsR ms rs fss set = true) : leastN ms rs fss ≤ labZ ms set := by
  obtain ⟨hA, h1, hN, hS⟩ := least_zero h
  obtain ⟨hE, hB⟩ := showsR_parts hR
  rcases least_is (rs := rs) (fss := fss) (okMs_lab (ask_len hA).1).1 with ⟨q, _⟩ | ⟨_, _, _, _, q⟩
  · rw [q] at h1; cases h1
  rw [hN]; exact q _ (Asc.of (shows_zero hE).2) hB
theorem least_bound (h : leastE ms rs fss = 0) {ps : List Int} (hb : boundE ms rs fss ps = 0) : boundR ms rs fss ps ≤ leastN ms rs fss := by
  obtain ⟨hA, h1, hN, hS⟩ := least_zero h
  rw [boundR, if_pos hb, hN]
  refine bound_le (okMs_lab (ask_len hA).1).1 ?_ h1
  rw [boundE, if_pos hA] at hb
  split at hb
  · assumption
  · omega
theorem Asc.len {n : Nat} {L : List Int} (h : Asc n L) : L.length ≤ n := by
  obtain ⟨b, _, e⟩ := h.setOf
  rw [← e]; exact setOf_len _ _
theorem lab_in (hM : okMs ms = true) {L : List Int} (hL : ∀ i ∈ L, 0 ≤ i ∧ i < (ms.length : Int)) : ∀ i ∈ L, 0 ≤ labAt ms i ∧ labAt ms i ≤ 1000 := fun i hi => by
  obtain ⟨a, b⟩ := hL i hi
  obtain ⟨k, rfl⟩ := Int.eq_ofNat_of_zero_le a
  have hk : k < ms.length := by omega
  have := (okMs_lab hM).2 _ (List.getElem_mem hk)
  rw [labAt, Int.toNat_natCast, getD_at hk]; omega
theorem least_empty (h : leastE ms rs [] = 0) : leastN ms rs [] = 0 := by
  obtain ⟨hA, h1, hN, hS⟩ := least_zero h
  obtain ⟨_, _, ha, hl⟩ := least_own h
  have h2 := sumZ_in (lab_in (ask_len hA).1 ha.2)
  have h3 : showsR ms rs [] [] = true := by
    have : showsE ms rs [] [] = 0 := by rw [showsE, if_pos hA]; rfl
    rw [showsR, this]; rfl
  have h4 := least_less h h3
  have h5 : labZ ms [] = 0 := rfl
  rw [labZ] at hl
  omega
theorem least_fewer {fs : List (Int × Int)} (h : leastE ms rs (fs :: fss) = 0) : leastE ms rs fss = 0 ∧ leastN ms rs fss ≤ leastN ms rs (fs :: fss) := by
  obtain ⟨hA, h1, hN, hS⟩ := least_zero h
  obtain ⟨a, b, c⟩ := ask_len hA
  have hA2 : askE ms [rs] fss = 0 := by
    refine ask_of a b ?_
    simp only [okFs, Bool.and_eq_true, decide_eq_true_eq, List.length_cons, List.all_cons] at c ⊢
    exact ⟨by omega, c.2.2⟩
  obtain ⟨h2, h3⟩ := fewer_le (okMs_lab a).1 h1
  have h4 := least_of hA2 h2
  refine ⟨h4, ?_⟩
  rw [(least_zero h4).2.2.1, hN]
  exact h3
end
/- One fake less. -/
theorem sliceV_given {w : AW} {b o n k : Nat} {cs : List Value} (hb : w.blk b = some (.given cs)) (h1 : 1 ≤ n) (h2 : n ≤ k) :
    sliceV w 1 (.slice (some ⟨b, o, none⟩) n k) (some (.int .i64 1)) none = some (.slice (some ⟨b, bif Nat.beq k 1 then o else o + 1 * 1, none⟩) (n - 1) (k - 1)) := by
  have e1 : Nat.ble 1 n = true := Nat.ble_eq.mpr h1
  have e2 : Nat.ble n k = true := Nat.ble_eq.mpr h2
  have e3 : natOr 0 (some (.int .i64 1)) = some 1 := rfl
  have e4 : natOr n none = some n := rfl
  simp only [sliceV, e3, e4, e1, e2, hb, Bool.and_self]
theorem Tryz.sl36 (t : Tmps) (w : AW) (x l : Operand) : fast (prg Tryz.prog) t w (.slice 36 x (some l) none none) = sliceV w 1 (ev t x) (some (ev t l)) none := by
  simp only [fast, Tryz.ty36, Tryz.ty40, Option.map]
theorem Fks.tail {w : AW} {b o n k : Nat} {fs : List (Int × Int)} {fss : List (List (Int × Int))} (h : Fks w (.slice (some ⟨b, o, none⟩) n k) (fs :: fss)) :
    Fks w (.slice (some ⟨b, bif Nat.beq k 1 then o else o + 1 * 1, none⟩) (n - 1) (k - 1)) fss := by
  obtain ⟨vs, hl, ⟨p, m, cap, e, hm, hmc, hcap, hat⟩, hr⟩ := h
  injection e with e1 e2 e3
  subst e1 e2 e3
  cases vs with
  | nil => simp at hl
  | cons v vt =>
    simp only [List.map_cons, List.length_cons, List.length_map] at hm hl
    refine ⟨vt, by omega, ⟨_, n - 1, k - 1, rfl, by simp; omega, by omega, by omega, fun hn => ?_⟩, fun i v' fs' h1 h2 => hr (i + 1) v' fs' (by simpa using h1) (by simpa using h2)⟩
    obtain ⟨bb, oo, e, hb, hc⟩ := hat (by omega)
    injection e with e
    injection e with e1 e2 e3
    subst e1 e2
    have hk : Nat.beq k 1 = false := Bool.eq_false_iff.mpr fun q => by have := Nat.eq_of_beq_eq_true q; omega
    refine ⟨b, _, rfl, hb, fun i j r x hi hx => ?_⟩
    have := hc (i + 1) j r x (by simpa using hi) hx
    rw [hk]
    rw [← this]
    congr 2
    simp only [cond_false]
    omega
theorem given_fakesG {w : AW} {n : Nat} {cs : List Value} (h : Hd Tryz.prog w n 36 cs) : ∃ v, cs = [v] ∧ (∃ fss, Fks w v fss) ∧ GivenAt w v := by
  have h' := given_fakes h
  cases n with
  | zero => exact h.elim
  | succ n =>
    simp only [Hd, Tryz.und36, Tryz.cells40] at h
    obtain ⟨v, rows, e, ha, hr, hgv⟩ := h
    obtain ⟨v', e', q⟩ := h'
    rw [e] at e'; injection e' with e'; subst e'
    exact ⟨v, e, q, hgv⟩
theorem given_skillG {w : AW} {n : Nat} {v : Value} (h : HdV Tryz.prog w n 38 v) : ∃ a b c ms rs fss, v = .agg #[a, b, c] ∧ ArrOf w 2 mcells a ms ∧ ArrOf w 1 icells b rs ∧ Fks w c fss ∧ GivenAt w c := by
  simp only [HdV, Tryz.und38] at h
  obtain ⟨cs, rfl, h⟩ := h
  cases n with
  | zero => exact h.elim
  | succ n =>
    simp only [Hd, Tryz.und38] at h
    obtain ⟨parts, e, hl, hp⟩ := h
    match parts, hl with
    | [p, q, r], _ =>
      obtain ⟨a, rfl, xs, hx⟩ := given_measuresC (hp 0 _ p rfl rfl)
      obtain ⟨b, rfl, ys, hy⟩ := given_ints (hp 1 _ q rfl rfl)
      obtain ⟨c, rfl, ⟨zs, hz⟩, hg⟩ := given_fakesG (hp 2 _ r rfl rfl)
      refine ⟨a, b, c, xs, ys, zs, ?_, hx, hy, hz, hg⟩
      rw [show cs = cs.toList.toArray from rfl, e]; rfl
end Go.Proofs
