/- Loops over functions in open calls; rows that grow in more than one way; the code of Least. -/
import Derived.Test.YteeheldahpoppaaGreatNb
import Derived.Test.YteeheldahpoppaaGreatTa
set_option linter.unusedVariables false
set_option linter.unusedSimpArgs false
/- Several rows of one's own beside each other: which blocks are whose. -/
namespace Go.Sim
open Go Go.RowKit
def AOwnS (S : Nat → Prop) (w : AW) (e : TypeId) (size : Nat) (v : Value) (n : Nat) (cells : List Value) : Prop :=
  (v = .slice none 0 0 ∧ n = 0 ∧ cells = []) ∨
  ∃ b r, v = .slice (some ⟨b, 0, none⟩) n n ∧ S b ∧ b < w.next ∧ S r ∧ r < w.next ∧ w.blk b = some (.cells cells e r 0 size) ∧ cells.length = n * size ∧ (∀ x ∈ cells, oneCell x = true) ∧
    ∀ j ∈ members (w.family r) r, S j ∧ j < w.next ∧ ∃ c e', w.blk j = some (.cells c e' r 0 size) ∧ c.length ≤ n * size
theorem AOwnS.own {S : Nat → Prop} {w : AW} {e : TypeId} {size n : Nat} {v : Value} {cells : List Value} (h : AOwnS S w e size v n cells) : AOwn 0 w e size v n cells := by
  rcases h with h | ⟨b, r, a1, a2, a3, a4, a5, a6, a7, a9, a8⟩
  · exact .inl h
  · exact .inr ⟨b, r, a1, Nat.zero_le _, a3, Nat.zero_le _, a5, a6, a7, a9, fun j hj => let ⟨_, c, d⟩ := a8 j hj; ⟨Nat.zero_le _, c, d⟩⟩
/-- What is not touched stays. -/
theorem AOwnS.keepS {S : Nat → Prop} {w w' : AW} {e : TypeId} {size n : Nat} {v : Value} {cells : List Value} (h : AOwnS S w e size v n cells) (hb : ∀ j, j < w.next → w'.blk j = w.blk j) (hf : ∀ j, j < w.next → S j → w'.family j = w.family j) (hn : w.next ≤ w'.next) : AOwnS S w' e size v n cells := by
  rcases h with h | ⟨b, r, a1, a2, a3, a4, a5, a6, a7, a9, a8⟩
  · exact .inl h
  · refine .inr ⟨b, r, a1, a2, by omega, a4, by omega, by rw [hb b a3]; exact a6, a7, a9, fun j hj => ?_⟩
    rw [hf r a5 a4] at hj
    obtain ⟨c1, c2, c, e', c3, c4⟩ := a8 j hj
    exact ⟨c1, by omega, c, e', by rw [hb j c2]; exact c3, c4⟩
theorem AOwnS.keep {S : Nat → Prop} {w w' : AW} {e : TypeId} {size n : Nat} {v : Value} {cells : List Value} (h : AOwnS S w e size v n cells) (k : Keep w.next w w') : AOwnS S w' e size v n cells :=
  h.keepS (fun j hj => k.blk j hj) (fun j hj _ => k.fam j hj) k.next
theorem AOwnS.isSlice {S : Nat → Prop} {w : AW} {e : TypeId} {size n : Nat} {v : Value} {cells : List Value} (h : AOwnS S w e size v n cells) : ∃ p n c, v = .slice p n c := by
  rcases h with ⟨rfl, _⟩ | ⟨_, _, rfl, _⟩
  · exact ⟨_, _, _, rfl⟩
  · exact ⟨_, _, _, rfl⟩
/-- One element, appended from a new block, to a row whose blocks are known. -/
theorem append_oneS {g : Prg} {w : AW} {S : Nat → Prop} {ty e e' : TypeId} {a1 a2 : Bool} {n1 b1 size b2 : Nat} {d2 : TypeDesc} {z1 z2 : Value} (h : g.ty ty = some ⟨a1, .slice e, n1, b1, z1⟩) (h2 : g.ty e = some ⟨a2, d2, size, b2, z2⟩) (hz : z2.cells.size = size) (hb2 : b2 ≤ 1048576) (hs : 1 ≤ size)
    {v : Value} {n : Nat} {cells : List Value} (hv : AOwnS S w e size v n cells) (f : Fresh w) {new : List Value} (hlen : new.length = size) (h1 : ∀ y ∈ new, oneCell y = true) (hroom : n + 1 ≤ 1048576) :
    ∃ v' w', append g (w.push (.cells new e' w.next 0 0)) ty ty v (.slice (some ⟨w.next, 0, none⟩) 1 1) = some (v', w') ∧ AOwnS (fun j => S j ∨ j = w.next + 1) w' e size v' (n + 1) (cells ++ new) ∧ Fresh w' ∧ w'.next = w.next + 2 ∧
      (∀ j, j < w.next → w'.blk j = w.blk j) ∧ (∀ j, j < w.next → ¬ S j → w'.family j = w.family j) ∧ Apnd w w' := by
  have hv1 := hv.keep ((Keep.refl w.next w).push (Nat.le_refl _) (.cells new e' w.next 0 0))
  have f1 := f.push (.cells new e' w.next 0 0)
  have hO := Own.new f e' new
  have hap := Apnd.push w (.cells new e' w.next 0 0)
  have hn1 : (w.push (.cells new e' w.next 0 0)).next = w.next + 1 := AW.next_push _ _
  have hfa : ∀ j, (w.push (.cells new e' w.next 0 0)).family j = w.family j := fun j => AW.family_push _ _ _
  generalize w.push (.cells new e' w.next 0 0) = u at *
  have hnew : aFirst u size 1 (.slice (some ⟨w.next, 0, none⟩) 1 1) = some new := by
    show aCells _ w.next 0 (1 * size) = _
    rw [Nat.one_mul, ← hlen]
    exact aCells_of new 0 fun k v hv => by rw [Nat.zero_add]; exact hO.cell hv (h1 v (List.mem_of_getElem? hv))
  have cond : (Nat.beq z2.cells.size size && Nat.ble (n + 1) bound && Nat.ble b2 bound && Nat.ble 1 size && Nat.beq ty ty) = true := by
    have : bound = 1048576 := rfl
    simp only [Bool.and_eq_true]
    exact ⟨⟨⟨⟨by rw [hz]; exact Nat.beq_refl _, Nat.ble_eq_true_of_le (by omega)⟩, Nat.ble_eq_true_of_le (by omega)⟩, Nat.ble_eq_true_of_le hs⟩, Nat.beq_refl _⟩
  have hle : ∀ k, Nat.ble (k + 1) k = false := fun k => by
    cases q : Nat.ble (k + 1) k with
    | false => rfl
    | true => have := Nat.le_of_ble_eq_true q; omega
  have hfull : u.full = false := rfl
  rcases hv1 with ⟨rfl, rfl, rfl⟩ | ⟨b, r, rfl, q1, q2, q3, q4, q5, q6, q8, q7⟩
  · refine ⟨.slice (some ⟨u.next, 0, none⟩) (0 + 1) (0 + 1), u.push (.cells ([] ++ new) e u.next 0 size), ?_, .inr ⟨u.next, u.next, rfl, .inr hn1, by rw [AW.next_push]; omega, .inr hn1, by rw [AW.next_push]; omega, blk_push_top _ _, by simp [hlen], by simpa using h1, fun j hj => ?_⟩, f1.push _, by rw [AW.next_push]; omega,
      fun j hj => by rw [blk_push_ne (by omega)]; exact hap.blk j hj, fun j hj _ => by rw [AW.family_push]; exact hfa j, hap.trans (Apnd.push u _)⟩
    · have hnil : aFirst u size 0 (.slice none 0 0) = some [] := rfl
      unfold append
      simp only [h, h2, cond, hnew, hle, hnil, AW.grow, hfull]
    · rw [AW.family_push, f1.2 _ (Nat.le_refl _)] at hj
      simp only [members, List.mem_singleton] at hj
      subst hj
      exact ⟨.inr hn1, by rw [AW.next_push]; omega, _, _, blk_push_top _ _, by simp [hlen]⟩
  · have hsz0 : Nat.beq size 0 = false := by rw [nbeq]; simp; omega
    have hszz : Nat.beq size size = true := Nat.beq_refl _
    have hold : aFirst u size n (.slice (some ⟨b, 0, none⟩) n n) = some cells := by
      show aCells u b 0 (n * size) = some cells
      rw [← q6]
      exact aCells_of cells 0 fun i y hy => by simp only [AW.cell?, q5, Nat.zero_add, getL_eq, hy, q8 y (List.mem_of_getElem? hy)]
    have hstr : struckOver u.next (members (u.family r) r) (1 * size) (0 + 0 + n * size) u = u := struckOver_none _ _ _ _ _ fun j hj => by
      obtain ⟨_, _, c, e', a, b⟩ := q7 j hj
      exact ⟨c, e', r, size, a, by omega⟩
    have hbk : ∀ j, (u.lay r (members (u.family r) r) (.cells (cells ++ new) e r (0 + 0) size)).blk j = if j = u.next then some (.cells (cells ++ new) e r (0 + 0) size) else u.blk j := fun j => AW.blk_lay _ _ _ _ _ (Trie.in_ _) (Trie.in_ _)
    have hfm : ∀ j, (u.lay r (members (u.family r) r) (.cells (cells ++ new) e r (0 + 0) size)).family j = if j = r then u.next :: members (u.family r) r else u.family j := fun j => AW.family_lay _ _ _ _ _ (Trie.in_ _) (Trie.in_ _)
    refine ⟨.slice (some ⟨u.next, 0, none⟩) (n + 1) (n + 1), u.lay r (members (u.family r) r) (.cells (cells ++ new) e r (0 + 0) size), ?_, .inr ⟨u.next, r, rfl, .inr hn1, by rw [AW.next_lay]; omega, .inl q3, by rw [AW.next_lay]; omega, by rw [hbk, if_pos rfl], by rw [List.length_append, q6, hlen, Nat.add_mul, Nat.one_mul], fun y hy => ?_, fun j hj => ?_⟩, ⟨fun i hi => ?_, fun i hi => ?_⟩, by rw [AW.next_lay]; omega,
      fun j hj => by rw [hbk, if_neg (by omega)]; exact hap.blk j hj, fun j hj hS => ?_, hap.trans ⟨fun j hj => by rw [hbk, if_neg (by omega)], fun j c e' hj hb hfam => ?_, by rw [AW.next_lay]; omega⟩⟩
    · unfold append
      simp only [h, h2, cond, hnew, hle, hold, AW.grow, hfull, q5, hsz0, hszz, hstr]
    · rcases List.mem_append.mp hy with q | q
      · exact q8 y q
      · exact h1 y q
    · rw [hfm, if_pos rfl] at hj
      simp only [members] at hj
      rcases List.mem_cons.mp hj with q | q
      · subst q
        exact ⟨.inr hn1, by rw [AW.next_lay]; omega, _, _, by rw [hbk, if_pos rfl], by rw [List.length_append, q6, hlen, Nat.add_mul]; omega⟩
      · obtain ⟨c1, c2, c, e', c3, c4⟩ := q7 j q
        exact ⟨.inl c1, by rw [AW.next_lay]; omega, c, e', by rw [hbk, if_neg (by omega)]; exact c3, by rw [Nat.add_mul]; omega⟩
    · rw [AW.next_lay] at hi
      rw [hbk, if_neg (by omega)]; exact f1.1 i (by omega)
    · rw [AW.next_lay] at hi
      rw [hfm, if_neg (by omega)]; exact f1.2 i (by omega)
    · rw [hfm, if_neg (fun q => hS (by subst q; exact q3))]; exact hfa j
    · rw [hfm]
      split
      · rename_i hjr
        subst hjr
        obtain ⟨_, _, c2, e2, hc2, _⟩ := q7 j (by rw [hfam]; simp [members])
        rw [hb] at hc2
        injection hc2 with hc2
        injection hc2 with _ _ _ _ hz0
        omega
      · rfl
end Go.Sim

/- Loops over functions, in open calls; rows that grow in more than one way. -/
namespace Go.Sim
open Go Go.RowKit
section
variable {P : Program} {told : ToldF}

theorem Left_one {rs : List ResultVar} {e : Ex} {t : Tmps} {b : Nat} {ds : List Nat} {w : AW} {Q : Value → AW → Prop} (hb : w.blk b = some (.deferred (some []))) (h : Left (P := P) rs e t ds (w.put b (.deferred none)) Q) : Left (P := P) rs e t (b :: ds) w Q := by
  obtain ⟨h1, w1, vs, h2, h3, h4⟩ := h
  exact ⟨h1, w1, vs, by simp only [aunwind, hb]; exact h2, h3, h4⟩

/-- A loop over a function, in a function's own code, that is not left early. -/
theorem codeT_range {env : Env} (hr : env.round = none) {f : Operand} {ps : Array Tmp} {a b : Code} {t : Tmps} {ds : List Nat} {w : AW} {Q : Ex → Tmps → List Nat → AW → Prop} {fn : Fn} {first cap : Array Value} (hf : ev t f = .func fn first cap)
    (h : CallT P told (.fn fn cap) (first ++ #[.func (.yield (w.next + 1)) #[] #[]]) ((w.push (.deferred (some []))).push (.loop ⟨.ready, none, env.fn, t, ps, a, b, w.next⟩)) fun _ w' =>
      ∃ lp : ALoop, w'.blk (w.next + 1) = some (.loop lp) ∧ lp.state = .ready ∧ lp.pending = none ∧ ∀ W, W = w'.put (w.next + 1) (.loop { lp with state := .exhausted }) → Q .normal t (w.next :: ds) W) :
    CodeT P told env (.rangeFunc f ps a b) t ds w Q := by
  obtain ⟨N, v, w', h1, lp, h2, h3, h4, h5⟩ := h
  refine ⟨N + 1, .normal, t, w.next :: ds, _, fun F n m hF hn hm => ?_, h5 _ rfl⟩
  obtain ⟨m, rfl⟩ : ∃ k, m = k + 1 := ⟨m - 1, by omega⟩
  have hfull : w.full = false := rfl
  have hn1 : (w.push (.deferred (some []))).next = w.next + 1 := AW.next_push _ _
  obtain ⟨st, pd, f1, t1, p1, a1, b1, d1⟩ := lp
  simp only at h3 h4
  subst h3 h4
  simp only [acode, aloop, hfull, aboutLoop, hr, hf, hn1, h1 F n (by omega) (by omega), ofCall, endLoopA, h2]

/-- A round of a loop over a function that goes on. -/
theorem callT_yield {l : Nat} {cap args : Array Value} {w : AW} {Q : Value → AW → Prop} {lp : ALoop} (hl : w.blk l = some (.loop lp)) (hs : Nat.beq args.size lp.params.size = true)
    (h : CodeT P told { fn := lp.fn, round := some l } lp.assign (putAll lp.tmps (lp.params.toList.zip args.toList)) [] w fun e t1 ds1 w1 => e = .normal ∧ ∃ lp1 : ALoop, w1.blk l = some (.loop lp1) ∧ lp1.state = .ready ∧
      CodeT P told { fn := lp.fn, round := some l } lp.body t1 ds1 (w1.put l (.loop { lp1 with state := .busy })) fun e2 t2 ds2 w2 => e2 = .normal ∧ ds2 = [] ∧ ∃ lp2 : ALoop, w2.blk l = some (.loop lp2) ∧ Q (.bool true) (w2.put l (.loop { lp2 with state := .ready, pending := none }))) :
    CallT P told (.fn (.yield l) cap) args w Q := by
  obtain ⟨N, e, t1, ds1, w1, h1, rfl, lp1, h2, h3, N2, e2, t2, ds2, w2, k1, rfl, rfl, lp2, k2, k3⟩ := h
  refine ⟨N + N2 + 1, .bool true, _, fun F n hF hn => ?_, k3⟩
  obtain ⟨n, rfl⟩ : ∃ k, n = k + 1 := ⟨n - 1, by omega⟩
  obtain ⟨st, pd, f1, t0, p1, a1, b1, d1⟩ := lp
  obtain ⟨st1, pd1, f2, t3, p2, a2, b2, d2⟩ := lp1
  obtain ⟨st2, pd2, f3, t4, p3, a3, b3, d3⟩ := lp2
  simp only at h3
  subst h3
  simp only at hs h1 k1
  simp only [acall, around, hl, hs, roundBody, h1 F n F (by omega) (by omega) (by omega), h2, k1 F n F (by omega) (by omega) (by omega), doneWith, adone, k2]
end

/- Rows that grow in more than one way. -/
def ic (n : Int) : List Value := [.int .i64 n]
/-- A list whose elements lie in a block of a family that grows: what comes behind the elements may change. C: the blocks of such families. -/
def Chain (C : Nat → Prop) (w : AW) (v : Value) (L : List Int) : Prop :=
  (v = .slice none 0 0 ∧ L = []) ∨
  ∃ b r, v = .slice (some ⟨b, 0, none⟩) L.length L.length ∧ (C b ∧ 0 < L.length) ∧ b < w.next ∧ C r ∧ r < w.next ∧ w.blk b = some (.cells (L.flatMap ic) 3 r 0 1) ∧
    ∀ j ∈ members (w.family r) r, C j ∧ j < w.next ∧ ∃ c e', w.blk j = some (.cells c e' r 0 1)
theorem ic_len (L : List Int) : (L.flatMap ic).length = L.length := by
  induction L with
  | nil => rfl
  | cons x L ih => rw [List.flatMap_cons, List.length_append, ih, List.length_cons]; simp only [ic, List.length_cons, List.length_nil]; omega
theorem ic_one {L : List Int} : ∀ v ∈ L.flatMap ic, oneCell v = true := by
  intro v hv
  obtain ⟨x, _, hx⟩ := List.mem_flatMap.mp hv
  simp [ic] at hx; subst hx; rfl
theorem strike_other {me cls j i : Nat} {w : AW} (h : i ≠ j) : (strike me cls w j).blk i = w.blk i := by
  unfold strike
  split
  · rfl
  · split
    · split
      · split
        · rw [AW.blk_put _ _ _ _ (Trie.in_ _) (Trie.in_ _), if_neg h]
        · rfl
      · rfl
    · rfl
theorem strike_short {me cls j i : Nat} {w : AW} {c : List Value} {e r z : Nat} (h : w.blk i = some (.cells c e r 0 z)) (hc : c.length ≤ cls) : (strike me cls w j).blk i = some (.cells c e r 0 z) := by
  by_cases hij : i = j
  · subst hij
    unfold strike
    split
    · exact h
    · simp only [h]
      have h1 : Nat.ble 0 cls = true := Nat.ble_eq_true_of_le (Nat.zero_le _)
      have h2 : getL c (cls - 0) = none := by rw [getL_eq, Nat.sub_zero]; exact List.getElem?_eq_none hc
      simp only [h1, h2, h]
  · rw [strike_other hij]; exact h
theorem strike_form {me cls j i : Nat} {w : AW} {c : List Value} {e r z : Nat} (h : w.blk i = some (.cells c e r 0 z)) : ∃ c', (strike me cls w j).blk i = some (.cells c' e r 0 z) := by
  by_cases hij : i = j
  · subst hij
    unfold strike
    split
    · exact ⟨_, h⟩
    · simp only [h]
      split
      · split
        · rw [AW.blk_put _ _ _ _ (Trie.in_ _) (Trie.in_ _), if_pos rfl]; exact ⟨_, rfl⟩
        · exact ⟨_, h⟩
      · exact ⟨_, h⟩
  · rw [strike_other hij]; exact ⟨_, h⟩
theorem strike_fam {me cls j i : Nat} {w : AW} : (strike me cls w j).family i = w.family i ∧ (strike me cls w j).next = w.next := by
  unfold strike
  split
  · exact ⟨rfl, rfl⟩
  · split
    · split
      · split
        · exact ⟨AW.family_put _ _ _ _, AW.next_put _ _ _⟩
        · exact ⟨rfl, rfl⟩
      · exact ⟨rfl, rfl⟩
    · exact ⟨rfl, rfl⟩
theorem strikes_all (me cls : Nat) : ∀ (l : List Nat) (w : AW), (∀ i, ¬ i ∈ l → (strikes me cls l w).blk i = w.blk i) ∧
    (∀ i c e r z, w.blk i = some (.cells c e r 0 z) → c.length ≤ cls → (strikes me cls l w).blk i = some (.cells c e r 0 z)) ∧
    (∀ i c e r z, w.blk i = some (.cells c e r 0 z) → ∃ c', (strikes me cls l w).blk i = some (.cells c' e r 0 z)) ∧ (∀ i, (strikes me cls l w).family i = w.family i) ∧ (strikes me cls l w).next = w.next
  | [], w => ⟨fun _ _ => rfl, fun _ _ _ _ _ h _ => h, fun _ _ _ _ _ h => ⟨_, h⟩, fun _ => rfl, rfl⟩
  | j :: l, w => by
    obtain ⟨a, b, c, d, e⟩ := strikes_all me cls l (strike me cls w j)
    refine ⟨fun i hi => ?_, fun i c0 e0 r0 z0 h hc => b i _ _ _ _ (strike_short h hc) hc, fun i c0 e0 r0 z0 h => ?_, fun i => (d i).trans strike_fam.1, e.trans (strike_fam (i := 0)).2⟩
    · rw [strikes, a i (fun q => hi (List.mem_cons_of_mem _ q))]
      exact strike_other fun q => hi (by rw [q]; exact List.mem_cons_self)
    · obtain ⟨c1, h1⟩ := strike_form (me := me) (cls := cls) (j := j) h
      exact c i _ _ _ _ h1
theorem Chain.isSlice {C : Nat → Prop} {w : AW} {v : Value} {L : List Int} (h : Chain C w v L) : ∃ p n c, v = .slice p n c := by
  rcases h with ⟨rfl, _⟩ | ⟨_, _, rfl, _⟩
  · exact ⟨_, _, _, rfl⟩
  · exact ⟨_, _, _, rfl⟩
/-- What is in C stays. -/
structure Above (C : Nat → Prop) (w w' : AW) : Prop where
  blk : ∀ j, C j → j < w.next → w'.blk j = w.blk j
  fam : ∀ j, C j → j < w.next → w'.family j = w.family j
  next : w.next ≤ w'.next
theorem Above.refl (C : Nat → Prop) (w : AW) : Above C w w := ⟨fun _ _ _ => rfl, fun _ _ _ => rfl, Nat.le_refl _⟩
theorem Above.trans {C : Nat → Prop} {a b c : AW} (h : Above C a b) (k : Above C b c) : Above C a c :=
  ⟨fun j hC hj => (k.blk j hC (by have := h.next; omega)).trans (h.blk j hC hj), fun j hC hj => (k.fam j hC (by have := h.next; omega)).trans (h.fam j hC hj), Nat.le_trans h.next k.next⟩
theorem Above.of {C : Nat → Prop} {w w' : AW} (h : Keep w.next w w') : Above C w w' := ⟨fun j _ hj => h.blk j hj, fun j _ hj => h.fam j hj, h.next⟩
theorem Above.put {C : Nat → Prop} {w : AW} {b : Nat} (h : ¬ C b) (k : Blk) : Above C w (w.put b k) :=
  ⟨fun j hj _ => by rw [AW.blk_put _ _ _ _ (Trie.in_ _) (Trie.in_ _), if_neg (by rintro rfl; exact h hj)], fun j _ _ => by rw [AW.family_put], by rw [AW.next_put]; exact Nat.le_refl _⟩
theorem Chain.above {C : Nat → Prop} {w w' : AW} {v : Value} {L : List Int} (h : Chain C w v L) (k : Above C w w') : Chain C w' v L := by
  have hn := k.next
  rcases h with h | ⟨b, r, h1, h2, h3, h4, h5, h6, h7⟩
  · exact .inl h
  · refine .inr ⟨b, r, h1, h2, by omega, h4, by omega, by rw [k.blk b h2.1 h3]; exact h6, fun j hj => ?_⟩
    rw [k.fam r h4 h5] at hj
    obtain ⟨a1, a2, c, e', a3⟩ := h7 j hj
    exact ⟨a1, by omega, c, e', by rw [k.blk j a1 a2]; exact a3⟩
theorem Chain.mono {C C' : Nat → Prop} {w : AW} {v : Value} {L : List Int} (h : Chain C w v L) (k : ∀ j, C j → C' j) : Chain C' w v L := by
  rcases h with h | ⟨b, r, h1, h2, h3, h4, h5, h6, h7⟩
  · exact .inl h
  · exact .inr ⟨b, r, h1, ⟨k b h2.1, h2.2⟩, h3, k r h4, h5, h6, fun j hj => let ⟨a1, a2⟩ := h7 j hj; ⟨k j a1, a2⟩⟩
/-- One number, appended to such a list: the list is a new one; those that are no longer are as they were. -/
theorem chain_append {g : Prg} {w : AW} {C : Nat → Prop} {ty : TypeId} {a1 a2 : Bool} {n1 b1 b2 : Nat} {d2 : TypeDesc} {z1 z2 : Value} (h : g.ty ty = some ⟨a1, .slice 3, n1, b1, z1⟩) (h2 : g.ty 3 = some ⟨a2, d2, 1, b2, z2⟩) (hz : z2.cells.size = 1) (hb2 : b2 ≤ 1048576)
    {v : Value} {L : List Int} (hv : Chain C w v L) (f : Fresh w) (x : Int) (hroom : L.length + 1 ≤ 1048576) :
    ∃ v' w', append g (w.push (.cells [.int .i64 x] 3 w.next 0 0)) ty ty v (.slice (some ⟨w.next, 0, none⟩) 1 1) = some (v', w') ∧ Chain (fun j => C j ∨ j = w.next + 1) w' v' (L ++ [x]) ∧ Fresh w' ∧
      (∀ j, j < w.next → ¬ C j → w'.blk j = w.blk j ∧ w'.family j = w.family j) ∧ w'.next = w.next + 2 ∧
      ∀ v0 L0, L0.length ≤ L.length → Chain C w v0 L0 → Chain (fun j => C j ∨ j = w.next + 1) w' v0 L0 := by
  have hup : ∀ v0 L0, Chain C w v0 L0 → Chain C (w.push (.cells [.int .i64 x] 3 w.next 0 0)) v0 L0 := fun v0 L0 q => q.above (.of ((Keep.refl w.next w).push (Nat.le_refl _) _))
  have hv1 := hup _ _ hv
  have f1 := f.push (.cells [.int .i64 x] 3 w.next 0 0)
  have hO := Own.new f 3 [.int .i64 x]
  have hku := (Keep.refl w.next w).push (Nat.le_refl _) (.cells [.int .i64 x] 3 w.next 0 0)
  have hn1 : (w.push (.cells [.int .i64 x] 3 w.next 0 0)).next = w.next + 1 := AW.next_push _ _
  generalize w.push (.cells [.int .i64 x] 3 w.next 0 0) = u at *
  have hnew : aFirst u 1 1 (.slice (some ⟨w.next, 0, none⟩) 1 1) = some [.int .i64 x] := by
    show aCells _ w.next 0 (1 * 1) = _
    exact aCells_of [.int .i64 x] 0 fun k v hv => by
      rw [Nat.zero_add]
      exact hO.cell hv (by
        match k with
        | 0 => simp at hv; subst hv; rfl
        | k + 1 => simp at hv)
  have cond : (Nat.beq z2.cells.size 1 && Nat.ble (L.length + 1) bound && Nat.ble b2 bound && Nat.ble 1 1 && Nat.beq ty ty) = true := by
    have : bound = 1048576 := rfl
    simp only [Bool.and_eq_true]
    exact ⟨⟨⟨⟨by rw [hz]; rfl, Nat.ble_eq_true_of_le (by omega)⟩, Nat.ble_eq_true_of_le (by omega)⟩, rfl⟩, Nat.beq_refl _⟩
  have hle : ∀ k, Nat.ble (k + 1) k = false := fun k => by
    cases q : Nat.ble (k + 1) k with
    | false => rfl
    | true => have := Nat.le_of_ble_eq_true q; omega
  have hfull : u.full = false := rfl
  rcases hv1 with ⟨rfl, rfl⟩ | ⟨b, r, rfl, q1, q2, q3, q4, q5, q7⟩
  · have hab : Above C u (u.push (.cells ([] ++ [.int .i64 x]) 3 u.next 0 1)) := .of ((Keep.refl u.next u).push (Nat.le_refl _) _)
    refine ⟨.slice (some ⟨u.next, 0, none⟩) (0 + 1) (0 + 1), u.push (.cells ([] ++ [.int .i64 x]) 3 u.next 0 1), ?_, .inr ⟨u.next, u.next, rfl, ⟨.inr hn1, by simp⟩, by rw [AW.next_push]; omega, .inr hn1, by rw [AW.next_push]; omega, blk_push_top _ _, fun j hj => ?_⟩, f1.push _, fun j hj _ => ⟨by rw [blk_push_ne (by omega)]; exact hku.blk j hj, by rw [AW.family_push]; exact hku.fam j hj⟩, by rw [AW.next_push]; omega, fun v0 L0 _ q => ((hup _ _ q).above hab).mono fun j => .inl⟩
    · have hnil : aFirst u 1 0 (.slice none 0 0) = some [] := rfl
      unfold append
      simp only [List.length_nil] at cond
      simp only [h, h2, cond, hnew, hle, hnil, AW.grow, hfull]
    · rw [AW.family_push, f1.2 _ (Nat.le_refl _)] at hj
      simp only [members, List.mem_singleton] at hj
      subst hj
      exact ⟨.inr hn1, by rw [AW.next_push]; omega, _, _, blk_push_top _ _⟩
  · have hsz0 : Nat.beq 1 0 = false := rfl
    have hszz : Nat.beq 1 1 = true := rfl
    have hold : aFirst u 1 L.length (.slice (some ⟨b, 0, none⟩) L.length L.length) = some (L.flatMap ic) := by
      show aCells u b 0 (L.length * 1) = some (L.flatMap ic)
      rw [Nat.mul_one, ← ic_len L]
      exact aCells_of (L.flatMap ic) 0 fun i y hy => by simp only [AW.cell?, q5, Nat.zero_add, getL_eq, hy, ic_one y (List.mem_of_getElem? hy)]
    obtain ⟨s1, s2, s3, s4, s5⟩ := strikes_all u.next (0 + 0 + L.length * 1) (members (u.family r) r) u
    have hst : struckOver u.next (members (u.family r) r) (1 * 1) (0 + 0 + L.length * 1) u = strikes u.next (0 + 0 + L.length * 1) (members (u.family r) r) u := rfl
    generalize strikes u.next (0 + 0 + L.length * 1) (members (u.family r) r) u = s at *
    have hbk : ∀ j, (s.lay r (members (u.family r) r) (.cells (L.flatMap ic ++ [.int .i64 x]) 3 r (0 + 0) 1)).blk j = if j = s.next then some (.cells (L.flatMap ic ++ [.int .i64 x]) 3 r (0 + 0) 1) else s.blk j := fun j => AW.blk_lay _ _ _ _ _ (Trie.in_ _) (Trie.in_ _)
    have hfm : ∀ j, (s.lay r (members (u.family r) r) (.cells (L.flatMap ic ++ [.int .i64 x]) 3 r (0 + 0) 1)).family j = if j = r then s.next :: members (u.family r) r else s.family j := fun j => AW.family_lay _ _ _ _ _ (Trie.in_ _) (Trie.in_ _)
    have hnl : (s.lay r (members (u.family r) r) (.cells (L.flatMap ic ++ [.int .i64 x]) 3 r (0 + 0) 1)).next = s.next + 1 := AW.next_lay _ _ _ _
    have happ : append g u ty ty (.slice (some ⟨b, 0, none⟩) L.length L.length) (.slice (some ⟨w.next, 0, none⟩) 1 1) = some (.slice (some ⟨u.next, 0, none⟩) (L.length + 1) (L.length + 1), s.lay r (members (u.family r) r) (.cells (L.flatMap ic ++ [.int .i64 x]) 3 r (0 + 0) 1)) := by
      unfold append
      simp only [h, h2, cond, hnew, hle, hold, AW.grow, hfull, q5, hsz0, hszz, hst]
    generalize s.lay r (members (u.family r) r) (.cells (L.flatMap ic ++ [.int .i64 x]) 3 r (0 + 0) 1) = y at *
    have hfl : (L ++ [x]).flatMap ic = L.flatMap ic ++ [.int .i64 x] := by rw [List.flatMap_append]; rfl
    have hmem : ∀ j ∈ s.next :: members (u.family r) r, (C j ∨ j = w.next + 1) ∧ j < y.next ∧ ∃ c e', y.blk j = some (.cells c e' r 0 1) := by
      intro j hj
      rcases List.mem_cons.mp hj with q | q
      · exact ⟨.inr (by omega), by omega, _, _, by rw [hbk, if_pos q]⟩
      · obtain ⟨c1, c2, c, e', c3⟩ := q7 j q
        obtain ⟨c', hc'⟩ := s3 j _ _ _ _ c3
        exact ⟨.inl c1, by omega, c', e', by rw [hbk, if_neg (by omega)]; exact hc'⟩
    refine ⟨_, _, happ, .inr ⟨u.next, r, by simp, ⟨.inr hn1, by simp⟩, by omega, .inl q3, by omega, by rw [hbk, if_pos s5.symm, hfl], fun j hj => ?_⟩, ⟨fun j hj => ?_, fun j hj => ?_⟩, fun j hj hC => ⟨?_, ?_⟩, by omega, fun v0 L0 hl0 q => ?_⟩
    · rw [hfm, if_pos rfl] at hj; exact hmem j hj
    · rw [hbk, if_neg (by omega), s1 j (fun q => by have := (q7 j q).2.1; omega)]; exact f1.1 j (by omega)
    · rw [hfm, if_neg (by omega), s4 j]; exact f1.2 j (by omega)
    · rw [hbk, if_neg (by omega), s1 j (fun q => hC (q7 j q).1)]; exact hku.blk j hj
    · rw [hfm, if_neg (by rintro rfl; exact hC q3), s4 j]; exact hku.fam j hj
    · rcases hup _ _ q with q | ⟨b0, r0, p1, p2, p3, p4, p5, p6, p7⟩
      · exact .inl q
      · refine .inr ⟨b0, r0, p1, ⟨.inl p2.1, p2.2⟩, by omega, .inl p4, by omega, ?_, fun j hj => ?_⟩
        · rw [hbk, if_neg (by omega)]
          exact s2 b0 _ _ _ _ p6 (by rw [ic_len]; omega)
        · rw [hfm] at hj
          by_cases hr : r0 = r
          · subst hr; rw [if_pos rfl] at hj; exact hmem j hj
          · rw [if_neg hr, s4 r0] at hj
            obtain ⟨c1, c2, c, e', c3⟩ := p7 j hj
            obtain ⟨c', hc'⟩ := s3 j _ _ _ _ c3
            exact ⟨.inl c1, by omega, c', e', by rw [hbk, if_neg (by omega)]; exact hc'⟩
end Go.Sim

/- The code of a loop over a function. -/
namespace Go.Sim
open Go
def rfOf : Code → Option (Code × Code)
  | .rangeFunc _ _ a b => some (a, b)
  | .seq a b => match rfOf a with
    | some x => some x
    | none => rfOf b
  | .cond _ a b => match rfOf a with
    | some x => some x
    | none => rfOf b
  | .block _ b => rfOf b
  | .loop b => rfOf b
  | .scope b => rfOf b
  | _ => none
def codeA (f : Func) : Code :=
  match f.body with
  | some c => match rfOf c with
    | some (a, _) => a
    | none => .skip
  | none => .skip
def codeB (f : Func) : Code :=
  match f.body with
  | some c => match rfOf c with
    | some (_, b) => b
    | none => .skip
  | none => .skip
end Go.Sim

/- The code of Least, as the machine reads it. -/
namespace Go.Proofs
open Go Go.RowKit Go.Sim
set_option maxRecDepth 100000
noncomputable def Tryz.s22 : SC :=
 (.seq
  (.ops false [
    ⟨⟨(some 3), .box 22 (.tmp 0), 0, "", ⟨[]⟩, none⟩, none, false⟩,
    ⟨⟨(some 4), .box 24 (.tmp 1), 0, "", ⟨[]⟩, none⟩, none, false⟩,
    ⟨⟨(some 5), .box 36 (.tmp 2), 0, "", ⟨[]⟩, none⟩, none, false⟩,
    ⟨⟨(some 6), .alloc 24, 0, "", ⟨[]⟩, none⟩, none, false⟩,
    ⟨⟨(some 7), .alloc 3, 0, "", ⟨[]⟩, none⟩, none, false⟩,
    ⟨⟨(some 8), .assign (.const (.int .i64 0)), 27, "", ⟨[]⟩, none⟩, none, false⟩])
  (.seq
   (.seq
    (.ops false [
      ⟨⟨(some 13), .load 22 (.tmp 3), 22, "", ⟨[]⟩, none⟩, none, false⟩,
      ⟨⟨(some 14), .load 36 (.tmp 5), 36, "", ⟨[]⟩, none⟩, none, false⟩,
      ⟨⟨(some 15), .load 24 (.tmp 4), 24, "", ⟨[]⟩, none⟩, none, false⟩,
      ⟨⟨(some 16), .buildSlice 23 1 ⟨[(0, (.tmp 15))]⟩, 23, "", ⟨[]⟩, none⟩, none, false⟩,
      ⟨⟨(some 17), .call ⟨.value (.func 31), ⟨[(.tmp 13), (.tmp 14), (.tmp 16)]⟩, ⟨[22, 36, 23]⟩⟩, 27, "", ⟨[]⟩, none⟩, none, false⟩,
      ⟨⟨(some 9), .assign (.tmp 17), 27, "", ⟨[]⟩, none⟩, none, false⟩])
    (.seq
     (.ops false [
       ⟨⟨(some 18), .move (.tmp 9), 27, "", ⟨[]⟩, none⟩, none, false⟩,
       ⟨⟨(some 19), .binOp .neq 27 (.tmp 18) (.const (.int .i64 0)) 27, 4, "", ⟨[]⟩, none⟩, none, false⟩])
     (.cond (.tmp 19)
      (.seq
       (.ops false [
         ⟨⟨(some 20), .move (.tmp 9), 27, "", ⟨[]⟩, none⟩, none, false⟩,
         ⟨⟨none, .store 24 (.tmp 6) (.const (.slice none 0 0)), 0, "", ⟨[]⟩, none⟩, none, false⟩,
         ⟨⟨none, .store 3 (.tmp 7) (.const (.int .i64 0)), 0, "", ⟨[]⟩, none⟩, none, false⟩,
         ⟨⟨(some 8), .assign (.tmp 20), 27, "", ⟨[]⟩, none⟩, none, false⟩])
       .ret)
      .skip)))
   (.seq
    (.ops false [
      ⟨⟨(some 10), .alloc 4, 0, "", ⟨[]⟩, none⟩, none, false⟩,
      ⟨⟨none, .store 4 (.tmp 10) (.const (.bool false)), 0, "", ⟨[]⟩, none⟩, none, false⟩])
    (.seq
     (.seq
      (.ops false [
        ⟨⟨(some 21), .load 22 (.tmp 3), 22, "", ⟨[]⟩, none⟩, none, false⟩,
        ⟨⟨(some 22), .call ⟨.builtin .len, ⟨[(.tmp 21)]⟩, ⟨[22]⟩⟩, 3, "", ⟨[]⟩, none⟩, none, false⟩,
        ⟨⟨(some 23), .call ⟨.value (.func 51), ⟨[(.tmp 22)]⟩, ⟨[3]⟩⟩, 88, "", ⟨[]⟩, none⟩, none, false⟩])
      (.block 0
       (.raw (.rangeFunc (.tmp 23) ⟨[24]⟩ (codeA Tryz.f22) (codeB Tryz.f22)))))
     (.seq
      (.seq
       (.ops false [
         ⟨⟨(some 45), .load 4 (.tmp 10), 4, "", ⟨[]⟩, none⟩, none, false⟩,
         ⟨⟨(some 46), .unOp .not 4 (.tmp 45), 4, "", ⟨[]⟩, none⟩, none, false⟩])
       (.cond (.tmp 46)
        (.seq
         (.ops false [
           ⟨⟨none, .store 24 (.tmp 6) (.const (.slice none 0 0)), 0, "", ⟨[]⟩, none⟩, none, false⟩,
           ⟨⟨none, .store 3 (.tmp 7) (.const (.int .i64 0)), 0, "", ⟨[]⟩, none⟩, none, false⟩,
           ⟨⟨(some 8), .assign (.const (.int .i64 4)), 27, "", ⟨[]⟩, none⟩, none, false⟩])
         .ret)
        .skip))
      (.seq
       (.ops true [
         ⟨⟨(some 47), .load 24 (.tmp 6), 24, "", ⟨[]⟩, none⟩, none, true⟩,
         ⟨⟨(some 48), .load 3 (.tmp 7), 3, "", ⟨[]⟩, none⟩, none, true⟩,
         ⟨⟨none, .store 24 (.tmp 6) (.tmp 47), 0, "", ⟨[]⟩, none⟩, none, true⟩,
         ⟨⟨none, .store 3 (.tmp 7) (.tmp 48), 0, "", ⟨[]⟩, none⟩, none, false⟩,
         ⟨⟨(some 8), .assign (.const (.int .i64 0)), 27, "", ⟨[]⟩, none⟩, none, true⟩])
       .ret))))))
noncomputable def Tryz.ra22 : SC :=
 (.ops false [
   ⟨⟨(some 11), .assign (.tmp 24), 24, "", ⟨[]⟩, none⟩, none, false⟩])
noncomputable def Tryz.rb22 : SC :=
 (.block 1
  (.seq
   (.ops false [
     ⟨⟨(some 25), .move (.tmp 11), 24, "", ⟨[]⟩, none⟩, none, false⟩,
     ⟨⟨(some 26), .makeFunc (.func 53) ⟨[]⟩ ⟨[(.tmp 3)]⟩, 66, "", ⟨[]⟩, none⟩, none, false⟩,
     ⟨⟨(some 27), .call ⟨.value (.func 52), ⟨[(.tmp 25), (.tmp 26)]⟩, ⟨[24, 66]⟩⟩, 3, "", ⟨[]⟩, none⟩, none, false⟩,
     ⟨⟨(some 12), .assign (.tmp 27), 3, "", ⟨[]⟩, none⟩, none, false⟩])
   (.seq
    (.ops false [
      ⟨⟨(some 28), .load 4 (.tmp 10), 4, "", ⟨[]⟩, none⟩, none, false⟩,
      ⟨⟨(some 29), .unOp .not 4 (.tmp 28), 4, "", ⟨[]⟩, none⟩, none, false⟩,
      ⟨⟨(some 30), .move (.tmp 29), 4, "", ⟨[]⟩, none⟩, none, false⟩,
      ⟨⟨(some 31), .move (.tmp 12), 3, "", ⟨[]⟩, none⟩, some ((some 30), false), false⟩,
      ⟨⟨(some 32), .load 3 (.tmp 7), 3, "", ⟨[]⟩, none⟩, some ((some 30), false), false⟩,
      ⟨⟨(some 33), .binOp .lss 3 (.tmp 31) (.tmp 32) 3, 4, "", ⟨[]⟩, none⟩, some ((some 30), false), false⟩,
      ⟨⟨(some 34), .pick (.tmp 30) (.const (.bool true)) (.tmp 33), 4, "", ⟨[]⟩, none⟩, none, false⟩,
      ⟨⟨(some 35), .move (.tmp 34), 4, "", ⟨[]⟩, none⟩, none, false⟩,
      ⟨⟨(some 36), .load 22 (.tmp 3), 22, "", ⟨[]⟩, none⟩, some ((some 35), true), false⟩,
      ⟨⟨(some 37), .load 24 (.tmp 4), 24, "", ⟨[]⟩, none⟩, some ((some 35), true), false⟩,
      ⟨⟨(some 38), .load 36 (.tmp 5), 36, "", ⟨[]⟩, none⟩, some ((some 35), true), false⟩,
      ⟨⟨(some 39), .move (.tmp 11), 24, "", ⟨[]⟩, none⟩, some ((some 35), true), false⟩,
      ⟨⟨(some 40), .call ⟨.value (.func 49), ⟨[(.tmp 36), (.tmp 37), (.tmp 38), (.tmp 39)]⟩, ⟨[22, 24, 36, 24]⟩⟩, 4, "", ⟨[]⟩, none⟩, some ((some 35), true), false⟩,
      ⟨⟨(some 41), .pick (.tmp 35) (.tmp 40) (.const (.bool false)), 4, "", ⟨[]⟩, none⟩, none, false⟩])
    (.cond (.tmp 41)
     (.ops false [
       ⟨⟨(some 42), .move (.tmp 11), 24, "", ⟨[]⟩, none⟩, none, false⟩,
       ⟨⟨(some 43), .call ⟨.value (.func 54), ⟨[(.tmp 42)]⟩, ⟨[24]⟩⟩, 24, "", ⟨[]⟩, none⟩, none, false⟩,
       ⟨⟨(some 44), .move (.tmp 12), 3, "", ⟨[]⟩, none⟩, none, false⟩,
       ⟨⟨none, .store 24 (.tmp 6) (.tmp 43), 0, "", ⟨[]⟩, none⟩, none, false⟩,
       ⟨⟨none, .store 3 (.tmp 7) (.tmp 44), 0, "", ⟨[]⟩, none⟩, none, false⟩,
       ⟨⟨none, .store 4 (.tmp 10) (.const (.bool true)), 0, "", ⟨[]⟩, none⟩, none, false⟩])
     .skip))))
theorem Tryz.s22_eq : Tryz.f22.body.map sOf = some Tryz.s22 := by kernel_rfl
theorem Tryz.ra22_eq : sOf (codeA Tryz.f22) = Tryz.ra22 := by kernel_rfl
theorem Tryz.rb22_eq : sOf (codeB Tryz.f22) = Tryz.rb22 := by kernel_rfl
end Go.Proofs
