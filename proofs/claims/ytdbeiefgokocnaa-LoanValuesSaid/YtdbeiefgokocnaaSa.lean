/- What open calls are told of sorting numbers by a less. -/
import Derived.Test.YtdbeiefgokocnaaMc
import Derived.Sort.LotA
import Derived.Sort.Grow
import Derived.Test.YtdbeiefgokocnaaNb
set_option linter.unusedVariables false
set_option linter.unusedSimpArgs false
/- What open calls are told of sort.Slice at numbers, with a less that compares them: the row is sorted. -/
namespace Go.Sim
open Go Go.RowKit
variable {P : Program} {N : Nat}
/-- The functions and types of one kind of slices that are sorted: sort.Slice, the less, the slice's type. -/
structure SliceIds where
  f : FuncId
  g : FuncId
  ty : TypeId
def readInts (w : AW) (b : Nat) : Nat → Nat → Option (List Int)
  | _, 0 => some []
  | o, n + 1 => match w.cell? ⟨b, o, none⟩ with
    | some (.int .i64 z) => match readInts w b (o + 1) n with
      | some l => some (z :: l)
      | none => none
    | _ => none
def sortedL (l : List Int) : List Int := l.mergeSort fun x y => decide (x ≤ y)
def encInt (z : Int) : Value := .int .i64 z
def sortRow (w : AW) (n : Nat) (p : Option Addr) (x : Option Value) : Option (Value × AW) :=
  match p, x with
  | some ⟨b, o, none⟩, some (.slice (some ⟨b', o', none⟩) n' _) =>
    match Nat.beq b b' && Nat.beq o o' && Nat.beq n n' && Nat.ble n 1048576 with
    | true => match readInts w b o n with
      | some l => match aStores b o ((sortedL l).map encInt) w with
        | some w1 => some (.tuple #[], w1)
        | none => none
      | none => none
    | false => none
  | _, _ => none
def sortT (s : SliceIds) (args : List Value) (w : AW) : Option (Value × AW) :=
  match args with
  | [.iface t (.slice p n _), .func (.func g) first caps] =>
    match Nat.beq t s.ty && Nat.beq g s.g, first.toList, caps.toList with
    | true, [], [.pointer (some ⟨bb, ob, none⟩)] =>
      match Nat.ble n 1 with
      | true => some (.tuple #[], w)
      | false => sortRow w n p (w.cell? ⟨bb, ob, none⟩)
    | _, _, _ => none
  | _ => none
def toldSlice (s : SliceIds) (told : ToldF) : ToldF := fun f args w =>
  match Nat.beq f s.f with
  | true => sortT s args.toList w
  | false => told f args w
/-- What is asked of the program. -/
structure SliceOk (P : Program) (s : SliceIds) : Prop where
  enters : ∀ args W, (callFunc s.f args).run P W = .ok (.enter s.f args) W
  tiny : ∀ (p : Option Addr) (n c : Nat) (lb : Array Value) (W : World), n ≤ 1 → Calls P s.f #[.iface s.ty (.slice p n c), .func (.func s.g) #[] lb] W fun e W' => e = .returned (.tuple #[]) ∧ ∃ os, W' = Go.Sort.grow W os
  sorts : ∀ (blk off c c' : Nat) (d : Array Int) (bx : Addr) (W : World), 2 ≤ d.size → d.size ≤ 1048576 → Go.Sort.Holds encInt W blk off d → blk < W.heap.size → bx.block < W.heap.size → bx.spot = none →
    W.cell? bx = some (.slice (some ⟨blk, off, none⟩) d.size c') → (bx.block ≠ blk ∨ bx.off < off ∨ off + d.size ≤ bx.off) →
    Calls P s.f #[.iface s.ty (.slice (some ⟨blk, off, none⟩) d.size c), .func (.func s.g) #[] #[.pointer (some bx)]] W fun e W' =>
      e = .returned (.tuple #[]) ∧ ∃ n os, W' = Go.Sort.grow (Go.Sort.putRow encInt (Go.Sort.ahead W n) blk off (sortedL d.toList).toArray) os
theorem sortedL_len (l : List Int) : (sortedL l).length = l.length := by unfold sortedL; exact List.length_mergeSort l
theorem readInts_len {w : AW} {b : Nat} : ∀ {n o : Nat} {l : List Int}, readInts w b o n = some l → l.length = n
  | 0, o, l, h => by simp only [readInts, Option.some.injEq] at h; subst h; rfl
  | n + 1, o, l, h => by
    simp only [readInts] at h
    split at h
    · split at h
      · rename_i hr
        injection h with h; subst h
        simp [readInts_len hr]
      · cases h
    · cases h
theorem readInts_at {σ : Emb} {w : AW} {W : World} (hw : WRel N σ w W) {b : Nat} {x : Loc} (hb : σ b = some x) : ∀ {n o : Nat} {l : List Int}, readInts w b o n = some l → ∀ j (h : j < l.length), W.cell? ⟨x.c, x.s + (o + j), none⟩ = some (encInt l[j])
  | 0, o, l, h, j, hj => by simp only [readInts, Option.some.injEq] at h; subst h; simp at hj
  | n + 1, o, l, h, j, hj => by
    simp only [readInts] at h
    split at h
    · rename_i z hz
      split at h
      · rename_i r hr
        injection h with h; subst h
        obtain ⟨v', e, rv, _⟩ := hw.cell hb hz
        cases rv
        cases j with
        | zero => exact e
        | succ j =>
          have := readInts_at hw hb hr j (by simpa using hj)
          rw [show o + (j + 1) = o + 1 + j by omega]
          exact this
      · cases h
    · cases h
theorem putRow_nil (W : World) (c o : Nat) : Go.Sort.putRow encInt W c o (#[] : Array Int) = W := by
  refine Go.Sort.mapBlock_id W c _ fun d e fr h => ?_
  apply Array.ext_getElem?
  intro k
  simp only [Go.Sort.putCells, Array.getElem?_mapIdx]
  have hn : ¬ (o ≤ k ∧ k < o + (#[] : Array Int).size) := by simp
  simp only [if_neg hn]
  simp
theorem putRow_cons (W : World) (c o : Nat) (z : Int) (l : List Int) : Go.Sort.putRow encInt (W.setCell ⟨c, o, none⟩ (encInt z)) c (o + 1) l.toArray = Go.Sort.putRow encInt W c o (z :: l).toArray := by
  rw [Go.Sort.setCell_eq]
  unfold Go.Sort.putRow
  rw [Go.Sort.mapBlock_mapBlock]
  refine Go.Sort.mapBlock_congr W c _ _ fun d e fr h => ?_
  apply Array.ext_getElem?
  intro k
  simp only [Go.Sort.putCells, Array.getElem?_mapIdx, Array.getElem?_setIfInBounds]
  by_cases hk : o = k
  · subst hk
    have hn : ¬ (o + 1 ≤ o ∧ o < o + 1 + l.toArray.size) := by omega
    by_cases hs : o < d.size
    · simp [hs]
      intro h1; omega
    · simp [hs]
  · rw [if_neg hk]
    by_cases hs : k < d.size
    · rw [Array.getElem?_eq_getElem hs]
      simp only [Option.map_some, List.size_toArray, List.length_cons]
      by_cases q : o + 1 ≤ k ∧ k < o + 1 + l.length
      · rw [if_pos q, if_pos ⟨by omega, by omega⟩]
        have e : k - o = (k - (o + 1)) + 1 := by omega
        rw [e]
        simp
      · rw [if_neg q, if_neg (by omega)]
    · rw [Array.getElem?_eq_none (by omega)]; rfl
theorem frozen_setCell (W : World) (a p : Addr) (u : Value) : (W.setCell a u).frozen? p = W.frozen? p := by
  simp only [World.setCell, World.frozen?, Array.getElem?_modify]
  by_cases hk : a.block = p.block
  · simp only [hk, if_true]
    cases W.heap[p.block]? with
    | none => rfl
    | some o => cases o <;> rfl
  · simp [hk]
theorem aStores_row {σ : Emb} {b : Nat} {x : Loc} (hb : σ b = some x) : ∀ {l : List Int} {o : Nat} {w w1 : AW} {W : World}, WRel N σ w W → aStores b o (l.map encInt) w = some w1 →
    Ext N σ w W σ w1 (Go.Sort.putRow encInt W x.c (x.s + o) l.toArray) ∧ ∀ j, j < l.length → W.frozen? ⟨x.c, x.s + (o + j), none⟩ = false
  | [], o, w, w1, W, hw, h => by
    simp only [List.map_nil, aStores, Option.some.injEq] at h
    subst h
    exact ⟨by rw [putRow_nil]; exact .refl hw, fun j hj => by simp at hj⟩
  | z :: l, o, w, w1, W, hw, h => by
    simp only [List.map_cons, aStores] at h
    split at h
    case h_2 => cases h
    rename_i w2 h2
    obtain ⟨_, _, hf, hx⟩ := hw.store hb (VRel.int .i64 z) h2
    obtain ⟨h3, h4⟩ := aStores_row hb hx.rel h
    rw [show x.s + (o + 1) = x.s + o + 1 by omega] at h3
    rw [show (Value.int .i64 z) = encInt z from rfl, putRow_cons] at h3
    refine ⟨hx.trans h3, fun j hj => ?_⟩
    cases j with
    | zero => exact hf
    | succ j =>
      have := h4 j (by simpa using hj)
      rw [frozen_setCell] at this
      rw [show o + (j + 1) = o + 1 + j by omega]
      exact this
theorem below_grow (W : World) (n : Nat) (os : Array Obj) : Below W.heap.size W (Go.Sort.grow (Go.Sort.ahead W n) os) :=
  ⟨rfl, rfl, rfl, by simp [Go.Sort.grow, Go.Sort.ahead], fun k hk => Go.Sort.heap_grow_old _ _ hk⟩
theorem toldSlice_ok {s : SliceIds} (hs : SliceOk P s) {told : ToldF} (ht : ∀ N, ToldOk P N told) (N : Nat) : ToldOk P N (toldSlice s told) := by
  intro f args w w1 v h σ W args0 cap c cs hw ha
  unfold toldSlice at h
  split at h
  case h_2 => exact ht N f args w w1 v h σ W args0 cap c cs hw ha
  rename_i hf
  have hf := Nat.eq_of_beq_eq_true hf
  subst hf
  unfold sortT at h
  split at h
  case h_2 => cases h
  rename_i t p n k g first caps harg
  split at h
  case h_2 => cases h
  rename_i bb ob hids hfi hca
  simp only [Bool.and_eq_true] at hids
  have h1 := Nat.eq_of_beq_eq_true hids.1
  have h2 := Nat.eq_of_beq_eq_true hids.2
  subst h1 h2
  obtain ⟨a', f', e, r1, r2⟩ := two_args harg ha
  cases r1 with
  | iface _ r1 =>
  rename_i sl'
  cases r2 with
  | func hfn hfs hcs hfv hcv =>
  rename_i g' first' caps'
  cases hfn
  have hf0 : first' = #[] := by
    have : first.size = 0 := by rw [← Array.length_toList, hfi]; rfl
    exact Array.eq_empty_of_size_eq_zero (by omega)
  obtain ⟨pb, hpb, rpb⟩ := one_arg (args := caps) hca ⟨hcs, hcv⟩
  subst hf0 hpb
  cases rpb with
  | ptr hbb =>
  rename_i xb
  split at h
  · rename_i hn
    have hn := Nat.le_of_ble_eq_true hn
    injection h with h; injection h with h3 h4
    subst h3 h4
    have key : ∀ (p' : Option Addr) (k' : Nat), args0 ++ cap = #[.iface s.ty (.slice p' n k'), .func (.func s.g) #[] #[.pointer (some ⟨xb.c, xb.s + ob, none⟩)]] →
        ∃ σ' v' W', Delivers P (.fn (.func s.f) cap) args0 W c cs v' W' ∧ Ext N σ w W σ' w W' ∧ VRel σ' (.tuple #[]) v' := by
      intro p' k' e
      have hc := hs.tiny p' n k' #[.pointer (some ⟨xb.c, xb.s + ob, none⟩)] W hn
      rw [← e] at hc
      obtain ⟨W', d1, os, d2⟩ := delivers_calls hs.enters hc c cs
      refine ⟨σ, _, W', d1, hw.aside ?_, .unit⟩
      rw [d2]
      exact below_grow W 0 os
    cases r1 <;> exact key _ _ e
  · rename_i hn
    have hn : 2 ≤ n := by
      rcases Nat.lt_or_ge n 2 with q | q
      · rw [Nat.ble_eq_true_of_le (by omega)] at hn; cases hn
      · exact q
    unfold sortRow at h
    split at h
    case h_2 => cases h
    rename_i b o b' o' n' k2 hcell
    split at h
    case h_2 => cases h
    rename_i hok
    simp only [Bool.and_eq_true] at hok
    obtain ⟨⟨⟨q1, q2⟩, q3⟩, q4⟩ := hok
    have q1 := Nat.eq_of_beq_eq_true q1
    have q2 := Nat.eq_of_beq_eq_true q2
    have q3 := Nat.eq_of_beq_eq_true q3
    have q4 := Nat.le_of_ble_eq_true q4
    subst q1 q2 q3
    split at h
    case h_2 => cases h
    rename_i l hl
    split at h
    case h_2 => cases h
    rename_i w2 hst
    injection h with h; injection h with h3 h4
    subst h3 h4
    have hlen := readInts_len hl
    cases r1 with
    | tail => omega
    | slice hb hk1 hk2 =>
    rename_i k' x
    obtain ⟨u, hu, ru, _⟩ := hw.cell hbb hcell
    cases ru with
    | tail => omega
    | slice hb2 hk3 hk4 =>
    rename_i k3 x2
    have hx2 : x2 = x := by rw [hb] at hb2; injection hb2 with hb2; exact hb2.symm
    subst hx2
    obtain ⟨hext, hfr⟩ := aStores_row hb hw hst
    have hcells := readInts_at hw hb hl
    rw [sortedL_len] at hfr
    have hsz : l.toArray.size = n := by simp [hlen]
    have hH : Go.Sort.Holds encInt W x2.c (x2.s + o) l.toArray := fun j hj => by
      have hj' : j < l.length := by simpa using hj
      refine ⟨?_, ?_⟩
      · have := hcells j hj'
        rw [show x2.s + o + j = x2.s + (o + j) by omega, this]
        congr 2
        simp [hj']
      · rw [show x2.s + o + j = x2.s + (o + j) by omega]
        exact hfr j hj'
    have hin : ∀ {a : Addr} {u : Value}, W.cell? a = some u → a.block < W.heap.size := fun {a u} ha => by
      unfold World.cell? at ha
      split at ha
      · rename_i hb
        rcases Nat.lt_or_ge a.block W.heap.size with q | q
        · exact q
        · rw [Array.getElem?_eq_none q] at hb; cases hb
      · cases ha
    have hblk : x2.c < W.heap.size := hin (hH 0 (by omega)).1
    have hapart : xb.c ≠ x2.c ∨ xb.s + ob < x2.s + o ∨ x2.s + o + l.toArray.size ≤ xb.s + ob := by
      by_cases z : xb.c = x2.c
      · right
        rcases Nat.lt_or_ge (xb.s + ob) (x2.s + o) with q | q
        · exact .inl q
        · rcases Nat.lt_or_ge (xb.s + ob) (x2.s + o + l.toArray.size) with q' | q'
          · exfalso
            have := (hH (xb.s + ob - (x2.s + o)) (by omega)).1
            rw [show x2.s + o + (xb.s + ob - (x2.s + o)) = xb.s + ob by omega, ← z, hu] at this
            cases this
          · exact .inr q'
      · exact .inl z
    have hc := hs.sorts x2.c (x2.s + o) k' k3 l.toArray ⟨xb.c, xb.s + ob, none⟩ W (by omega) (by omega) hH hblk (hin hu) rfl (by rw [hsz]; exact hu) hapart
    rw [hsz] at hc
    rw [← e] at hc
    obtain ⟨W', d1, m, os, d2⟩ := delivers_calls hs.enters hc c cs
    refine ⟨σ, _, W', d1, hext.trans (hext.rel.aside ?_), .unit⟩
    rw [d2, Go.Sort.putRow_ahead]
    exact below_grow _ m os
end Go.Sim

/- A row of one's own, sorted by what is told. -/
namespace Go.Sim
open Go Go.RowKit
theorem strike_len {me cls j i : Nat} {w : AW} {c : List Value} {e r z : Nat} (h : w.blk i = some (.cells c e r 0 z)) : ∃ c', (strike me cls w j).blk i = some (.cells c' e r 0 z) ∧ c'.length = c.length := by
  by_cases hij : i = j
  · subst hij
    unfold strike
    split
    · exact ⟨_, h, rfl⟩
    · simp only [h]
      split
      · split
        · rw [AW.blk_put _ _ _ _ (Trie.in_ _) (Trie.in_ _), if_pos rfl]; exact ⟨_, rfl, by rw [setL_eq, List.length_set]⟩
        · exact ⟨_, h, rfl⟩
      · exact ⟨_, h, rfl⟩
  · rw [strike_other hij]; exact ⟨_, h, rfl⟩
theorem strike_me {me cls j : Nat} {w : AW} : (strike me cls w j).blk me = w.blk me := by
  by_cases h : me = j
  · subst h
    unfold strike
    rw [Nat.beq_refl]
  · exact strike_other h
theorem strikes_shape (me cls : Nat) : ∀ (l : List Nat) (w : AW), (∀ i c e r z, w.blk i = some (.cells c e r 0 z) → ∃ c', (strikes me cls l w).blk i = some (.cells c' e r 0 z) ∧ c'.length = c.length) ∧ (strikes me cls l w).blk me = w.blk me
  | [], w => ⟨fun _ _ _ _ _ h => ⟨_, h, rfl⟩, rfl⟩
  | j :: l, w => by
    obtain ⟨a, b⟩ := strikes_shape me cls l (strike me cls w j)
    refine ⟨fun i c0 e0 r0 z0 h => ?_, b.trans strike_me⟩
    obtain ⟨c1, h1, h2⟩ := strike_len (me := me) (cls := cls) (j := j) h
    obtain ⟨c2, h3, h4⟩ := a i _ _ _ _ h1
    exact ⟨c2, h3, h4.trans h2⟩
/-- A row written over, its family struck. -/
structure Shape (b r : Nat) (w w' : AW) : Prop where
  next : w'.next = w.next
  fam : ∀ i, w'.family i = w.family i
  out : ∀ i, i ≠ b → ¬ i ∈ w.family r → w'.blk i = w.blk i
  shp : ∀ i c e z, w.blk i = some (.cells c e r 0 z) → ∃ c', w'.blk i = some (.cells c' e r 0 z) ∧ c'.length = c.length
theorem Shape.trans {b r : Nat} {u v w : AW} (h : Shape b r u v) (k : Shape b r v w) : Shape b r u w :=
  ⟨k.next.trans h.next, fun i => (k.fam i).trans (h.fam i), fun i h1 h2 => (k.out i h1 (by rw [h.fam]; exact h2)).trans (h.out i h1 h2), fun i c e z q =>
    let ⟨c1, a1, a2⟩ := h.shp i c e z q
    let ⟨c2, b1, b2⟩ := k.shp i c1 e z a1
    ⟨c2, b1, b2.trans a2⟩⟩
theorem store_shape {w : AW} {b r o : Nat} {e : TypeId} {z : Nat} {c : List Value} {v : Value} (h : w.blk b = some (.cells c e r 0 z)) (ho : o < c.length) (hv : oneCell v = true) :
    ∃ w', w.store ⟨b, o, none⟩ v = some w' ∧ Shape b r w w' ∧ w'.blk b = some (.cells (c.set o v) e r 0 z) := by
  have hg : getL c o = some c[o] := by rw [getL_eq]; simp
  have hb : (w.put b (.cells (setL c o v) e r 0 z)).blk b = some (.cells (setL c o v) e r 0 z) := by rw [AW.blk_put _ _ _ _ (Trie.in_ _) (Trie.in_ _), if_pos rfl]
  obtain ⟨a1, a2, a3, a4, a5⟩ := strikes_all b (0 + o) (w.family r) (w.put b (.cells (setL c o v) e r 0 z))
  obtain ⟨b1, b2⟩ := strikes_shape b (0 + o) (w.family r) (w.put b (.cells (setL c o v) e r 0 z))
  refine ⟨_, by simp only [AW.store, hv, h, hg], ⟨a5.trans (AW.next_put _ _ _), fun i => (a4 i).trans (AW.family_put _ _ _ _), fun i h1 h2 => ?_, fun i c' e' z' q => ?_⟩, ?_⟩
  · rw [a1 i h2, AW.blk_put _ _ _ _ (Trie.in_ _) (Trie.in_ _), if_neg h1]
  · by_cases hi : i = b
    · subst hi
      rw [h] at q
      injection q with q; injection q with q1 q2 q3 q4 q5
      subst q1 q2 q5
      exact ⟨_, by rw [b2, hb], by rw [setL_eq, List.length_set]⟩
    · exact b1 i c' e' r z' (by rw [AW.blk_put _ _ _ _ (Trie.in_ _) (Trie.in_ _), if_neg hi]; exact q)
  · rw [b2, hb, setL_eq]
theorem aStores_shape {b r : Nat} {e : TypeId} {z : Nat} : ∀ {l : List Value} {o : Nat} {w : AW} {c : List Value}, w.blk b = some (.cells c e r 0 z) → o + l.length = c.length → (∀ v ∈ l, oneCell v = true) →
    ∃ w', aStores b o l w = some w' ∧ Shape b r w w' ∧ w'.blk b = some (.cells (c.take o ++ l) e r 0 z)
  | [], o, w, c, h, hl, _ => ⟨w, rfl, ⟨rfl, fun _ => rfl, fun _ _ _ => rfl, fun i c e z q => ⟨c, q, rfl⟩⟩, by rw [h, List.append_nil, List.take_of_length_le (by simp at hl; omega)]⟩
  | v :: l, o, w, c, h, hl, hv => by
    simp only [List.length_cons] at hl
    obtain ⟨w1, a1, a2, a3⟩ := store_shape (o := o) h (by omega) (hv v List.mem_cons_self)
    obtain ⟨w2, b1, b2, b3⟩ := aStores_shape (l := l) (o := o + 1) a3 (by rw [List.length_set]; omega) fun y hy => hv y (List.mem_cons_of_mem _ hy)
    refine ⟨w2, by simp only [aStores, a1]; exact b1, a2.trans b2, ?_⟩
    rw [b3]
    have : (c.set o v).take (o + 1) ++ l = c.take o ++ v :: l := by
      rw [List.take_succ_eq_append_getElem (by rw [List.length_set]; omega), List.take_set_of_le (Nat.le_refl _)]
      simp
    rw [this]
theorem flat_icells (L : List Int) : L.flatMap icells = L.map encInt := by
  induction L with
  | nil => rfl
  | cons x L ih => rw [List.flatMap_cons, ih]; rfl
theorem readInts_of {w : AW} {b : Nat} {L : List Int} (h : ∀ j (hj : j < L.length), w.cell? ⟨b, j, none⟩ = some (.int .i64 L[j])) : ∀ n o, o + n = L.length → readInts w b o n = some (L.drop o)
  | 0, o, ho => by rw [readInts, List.drop_of_length_le (by omega)]
  | n + 1, o, ho => by
    rw [readInts, h o (by omega)]
    simp only [readInts_of h n (o + 1) (by omega)]
    rw [List.drop_eq_getElem_cons (by omega : o < L.length)]
/-- What is told of sort.Slice at a row of one's own. -/
theorem sortT_own {s : SliceIds} {B bb e : Nat} {w : AW} {v : Value} {L : List Int} (hA : AOwn B w e 1 v L.length (L.flatMap icells)) (f : Fresh w) (hL : L.length ≤ 1048576) (hbox : w.cell? ⟨bb, 0, none⟩ = some v) :
    ∃ w', sortT s [.iface s.ty v, .func (.func s.g) #[] #[.pointer (some ⟨bb, 0, none⟩)]] w = some (.tuple #[], w') ∧ AOwn B w' e 1 v L.length ((sortedL L).flatMap icells) ∧ Keep B w w' ∧ Fresh w' ∧ w'.next = w.next := by
  have hids : (Nat.beq s.ty s.ty && Nat.beq s.g s.g) = true := by rw [Nat.beq_refl, Nat.beq_refl]; rfl
  by_cases hn : L.length ≤ 1
  · have hs : sortedL L = L := by
      match L, hn with
      | [], _ => simp [sortedL]
      | [x], _ => simp [sortedL]
    refine ⟨w, ?_, by rw [hs]; exact hA, .refl _ _, f, rfl⟩
    rcases hA with ⟨rfl, _⟩ | ⟨b, r, rfl, _⟩
    · simp only [sortT, hids, Nat.ble_eq_true_of_le (show 0 ≤ 1 by omega)]
    · simp only [sortT, hids, Nat.ble_eq_true_of_le hn]
  · rcases hA with ⟨_, h0, _⟩ | ⟨b, r, rfl, a2, a3, a4, a5, a6, a7, a9, a8⟩
    · omega
    have hb1 : Nat.ble L.length 1 = false := by
      cases q : Nat.ble L.length 1 with
      | false => rfl
      | true => exact absurd (Nat.le_of_ble_eq_true q) hn
    have hcell : ∀ j (hj : j < L.length), w.cell? ⟨b, j, none⟩ = some (.int .i64 L[j]) := fun j hj => by
      rw [flat_icells] at a6
      simp only [AW.cell?, a6, getL_eq, List.getElem?_map, List.getElem?_eq_getElem hj, Option.map_some]
      rfl
    have hread : readInts w b 0 L.length = some L := by rw [readInts_of hcell L.length 0 (by omega)]; rfl
    obtain ⟨w', b1, b2, b3⟩ := aStores_shape (l := (sortedL L).map encInt) (o := 0) a6 (by rw [List.length_map, sortedL_len, a7]; omega) (by
      intro y hy
      obtain ⟨z, _, rfl⟩ := List.mem_map.mp hy
      rfl)
    rw [List.take_zero, List.nil_append] at b3
    have hok : (Nat.beq b b && Nat.beq 0 0 && Nat.beq L.length L.length && Nat.ble L.length 1048576) = true := by
      rw [Nat.beq_refl, Nat.beq_refl, Nat.beq_refl, Nat.ble_eq_true_of_le hL]; rfl
    have hlow : ∀ i, (i < B ∨ w.next ≤ i) → w'.blk i = w.blk i := fun i hi => b2.out i (by omega) fun q => by
      have : i ∈ members (w.family r) r := by
        unfold members
        split
        · rename_i h0; rw [h0] at q; cases q
        · exact q
      have := a8 i this
      omega
    refine ⟨w', by simp only [sortT, hids, hb1, hbox, sortRow, hok, hread, b1], .inr ⟨b, r, rfl, a2, by rw [b2.next]; exact a3, a4, by rw [b2.next]; exact a5, by rw [b3, flat_icells], ?_, ?_, ?_⟩, ⟨fun i hi => hlow i (.inl hi), fun i _ => b2.fam i, by rw [b2.next]; exact Nat.le_refl _⟩, ⟨fun i hi => ?_, fun i hi => ?_⟩, b2.next⟩
    · rw [flat_icells, List.length_map, sortedL_len]; omega
    · rw [flat_icells]; intro y hy; obtain ⟨z, _, rfl⟩ := List.mem_map.mp hy; rfl
    · intro j hj
      rw [b2.fam] at hj
      obtain ⟨c1, c2, c, e', c3, c4⟩ := a8 j hj
      obtain ⟨c', d1, d2⟩ := b2.shp j c e' 1 c3
      exact ⟨c1, by rw [b2.next]; exact c2, c', e', d1, by omega⟩
    · rw [b2.next] at hi
      rw [hlow i (.inr hi)]; exact f.1 i hi
    · rw [b2.next] at hi
      rw [b2.fam]; exact f.2 i hi
end Go.Sim
