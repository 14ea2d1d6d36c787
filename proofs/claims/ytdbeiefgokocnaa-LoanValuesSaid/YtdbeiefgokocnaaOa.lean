/- Rows that were given, copied and made longer; a row that is cut, and joined again. -/
import Derived.Test.YtdbeiefgokocnaaNb
set_option linter.unusedVariables false
set_option linter.unusedSimpArgs false
/- Given lists, copied and made longer. -/
namespace Go.Sim
open Go Go.RowKit
theorem arr_new {α : Type} {w : AW} {z : Nat} {enc : α → List Value} {p : Option Addr} {n c : Nat} {xs : List α} (h : ArrOf w z enc (.slice p n c) xs) (hz : ∀ x, (enc x).length = z) (h0 : 1 ≤ z) : aNew w z n (.slice p n c) = some (xs.flatMap enc) := by
  obtain ⟨p', cap, e, _, _, hat⟩ := h.open
  injection e with e1 e2 e3
  subst e1 e2 e3
  by_cases hn : xs.length = 0
  · obtain rfl : xs = [] := List.length_eq_zero_iff.mp hn
    cases p with
    | none => rfl
    | some a =>
      obtain ⟨b, o, s⟩ := a
      cases s with
      | none => simp [aNew, aFirst, aCells]
      | some s => simp [aNew, aFirst]
  · obtain ⟨b, o, rfl, hb, _⟩ := hat 0 (by omega)
    have hf : aFirst w z xs.length (.slice (some ⟨b, o, none⟩) xs.length c) = some (xs.flatMap enc) := by
      show aCells w b o (xs.length * z) = _
      have hlen : ∀ L : List α, (L.flatMap enc).length = L.length * z := by
        intro L
        induction L with
        | nil => simp
        | cons x L ih => rw [List.flatMap_cons, List.length_append, hz, ih, List.length_cons, Nat.add_mul, Nat.one_mul]; omega
      rw [← hlen xs]
      refine aCells_of _ _ fun i v hv => ?_
      have hi : i < (xs.flatMap enc).length := by
        rcases Nat.lt_or_ge i (xs.flatMap enc).length with q | q
        · exact q
        · rw [List.getElem?_eq_none q] at hv; cases hv
      rw [hlen] at hi
      have hdiv : i / z < xs.length := by rw [Nat.div_lt_iff_lt_mul (by omega)]; exact hi
      have hmod : i % z < z := Nat.mod_lt _ (by omega)
      have hie : i / z * z + i % z = i := by rw [Nat.mul_comm]; exact Nat.div_add_mod i z
      obtain ⟨b', o', e', hb', hc⟩ := hat (i / z) hdiv
      injection e' with e'
      injection e' with e1 e2 e3
      subst e1 e2
      have hg := flatMap_get hz xs (i / z) (i % z) xs[i / z] (by simp) hmod
      rw [hie, hv] at hg
      have := hc w (.refl _ _) (i % z) v hg.symm
      rw [Nat.add_assoc, hie] at this
      exact this
    unfold aNew
    rw [hf]
/-- An append to an empty slice that was written. -/
theorem append_empty {g : Prg} {w : AW} {ty e e' : TypeId} {a1 a2 : Bool} {n1 b1 size b2 : Nat} {d2 : TypeDesc} {z1 z2 : Value} (h : g.ty ty = some ⟨a1, .slice e, n1, b1, z1⟩) (h2 : g.ty e = some ⟨a2, d2, size, b2, z2⟩) (hz : z2.cells.size = size) (hs : 1 ≤ size)
    {b : Nat} (hb : w.blk b = some (.cells [] e' b 0 0)) (f : Fresh w) {x : Value} {m cap : Nat} {p : Option Addr} {new : List Value} (hx : x = .slice p m cap) (hnew : aNew w size m x = some new) (hlen : new.length = m * size) (h1 : ∀ y ∈ new, oneCell y = true) (hr1 : m ≤ 140737488355328) (hr2 : m * b2 ≤ 140737488355328) :
    ∃ v' w', append g w ty ty (.slice (some ⟨b, 0, none⟩) 0 0) x = some (v', w') ∧ Keep w.next w w' ∧ Fresh w' ∧ ((m = 0 ∧ v' = .slice (some ⟨b, 0, none⟩) 0 0 ∧ w' = w) ∨ AOwn w.next w' e size v' m new) := by
  subst hx
  have cond : (Nat.beq z2.cells.size size && Nat.ble (0 + m) room && Nat.ble ((0 + m) * b2) room && Nat.ble 1 size && Nat.beq ty ty) = true := by
    have : room = 140737488355328 := rfl
    simp only [Bool.and_eq_true]
    exact ⟨⟨⟨⟨by rw [hz]; exact Nat.beq_refl _, Nat.ble_eq_true_of_le (by omega)⟩, Nat.ble_eq_true_of_le (by rw [Nat.zero_add]; omega)⟩, Nat.ble_eq_true_of_le hs⟩, Nat.beq_refl _⟩
  have hfull : w.full = false := rfl
  by_cases hm : m = 0
  · subst hm
    obtain rfl : new = [] := List.length_eq_zero_iff.mp (by rw [hlen]; omega)
    refine ⟨.slice (some ⟨b, 0, none⟩) 0 0, w, ?_, .refl _ _, f, .inl ⟨rfl, rfl, rfl⟩⟩
    unfold append
    simp only [h, h2, cond, hnew]
    rfl
  · have hle : Nat.ble (0 + m) 0 = false := by
      cases q : Nat.ble (0 + m) 0 with
      | false => rfl
      | true => have := Nat.le_of_ble_eq_true q; omega
    have hold : aFirst w size 0 (.slice (some ⟨b, 0, none⟩) 0 0) = some [] := by simp [aFirst, aCells]
    have h00 : Nat.beq 0 0 = true := rfl
    refine ⟨.slice (some ⟨w.next, 0, none⟩) (0 + m) (0 + m), w.push (.cells ([] ++ new) e w.next 0 size), ?_, (Keep.refl _ _).push (Nat.le_refl _) _, f.push _, .inr (.inr ⟨w.next, w.next, by rw [Nat.zero_add], Nat.le_refl _, by rw [AW.next_push]; omega, Nat.le_refl _, by rw [AW.next_push]; omega, by rw [blk_push_top, List.nil_append], hlen, h1, fun j hj => ?_⟩)⟩
    · unfold append
      simp only [h, h2, cond, hnew, hle, hold, AW.grow, hfull, hb, h00]
    · rw [AW.family_push, f.2 _ (Nat.le_refl _)] at hj
      simp only [members, List.mem_singleton] at hj
      subst hj
      exact ⟨Nat.le_refl _, by rw [AW.next_push]; omega, _, _, blk_push_top _ _, by simp [hlen]⟩
theorem AOwn.arrR {α : Type} {B : Nat} {w : AW} {e : TypeId} {enc : α → List Value} {z : Nat} {v : Value} {L : List α} (h : AOwn B w e z v L.length (L.flatMap enc)) (hz : ∀ x, (enc x).length = z) (hl : L.length ≤ 140737488355328) : ArrOf w z enc v L := by
  rcases h with ⟨rfl, h2, _⟩ | ⟨b, r, rfl, q1, q2, q3, q4, q5, q6, q8, q7⟩
  · obtain rfl : L = [] := List.length_eq_zero_iff.mp h2
    exact ArrOf.nil _ _ _
  · refine ⟨_, _, _, rfl, by simp, Nat.le_refl _, by omega, fun _ => ⟨b, 0, rfl, q2, fun i j r x hi hx => ?_⟩⟩
    rw [List.getElem?_map] at hi
    obtain ⟨y, hy, rfl⟩ := Option.map_eq_some_iff.mp hi
    have hj : j < z := by
      rw [← hz y]
      rcases Nat.lt_or_ge j (enc y).length with q | q
      · exact q
      · rw [List.getElem?_eq_none q] at hx; cases hx
    rw [Nat.zero_add]
    have hx' : (L.flatMap enc)[i * z + j]? = some x := by rw [flatMap_get hz L i j y hy hj]; exact hx
    simp only [AW.cell?, q5, getL_eq, hx', q8 x (List.mem_of_getElem? hx')]
end Go.Sim
namespace Go.Sim
open Go Go.RowKit
/-- A row that is being made: a written empty one, or one of one's own. -/
def Making (B : Nat) (w : AW) (e : TypeId) (size : Nat) (v : Value) (m : Nat) (cells : List Value) : Prop :=
  (m = 0 ∧ cells = [] ∧ ∃ b e', v = .slice (some ⟨b, 0, none⟩) 0 0 ∧ b < w.next ∧ w.blk b = some (.cells [] e' b 0 0)) ∨ AOwn B w e size v m cells
theorem Making.keep {B C : Nat} {w w' : AW} {e : TypeId} {size m : Nat} {v : Value} {cells : List Value} (h : Making B w e size v m cells) (k : Keep C w w') (hC : w.next ≤ C) : Making B w' e size v m cells := by
  rcases h with ⟨h1, h2, b, e', h3, h4, h5⟩ | h
  · exact .inl ⟨h1, h2, b, e', h3, by have := k.next; omega, by rw [k.blk b (by omega)]; exact h5⟩
  · exact .inr (h.keep k hC)
theorem Making.app {g : Prg} {w : AW} {B : Nat} {ty e e' : TypeId} {a1 a2 : Bool} {n1 b1 size b2 : Nat} {d2 : TypeDesc} {z1 z2 : Value} (h : g.ty ty = some ⟨a1, .slice e, n1, b1, z1⟩) (h2 : g.ty e = some ⟨a2, d2, size, b2, z2⟩) (hz : z2.cells.size = size) (hs : 1 ≤ size)
    {v : Value} {n k : Nat} {cells : List Value} (hv : Making B w e size v n cells) (f : Fresh w) (hB : B ≤ w.next) {new : List Value} (hk : 1 ≤ k) (hlen : new.length = k * size) (h1 : ∀ y ∈ new, oneCell y = true) (hr1 : n + k ≤ 140737488355328) (hr2 : (n + k) * b2 ≤ 140737488355328) :
    ∃ v' w', append g (w.push (.cells new e' w.next 0 0)) ty ty v (.slice (some ⟨w.next, 0, none⟩) k k) = some (v', w') ∧ AOwn B w' e size v' (n + k) (cells ++ new) ∧ Keep B w w' ∧ Fresh w' := by
  have hO := Own.new f e' new
  have hf : aFirst (w.push (.cells new e' w.next 0 0)) size k (.slice (some ⟨w.next, 0, none⟩) k k) = some new := by
    show aCells _ w.next 0 (k * size) = _
    rw [← hlen]
    exact aCells_of new 0 fun i y hy => by rw [Nat.zero_add]; exact hO.cell hy (h1 y (List.mem_of_getElem? hy))
  have hp := (Keep.refl B w).push hB (.cells new e' w.next 0 0)
  have hpn : (w.push (.cells new e' w.next 0 0)).next = w.next + 1 := AW.next_push _ _
  rcases hv with ⟨rfl, rfl, b, eb, rfl, hb, hbk⟩ | hv
  · have hn : aNew (w.push (.cells new e' w.next 0 0)) size k (.slice (some ⟨w.next, 0, none⟩) k k) = some new := by unfold aNew; rw [hf]
    rw [Nat.zero_add] at hr1 hr2
    obtain ⟨v', w', q1, q2, q3, q4⟩ := append_empty h h2 hz hs (b := b) (e' := eb) (w := w.push (.cells new e' w.next 0 0)) (by rw [blk_push_ne hb]; exact hbk) (f.push _) rfl hn hlen h1 hr1 hr2
    refine ⟨v', w', q1, ?_, hp.trans (q2.mono (by omega)), q3⟩
    rcases q4 with ⟨q, _⟩ | q
    · omega
    · rw [Nat.zero_add, List.nil_append]
      rcases q with z | ⟨c, r, z1, z2, z3, z4, z5, z6, z7, z8, z9⟩
      · exact .inl z
      · exact .inr ⟨c, r, z1, by omega, z3, by omega, z5, z6, z7, z8, fun j hj => let ⟨c1, c2⟩ := z9 j hj; ⟨by omega, c2⟩⟩
  · have hv' := hv.keep ((Keep.refl w.next w).push (Nat.le_refl _) (.cells new e' w.next 0 0)) (Nat.le_refl _)
    obtain ⟨v', w', q1, q2, q3, q4, _, _⟩ := append_own2R h h2 hz hs hv' (f.push _) (by omega) rfl hf hlen h1 hk hr1 hr2
    exact ⟨v', w', q1, q2, hp.trans q3, q4⟩
end Go.Sim
namespace Go.Sim
open Go Go.RowKit
/-- The rest of a code that several roads come to. -/
def RestC (P : Program) (told : ToldF) (F : Tmps → Prop) (env : Env) (c : SC) (ds : List DI) (w : AW) (Q : Post) : Prop := ∀ t, F t → CodeR P told env c t ds w Q .mk
theorem joinC {P : Program} {told : ToldF} {G : Prop} {F : Tmps → Prop} {env : Env} {c : SC} {ds : List DI} {w : AW} {Q : Post} (mainC : RestC P told F env c ds w Q → G) (restC : RestC P told F env c ds w Q) : G := mainC restC
theorem joinC_use {P : Program} {told : ToldF} {F : Tmps → Prop} {env : Env} {c : SC} {t : Tmps} {ds : List DI} {w : AW} {Q : Post} {x : Tok (c, t, ds, w, Q)} (h : RestC P told F env c ds w Q) (k : F t) : CodeR P told env c t ds w Q x := h t k
end Go.Sim

/- An append of any number of things, none among them, to a row of one's own. -/
namespace Go.Sim
open Go Go.RowKit
theorem aNew_first {w : AW} {size m : Nat} {x : Value} {new : List Value} (h : aNew w size m x = some new) (hm : 1 ≤ m) : aFirst w size m x = some new := by
  unfold aNew at h
  cases q : aFirst w size m x with
  | some l => rw [q] at h; exact h
  | none =>
    rw [q] at h
    cases m with
    | zero => omega
    | succ m => cases h
theorem append_own0R {g : Prg} {w : AW} {B : Nat} {ty e : TypeId} {a1 a2 : Bool} {n1 b1 size b2 : Nat} {d2 : TypeDesc} {z1 z2 : Value} (h : g.ty ty = some ⟨a1, .slice e, n1, b1, z1⟩) (h2 : g.ty e = some ⟨a2, d2, size, b2, z2⟩) (hz : z2.cells.size = size) (hs : 1 ≤ size)
    {v : Value} {n : Nat} {cells : List Value} (hv : AOwn B w e size v n cells) (f : Fresh w) (hB : B ≤ w.next) {x : Value} {m cap : Nat} {p : Option Addr} {new : List Value} (hx : x = .slice p m cap) (hnew : aNew w size m x = some new) (hlen : new.length = m * size) (h1 : ∀ y ∈ new, oneCell y = true) (hr1 : n + m ≤ 140737488355328) (hr2 : (n + m) * b2 ≤ 140737488355328) :
    ∃ v' w', append g w ty ty v x = some (v', w') ∧ AOwn B w' e size v' (n + m) (cells ++ new) ∧ Keep B w w' ∧ Fresh w' ∧ WLe w w' := by
  by_cases hm : 1 ≤ m
  · obtain ⟨v', w', a, b, c, d, _, ap⟩ := append_own2R h h2 hz hs hv f hB hx (aNew_first hnew hm) hlen h1 hm hr1 hr2
    exact ⟨v', w', a, b, c, d, fun j y hj => by
      by_cases q : j < w.next
      · rw [ap.1 j q]; exact hj
      · rw [f.1 j (by omega)] at hj; cases hj⟩
  obtain rfl : m = 0 := by omega
  obtain rfl : new = [] := List.length_eq_zero_iff.mp (by rw [hlen]; omega)
  subst hx
  have cond : (Nat.beq z2.cells.size size && Nat.ble (n + 0) room && Nat.ble ((n + 0) * b2) room && Nat.ble 1 size && Nat.beq ty ty) = true := by
    have : room = 140737488355328 := rfl
    simp only [Bool.and_eq_true]
    refine ⟨⟨⟨⟨by rw [hz]; exact Nat.beq_refl _, Nat.ble_eq.mpr (by omega)⟩, Nat.ble_eq.mpr (by omega)⟩, Nat.ble_eq.mpr hs⟩, Nat.beq_refl _⟩
  refine ⟨v, w, ?_, by rw [List.append_nil]; exact hv, .refl _ _, f, WLe.refl w⟩
  rcases hv with ⟨rfl, rfl, rfl⟩ | ⟨b, r, rfl, _⟩
  · unfold append
    simp only [h, h2, cond, hnew]
  · have hle : Nat.ble (n + 0) n = true := Nat.ble_eq.mpr (by omega)
    unfold append
    simp only [h, h2, cond, hnew, hle, aStores]
    rfl
theorem AOwn.weak {B C : Nat} {w : AW} {e : TypeId} {size n : Nat} {v : Value} {cells : List Value} (h : AOwn B w e size v n cells) (k : C ≤ B) : AOwn C w e size v n cells := by
  rcases h with h | ⟨b, r, a1, a2, a3, a4, a5, a6, a7, a9, a8⟩
  · exact .inl h
  · exact .inr ⟨b, r, a1, by omega, a3, by omega, a5, a6, a7, a9, fun j hj => let ⟨x, y⟩ := a8 j hj; ⟨by omega, y⟩⟩
/-- What stands ahead of a place, and what stands from it on. -/
theorem AOwn.cut {B : Nat} {w : AW} {e : TypeId} {size n : Nat} {v : Value} {cells : List Value} (h : AOwn B w e size v n cells) {a : Nat} (ha : a ≤ n) :
    ∃ p q c, ∀ w', Keep w.next w w' → sliceV w' size v none (some (.int .i64 (a : Int))) = some (.slice p a n) ∧ aNew w' size a (.slice p a n) = some (cells.take (a * size)) ∧
      sliceV w' size v (some (.int .i64 (a : Int))) none = some (.slice q (n - a) c) ∧ aNew w' size (n - a) (.slice q (n - a) c) = some (cells.drop (a * size)) := by
  rcases h with ⟨rfl, rfl, rfl⟩ | ⟨b, r, rfl, h1, h2, h3, h4, h5, h6, h7, _⟩
  · obtain rfl : a = 0 := by omega
    exact ⟨none, none, 0, fun w' _ => ⟨rfl, by simp [aNew, aFirst], rfl, by simp [aNew, aFirst]⟩⟩
  · have hle : a * size ≤ n * size := Nat.mul_le_mul_right _ ha
    have b1 : Nat.ble 0 a = true := rfl
    have b2 : Nat.ble a n = true := Nat.ble_eq_true_of_le ha
    have b3 : Nat.ble n n = true := Nat.ble_eq_true_of_le (Nat.le_refl _)
    have b4 : Nat.beq size size = true := Nat.beq_refl _
    refine ⟨some ⟨b, 0 + 0 * size, none⟩, some ⟨b, 0 + a * size, none⟩, n - a, fun w' k => ?_⟩
    have h5 : w'.blk b = some (.cells cells e r 0 size) := by rw [k.blk b h2]; exact h5
    have hc : ∀ (i : Nat) v, cells[i]? = some v → w'.cell? ⟨b, i, none⟩ = some v := fun i v hv => by
      simp only [AW.cell?, h5, getL_eq, hv, h7 v (List.mem_of_getElem? hv)]
    refine ⟨?_, ?_, ?_, ?_⟩
    · show sliceV w' size (.slice (some ⟨b, 0, none⟩) n n) none (some (.int .i64 (Int.ofNat a))) = _
      simp only [sliceV, natOr, b1, b2, h5, b4, Bool.true_or, Bool.and_self, Nat.sub_zero]
    · have ht : (cells.take (a * size)).length = a * size := by rw [List.length_take, h6]; omega
      have := aCells_of (w := w') (b := b) (cells.take (a * size)) (0 + 0 * size) fun i v hv => by
        rw [List.getElem?_take] at hv
        split at hv
        · rw [show 0 + 0 * size + i = i by omega]; exact hc i v hv
        · cases hv
      rw [ht] at this
      simp only [aNew, aFirst, this]
    · show sliceV w' size (.slice (some ⟨b, 0, none⟩) n n) (some (.int .i64 (Int.ofNat a))) none = _
      simp only [sliceV, natOr, b3, b2, h5, b4, Bool.true_or, Bool.and_self]
    · have ht : (cells.drop (a * size)).length = (n - a) * size := by rw [List.length_drop, h6, Nat.sub_mul]
      have := aCells_of (w := w') (b := b) (cells.drop (a * size)) (0 + a * size) fun i v hv => by
        rw [List.getElem?_drop] at hv
        rw [show 0 + a * size + i = a * size + i by omega]; exact hc _ v hv
      rw [ht] at this
      simp only [aNew, aFirst, this]
end Go.Sim
