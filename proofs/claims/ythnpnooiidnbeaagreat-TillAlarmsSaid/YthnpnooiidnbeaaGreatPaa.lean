/- This program: its code, contracts, numbers, part 1. -/
import Derived.Test.YthnpnooiidnbeaaGreatNc
import Derived.Test.YthnpnooiidnbeaaGreatChecked
import Derived.Test.YthnpnooiidnbeaaGreatMc
import Derived.Test.YthnpnooiidnbeaaGreatProg
import Derived.Lib.ReflectliteSwap
import Derived.Sort.LotA
import Derived.Sort.Grow
import Derived.Shelf.SlSortCmp.NoneTotal
import Derived.Shelf.SlicesG.Cmp
import Derived.Ground.SlsfProg
import Derived.Ground.SlgcProg
import Derived.Lib.RowBridge
import Derived.Lib.SortBridge
import Derived.WalkKit
import Derived.Test.YthnpnooiidnbeaaGreatNa
set_option linter.unusedVariables false
set_option linter.unusedSimpArgs false
namespace Go.Proofs
def Adj (L : List (Int × Int)) (u v : Nat) : Prop := ((u : Int), (v : Int)) ∈ L ∨ ((v : Int), (u : Int)) ∈ L
inductive Conn (L : List (Int × Int)) : Nat → Nat → Prop
  | refl (u : Nat) : Conn L u u
  | step {u v x : Nat} : Conn L u v → Adj L v x → Conn L u x
theorem Adj.symm {L : List (Int × Int)} {u v : Nat} (h : Adj L u v) : Adj L v u := h.elim .inr .inl
theorem Conn.trans {L : List (Int × Int)} {u v x : Nat} (h : Conn L u v) (k : Conn L v x) : Conn L u x := by
  induction k with
  | refl => exact h
  | step _ a ih => exact .step ih a
theorem Conn.one {L : List (Int × Int)} {u v : Nat} (h : Adj L u v) : Conn L u v := .step (.refl u) h
theorem Conn.symm {L : List (Int × Int)} {u v : Nat} (h : Conn L u v) : Conn L v u := by
  induction h with
  | refl => exact .refl _
  | step _ a ih => exact (Conn.one a.symm).trans ih
theorem Conn.mono {L L' : List (Int × Int)} (hs : ∀ x ∈ L, x ∈ L') {u v : Nat} (h : Conn L u v) : Conn L' u v := by
  induction h with
  | refl => exact .refl _
  | step _ a ih => exact .step ih (a.imp (hs _) (hs _))
def lb (A : List Int) (u : Nat) : Int := A.getD u (-1)
theorem lb_at {A : List Int} {u : Nat} (h : u < A.length) : lb A u = A[u] := by simp [lb, List.getD_eq_getElem?_getD, h]
theorem lb_set {A : List Int} {p u : Nat} {x : Int} (hp : p < A.length) : lb (A.set p x) u = if u = p then x else lb A u := by
  simp only [lb, List.getD_eq_getElem?_getD, List.getElem?_set]
  by_cases h : p = u
  · subst h; simp [hp]
  · simp [h, Ne.symm h]
def free (A : List Int) : Nat := A.countP fun x => decide (x = -1)
theorem lb_cons_succ (a : Int) (A : List Int) (u : Nat) : lb (a :: A) (u + 1) = lb A u := by simp [lb]
theorem free_set : ∀ {A : List Int} {p : Nat} {x : Int}, p < A.length → lb A p = -1 → x ≠ -1 → free (A.set p x) < free A
  | [], _, _, h, _, _ => by simp at h
  | a :: A, 0, x, _, h, hx => by
    have ha : a = -1 := by simpa [lb] using h
    subst ha
    simp [free, List.set, hx]
  | a :: A, p + 1, x, h, h1, hx => by
    rw [lb_cons_succ] at h1
    have ih := free_set (A := A) (p := p) (x := x) (by simpa using h) h1 hx
    unfold free at *
    simp only [List.set_cons_succ, List.countP_cons]
    omega
theorem free_mono : ∀ {A B : List Int}, A.length = B.length → (∀ u, lb A u ≠ -1 → lb B u ≠ -1) → free B ≤ free A
  | [], [], _, _ => Nat.le_refl _
  | [], _ :: _, h, _ => by simp at h
  | _ :: _, [], h, _ => by simp at h
  | a :: A, b :: B, h, k => by
    have ih := free_mono (A := A) (B := B) (by simpa using h) fun u hu => by
      have := k (u + 1); rw [lb_cons_succ, lb_cons_succ] at this; exact this hu
    have k0 : a ≠ -1 → b ≠ -1 := by simpa [lb] using k 0
    unfold free at *
    simp only [List.countP_cons]
    by_cases hb : b = -1
    · have ha : a = -1 := by
        by_cases q : a = -1
        · exact q
        · exact absurd hb (k0 q)
      simp only [ha, hb]; omega
    · have e : (decide (b = -1)) = false := decide_eq_false hb
      by_cases ha : a = -1 <;> simp only [ha, e, decide_true, if_true, decide_false, Bool.false_eq_true, if_false] <;> omega
structure Reach (L : List (Int × Int)) (A B : List Int) (p : Nat) (ld : Int) : Prop where
  len : B.length = A.length
  old : ∀ u, lb A u ≠ -1 → lb B u = lb A u
  new : ∀ u, lb A u = -1 → lb B u ≠ -1 → lb B u = ld ∧ Conn L p u ∧ ∀ v, Adj L u v → lb B v ≠ -1
  own : lb B p ≠ -1
theorem Reach.free {L : List (Int × Int)} {A B : List Int} {p : Nat} {ld : Int} (h : Reach L A B p ld) : free B ≤ free A :=
  free_mono h.len.symm fun u hu => by rw [h.old u hu]; exact hu
theorem Reach.here {L : List (Int × Int)} {A : List Int} {p : Nat} {ld : Int} (h : lb A p ≠ -1) : Reach L A A p ld :=
  ⟨rfl, fun _ _ => rfl, fun _ h1 h2 => absurd h1 h2, h⟩
structure Going (L : List (Int × Int)) (A B : List Int) (p : Nat) (ld : Int) (i : Nat) : Prop where
  len : B.length = A.length
  old : ∀ u, lb A u ≠ -1 → lb B u = lb A u
  new : ∀ u, lb A u = -1 → lb B u ≠ -1 → lb B u = ld ∧ Conn L p u ∧ ∀ v, Adj L u v → lb B v ≠ -1
  nb : ∀ j (h : j < L.length), j < i → ∀ v : Nat, (L[j] = ((p : Int), (v : Int)) ∨ L[j] = ((v : Int), (p : Int))) → lb B v ≠ -1
theorem Going.start {L : List (Int × Int)} {A : List Int} {p : Nat} {ld : Int} : Going L A A p ld 0 := ⟨rfl, fun _ _ => rfl, fun _ h1 h2 => absurd h1 h2, fun _ _ h => absurd h (by omega)⟩
theorem Going.free {L : List (Int × Int)} {A B : List Int} {p : Nat} {ld : Int} {i : Nat} (h : Going L A B p ld i) : free B ≤ free A :=
  free_mono h.len.symm fun u hu => by rw [h.old u hu]; exact hu
theorem Going.skip {L : List (Int × Int)} {A B : List Int} {p : Nat} {ld : Int} {i : Nat} (h : Going L A B p ld i) (hi : i < L.length) (h1 : L[i].1 ≠ (p : Int)) (h2 : L[i].2 ≠ (p : Int)) : Going L A B p ld (i + 1) :=
  ⟨h.len, h.old, h.new, fun j hj hji v hv => by
    by_cases q : j = i
    · subst q
      rcases hv with hv | hv
      · rw [hv] at h1; exact absurd rfl h1
      · rw [hv] at h2; exact absurd rfl h2
    · exact h.nb j hj (by omega) v hv⟩
theorem Going.call {L : List (Int × Int)} {A B C : List Int} {p q : Nat} {ld : Int} {i : Nat} (h : Going L A B p ld i) (hi : i < L.length) (hl : L[i] = ((p : Int), (q : Int)) ∨ L[i] = ((q : Int), (p : Int))) (hpq : p ≠ q) (k : Reach L B C q ld) : Going L A C p ld (i + 1) := by
  have hk : ∀ u, lb B u ≠ -1 → lb C u ≠ -1 := fun u hu => by rw [k.old u hu]; exact hu
  have hadj : Adj L p q := hl.imp (fun h => by rw [← h]; exact List.getElem_mem hi) (fun h => by rw [← h]; exact List.getElem_mem hi)
  refine ⟨k.len.trans h.len, fun u hu => ?_, fun u hu hc => ?_, fun j hj hji v hv => ?_⟩
  · have := h.old u hu
    rw [k.old u (by rw [this]; exact hu), this]
  · by_cases hb : lb B u = -1
    · obtain ⟨a, b, c⟩ := k.new u hb hc
      exact ⟨a, (Conn.one hadj).trans b, c⟩
    · obtain ⟨a, b, c⟩ := h.new u hu hb
      exact ⟨by rw [k.old u hb]; exact a, b, fun v hv => hk v (c v hv)⟩
  · by_cases e : j = i
    · subst e
      have : v = q := by
        rcases hl with hl | hl <;> rcases hv with hv | hv <;> rw [hl] at hv <;> simp only [Prod.mk.injEq] at hv <;> omega
      subst this
      exact k.own
    · exact hk v (h.nb j hj (by omega) v hv)
theorem Going.done {L : List (Int × Int)} {A B : List Int} {p : Nat} {ld : Int} (hp : p < A.length) (h0 : lb A p = -1) (hd : ld ≠ -1) (h : Going L (A.set p ld) B p ld L.length) : Reach L A B p ld := by
  have hs := fun u => lb_set (A := A) (p := p) (u := u) (x := ld) hp
  have hpp : lb B p = ld := by rw [h.old p (by rw [hs, if_pos rfl]; exact hd), hs, if_pos rfl]
  refine ⟨by rw [h.len, List.length_set], fun u hu => ?_, fun u hu hb => ?_, by rw [hpp]; exact hd⟩
  · have hup : u ≠ p := by rintro rfl; exact hu h0
    have := hs u
    rw [if_neg hup] at this
    rw [h.old u (by rw [this]; exact hu), this]
  · by_cases hup : u = p
    · subst hup
      refine ⟨hpp, .refl _, fun v hv => ?_⟩
      rcases hv with hv | hv
      · obtain ⟨j, hj, e⟩ := List.mem_iff_getElem.mp hv
        exact h.nb j hj hj v (.inl e)
      · obtain ⟨j, hj, e⟩ := List.mem_iff_getElem.mp hv
        exact h.nb j hj hj v (.inr e)
    · exact h.new u (by rw [hs, if_neg hup]; exact hu) hb
structure Labd (L : List (Int × Int)) (A : List Int) (i : Nat) : Prop where
  len : A.length = 24
  shut : ∀ u, lb A u ≠ -1 → ∀ v, Adj L u v → lb A v ≠ -1
  lab : ∀ u, lb A u ≠ -1 → ∃ q : Nat, q < i ∧ lb A u = (q : Int) ∧ Conn L q u ∧ ∀ r, Conn L r u → q ≤ r
  all : ∀ u, u < i → lb A u ≠ -1
theorem Labd.start (L : List (Int × Int)) : Labd L (List.replicate 24 (-1)) 0 := by
  have h : ∀ u, lb (List.replicate 24 (-1)) u = -1 := fun u => by
    simp only [lb, List.getD_eq_getElem?_getD, List.getElem?_replicate]; split <;> rfl
  exact ⟨rfl, fun u hu => absurd (h u) hu, fun u hu => absurd (h u) hu, fun u hu => absurd hu (by omega)⟩
theorem Labd.conn {L : List (Int × Int)} {A : List Int} {i : Nat} (h : Labd L A i) {u v : Nat} (hu : lb A u ≠ -1) (k : Conn L u v) : lb A v ≠ -1 := by
  induction k with
  | refl => exact hu
  | step _ a ih => exact h.shut _ ih _ a
theorem Labd.next {L : List (Int × Int)} {A B : List Int} {i : Nat} (h : Labd L A i) (k : Reach L A B i (i : Int)) : Labd L B (i + 1) := by
  have hk : ∀ u, lb A u ≠ -1 → lb B u ≠ -1 := fun u hu => by rw [k.old u hu]; exact hu
  refine ⟨k.len.trans h.len, fun u hu v hv => ?_, fun u hu => ?_, fun u hu => ?_⟩
  · by_cases q : lb A u = -1
    · exact (k.new u q hu).2.2 v hv
    · exact hk v (h.shut u q v hv)
  · by_cases q : lb A u = -1
    · obtain ⟨a, b, _⟩ := k.new u q hu
      refine ⟨i, by omega, a, b, fun r hr => ?_⟩
      rcases Nat.lt_or_ge r i with z | z
      · exact absurd q (h.conn (h.all r z) hr)
      · exact z
    · obtain ⟨x, h1, h2, h3, h4⟩ := h.lab u q
      exact ⟨x, by omega, by rw [k.old u q]; exact h2, h3, h4⟩
  · rcases Nat.lt_or_ge u i with z | z
    · exact hk u (h.all u z)
    · rw [show u = i by omega]; exact k.own
structure Labs (L : List (Int × Int)) (A : List Int) : Prop where
  len : A.length = 24
  lab : ∀ u (h : u < A.length), ∃ q : Nat, A[u] = (q : Int) ∧ Conn L q u ∧ ∀ r, Conn L r u → q ≤ r
theorem Labd.labs {L : List (Int × Int)} {A : List Int} (h : Labd L A 24) : Labs L A :=
  ⟨h.len, fun u hu => by
    have hl := h.len
    obtain ⟨q, _, h2, h3, h4⟩ := h.lab u (h.all u (by omega))
    rw [lb_at hu] at h2
    exact ⟨q, h2, h3, h4⟩⟩
theorem Labs.one {L : List (Int × Int)} {A B : List Int} (h : Labs L A) (k : Labs L B) : A = B := by
  refine List.ext_getElem (h.len.trans k.len.symm) fun u h1 h2 => ?_
  obtain ⟨a, a1, a2, a3⟩ := h.lab u h1
  obtain ⟨b, b1, b2, b3⟩ := k.lab u h2
  have := a3 b b2
  have := b3 a a2
  rw [a1, b1]; omega
theorem Labs.self {L : List (Int × Int)} {A : List Int} (h : Labs L A) (u : Nat) (hu : u < A.length) : 0 ≤ A[u] ∧ A[u] ≤ (u : Int) := by
  obtain ⟨a, a1, _, a3⟩ := h.lab u hu
  have := a3 u (.refl u)
  omega
theorem Labs.eq_conn {L : List (Int × Int)} {A : List Int} (h : Labs L A) {u v : Nat} (hu : u < A.length) (hv : v < A.length) : A[u] = A[v] ↔ Conn L u v := by
  obtain ⟨a, a1, a2, a3⟩ := h.lab u hu
  obtain ⟨b, b1, b2, b3⟩ := h.lab v hv
  constructor
  · intro e
    have : a = b := by omega
    subst this
    exact a2.symm.trans b2
  · intro c
    have := a3 b (b2.trans c.symm)
    have := b3 a (a2.trans c)
    omega
theorem Labs.more {L L' : List (Int × Int)} {A B : List Int} (h : Labs L A) (k : Labs L' B) (hs : ∀ x ∈ L, x ∈ L') (u : Nat) (hu : u < A.length) (hu' : u < B.length) : B[u] ≤ A[u] := by
  obtain ⟨a, a1, a2, _⟩ := h.lab u hu
  obtain ⟨b, b1, _, b3⟩ := k.lab u hu'
  have := b3 a (a2.mono hs)
  omega
end Go.Proofs

namespace Go.Proofs
theorem Conn.snoc {L : List (Int × Int)} {a b : Nat} {u v : Nat} : Conn (L ++ [((a : Int), (b : Int))]) u v ↔ Conn L u v ∨ (Conn L u a ∧ Conn L b v) ∨ (Conn L u b ∧ Conn L a v) := by
  constructor
  · intro h
    induction h with
    | refl => exact .inl (.refl _)
    | step _ adj ih =>
      rename_i x y _
      have hadj : Adj L x y ∨ (x = a ∧ y = b) ∨ (x = b ∧ y = a) := by
        rcases adj with q | q
        · rcases List.mem_append.mp q with z | z
          · exact .inl (.inl z)
          · simp at z; exact .inr (.inl (by omega))
        · rcases List.mem_append.mp q with z | z
          · exact .inl (.inr z)
          · simp at z; exact .inr (.inr (by omega))
      rcases hadj with z | ⟨rfl, rfl⟩ | ⟨rfl, rfl⟩
      · rcases ih with q | ⟨q, r⟩ | ⟨q, r⟩
        · exact .inl (.step q z)
        · exact .inr (.inl ⟨q, .step r z⟩)
        · exact .inr (.inr ⟨q, .step r z⟩)
      · rcases ih with q | ⟨q, r⟩ | ⟨q, r⟩
        · exact .inr (.inl ⟨q, .refl _⟩)
        · exact .inr (.inl ⟨q, .refl _⟩)
        · exact .inl q
      · rcases ih with q | ⟨q, r⟩ | ⟨q, r⟩
        · exact .inr (.inr ⟨q, .refl _⟩)
        · exact .inl q
        · exact .inr (.inr ⟨q, .refl _⟩)
  · have hm : ∀ {u v}, Conn L u v → Conn (L ++ [((a : Int), (b : Int))]) u v := fun h => h.mono fun x hx => List.mem_append_left _ hx
    have hab : Adj (L ++ [((a : Int), (b : Int))]) a b := .inl (by simp)
    rintro (h | ⟨h, k⟩ | ⟨h, k⟩)
    · exact hm h
    · exact ((hm h).trans (.one hab)).trans (hm k)
    · exact ((hm h).trans (.one hab.symm)).trans (hm k)
theorem Labs.nil : Labs [] ((List.range 24).map fun (n : Nat) => (n : Int)) := by
  refine ⟨by simp, fun u hu => ⟨u, by simp, .refl _, fun r hr => ?_⟩⟩
  have : ∀ {u v}, Conn [] u v → u = v := fun h => by
    induction h with
    | refl => rfl
    | step _ adj _ => rcases adj with q | q <;> simp at q
  exact Nat.le_of_eq (this hr).symm
theorem Labs.skip {L : List (Int × Int)} {A : List Int} (h : Labs L A) {a b : Nat} (ha : a < A.length) (hb : b < A.length) (e : A[a] = A[b]) : Labs (L ++ [((a : Int), (b : Int))]) A := by
  have hc := (h.eq_conn ha hb).1 e
  refine ⟨h.len, fun u hu => ?_⟩
  obtain ⟨q, h1, h2, h3⟩ := h.lab u hu
  refine ⟨q, h1, Conn.snoc.mpr (.inl h2), fun r hr => h3 r ?_⟩
  rcases Conn.snoc.mp hr with z | ⟨z, y⟩ | ⟨z, y⟩
  · exact z
  · exact (z.trans hc).trans y
  · exact (z.trans hc.symm).trans y
def mergeV (x y v : Int) : Int := if v = max x y then min x y else v
theorem Labs.merge {L : List (Int × Int)} {A : List Int} (h : Labs L A) {a b : Nat} (ha : a < A.length) (hb : b < A.length) : Labs (L ++ [((a : Int), (b : Int))]) (A.map (mergeV A[a] A[b])) := by
  refine ⟨by rw [List.length_map]; exact h.len, fun u hu => ?_⟩
  rw [List.length_map] at hu
  rw [List.getElem_map]
  obtain ⟨q, h1, h2, h3⟩ := h.lab u hu
  obtain ⟨x, a1, a2, a3⟩ := h.lab a ha
  obtain ⟨y, b1, b2, b3⟩ := h.lab b hb
  have low : ∀ r, Conn (L ++ [((a : Int), (b : Int))]) r u → (q ≤ r ∧ Conn L r u) ∨ (x ≤ r ∧ q = y ∧ Conn L b u) ∨ (y ≤ r ∧ q = x ∧ Conn L a u) := fun r hr => by
    rcases Conn.snoc.mp hr with z | ⟨z, w⟩ | ⟨z, w⟩
    · exact .inl ⟨h3 r z, z⟩
    · have e := (h.eq_conn hb hu).2 w
      exact .inr (.inl ⟨a3 r z, by omega, w⟩)
    · have e := (h.eq_conn ha hu).2 w
      exact .inr (.inr ⟨b3 r z, by omega, w⟩)
  have hab : Adj (L ++ [((a : Int), (b : Int))]) a b := .inl (by simp)
  have hm : ∀ {u v}, Conn L u v → Conn (L ++ [((a : Int), (b : Int))]) u v := fun h => h.mono fun x hx => List.mem_append_left _ hx
  unfold mergeV
  by_cases hq : A[u] = max A[a] A[b]
  · rw [if_pos hq]
    rcases Nat.lt_or_ge x y with z | z
    · refine ⟨x, by omega, ?_, fun r hr => ?_⟩
      · have hbu : Conn L b u := (h.eq_conn hb hu).1 (by omega)
        exact ((hm a2).trans (.one hab)).trans (hm hbu)
      · rcases low r hr with ⟨k, _⟩ | ⟨k, _, _⟩ | ⟨k, _, _⟩ <;> omega
    · refine ⟨y, by omega, ?_, fun r hr => ?_⟩
      · have hau : Conn L a u := (h.eq_conn ha hu).1 (by omega)
        exact ((hm b2).trans (.one hab.symm)).trans (hm hau)
      · rcases low r hr with ⟨k, _⟩ | ⟨k, _, _⟩ | ⟨k, _, _⟩ <;> omega
  · rw [if_neg hq]
    refine ⟨q, h1, hm h2, fun r hr => ?_⟩
    rcases low r hr with ⟨k, _⟩ | ⟨k, e, _⟩ | ⟨k, e, _⟩
    · exact k
    · omega
    · omega
end Go.Proofs

namespace Go.Proofs
open Go Go.RowKit Go.Sim
set_option maxRecDepth 100000
theorem Tryz.ty3 : (prg Tryz.prog).ty 3 = some ⟨false, (.int .i64), 1, 8, .int .i64 0⟩ := by kernel_rfl
attribute [go_sem] Tryz.ty3
theorem Tryz.ty22 : (prg Tryz.prog).ty 22 = some ⟨false, (.slice 3), 1, 24, .slice none 0 0⟩ := by kernel_rfl
attribute [go_sem] Tryz.ty22
theorem Tryz.ia22 (t : Tmps) (w : AW) (x y : Operand) : fast (prg Tryz.prog) t w (.indexAddr 22 x y) = indexV 1 (ev t x) (ev t y) := fast_indexAddr Tryz.ty22 Tryz.ty3
attribute [go_sem] Tryz.ia22
theorem Tryz.ln22 (t : Tmps) (w : AW) (x : Operand) : fast (prg Tryz.prog) t w (.call ⟨.builtin .len, ⟨[x]⟩, ⟨[22]⟩⟩) = lenV (ev t x) := fast_len Tryz.ty22
attribute [go_sem] Tryz.ln22
end Go.Proofs

namespace Go.Proofs
open Go Go.Shelf Go.RowKit Go.Sim
set_option maxRecDepth 1000000
theorem Tryz.fits : Fit Tryz.prog := fit_of (by decide +kernel)
theorem Tryz.mixed : Tryz.prog.follows .mixedOrders = true := by decide +kernel
theorem Tryz.told0 (N : Nat) : ToldOk Tryz.prog N (fun _ _ _ => none) := fun f args w w1 v h => by cases h
end Go.Proofs

namespace Go.Proofs
open Go Go.RowKit Go.Sim
set_option maxRecDepth 1000000
theorem Tryz.works (W : World) : Calls Tryz.prog 21 #[] W fun e W' => e = .returned (.bool true) ∧ Below W.heap.size W W' :=
  calls_true (F := 1000000) Tryz.fits Tryz.mixed Tryz.told0 (n := 99) (by decide +kernel) (by decide +kernel) W
def Tryz.T0 : ToldF := toldTrue 21 fun _ _ _ => none
theorem Tryz.toldT0 (N : Nat) : ToldOk Tryz.prog N Tryz.T0 := toldTrue_ok (fun args w => Tryz.call21 args w) Tryz.works Tryz.told0 N
end Go.Proofs

namespace Go.Sim
open Go Go.RowKit Go.Extern
variable {P : Program} {N : Nat}
structure SortIds where
  fV : FuncId
  fL : FuncId
  fW : FuncId
  fS : FuncId
  fS0 : FuncId
  fS1 : FuncId
  ty : TypeId
  el : TypeId
  hb : Nat
def SortIds.handle (s : SortIds) (t : TypeId) : Value := .pointer (some ⟨s.hb, t, some 1⟩)
end Go.Sim

namespace Go.Sim
open Go Go.RowKit
variable {P : Program} {N : Nat}
def readInts (w : AW) (b : Nat) : Nat → Nat → Option (List Int)
  | _, 0 => some []
  | o, n + 1 => match w.cell? ⟨b, o, none⟩ with
    | some (.int .i64 z) => match readInts w b (o + 1) n with
      | some l => some (z :: l)
      | none => none
    | _ => none
def encInt (z : Int) : Value := .int .i64 z
theorem readInts_len {w : AW} {b : Nat} : ∀ {n o : Nat} {l : List Int}, readInts w b o n = some l → l.length = n
  | 0, o, l, h => by simp only [readInts, Option.some.injEq] at h; subst h; rfl
  | n + 1, o, l, h => by
    simp only [readInts] at h
    split at h
    · split at h
      · rename_i hr
        injection h with h; subst h
        simp [readInts_len hr]
      · cases h
    · cases h
theorem readInts_at {σ : Emb} {w : AW} {W : World} (hw : WRel N σ w W) {b : Nat} {x : Loc} (hb : σ b = some x) : ∀ {n o : Nat} {l : List Int}, readInts w b o n = some l → ∀ j (h : j < l.length), W.cell? ⟨x.c, x.s + (o + j), none⟩ = some (encInt l[j])
  | 0, o, l, h, j, hj => by simp only [readInts, Option.some.injEq] at h; subst h; simp at hj
  | n + 1, o, l, h, j, hj => by
    simp only [readInts] at h
    split at h
    · rename_i z hz
      split at h
      · rename_i r hr
        injection h with h; subst h
        obtain ⟨v', e, rv, _⟩ := hw.cell hb hz
        cases rv
        cases j with
        | zero => exact e
        | succ j =>
          have := readInts_at hw hb hr j (by simpa using hj)
          rw [show o + (j + 1) = o + 1 + j by omega]
          exact this
      · cases h
    · cases h
theorem putRow_nil (W : World) (c o : Nat) : Go.Sort.putRow encInt W c o (#[] : Array Int) = W := by
  refine Go.Sort.mapBlock_id W c _ fun d e fr h => ?_
  apply Array.ext_getElem?
  intro k
  simp only [Go.Sort.putCells, Array.getElem?_mapIdx]
  have hn : ¬ (o ≤ k ∧ k < o + (#[] : Array Int).size) := by simp
  simp only [if_neg hn]
  simp
theorem putRow_cons (W : World) (c o : Nat) (z : Int) (l : List Int) : Go.Sort.putRow encInt (W.setCell ⟨c, o, none⟩ (encInt z)) c (o + 1) l.toArray = Go.Sort.putRow encInt W c o (z :: l).toArray := by
  rw [Go.Sort.setCell_eq]
  unfold Go.Sort.putRow
  rw [Go.Sort.mapBlock_mapBlock]
  refine Go.Sort.mapBlock_congr W c _ _ fun d e fr h => ?_
  apply Array.ext_getElem?
  intro k
  simp only [Go.Sort.putCells, Array.getElem?_mapIdx, Array.getElem?_setIfInBounds]
  by_cases hk : o = k
  · subst hk
    have hn : ¬ (o + 1 ≤ o ∧ o < o + 1 + l.toArray.size) := by omega
    by_cases hs : o < d.size
    · simp [hs]
      intro h1; omega
    · simp [hs]
  · rw [if_neg hk]
    by_cases hs : k < d.size
    · rw [Array.getElem?_eq_getElem hs]
      simp only [Option.map_some, List.size_toArray, List.length_cons]
      by_cases q : o + 1 ≤ k ∧ k < o + 1 + l.length
      · rw [if_pos q, if_pos ⟨by omega, by omega⟩]
        have e : k - o = (k - (o + 1)) + 1 := by omega
        rw [e]
        simp
      · rw [if_neg q, if_neg (by omega)]
    · rw [Array.getElem?_eq_none (by omega)]; rfl
theorem frozen_setCell (W : World) (a p : Addr) (u : Value) : (W.setCell a u).frozen? p = W.frozen? p := by
  simp only [World.setCell, World.frozen?, Array.getElem?_modify]
  by_cases hk : a.block = p.block
  · simp only [hk, if_true]
    cases W.heap[p.block]? with
    | none => rfl
    | some o => cases o <;> rfl
  · simp [hk]
theorem aStores_row {σ : Emb} {b : Nat} {x : Loc} (hb : σ b = some x) : ∀ {l : List Int} {o : Nat} {w w1 : AW} {W : World}, WRel N σ w W → aStores b o (l.map encInt) w = some w1 →
    Ext N σ w W σ w1 (Go.Sort.putRow encInt W x.c (x.s + o) l.toArray) ∧ ∀ j, j < l.length → W.frozen? ⟨x.c, x.s + (o + j), none⟩ = false
  | [], o, w, w1, W, hw, h => by
    simp only [List.map_nil, aStores, Option.some.injEq] at h
    subst h
    exact ⟨by rw [putRow_nil]; exact .refl hw, fun j hj => by simp at hj⟩
  | z :: l, o, w, w1, W, hw, h => by
    simp only [List.map_cons, aStores] at h
    split at h
    case h_2 => cases h
    rename_i w2 h2
    obtain ⟨_, _, hf, hx⟩ := hw.store hb (VRel.int .i64 z) h2
    obtain ⟨h3, h4⟩ := aStores_row hb hx.rel h
    rw [show x.s + (o + 1) = x.s + o + 1 by omega] at h3
    rw [show (Value.int .i64 z) = encInt z from rfl, putRow_cons] at h3
    refine ⟨hx.trans h3, fun j hj => ?_⟩
    cases j with
    | zero => exact hf
    | succ j =>
      have := h4 j (by simpa using hj)
      rw [frozen_setCell] at this
      rw [show o + (j + 1) = o + 1 + j by omega]
      exact this
theorem below_grow (W : World) (n : Nat) (os : Array Obj) : Below W.heap.size W (Go.Sort.grow (Go.Sort.ahead W n) os) :=
  ⟨rfl, rfl, rfl, by simp [Go.Sort.grow, Go.Sort.ahead], fun k hk => Go.Sort.heap_grow_old _ _ hk⟩
end Go.Sim

namespace Go.Sim
open Go Go.RowKit
variable {P : Program} {N : Nat}
structure FuncIds where
  f : FuncId
  g : FuncId
def sortedD (l : List Int) : List Int := l.mergeSort fun x y => decide (y ≤ x)
theorem sortedD_len (l : List Int) : (sortedD l).length = l.length := by unfold sortedD; exact List.length_mergeSort l
def sortRowF (w : AW) (n : Nat) (p : Option Addr) : Option (Value × AW) :=
  match p with
  | some ⟨b, o, none⟩ =>
    match Nat.ble n 1048576 with
    | true => match readInts w b o n with
      | some l => match aStores b o ((sortedD l).map encInt) w with
        | some w1 => some (.tuple #[], w1)
        | none => none
      | none => none
    | false => none
  | _ => none
def sortFT (s : FuncIds) (args : List Value) (w : AW) : Option (Value × AW) :=
  match args with
  | [.slice p n _, .func (.func g) first caps] =>
    match Nat.beq g s.g, first.toList, caps.toList with
    | true, [], [] =>
      match Nat.beq n 0 with
      | true => some (.tuple #[], w)
      | false => sortRowF w n p
    | _, _, _ => none
  | _ => none
def toldFunc (s : FuncIds) (told : ToldF) : ToldF := fun f args w =>
  match Nat.beq f s.f with
  | true => sortFT s args.toList w
  | false => told f args w
structure FuncOk (P : Program) (s : FuncIds) : Prop where
  enters : ∀ args W, (callFunc s.f args).run P W = .ok (.enter s.f args) W
  tiny : ∀ (p : Option Addr) (c : Nat) (W : World), Calls P s.f #[.slice p 0 c, .func (.func s.g) #[] #[]] W fun e W' => e = .returned (.tuple #[]) ∧ W' = W
  sorts : ∀ (blk off c : Nat) (d : Array Int) (W : World), 1 ≤ d.size → d.size ≤ 1048576 → Go.Sort.Holds encInt W blk off d → blk < W.heap.size →
    Calls P s.f #[.slice (some ⟨blk, off, none⟩) d.size c, .func (.func s.g) #[] #[]] W fun e W' =>
      e = .returned (.tuple #[]) ∧ ∃ n os, W' = Go.Sort.grow (Go.Sort.putRow encInt (Go.Sort.ahead W n) blk off (sortedD d.toList).toArray) os
theorem empty_of {x : Array Value} (h : x.toList = []) {y : Array Value} (hs : x.size = y.size) : y = #[] := by
  have : x.size = 0 := by rw [← Array.length_toList, h]; rfl
  exact Array.eq_empty_of_size_eq_zero (by omega)
theorem toldFunc_ok {s : FuncIds} (hs : FuncOk P s) {told : ToldF} (ht : ∀ N, ToldOk P N told) (N : Nat) : ToldOk P N (toldFunc s told) := by
  intro f args w w1 v h σ W args0 cap c cs hw ha
  unfold toldFunc at h
  split at h
  case h_2 => exact ht N f args w w1 v h σ W args0 cap c cs hw ha
  rename_i hf
  have hf := Nat.eq_of_beq_eq_true hf
  subst hf
  unfold sortFT at h
  split at h
  case h_2 => cases h
  rename_i p n k g first caps harg
  split at h
  case h_2 => cases h
  rename_i hids hfi hca
  have h1 := Nat.eq_of_beq_eq_true hids
  subst h1
  obtain ⟨a', f', e, r1, r2⟩ := two_args harg ha
  cases r2 with
  | func hfn hfs hcs hfv hcv =>
  rename_i g' first' caps'
  cases hfn
  obtain rfl := empty_of hfi hfs
  obtain rfl := empty_of hca hcs
  split at h
  · rename_i hn
    have hn := Nat.eq_of_beq_eq_true hn
    subst hn
    injection h with h; injection h with h3 h4
    subst h3 h4
    have key : ∀ (p' : Option Addr) (k' : Nat), args0 ++ cap = #[.slice p' 0 k', .func (.func s.g) #[] #[]] →
        ∃ σ' v' W', Delivers P (.fn (.func s.f) cap) args0 W c cs v' W' ∧ Ext N σ w W σ' w W' ∧ VRel σ' (.tuple #[]) v' := by
      intro p' k' e
      have hc := hs.tiny p' k' W
      rw [← e] at hc
      obtain ⟨W', d1, d2⟩ := delivers_calls hs.enters hc c cs
      subst d2
      exact ⟨σ, _, W', d1, .refl hw, .unit⟩
    cases r1 <;> exact key _ _ e
  · rename_i hn
    have hn : 1 ≤ n := by
      rcases Nat.lt_or_ge n 1 with q | q
      · obtain rfl : n = 0 := by omega
        cases hn
      · exact q
    unfold sortRowF at h
    split at h
    case h_2 => cases h
    rename_i b o
    split at h
    case h_2 => cases h
    rename_i q4
    have q4 := Nat.le_of_ble_eq_true q4
    split at h
    case h_2 => cases h
    rename_i l hl
    split at h
    case h_2 => cases h
    rename_i w2 hst
    injection h with h; injection h with h3 h4
    subst h3 h4
    have hlen := readInts_len hl
    cases r1 with
    | tail => omega
    | slice hb hk1 hk2 =>
    rename_i k' x
    obtain ⟨hext, hfr⟩ := aStores_row hb hw hst
    have hcells := readInts_at hw hb hl
    rw [sortedD_len] at hfr
    have hsz : l.toArray.size = n := by simp [hlen]
    have hH : Go.Sort.Holds encInt W x.c (x.s + o) l.toArray := fun j hj => by
      have hj' : j < l.length := by simpa using hj
      refine ⟨?_, ?_⟩
      · have := hcells j hj'
        rw [show x.s + o + j = x.s + (o + j) by omega, this]
        congr 2
        simp [hj']
      · rw [show x.s + o + j = x.s + (o + j) by omega]
        exact hfr j hj'
    have hin : ∀ {a : Addr} {u : Value}, W.cell? a = some u → a.block < W.heap.size := fun {a u} ha => by
      unfold World.cell? at ha
      split at ha
      · rename_i hb
        rcases Nat.lt_or_ge a.block W.heap.size with q | q
        · exact q
        · rw [Array.getElem?_eq_none q] at hb; cases hb
      · cases ha
    have hblk : x.c < W.heap.size := hin (hH 0 (by omega)).1
    have hc := hs.sorts x.c (x.s + o) k' l.toArray W (by omega) (by omega) hH hblk
    rw [hsz] at hc
    rw [← e] at hc
    obtain ⟨W', d1, m, os, d2⟩ := delivers_calls hs.enters hc c cs
    refine ⟨σ, _, W', d1, hext.trans (hext.rel.aside ?_), .unit⟩
    rw [d2, Go.Sort.putRow_ahead]
    exact below_grow _ m os
theorem readInts_map {w : AW} {b : Nat} {L : List Int} (h : ∀ j (hj : j < L.length), w.cell? ⟨b, j, none⟩ = some (.int .i64 L[j])) : ∀ n o, o + n = L.length → readInts w b o n = some (L.drop o)
  | 0, o, ho => by rw [readInts, List.drop_of_length_le (by omega)]
  | n + 1, o, ho => by
    rw [readInts, h o (by omega)]
    simp only [readInts_map h n (o + 1) (by omega)]
    rw [List.drop_eq_getElem_cons (by omega : o < L.length)]
end Go.Sim

namespace Go.Proofs
open Go.Shelf
def Tryz.sortL_ren : Go.Shelf.Ren := ⟨fun | 6 => 146 | 15 => 161 | 14 => 160 | 28 => 174 | 29 => 175 | 20 => 166 | 21 => 167 | 22 => 168 | 23 => 169 | 24 => 170 | 25 => 171 | 26 => 172 | 27 => 173 | 46 => 186 | 47 => 187 | 48 => 188 | 49 => 189 | 50 => 190 | 57 => 195 | n => n, fun | 22 => 22 | 24 => 3 | 25 => 72 | 3 => 3 | 39 => 198 | 0 => 0 | 53 => 211 | 55 => 213 | 4 => 4 | 46 => 205 | 45 => 204 | 50 => 66 | 5 => 5 | 9 => 9 | 66 => 222 | 70 => 226 | 76 => 230 | 77 => 231 | n => n, fun | n => n⟩
theorem Tryz.sortL : Go.Proofs.SlLaysF.n6 Tryz.prog Tryz.sortL_ren := {
  mixed := by kernel_rfl
  f6 := ⟨Tryz.f146.name, by decide, Tryz.func146.trans (congrArg some (by kernel_rfl))⟩
  f14 := ⟨Tryz.f160.name, by decide, Tryz.func160.trans (congrArg some (by kernel_rfl))⟩
  f15 := Tryz.func161.trans (congrArg some (by kernel_rfl))
  f20 := ⟨Tryz.f166.name, by decide, Tryz.func166.trans (congrArg some (by kernel_rfl))⟩
  f21 := ⟨Tryz.f167.name, by decide, Tryz.func167.trans (congrArg some (by kernel_rfl))⟩
  f22 := ⟨Tryz.f168.name, by decide, Tryz.func168.trans (congrArg some (by kernel_rfl))⟩
  f23 := ⟨Tryz.f169.name, by decide, Tryz.func169.trans (congrArg some (by kernel_rfl))⟩
  f24 := ⟨Tryz.f170.name, by decide, Tryz.func170.trans (congrArg some (by kernel_rfl))⟩
  f25 := ⟨Tryz.f171.name, by decide, Tryz.func171.trans (congrArg some (by kernel_rfl))⟩
  f26 := ⟨Tryz.f172.name, by decide, Tryz.func172.trans (congrArg some (by kernel_rfl))⟩
  f27 := ⟨Tryz.f173.name, by decide, Tryz.func173.trans (congrArg some (by kernel_rfl))⟩
  f28 := Tryz.func174.trans (congrArg some (by kernel_rfl))
  f29 := Tryz.func175.trans (congrArg some (by kernel_rfl))
  f46 := ⟨Tryz.f186.name, by decide, Tryz.func186.trans (congrArg some (by kernel_rfl))⟩
  f47 := Tryz.func187.trans (congrArg some (by kernel_rfl))
  f48 := Tryz.func188.trans (congrArg some (by kernel_rfl))
  f49 := ⟨Tryz.f189.name, by decide, Tryz.func189.trans (congrArg some (by kernel_rfl))⟩
  f50 := ⟨Tryz.f190.name, by decide, Tryz.func190.trans (congrArg some (by kernel_rfl))⟩
  f57 := ⟨Tryz.f195.name, by decide, Tryz.func195.trans (congrArg some (by kernel_rfl))⟩
  t0 := Tryz.underlying0
  a0 := Tryz.isAgg0
  z0 := Tryz.sizeOf0
  v0 := Tryz.zeroValue0
  t3 := Tryz.underlying3
  a3 := Tryz.isAgg3
  z3 := Tryz.sizeOf3
  v3 := Tryz.zeroValue3
  t4 := Tryz.underlying4
  a4 := Tryz.isAgg4
  z4 := Tryz.sizeOf4
  v4 := Tryz.zeroValue4
  t5 := Tryz.underlying5
  a5 := Tryz.isAgg5
  z5 := Tryz.sizeOf5
  v5 := Tryz.zeroValue5
  t9 := Tryz.underlying9
  a9 := Tryz.isAgg9
  z9 := Tryz.sizeOf9
  v9 := Tryz.zeroValue9
  t22 := Tryz.underlying22
  a22 := Tryz.isAgg22
  z22 := Tryz.sizeOf22
  v22 := Tryz.zeroValue22
  a24 := Tryz.isAgg3
  z24 := Tryz.sizeOf3
  t25 := Tryz.underlying72
  a25 := Tryz.isAgg72
  z25 := Tryz.sizeOf72
  v25 := Tryz.zeroValue72
  t39 := Tryz.underlying198
  a39 := Tryz.isAgg198
  z39 := Tryz.sizeOf198
  v39 := Tryz.zeroValue198
  t45 := Tryz.underlying204
  a45 := Tryz.isAgg204
  z45 := Tryz.sizeOf204
  v45 := Tryz.zeroValue204
  t46 := Tryz.underlying205
  a46 := Tryz.isAgg205
  z46 := Tryz.sizeOf205
  v46 := Tryz.zeroValue205
  t50 := Tryz.underlying66
  a50 := Tryz.isAgg66
  z50 := Tryz.sizeOf66
  v50 := Tryz.zeroValue66
  t53 := Tryz.underlying211
  a53 := Tryz.isAgg211
  z53 := Tryz.sizeOf211
  v53 := Tryz.zeroValue211
  t55 := Tryz.underlying213
  a55 := Tryz.isAgg213
  z55 := Tryz.sizeOf213
  v55 := Tryz.zeroValue213
  t66 := Tryz.underlying222
  a66 := Tryz.isAgg222
  z66 := Tryz.sizeOf222
  v66 := Tryz.zeroValue222
  t70 := Tryz.underlying226
  a70 := Tryz.isAgg226
  z70 := Tryz.sizeOf226
  v70 := Tryz.zeroValue226
  t76 := Tryz.underlying230
  a76 := Tryz.isAgg230
  z76 := Tryz.sizeOf230
  v76 := Tryz.zeroValue230
  t77 := Tryz.underlying231
  a77 := Tryz.isAgg231
  z77 := Tryz.sizeOf231
  v77 := Tryz.zeroValue231 }
def Tryz.cmpL_ren : Go.Shelf.Ren := ⟨fun | 5 => 140 | 7 => 157 | n => n, fun | 22 => 3 | 3 => 3 | 4 => 4 | n => n, fun | n => n⟩
theorem Tryz.cmpL : Go.Proofs.SlLaysC2.n5 Tryz.prog Tryz.cmpL_ren := {
  mixed := by kernel_rfl
  f5 := ⟨Tryz.f140.name, by decide, Tryz.func140.trans (congrArg some (by kernel_rfl))⟩
  f7 := ⟨Tryz.f157.name, by decide, Tryz.func157.trans (congrArg some (by kernel_rfl))⟩
  t3 := Tryz.underlying3
  a3 := Tryz.isAgg3
  z3 := Tryz.sizeOf3
  v3 := Tryz.zeroValue3
  t4 := Tryz.underlying4
  a4 := Tryz.isAgg4
  z4 := Tryz.sizeOf4
  v4 := Tryz.zeroValue4
  t22 := Tryz.underlying3
  a22 := Tryz.isAgg3
  z22 := Tryz.sizeOf3
  v22 := Tryz.zeroValue3 }
end Go.Proofs
namespace Go.Proofs
open Go Go.Shelf Go.RowKit Go.Lib Go.Sort Go.Sim
def cfD (x y : Int) : Int := Lib.compareInt y x
theorem ltD (x y : Int) : ltOf cfD x y = decide (y < x) := by
  unfold ltOf cfD Lib.compareInt
  by_cases h1 : y < x
  · simp [h1]
  · by_cases h2 : x < y <;> simp [h1, h2]
theorem swoD : SWO (ltOf cfD) where
  irrefl x := by rw [ltD]; simp
  trans x y z h1 h2 := by rw [ltD] at *; simp at *; omega
  ntrans x y z h1 h2 := by rw [ltD] at *; simp at *; omega
theorem totD (x y : Int) (h1 : ltOf cfD x y = false) (h2 : ltOf cfD y x = false) : x = y := by rw [ltD] at *; simp at *; omega
theorem geD : (fun x y : Int => !ltOf cfD y x) = fun x y => decide (y ≤ x) := by
  funext x y
  rw [ltD]
  by_cases h : y ≤ x
  · have h' : ¬ x < y := by omega
    simp [h, h']
  · have h' : x < y := by omega
    simp [h, h']
set_option maxHeartbeats 1000000 in
theorem closureD (x y : Int) (W : World) : Calls Tryz.prog 147 #[.int .i64 x, .int .i64 y] W fun e w' => e = .returned (.int .i64 (cfD x y)) ∧ ∃ q, w' = W.drewN q := by
  have hcon := AnyG.cmp_Compare_int Tryz.cmpL y x W
  change Calls Tryz.prog 140 _ _ _ at hcon
  unfold cfD
  generalize Lib.compareInt y x = r at hcon ⊢
  go_enter Tryz.func147, Tryz.ntmps147
  go_wp2_with (go_at_call 140; refine hcon.mono ?_; rintro e w' ⟨rfl, rfl⟩)
  go_ret
  exact ⟨rfl, 0, rfl⟩
theorem cmpReadsD (blk off size : Nat) (w : World) : CmpReads Tryz.prog 147 #[] encInt cfD blk off size w := fun _ _ _ _ x y => closureD x y _
def Tryz.funcIds : FuncIds := ⟨146, 147⟩
theorem Tryz.funcOk : FuncOk Tryz.prog Tryz.funcIds := {
  enters := fun args W => Tryz.call146 args W
  tiny := fun p c W => by
    have h := AnyF.slices_SortFunc_none (P := Tryz.prog) (ρ := Tryz.sortL_ren) { Tryz.sortL with } p c (.func (.func 147) #[] #[]) W
    exact h
  sorts := fun blk off c d W h1 h2 hH hblk => by
    have hS := Any.slices_SortFunc_total Tryz.sortL encInt (fun _ => rfl) cfD swoD 147 #[] blk off c d W (fun args W => Tryz.call147 args W) (cmpReadsD blk off d.size W).lays hH hblk (by omega) totD
    rw [geD] at hS
    refine hS.mono ?_
    rintro e w' ⟨he, n, os, hw⟩
    refine ⟨he, n, os, ?_⟩
    rw [hw]
    unfold sortWorld
    rfl }
end Go.Proofs

namespace Go.Proofs
open Go Go.RowKit Go.Sim
def Tryz.T1 : ToldF := toldFunc Tryz.funcIds Tryz.T0
theorem Tryz.toldT1 (N : Nat) : ToldOk Tryz.prog N Tryz.T1 := toldFunc_ok Tryz.funcOk Tryz.toldT0 N
end Go.Proofs

namespace Go.Proofs
open Go Go.RowKit Go.Sim
set_option maxRecDepth 100000
def Tryz.s5 : SC := (.seq (.ops false [⟨⟨(some 2),.box 48 (.tmp 0),0,"",⟨[]⟩,none⟩,none,false⟩,⟨⟨(some 4),.assign (.const (.bool false)),4,"",⟨[]⟩,none⟩,none,false⟩]) (.seq (.ops false [⟨⟨(some 13),.fieldAddr 48 (.tmp 2) 1,0,"",⟨[]⟩,none⟩,none,false⟩,⟨⟨(some 14),.load 44 (.tmp 13),44,"",⟨[]⟩,none⟩,none,false⟩,⟨⟨(some 15),.call ⟨.value (.func 28),⟨[(.tmp 14)]⟩,⟨[44]⟩⟩,27,"",⟨[]⟩,none⟩,none,false⟩,⟨⟨(some 12),.move (.tmp 15),27,"",⟨[]⟩,none⟩,none,false⟩,⟨⟨(some 16),.extract (.tmp 12) 0,22,"",⟨[]⟩,none⟩,none,false⟩,⟨⟨(some 17),.extract (.tmp 12) 1,26,"",⟨[]⟩,none⟩,none,false⟩,⟨⟨(some 5),.assign (.tmp 16),22,"",⟨[]⟩,none⟩,none,false⟩,⟨⟨(some 6),.assign (.tmp 17),26,"",⟨[]⟩,none⟩,none,false⟩]) (.seq (.ops false [⟨⟨(some 19),.fieldAddr 48 (.tmp 2) 1,0,"",⟨[]⟩,none⟩,none,false⟩,⟨⟨(some 20),.load 44 (.tmp 19),44,"",⟨[]⟩,none⟩,none,false⟩,⟨⟨(some 21),.call ⟨.value (.func 29),⟨[(.tmp 20)]⟩,⟨[44]⟩⟩,27,"",⟨[]⟩,none⟩,none,false⟩,⟨⟨(some 18),.move (.tmp 21),27,"",⟨[]⟩,none⟩,none,false⟩,⟨⟨(some 22),.extract (.tmp 18) 0,22,"",⟨[]⟩,none⟩,none,false⟩,⟨⟨(some 23),.extract (.tmp 18) 1,26,"",⟨[]⟩,none⟩,none,false⟩,⟨⟨(some 7),.assign (.tmp 22),22,"",⟨[]⟩,none⟩,none,false⟩,⟨⟨(some 8),.assign (.tmp 23),26,"",⟨[]⟩,none⟩,none,false⟩]) (.seq (.seq (.ops false [⟨⟨(some 24),.move (.tmp 5),22,"",⟨[]⟩,none⟩,none,false⟩,⟨⟨(some 25),.move (.tmp 7),22,"",⟨[]⟩,none⟩,none,false⟩,⟨⟨(some 26),.call ⟨.value (.func 16),⟨[(.tmp 24),(.tmp 25)]⟩,⟨[22,22]⟩⟩,4,"",⟨[]⟩,none⟩,none,false⟩,⟨⟨(some 27),.unOp .not 4 (.tmp 26),4,"",⟨[]⟩,none⟩,none,false⟩,⟨⟨(some 28),.move (.tmp 27),4,"",⟨[]⟩,none⟩,none,false⟩,⟨⟨(some 29),.move (.tmp 6),26,"",⟨[]⟩,none⟩,some ((some 28),false),false⟩,⟨⟨(some 30),.move (.tmp 8),26,"",⟨[]⟩,none⟩,some ((some 28),false),false⟩,⟨⟨(some 31),.binOp .neq 26 (.tmp 29) (.tmp 30) 26,4,"",⟨[]⟩,none⟩,some ((some 28),false),false⟩,⟨⟨(some 32),.pick (.tmp 28) (.const (.bool true)) (.tmp 31),4,"",⟨[]⟩,none⟩,none,false⟩]) (.cond (.tmp 32) (.seq (.ops false [⟨⟨(some 4),.assign (.const (.bool false)),4,"",⟨[]⟩,none⟩,none,false⟩]) .ret) .skip)) (.seq (.ops false [⟨⟨(some 34),.fieldAddr 48 (.tmp 2) 0,0,"",⟨[]⟩,none⟩,none,false⟩,⟨⟨(some 35),.load 43 (.tmp 34),43,"",⟨[]⟩,none⟩,none,false⟩,⟨⟨(some 36),.fieldAddr 48 (.tmp 2) 1,0,"",⟨[]⟩,none⟩,none,false⟩,⟨⟨(some 37),.load 44 (.tmp 36),44,"",⟨[]⟩,none⟩,none,false⟩,⟨⟨(some 38),.fieldAddr 48 (.tmp 2) 2,0,"",⟨[]⟩,none⟩,none,false⟩,⟨⟨(some 39),.load 46 (.tmp 38),46,"",⟨[]⟩,none⟩,none,false⟩,⟨⟨(some 40),.call ⟨.value (.func 30),⟨[(.tmp 35),(.tmp 37),(.tmp 39)]⟩,⟨[43,44,46]⟩⟩,51,"",⟨[]⟩,none⟩,none,false⟩,⟨⟨(some 33),.move (.tmp 40),51,"",⟨[]⟩,none⟩,none,false⟩,⟨⟨(some 41),.extract (.tmp 33) 0,50,"",⟨[]⟩,none⟩,none,false⟩,⟨⟨(some 42),.extract (.tmp 33) 1,26,"",⟨[]⟩,none⟩,none,false⟩,⟨⟨(some 9),.assign (.tmp 41),50,"",⟨[]⟩,none⟩,none,false⟩,⟨⟨(some 6),.assign (.tmp 42),26,"",⟨[]⟩,none⟩,none,false⟩]) (.seq (.ops false [⟨⟨(some 44),.fieldAddr 48 (.tmp 2) 0,0,"",⟨[]⟩,none⟩,none,false⟩,⟨⟨(some 45),.load 43 (.tmp 44),43,"",⟨[]⟩,none⟩,none,false⟩,⟨⟨(some 46),.fieldAddr 48 (.tmp 2) 1,0,"",⟨[]⟩,none⟩,none,false⟩,⟨⟨(some 47),.load 44 (.tmp 46),44,"",⟨[]⟩,none⟩,none,false⟩,⟨⟨(some 48),.fieldAddr 48 (.tmp 2) 2,0,"",⟨[]⟩,none⟩,none,false⟩,⟨⟨(some 49),.load 46 (.tmp 48),46,"",⟨[]⟩,none⟩,none,false⟩,⟨⟨(some 50),.call ⟨.value (.func 31),⟨[(.tmp 45),(.tmp 47),(.tmp 49)]⟩,⟨[43,44,46]⟩⟩,51,"",⟨[]⟩,none⟩,none,false⟩,⟨⟨(some 43),.move (.tmp 50),51,"",⟨[]⟩,none⟩,none,false⟩,⟨⟨(some 51),.extract (.tmp 43) 0,50,"",⟨[]⟩,none⟩,none,false⟩,⟨⟨(some 52),.extract (.tmp 43) 1,26,"",⟨[]⟩,none⟩,none,false⟩,⟨⟨(some 10),.assign (.tmp 51),50,"",⟨[]⟩,none⟩,none,false⟩,⟨⟨(some 8),.assign (.tmp 52),26,"",⟨[]⟩,none⟩,none,false⟩]) (.seq (.seq (.ops false [⟨⟨(some 53),.move (.tmp 9),50,"",⟨[]⟩,none⟩,none,false⟩,⟨⟨(some 54),.call ⟨.builtin .len,⟨[(.tmp 53)]⟩,⟨[50]⟩⟩,3,"",⟨[]⟩,none⟩,none,false⟩,⟨⟨(some 55),.move (.tmp 10),50,"",⟨[]⟩,none⟩,none,false⟩,⟨⟨(some 56),.call ⟨.builtin .len,⟨[(.tmp 55)]⟩,⟨[50]⟩⟩,3,"",⟨[]⟩,none⟩,none,false⟩,⟨⟨(some 57),.binOp .neq 3 (.tmp 54) (.tmp 56) 3,4,"",⟨[]⟩,none⟩,none,false⟩,⟨⟨(some 58),.move (.tmp 57),4,"",⟨[]⟩,none⟩,none,false⟩,⟨⟨(some 59),.move (.tmp 6),26,"",⟨[]⟩,none⟩,some ((some 58),false),false⟩,⟨⟨(some 60),.move (.tmp 8),26,"",⟨[]⟩,none⟩,some ((some 58),false),false⟩,⟨⟨(some 61),.binOp .neq 26 (.tmp 59) (.tmp 60) 26,4,"",⟨[]⟩,none⟩,some ((some 58),false),false⟩,⟨⟨(some 62),.pick (.tmp 58) (.const (.bool true)) (.tmp 61),4,"",⟨[]⟩,none⟩,none,false⟩]) (.cond (.tmp 62) (.seq (.ops false [⟨⟨(some 4),.assign (.const (.bool false)),4,"",⟨[]⟩,none⟩,none,false⟩]) .ret) .skip)) (.seq (.seq (.ops false [⟨⟨(some 11),.assign (.const (.int .i64 0)),3,"",⟨[]⟩,none⟩,none,false⟩]) (.block 0 (.loop (.seq (.seq (.ops false [⟨⟨(some 63),.move (.tmp 11),3,"",⟨[]⟩,none⟩,none,false⟩,⟨⟨(some 64),.move (.tmp 9),50,"",⟨[]⟩,none⟩,none,false⟩,⟨⟨(some 65),.call ⟨.builtin .len,⟨[(.tmp 64)]⟩,⟨[50]⟩⟩,3,"",⟨[]⟩,none⟩,none,false⟩,⟨⟨(some 66),.binOp .lss 3 (.tmp 63) (.tmp 65) 3,4,"",⟨[]⟩,none⟩,none,false⟩]) (.cond (.tmp 66) .skip (.exit 0))) (.seq (.block 1 (.seq (.ops true [⟨⟨(some 69),.move (.tmp 9),50,"",⟨[]⟩,none⟩,none,true⟩,⟨⟨(some 70),.move (.tmp 11),3,"",⟨[]⟩,none⟩,none,true⟩,⟨⟨(some 71),.indexAddr 50 (.tmp 69) (.tmp 70),0,"",⟨[]⟩,none⟩,none,true⟩,⟨⟨(some 72),.load 54 (.tmp 71),54,"",⟨[]⟩,none⟩,none,true⟩,⟨⟨(some 73),.move (.tmp 10),50,"",⟨[]⟩,none⟩,none,true⟩,⟨⟨(some 74),.move (.tmp 11),3,"",⟨[]⟩,none⟩,none,true⟩,⟨⟨(some 75),.indexAddr 50 (.tmp 73) (.tmp 74),0,"",⟨[]⟩,none⟩,none,true⟩,⟨⟨(some 76),.load 54 (.tmp 75),54,"",⟨[]⟩,none⟩,none,true⟩,⟨⟨(some 77),.binOp .neq 54 (.tmp 72) (.tmp 76) 54,4,"",⟨[]⟩,none⟩,none,true⟩]) (.cond (.tmp 77) (.seq (.ops false [⟨⟨(some 4),.assign (.const (.bool false)),4,"",⟨[]⟩,none⟩,none,false⟩]) .ret) .skip))) (.ops false [⟨⟨(some 67),.move (.tmp 11),3,"",⟨[]⟩,none⟩,none,false⟩,⟨⟨(some 68),.binOp .add 3 (.tmp 67) (.const (.int .i64 1)) 3,3,"",⟨[]⟩,none⟩,none,false⟩,⟨⟨(some 11),.assign (.tmp 68),3,"",⟨[]⟩,none⟩,none,false⟩])))))) (.seq (.ops false [⟨⟨(some 79),.fieldAddr 48 (.tmp 2) 0,0,"",⟨[]⟩,none⟩,none,false⟩,⟨⟨(some 80),.load 43 (.tmp 79),43,"",⟨[]⟩,none⟩,none,false⟩,⟨⟨(some 81),.fieldAddr 48 (.tmp 2) 1,0,"",⟨[]⟩,none⟩,none,false⟩,⟨⟨(some 82),.load 44 (.tmp 81),44,"",⟨[]⟩,none⟩,none,false⟩,⟨⟨(some 83),.fieldAddr 48 (.tmp 2) 2,0,"",⟨[]⟩,none⟩,none,false⟩,⟨⟨(some 84),.load 46 (.tmp 83),46,"",⟨[]⟩,none⟩,none,false⟩,⟨⟨(some 85),.move (.tmp 1),3,"",⟨[]⟩,none⟩,none,false⟩,⟨⟨(some 86),.call ⟨.value (.func 32),⟨[(.tmp 80),(.tmp 82),(.tmp 84),(.tmp 85)]⟩,⟨[43,44,46,3]⟩⟩,27,"",⟨[]⟩,none⟩,none,false⟩,⟨⟨(some 78),.move (.tmp 86),27,"",⟨[]⟩,none⟩,none,false⟩,⟨⟨(some 87),.extract (.tmp 78) 0,22,"",⟨[]⟩,none⟩,none,false⟩,⟨⟨(some 88),.extract (.tmp 78) 1,26,"",⟨[]⟩,none⟩,none,false⟩,⟨⟨(some 5),.assign (.tmp 87),22,"",⟨[]⟩,none⟩,none,false⟩,⟨⟨(some 6),.assign (.tmp 88),26,"",⟨[]⟩,none⟩,none,false⟩]) (.seq (.ops false [⟨⟨(some 90),.fieldAddr 48 (.tmp 2) 0,0,"",⟨[]⟩,none⟩,none,false⟩,⟨⟨(some 91),.load 43 (.tmp 90),43,"",⟨[]⟩,none⟩,none,false⟩,⟨⟨(some 92),.fieldAddr 48 (.tmp 2) 1,0,"",⟨[]⟩,none⟩,none,false⟩,⟨⟨(some 93),.load 44 (.tmp 92),44,"",⟨[]⟩,none⟩,none,false⟩,⟨⟨(some 94),.fieldAddr 48 (.tmp 2) 2,0,"",⟨[]⟩,none⟩,none,false⟩,⟨⟨(some 95),.load 46 (.tmp 94),46,"",⟨[]⟩,none⟩,none,false⟩,⟨⟨(some 96),.move (.tmp 1),3,"",⟨[]⟩,none⟩,none,false⟩,⟨⟨(some 97),.call ⟨.value (.func 33),⟨[(.tmp 91),(.tmp 93),(.tmp 95),(.tmp 96)]⟩,⟨[43,44,46,3]⟩⟩,27,"",⟨[]⟩,none⟩,none,false⟩,⟨⟨(some 89),.move (.tmp 97),27,"",⟨[]⟩,none⟩,none,false⟩,⟨⟨(some 98),.extract (.tmp 89) 0,22,"",⟨[]⟩,none⟩,none,false⟩,⟨⟨(some 99),.extract (.tmp 89) 1,26,"",⟨[]⟩,none⟩,none,false⟩,⟨⟨(some 7),.assign (.tmp 98),22,"",⟨[]⟩,none⟩,none,false⟩,⟨⟨(some 8),.assign (.tmp 99),26,"",⟨[]⟩,none⟩,none,false⟩]) (.seq (.ops false [⟨⟨(some 100),.move (.tmp 5),22,"",⟨[]⟩,none⟩,none,false⟩,⟨⟨(some 101),.move (.tmp 7),22,"",⟨[]⟩,none⟩,none,false⟩,⟨⟨(some 102),.call ⟨.value (.func 16),⟨[(.tmp 100),(.tmp 101)]⟩,⟨[22,22]⟩⟩,4,"",⟨[]⟩,none⟩,none,false⟩,⟨⟨(some 103),.move (.tmp 102),4,"",⟨[]⟩,none⟩,none,false⟩,⟨⟨(some 104),.move (.tmp 6),26,"",⟨[]⟩,none⟩,some ((some 103),true),false⟩,⟨⟨(some 105),.move (.tmp 8),26,"",⟨[]⟩,none⟩,some ((some 103),true),false⟩,⟨⟨(some 106),.binOp .eql 26 (.tmp 104) (.tmp 105) 26,4,"",⟨[]⟩,none⟩,some ((some 103),true),false⟩,⟨⟨(some 107),.pick (.tmp 103) (.tmp 106) (.const (.bool false)),4,"",⟨[]⟩,none⟩,none,false⟩,⟨⟨(some 108),.move (.tmp 107),4,"",⟨[]⟩,none⟩,none,false⟩,⟨⟨(some 109),.call ⟨.value (.func 21),⟨[]⟩,⟨[]⟩⟩,4,"",⟨[]⟩,none⟩,some ((some 108),true),false⟩,⟨⟨(some 110),.pick (.tmp 108) (.tmp 109) (.const (.bool false)),4,"",⟨[]⟩,none⟩,none,false⟩,⟨⟨(some 4),.assign (.tmp 110),4,"",⟨[]⟩,none⟩,none,false⟩]) .ret)))))))))))
def Tryz.s29 : SC := (.seq (.ops false [⟨⟨(some 2),.assign (.const (.slice none 0 0)),22,"",⟨[]⟩,none⟩,none,false⟩,⟨⟨(some 3),.assign (.const (.int .i64 0)),26,"",⟨[]⟩,none⟩,none,false⟩]) (.seq (.seq (.ops false [⟨⟨(some 4),.move (.tmp 0),44,"",⟨[]⟩,none⟩,none,false⟩,⟨⟨(some 5),.call ⟨.value (.func 70),⟨[(.tmp 4)]⟩,⟨[44]⟩⟩,4,"",⟨[]⟩,none⟩,none,false⟩,⟨⟨(some 6),.unOp .not 4 (.tmp 5),4,"",⟨[]⟩,none⟩,none,false⟩]) (.cond (.tmp 6) (.seq (.ops false [⟨⟨(some 2),.assign (.const (.slice none 0 0)),22,"",⟨[]⟩,none⟩,none,false⟩,⟨⟨(some 3),.assign (.const (.int .i64 83)),26,"",⟨[]⟩,none⟩,none,false⟩]) .ret) .skip)) (.seq (.ops false [⟨⟨(some 7),.move (.tmp 0),44,"",⟨[]⟩,none⟩,none,false⟩,⟨⟨(some 8),.call ⟨.value (.func 71),⟨[(.tmp 7)]⟩,⟨[44]⟩⟩,22,"",⟨[]⟩,none⟩,none,false⟩,⟨⟨(some 2),.assign (.tmp 8),22,"",⟨[]⟩,none⟩,none,false⟩,⟨⟨(some 3),.assign (.const (.int .i64 0)),26,"",⟨[]⟩,none⟩,none,false⟩]) .ret)))
def Tryz.s31 : SC := (.seq (.ops false [⟨⟨(some 5),.box 46 (.tmp 2),0,"",⟨[]⟩,none⟩,none,false⟩,⟨⟨(some 6),.assign (.const (.slice none 0 0)),50,"",⟨[]⟩,none⟩,none,false⟩,⟨⟨(some 7),.assign (.const (.int .i64 0)),26,"",⟨[]⟩,none⟩,none,false⟩]) (.seq (.seq (.ops false [⟨⟨(some 13),.move (.tmp 0),43,"",⟨[]⟩,none⟩,none,false⟩,⟨⟨(some 14),.move (.tmp 1),44,"",⟨[]⟩,none⟩,none,false⟩,⟨⟨(some 15),.load 46 (.tmp 5),46,"",⟨[]⟩,none⟩,none,false⟩,⟨⟨(some 16),.call ⟨.value (.func 76),⟨[(.tmp 13),(.tmp 14),(.tmp 15)]⟩,⟨[43,44,46]⟩⟩,4,"",⟨[]⟩,none⟩,none,false⟩,⟨⟨(some 17),.unOp .not 4 (.tmp 16),4,"",⟨[]⟩,none⟩,none,false⟩]) (.cond (.tmp 17) (.seq (.ops false [⟨⟨(some 6),.assign (.const (.slice none 0 0)),50,"",⟨[]⟩,none⟩,none,false⟩,⟨⟨(some 7),.assign (.const (.int .i64 83)),26,"",⟨[]⟩,none⟩,none,false⟩]) .ret) .skip)) (.seq (.ops false [⟨⟨(some 18),.move (.tmp 1),44,"",⟨[]⟩,none⟩,none,false⟩,⟨⟨(some 19),.call ⟨.value (.func 71),⟨[(.tmp 18)]⟩,⟨[44]⟩⟩,22,"",⟨[]⟩,none⟩,none,false⟩,⟨⟨(some 8),.assign (.tmp 19),22,"",⟨[]⟩,none⟩,none,false⟩]) (.seq (.ops false [⟨⟨(some 9),.assign (.const (.slice none 0 0)),50,"",⟨[]⟩,none⟩,none,false⟩]) (.seq (.seq (.ops false [⟨⟨(some 10),.assign (.const (.int .i64 0)),3,"",⟨[]⟩,none⟩,none,false⟩]) (.block 0 (.loop (.seq (.seq (.ops false [⟨⟨(some 20),.move (.tmp 10),3,"",⟨[]⟩,none⟩,none,false⟩,⟨⟨(some 21),.binOp .lss 3 (.tmp 20) (.const (.int .i64 24)) 3,4,"",⟨[]⟩,none⟩,none,false⟩]) (.cond (.tmp 21) .skip (.exit 0))) (.seq (.block 1 (.seq (.ops false [⟨⟨(some 11),.assign (.const (.int .i64 0)),3,"",⟨[]⟩,none⟩,none,false⟩]) (.block 2 (.loop (.seq (.seq (.ops false [⟨⟨(some 24),.move (.tmp 11),3,"",⟨[]⟩,none⟩,none,false⟩,⟨⟨(some 25),.move (.tmp 0),43,"",⟨[]⟩,none⟩,none,false⟩,⟨⟨(some 26),.call ⟨.builtin .len,⟨[(.tmp 25)]⟩,⟨[43]⟩⟩,3,"",⟨[]⟩,none⟩,none,false⟩,⟨⟨(some 27),.binOp .lss 3 (.tmp 24) (.tmp 26) 3,4,"",⟨[]⟩,none⟩,none,false⟩]) (.cond (.tmp 27) .skip (.exit 2))) (.seq (.block 3 (.seq (.seq (.ops false [⟨⟨(some 30),.move (.tmp 8),22,"",⟨[]⟩,none⟩,none,false⟩,⟨⟨(some 31),.move (.tmp 0),43,"",⟨[]⟩,none⟩,none,false⟩,⟨⟨(some 32),.move (.tmp 11),3,"",⟨[]⟩,none⟩,none,false⟩,⟨⟨(some 33),.indexAddr 43 (.tmp 31) (.tmp 32),0,"",⟨[]⟩,none⟩,none,false⟩,⟨⟨(some 34),.fieldAddr 76 (.tmp 33) 1,0,"",⟨[]⟩,none⟩,none,false⟩,⟨⟨(some 35),.load 3 (.tmp 34),3,"",⟨[]⟩,none⟩,none,false⟩,⟨⟨(some 36),.indexAddr 22 (.tmp 30) (.tmp 35),0,"",⟨[]⟩,none⟩,none,false⟩,⟨⟨(some 37),.load 3 (.tmp 36),3,"",⟨[]⟩,none⟩,none,false⟩,⟨⟨(some 38),.move (.tmp 10),3,"",⟨[]⟩,none⟩,none,false⟩,⟨⟨(some 39),.binOp .neq 3 (.tmp 37) (.tmp 38) 3,4,"",⟨[]⟩,none⟩,none,false⟩]) (.cond (.tmp 39) (.exit 3) .skip)) (.seq (.ops false [⟨⟨(some 40),.move (.tmp 0),43,"",⟨[]⟩,none⟩,none,false⟩,⟨⟨(some 41),.move (.tmp 8),22,"",⟨[]⟩,none⟩,none,false⟩,⟨⟨(some 42),.load 46 (.tmp 5),46,"",⟨[]⟩,none⟩,none,false⟩,⟨⟨(some 43),.move (.tmp 11),3,"",⟨[]⟩,none⟩,none,false⟩,⟨⟨(some 44),.call ⟨.value (.func 77),⟨[(.tmp 40),(.tmp 41),(.tmp 42),(.tmp 43)]⟩,⟨[43,22,46,3]⟩⟩,22,"",⟨[]⟩,none⟩,none,false⟩,⟨⟨(some 12),.assign (.tmp 44),22,"",⟨[]⟩,none⟩,none,false⟩]) (.seq (.ops false [⟨⟨(some 45),.move (.tmp 0),43,"",⟨[]⟩,none⟩,none,false⟩,⟨⟨(some 46),.load 46 (.tmp 5),46,"",⟨[]⟩,none⟩,none,false⟩,⟨⟨(some 47),.move (.tmp 12),22,"",⟨[]⟩,none⟩,none,false⟩,⟨⟨(some 48),.call ⟨.value (.func 78),⟨[(.tmp 45),(.tmp 46),(.tmp 47)]⟩,⟨[43,46,22]⟩⟩,4,"",⟨[]⟩,none⟩,none,false⟩]) (.cond (.tmp 48) (.seq (.ops false [⟨⟨(some 49),.move (.tmp 9),50,"",⟨[]⟩,none⟩,none,false⟩,⟨⟨(some 50),.move (.tmp 10),3,"",⟨[]⟩,none⟩,none,false⟩,⟨⟨(some 51),.move (.tmp 11),3,"",⟨[]⟩,none⟩,none,false⟩,⟨⟨(some 52),.move (.tmp 0),43,"",⟨[]⟩,none⟩,none,false⟩,⟨⟨(some 53),.move (.tmp 12),22,"",⟨[]⟩,none⟩,none,false⟩,⟨⟨(some 54),.call ⟨.value (.func 79),⟨[(.tmp 52),(.tmp 53)]⟩,⟨[43,22]⟩⟩,3,"",⟨[]⟩,none⟩,none,false⟩,⟨⟨(some 55),.build 54 ⟨[(0,(.tmp 50)),(1,(.tmp 51)),(2,(.tmp 54))]⟩,54,"",⟨[]⟩,none⟩,none,false⟩,⟨⟨(some 56),.buildSlice 50 1 ⟨[(0,(.tmp 55))]⟩,50,"",⟨[]⟩,none⟩,none,false⟩,⟨⟨(some 57),.call ⟨.builtin .append,⟨[(.tmp 49),(.tmp 56)]⟩,⟨[50,50]⟩⟩,50,"",⟨[]⟩,none⟩,none,false⟩,⟨⟨(some 9),.assign (.tmp 57),50,"",⟨[]⟩,none⟩,none,false⟩]) (.exit 2)) .skip))))) (.ops false [⟨⟨(some 28),.move (.tmp 11),3,"",⟨[]⟩,none⟩,none,false⟩,⟨⟨(some 29),.binOp .add 3 (.tmp 28) (.const (.int .i64 1)) 3,3,"",⟨[]⟩,none⟩,none,false⟩,⟨⟨(some 11),.assign (.tmp 29),3,"",⟨[]⟩,none⟩,none,false⟩]))))))) (.ops false [⟨⟨(some 22),.move (.tmp 10),3,"",⟨[]⟩,none⟩,none,false⟩,⟨⟨(some 23),.binOp .add 3 (.tmp 22) (.const (.int .i64 1)) 3,3,"",⟨[]⟩,none⟩,none,false⟩,⟨⟨(some 10),.assign (.tmp 23),3,"",⟨[]⟩,none⟩,none,false⟩])))))) (.seq (.ops false [⟨⟨(some 58),.move (.tmp 9),50,"",⟨[]⟩,none⟩,none,false⟩,⟨⟨(some 6),.assign (.tmp 58),50,"",⟨[]⟩,none⟩,none,false⟩,⟨⟨(some 7),.assign (.const (.int .i64 0)),26,"",⟨[]⟩,none⟩,none,false⟩]) .ret))))))
def Tryz.s33 : SC := (.seq (.ops false [⟨⟨(some 6),.box 46 (.tmp 2),0,"",⟨[]⟩,none⟩,none,false⟩,⟨⟨(some 8),.assign (.const (.slice none 0 0)),22,"",⟨[]⟩,none⟩,none,false⟩,⟨⟨(some 9),.assign (.const (.int .i64 0)),26,"",⟨[]⟩,none⟩,none,false⟩]) (.seq (.seq (.ops false [⟨⟨(some 11),.move (.tmp 0),43,"",⟨[]⟩,none⟩,none,false⟩,⟨⟨(some 12),.move (.tmp 1),44,"",⟨[]⟩,none⟩,none,false⟩,⟨⟨(some 13),.load 46 (.tmp 6),46,"",⟨[]⟩,none⟩,none,false⟩,⟨⟨(some 14),.call ⟨.value (.func 76),⟨[(.tmp 11),(.tmp 12),(.tmp 13)]⟩,⟨[43,44,46]⟩⟩,4,"",⟨[]⟩,none⟩,none,false⟩,⟨⟨(some 15),.unOp .not 4 (.tmp 14),4,"",⟨[]⟩,none⟩,none,false⟩]) (.cond (.tmp 15) (.seq (.ops false [⟨⟨(some 8),.assign (.const (.slice none 0 0)),22,"",⟨[]⟩,none⟩,none,false⟩,⟨⟨(some 9),.assign (.const (.int .i64 83)),26,"",⟨[]⟩,none⟩,none,false⟩]) .ret) .skip)) (.seq (.seq (.ops false [⟨⟨(some 16),.move (.tmp 3),3,"",⟨[]⟩,none⟩,none,false⟩,⟨⟨(some 17),.move (.tmp 0),43,"",⟨[]⟩,none⟩,none,false⟩,⟨⟨(some 18),.call ⟨.builtin .len,⟨[(.tmp 17)]⟩,⟨[43]⟩⟩,3,"",⟨[]⟩,none⟩,none,false⟩,⟨⟨(some 19),.binOp .sub 3 (.tmp 18) (.const (.int .i64 1)) 3,3,"",⟨[]⟩,none⟩,none,false⟩,⟨⟨(some 20),.call ⟨.value (.func 40),⟨[(.const (.int .i64 0)),(.tmp 16),(.tmp 19)]⟩,⟨[3,3,3]⟩⟩,4,"",⟨[]⟩,none⟩,none,false⟩,⟨⟨(some 21),.unOp .not 4 (.tmp 20),4,"",⟨[]⟩,none⟩,none,false⟩]) (.cond (.tmp 21) (.seq (.ops false [⟨⟨(some 8),.assign (.const (.slice none 0 0)),22,"",⟨[]⟩,none⟩,none,false⟩,⟨⟨(some 9),.assign (.const (.int .i64 7)),26,"",⟨[]⟩,none⟩,none,false⟩]) .ret) .skip)) (.seq (.ops true [⟨⟨(some 22),.move (.tmp 0),43,"",⟨[]⟩,none⟩,none,true⟩,⟨⟨(some 23),.move (.tmp 1),44,"",⟨[]⟩,none⟩,none,true⟩,⟨⟨(some 25),.load 46 (.tmp 6),46,"",⟨[]⟩,none⟩,none,true⟩,⟨⟨(some 26),.move (.tmp 3),3,"",⟨[]⟩,none⟩,none,true⟩,⟨⟨(some 24),.call ⟨.value (.func 71),⟨[(.tmp 23)]⟩,⟨[44]⟩⟩,22,"",⟨[]⟩,none⟩,none,true⟩,⟨⟨(some 27),.call ⟨.value (.func 77),⟨[(.tmp 22),(.tmp 24),(.tmp 25),(.tmp 26)]⟩,⟨[43,22,46,3]⟩⟩,22,"",⟨[]⟩,none⟩,none,false⟩,⟨⟨(some 10),.assign (.tmp 27),22,"",⟨[]⟩,none⟩,none,true⟩]) (.seq (.seq (.ops false [⟨⟨(some 28),.move (.tmp 0),43,"",⟨[]⟩,none⟩,none,false⟩,⟨⟨(some 29),.load 46 (.tmp 6),46,"",⟨[]⟩,none⟩,none,false⟩,⟨⟨(some 30),.move (.tmp 10),22,"",⟨[]⟩,none⟩,none,false⟩,⟨⟨(some 31),.call ⟨.value (.func 78),⟨[(.tmp 28),(.tmp 29),(.tmp 30)]⟩,⟨[43,46,22]⟩⟩,4,"",⟨[]⟩,none⟩,none,false⟩,⟨⟨(some 32),.unOp .not 4 (.tmp 31),4,"",⟨[]⟩,none⟩,none,false⟩]) (.cond (.tmp 32) (.seq (.ops false [⟨⟨(some 8),.assign (.const (.slice none 0 0)),22,"",⟨[]⟩,none⟩,none,false⟩,⟨⟨(some 9),.assign (.const (.int .i64 4)),26,"",⟨[]⟩,none⟩,none,false⟩]) .ret) .skip)) (.seq (.seq (.ops true [⟨⟨(some 33),.move (.tmp 0),43,"",⟨[]⟩,none⟩,none,true⟩,⟨⟨(some 34),.move (.tmp 10),22,"",⟨[]⟩,none⟩,none,true⟩,⟨⟨(some 36),.fieldAddr 46 (.tmp 6) 1,0,"",⟨[]⟩,none⟩,none,true⟩,⟨⟨(some 37),.load 3 (.tmp 36),3,"",⟨[]⟩,none⟩,none,true⟩,⟨⟨(some 35),.call ⟨.value (.func 79),⟨[(.tmp 33),(.tmp 34)]⟩,⟨[43,22]⟩⟩,3,"",⟨[]⟩,none⟩,none,true⟩,⟨⟨(some 38),.binOp .geq 3 (.tmp 35) (.tmp 37) 3,4,"",⟨[]⟩,none⟩,none,true⟩]) (.cond (.tmp 38) (.seq (.ops false [⟨⟨(some 39),.move (.tmp 0),43,"",⟨[]⟩,none⟩,none,false⟩,⟨⟨(some 40),.move (.tmp 10),22,"",⟨[]⟩,none⟩,none,false⟩,⟨⟨(some 41),.fieldAddr 46 (.tmp 6) 1,0,"",⟨[]⟩,none⟩,none,false⟩,⟨⟨(some 42),.load 3 (.tmp 41),3,"",⟨[]⟩,none⟩,none,false⟩,⟨⟨(some 43),.call ⟨.value (.func 82),⟨[(.tmp 39),(.tmp 40),(.tmp 42)]⟩,⟨[43,22,3]⟩⟩,22,"",⟨[]⟩,none⟩,none,false⟩,⟨⟨(some 8),.assign (.tmp 43),22,"",⟨[]⟩,none⟩,none,false⟩,⟨⟨(some 9),.assign (.const (.int .i64 0)),26,"",⟨[]⟩,none⟩,none,false⟩]) .ret) .skip)) (.seq (.ops true [⟨⟨(some 44),.move (.tmp 0),43,"",⟨[]⟩,none⟩,none,true⟩,⟨⟨(some 45),.load 46 (.tmp 6),46,"",⟨[]⟩,none⟩,none,true⟩,⟨⟨(some 46),.move (.tmp 10),22,"",⟨[]⟩,none⟩,none,true⟩,⟨⟨(some 48),.fieldAddr 46 (.tmp 6) 3,0,"",⟨[]⟩,none⟩,none,true⟩,⟨⟨(some 49),.load 3 (.tmp 48),3,"",⟨[]⟩,none⟩,none,true⟩,⟨⟨(some 47),.call ⟨.value (.func 83),⟨[(.tmp 44),(.tmp 45),(.tmp 46)]⟩,⟨[43,46,22]⟩⟩,22,"",⟨[]⟩,none⟩,none,true⟩,⟨⟨(some 50),.slice 22 (.tmp 47) none (some (.tmp 49)) none,22,"",⟨[]⟩,none⟩,none,true⟩,⟨⟨(some 8),.assign (.tmp 50),22,"",⟨[]⟩,none⟩,none,true⟩,⟨⟨(some 9),.assign (.const (.int .i64 0)),26,"",⟨[]⟩,none⟩,none,true⟩]) .ret)))))))
def Tryz.s70 : SC := (.seq (.ops false [⟨⟨(some 2),.assign (.const (.bool false)),4,"",⟨[]⟩,none⟩,none,false⟩]) (.seq (.seq (.ops false [⟨⟨(some 3),.assign (.const (.int .i64 0)),3,"",⟨[]⟩,none⟩,none,false⟩]) (.block 0 (.loop (.seq (.seq (.ops false [⟨⟨(some 4),.move (.tmp 3),3,"",⟨[]⟩,none⟩,none,false⟩,⟨⟨(some 5),.move (.tmp 0),44,"",⟨[]⟩,none⟩,none,false⟩,⟨⟨(some 6),.call ⟨.builtin .len,⟨[(.tmp 5)]⟩,⟨[44]⟩⟩,3,"",⟨[]⟩,none⟩,none,false⟩,⟨⟨(some 7),.binOp .lss 3 (.tmp 4) (.tmp 6) 3,4,"",⟨[]⟩,none⟩,none,false⟩]) (.cond (.tmp 7) .skip (.exit 0))) (.seq (.block 1 (.seq (.ops true [⟨⟨(some 10),.move (.tmp 0),44,"",⟨[]⟩,none⟩,none,true⟩,⟨⟨(some 11),.move (.tmp 3),3,"",⟨[]⟩,none⟩,none,true⟩,⟨⟨(some 12),.indexAddr 44 (.tmp 10) (.tmp 11),0,"",⟨[]⟩,none⟩,none,true⟩,⟨⟨(some 13),.indexAddr 25 (.tmp 12) (.const (.int .i64 0)),0,"",⟨[]⟩,none⟩,none,true⟩,⟨⟨(some 14),.load 3 (.tmp 13),3,"",⟨[]⟩,none⟩,none,true⟩,⟨⟨(some 15),.call ⟨.value (.func 40),⟨[(.const (.int .i64 0)),(.tmp 14),(.const (.int .i64 23))]⟩,⟨[3,3,3]⟩⟩,4,"",⟨[]⟩,none⟩,none,false⟩,⟨⟨(some 16),.unOp .not 4 (.tmp 15),4,"",⟨[]⟩,none⟩,none,true⟩,⟨⟨(some 17),.move (.tmp 16),4,"",⟨[]⟩,none⟩,none,true⟩,⟨⟨(some 18),.move (.tmp 0),44,"",⟨[]⟩,none⟩,some ((some 17),false),true⟩,⟨⟨(some 19),.move (.tmp 3),3,"",⟨[]⟩,none⟩,some ((some 17),false),true⟩,⟨⟨(some 20),.indexAddr 44 (.tmp 18) (.tmp 19),0,"",⟨[]⟩,none⟩,some ((some 17),false),true⟩,⟨⟨(some 21),.indexAddr 25 (.tmp 20) (.const (.int .i64 1)),0,"",⟨[]⟩,none⟩,some ((some 17),false),true⟩,⟨⟨(some 22),.load 3 (.tmp 21),3,"",⟨[]⟩,none⟩,some ((some 17),false),true⟩,⟨⟨(some 23),.call ⟨.value (.func 40),⟨[(.const (.int .i64 0)),(.tmp 22),(.const (.int .i64 23))]⟩,⟨[3,3,3]⟩⟩,4,"",⟨[]⟩,none⟩,some ((some 17),false),false⟩,⟨⟨(some 24),.unOp .not 4 (.tmp 23),4,"",⟨[]⟩,none⟩,some ((some 17),false),true⟩,⟨⟨(some 25),.pick (.tmp 17) (.const (.bool true)) (.tmp 24),4,"",⟨[]⟩,none⟩,none,true⟩,⟨⟨(some 26),.move (.tmp 25),4,"",⟨[]⟩,none⟩,none,true⟩,⟨⟨(some 27),.move (.tmp 0),44,"",⟨[]⟩,none⟩,some ((some 26),false),true⟩,⟨⟨(some 28),.move (.tmp 3),3,"",⟨[]⟩,none⟩,some ((some 26),false),true⟩,⟨⟨(some 29),.indexAddr 44 (.tmp 27) (.tmp 28),0,"",⟨[]⟩,none⟩,some ((some 26),false),true⟩,⟨⟨(some 30),.indexAddr 25 (.tmp 29) (.const (.int .i64 0)),0,"",⟨[]⟩,none⟩,some ((some 26),false),true⟩,⟨⟨(some 31),.load 3 (.tmp 30),3,"",⟨[]⟩,none⟩,some ((some 26),false),true⟩,⟨⟨(some 32),.move (.tmp 0),44,"",⟨[]⟩,none⟩,some ((some 26),false),true⟩,⟨⟨(some 33),.move (.tmp 3),3,"",⟨[]⟩,none⟩,some ((some 26),false),true⟩,⟨⟨(some 34),.indexAddr 44 (.tmp 32) (.tmp 33),0,"",⟨[]⟩,none⟩,some ((some 26),false),true⟩,⟨⟨(some 35),.indexAddr 25 (.tmp 34) (.const (.int .i64 1)),0,"",⟨[]⟩,none⟩,some ((some 26),false),true⟩,⟨⟨(some 36),.load 3 (.tmp 35),3,"",⟨[]⟩,none⟩,some ((some 26),false),true⟩,⟨⟨(some 37),.binOp .eql 3 (.tmp 31) (.tmp 36) 3,4,"",⟨[]⟩,none⟩,some ((some 26),false),true⟩,⟨⟨(some 38),.pick (.tmp 26) (.const (.bool true)) (.tmp 37),4,"",⟨[]⟩,none⟩,none,true⟩]) (.cond (.tmp 38) (.seq (.ops false [⟨⟨(some 2),.assign (.const (.bool false)),4,"",⟨[]⟩,none⟩,none,false⟩]) .ret) .skip))) (.ops false [⟨⟨(some 8),.move (.tmp 3),3,"",⟨[]⟩,none⟩,none,false⟩,⟨⟨(some 9),.binOp .add 3 (.tmp 8) (.const (.int .i64 1)) 3,3,"",⟨[]⟩,none⟩,none,false⟩,⟨⟨(some 3),.assign (.tmp 9),3,"",⟨[]⟩,none⟩,none,false⟩])))))) (.seq (.ops false [⟨⟨(some 39),.move (.tmp 0),44,"",⟨[]⟩,none⟩,none,false⟩,⟨⟨(some 40),.call ⟨.builtin .len,⟨[(.tmp 39)]⟩,⟨[44]⟩⟩,3,"",⟨[]⟩,none⟩,none,false⟩,⟨⟨(some 41),.binOp .leq 3 (.tmp 40) (.const (.int .i64 64)) 3,4,"",⟨[]⟩,none⟩,none,false⟩,⟨⟨(some 2),.assign (.tmp 41),4,"",⟨[]⟩,none⟩,none,false⟩]) .ret)))
def Tryz.s71 : SC := (.seq (.ops false [⟨⟨(some 2),.assign (.const (.slice none 0 0)),22,"",⟨[]⟩,none⟩,none,false⟩]) (.seq (.ops false [⟨⟨(some 3),.assign (.const (.slice none 0 0)),22,"",⟨[]⟩,none⟩,none,false⟩]) (.seq (.seq (.ops false [⟨⟨(some 4),.assign (.const (.int .i64 0)),3,"",⟨[]⟩,none⟩,none,false⟩]) (.block 0 (.loop (.seq (.seq (.ops false [⟨⟨(some 9),.move (.tmp 4),3,"",⟨[]⟩,none⟩,none,false⟩,⟨⟨(some 10),.binOp .lss 3 (.tmp 9) (.const (.int .i64 24)) 3,4,"",⟨[]⟩,none⟩,none,false⟩]) (.cond (.tmp 10) .skip (.exit 0))) (.seq (.block 1 (.ops false [⟨⟨(some 13),.move (.tmp 3),22,"",⟨[]⟩,none⟩,none,false⟩,⟨⟨(some 14),.move (.tmp 4),3,"",⟨[]⟩,none⟩,none,false⟩,⟨⟨(some 15),.buildSlice 22 1 ⟨[(0,(.tmp 14))]⟩,22,"",⟨[]⟩,none⟩,none,false⟩,⟨⟨(some 16),.call ⟨.builtin .append,⟨[(.tmp 13),(.tmp 15)]⟩,⟨[22,22]⟩⟩,22,"",⟨[]⟩,none⟩,none,false⟩,⟨⟨(some 3),.assign (.tmp 16),22,"",⟨[]⟩,none⟩,none,false⟩])) (.ops false [⟨⟨(some 11),.move (.tmp 4),3,"",⟨[]⟩,none⟩,none,false⟩,⟨⟨(some 12),.binOp .add 3 (.tmp 11) (.const (.int .i64 1)) 3,3,"",⟨[]⟩,none⟩,none,false⟩,⟨⟨(some 4),.assign (.tmp 12),3,"",⟨[]⟩,none⟩,none,false⟩])))))) (.seq (.seq (.ops false [⟨⟨(some 5),.assign (.const (.int .i64 0)),3,"",⟨[]⟩,none⟩,none,false⟩]) (.block 2 (.loop (.seq (.seq (.ops false [⟨⟨(some 17),.move (.tmp 5),3,"",⟨[]⟩,none⟩,none,false⟩,⟨⟨(some 18),.move (.tmp 0),44,"",⟨[]⟩,none⟩,none,false⟩,⟨⟨(some 19),.call ⟨.builtin .len,⟨[(.tmp 18)]⟩,⟨[44]⟩⟩,3,"",⟨[]⟩,none⟩,none,false⟩,⟨⟨(some 20),.binOp .lss 3 (.tmp 17) (.tmp 19) 3,4,"",⟨[]⟩,none⟩,none,false⟩]) (.cond (.tmp 20) .skip (.exit 2))) (.seq (.block 3 (.seq (.ops true [⟨⟨(some 23),.move (.tmp 3),22,"",⟨[]⟩,none⟩,none,true⟩,⟨⟨(some 24),.move (.tmp 0),44,"",⟨[]⟩,none⟩,none,true⟩,⟨⟨(some 25),.move (.tmp 5),3,"",⟨[]⟩,none⟩,none,true⟩,⟨⟨(some 26),.indexAddr 44 (.tmp 24) (.tmp 25),0,"",⟨[]⟩,none⟩,none,true⟩,⟨⟨(some 27),.indexAddr 25 (.tmp 26) (.const (.int .i64 0)),0,"",⟨[]⟩,none⟩,none,true⟩,⟨⟨(some 28),.load 3 (.tmp 27),3,"",⟨[]⟩,none⟩,none,true⟩,⟨⟨(some 29),.indexAddr 22 (.tmp 23) (.tmp 28),0,"",⟨[]⟩,none⟩,none,true⟩,⟨⟨(some 30),.load 3 (.tmp 29),3,"",⟨[]⟩,none⟩,none,true⟩,⟨⟨(some 31),.move (.tmp 3),22,"",⟨[]⟩,none⟩,none,true⟩,⟨⟨(some 32),.move (.tmp 0),44,"",⟨[]⟩,none⟩,none,true⟩,⟨⟨(some 33),.move (.tmp 5),3,"",⟨[]⟩,none⟩,none,true⟩,⟨⟨(some 34),.indexAddr 44 (.tmp 32) (.tmp 33),0,"",⟨[]⟩,none⟩,none,true⟩,⟨⟨(some 35),.indexAddr 25 (.tmp 34) (.const (.int .i64 1)),0,"",⟨[]⟩,none⟩,none,true⟩,⟨⟨(some 36),.load 3 (.tmp 35),3,"",⟨[]⟩,none⟩,none,true⟩,⟨⟨(some 37),.indexAddr 22 (.tmp 31) (.tmp 36),0,"",⟨[]⟩,none⟩,none,true⟩,⟨⟨(some 38),.load 3 (.tmp 37),3,"",⟨[]⟩,none⟩,none,true⟩,⟨⟨(some 6),.assign (.tmp 30),3,"",⟨[]⟩,none⟩,none,true⟩,⟨⟨(some 7),.assign (.tmp 38),3,"",⟨[]⟩,none⟩,none,true⟩]) (.seq (.seq (.ops false [⟨⟨(some 39),.move (.tmp 6),3,"",⟨[]⟩,none⟩,none,false⟩,⟨⟨(some 40),.move (.tmp 7),3,"",⟨[]⟩,none⟩,none,false⟩,⟨⟨(some 41),.binOp .eql 3 (.tmp 39) (.tmp 40) 3,4,"",⟨[]⟩,none⟩,none,false⟩]) (.cond (.tmp 41) (.exit 3) .skip)) (.seq (.ops false [⟨⟨(some 8),.assign (.const (.int .i64 0)),3,"",⟨[]⟩,none⟩,none,false⟩]) (.block 4 (.loop (.seq (.seq (.ops false [⟨⟨(some 42),.move (.tmp 8),3,"",⟨[]⟩,none⟩,none,false⟩,⟨⟨(some 43),.binOp .lss 3 (.tmp 42) (.const (.int .i64 24)) 3,4,"",⟨[]⟩,none⟩,none,false⟩]) (.cond (.tmp 43) .skip (.exit 4))) (.seq (.block 5 (.seq (.ops false [⟨⟨(some 46),.move (.tmp 3),22,"",⟨[]⟩,none⟩,none,false⟩,⟨⟨(some 47),.move (.tmp 8),3,"",⟨[]⟩,none⟩,none,false⟩,⟨⟨(some 48),.indexAddr 22 (.tmp 46) (.tmp 47),0,"",⟨[]⟩,none⟩,none,false⟩,⟨⟨(some 49),.load 3 (.tmp 48),3,"",⟨[]⟩,none⟩,none,false⟩,⟨⟨(some 50),.move (.tmp 6),3,"",⟨[]⟩,none⟩,none,false⟩,⟨⟨(some 51),.move (.tmp 7),3,"",⟨[]⟩,none⟩,none,false⟩,⟨⟨(some 52),.call ⟨.builtin .max,⟨[(.tmp 50),(.tmp 51)]⟩,⟨[3,3]⟩⟩,3,"",⟨[]⟩,none⟩,none,false⟩,⟨⟨(some 53),.binOp .eql 3 (.tmp 49) (.tmp 52) 3,4,"",⟨[]⟩,none⟩,none,false⟩]) (.cond (.tmp 53) (.ops false [⟨⟨(some 54),.move (.tmp 3),22,"",⟨[]⟩,none⟩,none,false⟩,⟨⟨(some 55),.move (.tmp 8),3,"",⟨[]⟩,none⟩,none,false⟩,⟨⟨(some 56),.move (.tmp 6),3,"",⟨[]⟩,none⟩,none,false⟩,⟨⟨(some 57),.move (.tmp 7),3,"",⟨[]⟩,none⟩,none,false⟩,⟨⟨(some 58),.call ⟨.builtin .min,⟨[(.tmp 56),(.tmp 57)]⟩,⟨[3,3]⟩⟩,3,"",⟨[]⟩,none⟩,none,false⟩,⟨⟨(some 59),.indexAddr 22 (.tmp 54) (.tmp 55),0,"",⟨[]⟩,none⟩,none,false⟩,⟨⟨none,.store 3 (.tmp 59) (.tmp 58),0,"",⟨[]⟩,none⟩,none,false⟩]) .skip))) (.ops false [⟨⟨(some 44),.move (.tmp 8),3,"",⟨[]⟩,none⟩,none,false⟩,⟨⟨(some 45),.binOp .add 3 (.tmp 44) (.const (.int .i64 1)) 3,3,"",⟨[]⟩,none⟩,none,false⟩,⟨⟨(some 8),.assign (.tmp 45),3,"",⟨[]⟩,none⟩,none,false⟩]))))))))) (.ops false [⟨⟨(some 21),.move (.tmp 5),3,"",⟨[]⟩,none⟩,none,false⟩,⟨⟨(some 22),.binOp .add 3 (.tmp 21) (.const (.int .i64 1)) 3,3,"",⟨[]⟩,none⟩,none,false⟩,⟨⟨(some 5),.assign (.tmp 22),3,"",⟨[]⟩,none⟩,none,false⟩])))))) (.seq (.ops false [⟨⟨(some 60),.move (.tmp 3),22,"",⟨[]⟩,none⟩,none,false⟩,⟨⟨(some 2),.assign (.tmp 60),22,"",⟨[]⟩,none⟩,none,false⟩]) .ret)))))
def Tryz.s76 : SC := (.seq (.ops false [⟨⟨(some 5),.box 46 (.tmp 2),0,"",⟨[]⟩,none⟩,none,false⟩,⟨⟨(some 6),.assign (.const (.bool false)),4,"",⟨[]⟩,none⟩,none,false⟩]) (.seq (.ops false [⟨⟨(some 7),.assign (.const (.int .i64 0)),3,"",⟨[]⟩,none⟩,none,false⟩]) (.seq (.seq (.ops false [⟨⟨(some 8),.assign (.const (.int .i64 0)),3,"",⟨[]⟩,none⟩,none,false⟩]) (.block 0 (.loop (.seq (.seq (.ops false [⟨⟨(some 9),.move (.tmp 8),3,"",⟨[]⟩,none⟩,none,false⟩,⟨⟨(some 10),.move (.tmp 0),43,"",⟨[]⟩,none⟩,none,false⟩,⟨⟨(some 11),.call ⟨.builtin .len,⟨[(.tmp 10)]⟩,⟨[43]⟩⟩,3,"",⟨[]⟩,none⟩,none,false⟩,⟨⟨(some 12),.binOp .lss 3 (.tmp 9) (.tmp 11) 3,4,"",⟨[]⟩,none⟩,none,false⟩]) (.cond (.tmp 12) .skip (.exit 0))) (.seq (.block 1 (.seq (.seq (.ops false [⟨⟨(some 15),.move (.tmp 7),3,"",⟨[]⟩,none⟩,none,false⟩,⟨⟨(some 16),.move (.tmp 0),43,"",⟨[]⟩,none⟩,none,false⟩,⟨⟨(some 17),.move (.tmp 8),3,"",⟨[]⟩,none⟩,none,false⟩,⟨⟨(some 18),.indexAddr 43 (.tmp 16) (.tmp 17),0,"",⟨[]⟩,none⟩,none,false⟩,⟨⟨(some 19),.fieldAddr 76 (.tmp 18) 0,0,"",⟨[]⟩,none⟩,none,false⟩,⟨⟨(some 20),.load 3 (.tmp 19),3,"",⟨[]⟩,none⟩,none,false⟩,⟨⟨(some 21),.call ⟨.value (.func 40),⟨[(.tmp 15),(.tmp 20),(.const (.int .i64 36500))]⟩,⟨[3,3,3]⟩⟩,4,"",⟨[]⟩,none⟩,none,false⟩,⟨⟨(some 22),.unOp .not 4 (.tmp 21),4,"",⟨[]⟩,none⟩,none,false⟩,⟨⟨(some 23),.move (.tmp 22),4,"",⟨[]⟩,none⟩,none,false⟩,⟨⟨(some 24),.move (.tmp 0),43,"",⟨[]⟩,none⟩,some ((some 23),false),false⟩,⟨⟨(some 25),.move (.tmp 8),3,"",⟨[]⟩,none⟩,some ((some 23),false),false⟩,⟨⟨(some 26),.indexAddr 43 (.tmp 24) (.tmp 25),0,"",⟨[]⟩,none⟩,some ((some 23),false),false⟩,⟨⟨(some 27),.fieldAddr 76 (.tmp 26) 1,0,"",⟨[]⟩,none⟩,some ((some 23),false),false⟩,⟨⟨(some 28),.load 3 (.tmp 27),3,"",⟨[]⟩,none⟩,some ((some 23),false),false⟩,⟨⟨(some 29),.call ⟨.value (.func 40),⟨[(.const (.int .i64 0)),(.tmp 28),(.const (.int .i64 23))]⟩,⟨[3,3,3]⟩⟩,4,"",⟨[]⟩,none⟩,some ((some 23),false),false⟩,⟨⟨(some 30),.unOp .not 4 (.tmp 29),4,"",⟨[]⟩,none⟩,some ((some 23),false),false⟩,⟨⟨(some 31),.pick (.tmp 23) (.const (.bool true)) (.tmp 30),4,"",⟨[]⟩,none⟩,none,false⟩,⟨⟨(some 32),.move (.tmp 31),4,"",⟨[]⟩,none⟩,none,false⟩,⟨⟨(some 33),.move (.tmp 0),43,"",⟨[]⟩,none⟩,some ((some 32),false),false⟩,⟨⟨(some 34),.move (.tmp 8),3,"",⟨[]⟩,none⟩,some ((some 32),false),false⟩,⟨⟨(some 35),.indexAddr 43 (.tmp 33) (.tmp 34),0,"",⟨[]⟩,none⟩,some ((some 32),false),false⟩,⟨⟨(some 36),.fieldAddr 76 (.tmp 35) 2,0,"",⟨[]⟩,none⟩,some ((some 32),false),false⟩,⟨⟨(some 37),.load 3 (.tmp 36),3,"",⟨[]⟩,none⟩,some ((some 32),false),false⟩,⟨⟨(some 38),.call ⟨.value (.func 40),⟨[(.const (.int .i64 1)),(.tmp 37),(.const (.int .i64 1073741824))]⟩,⟨[3,3,3]⟩⟩,4,"",⟨[]⟩,none⟩,some ((some 32),false),false⟩,⟨⟨(some 39),.unOp .not 4 (.tmp 38),4,"",⟨[]⟩,none⟩,some ((some 32),false),false⟩,⟨⟨(some 40),.pick (.tmp 32) (.const (.bool true)) (.tmp 39),4,"",⟨[]⟩,none⟩,none,false⟩]) (.cond (.tmp 40) (.seq (.ops false [⟨⟨(some 6),.assign (.const (.bool false)),4,"",⟨[]⟩,none⟩,none,false⟩]) .ret) .skip)) (.ops false [⟨⟨(some 41),.move (.tmp 0),43,"",⟨[]⟩,none⟩,none,false⟩,⟨⟨(some 42),.move (.tmp 8),3,"",⟨[]⟩,none⟩,none,false⟩,⟨⟨(some 43),.indexAddr 43 (.tmp 41) (.tmp 42),0,"",⟨[]⟩,none⟩,none,false⟩,⟨⟨(some 44),.fieldAddr 76 (.tmp 43) 0,0,"",⟨[]⟩,none⟩,none,false⟩,⟨⟨(some 45),.load 3 (.tmp 44),3,"",⟨[]⟩,none⟩,none,false⟩,⟨⟨(some 7),.assign (.tmp 45),3,"",⟨[]⟩,none⟩,none,false⟩]))) (.ops false [⟨⟨(some 13),.move (.tmp 8),3,"",⟨[]⟩,none⟩,none,false⟩,⟨⟨(some 14),.binOp .add 3 (.tmp 13) (.const (.int .i64 1)) 3,3,"",⟨[]⟩,none⟩,none,false⟩,⟨⟨(some 8),.assign (.tmp 14),3,"",⟨[]⟩,none⟩,none,false⟩])))))) (.seq (.ops false [⟨⟨(some 46),.move (.tmp 0),43,"",⟨[]⟩,none⟩,none,false⟩,⟨⟨(some 47),.call ⟨.builtin .len,⟨[(.tmp 46)]⟩,⟨[43]⟩⟩,3,"",⟨[]⟩,none⟩,none,false⟩,⟨⟨(some 48),.binOp .leq 3 (.tmp 47) (.const (.int .i64 64)) 3,4,"",⟨[]⟩,none⟩,none,false⟩,⟨⟨(some 49),.move (.tmp 48),4,"",⟨[]⟩,none⟩,none,false⟩,⟨⟨(some 50),.move (.tmp 1),44,"",⟨[]⟩,none⟩,some ((some 49),true),false⟩,⟨⟨(some 51),.call ⟨.value (.func 70),⟨[(.tmp 50)]⟩,⟨[44]⟩⟩,4,"",⟨[]⟩,none⟩,some ((some 49),true),false⟩,⟨⟨(some 52),.pick (.tmp 49) (.tmp 51) (.const (.bool false)),4,"",⟨[]⟩,none⟩,none,false⟩,⟨⟨(some 53),.move (.tmp 52),4,"",⟨[]⟩,none⟩,none,false⟩,⟨⟨(some 54),.fieldAddr 46 (.tmp 5) 0,0,"",⟨[]⟩,none⟩,some ((some 53),true),false⟩,⟨⟨(some 55),.load 3 (.tmp 54),3,"",⟨[]⟩,none⟩,some ((some 53),true),false⟩,⟨⟨(some 56),.call ⟨.value (.func 40),⟨[(.const (.int .i64 1)),(.tmp 55),(.const (.int .i64 366))]⟩,⟨[3,3,3]⟩⟩,4,"",⟨[]⟩,none⟩,some ((some 53),true),false⟩,⟨⟨(some 57),.pick (.tmp 53) (.tmp 56) (.const (.bool false)),4,"",⟨[]⟩,none⟩,none,false⟩,⟨⟨(some 58),.move (.tmp 57),4,"",⟨[]⟩,none⟩,none,false⟩,⟨⟨(some 59),.fieldAddr 46 (.tmp 5) 1,0,"",⟨[]⟩,none⟩,some ((some 58),true),false⟩,⟨⟨(some 60),.load 3 (.tmp 59),3,"",⟨[]⟩,none⟩,some ((some 58),true),false⟩,⟨⟨(some 61),.call ⟨.value (.func 40),⟨[(.const (.int .i64 1)),(.tmp 60),(.const (.int .i64 1073741824))]⟩,⟨[3,3,3]⟩⟩,4,"",⟨[]⟩,none⟩,some ((some 58),true),false⟩,⟨⟨(some 62),.pick (.tmp 58) (.tmp 61) (.const (.bool false)),4,"",⟨[]⟩,none⟩,none,false⟩,⟨⟨(some 63),.move (.tmp 62),4,"",⟨[]⟩,none⟩,none,false⟩,⟨⟨(some 64),.fieldAddr 46 (.tmp 5) 2,0,"",⟨[]⟩,none⟩,some ((some 63),true),false⟩,⟨⟨(some 65),.load 3 (.tmp 64),3,"",⟨[]⟩,none⟩,some ((some 63),true),false⟩,⟨⟨(some 66),.fieldAddr 46 (.tmp 5) 1,0,"",⟨[]⟩,none⟩,some ((some 63),true),false⟩,⟨⟨(some 67),.load 3 (.tmp 66),3,"",⟨[]⟩,none⟩,some ((some 63),true),false⟩,⟨⟨(some 68),.call ⟨.value (.func 40),⟨[(.const (.int .i64 1)),(.tmp 65),(.tmp 67)]⟩,⟨[3,3,3]⟩⟩,4,"",⟨[]⟩,none⟩,some ((some 63),true),false⟩,⟨⟨(some 69),.pick (.tmp 63) (.tmp 68) (.const (.bool false)),4,"",⟨[]⟩,none⟩,none,false⟩,⟨⟨(some 70),.move (.tmp 69),4,"",⟨[]⟩,none⟩,none,false⟩,⟨⟨(some 71),.fieldAddr 46 (.tmp 5) 3,0,"",⟨[]⟩,none⟩,some ((some 70),true),false⟩,⟨⟨(some 72),.load 3 (.tmp 71),3,"",⟨[]⟩,none⟩,some ((some 70),true),false⟩,⟨⟨(some 73),.call ⟨.value (.func 40),⟨[(.const (.int .i64 1)),(.tmp 72),(.const (.int .i64 64))]⟩,⟨[3,3,3]⟩⟩,4,"",⟨[]⟩,none⟩,some ((some 70),true),false⟩,⟨⟨(some 74),.pick (.tmp 70) (.tmp 73) (.const (.bool false)),4,"",⟨[]⟩,none⟩,none,false⟩,⟨⟨(some 6),.assign (.tmp 74),4,"",⟨[]⟩,none⟩,none,false⟩]) .ret))))
def Tryz.s77 : SC := (.seq (.ops false [⟨⟨(some 6),.box 46 (.tmp 2),0,"",⟨[]⟩,none⟩,none,false⟩,⟨⟨(some 8),.assign (.const (.slice none 0 0)),22,"",⟨[]⟩,none⟩,none,false⟩]) (.seq (.ops false [⟨⟨(some 9),.assign (.const (.slice none 0 0)),22,"",⟨[]⟩,none⟩,none,false⟩]) (.seq (.seq (.ops false [⟨⟨(some 10),.assign (.const (.int .i64 0)),3,"",⟨[]⟩,none⟩,none,false⟩]) (.block 0 (.loop (.seq (.seq (.ops false [⟨⟨(some 11),.move (.tmp 10),3,"",⟨[]⟩,none⟩,none,false⟩,⟨⟨(some 12),.move (.tmp 3),3,"",⟨[]⟩,none⟩,none,false⟩,⟨⟨(some 13),.binOp .leq 3 (.tmp 11) (.tmp 12) 3,4,"",⟨[]⟩,none⟩,none,false⟩]) (.cond (.tmp 13) .skip (.exit 0))) (.seq (.block 1 (.seq (.ops true [⟨⟨(some 16),.move (.tmp 1),22,"",⟨[]⟩,none⟩,none,true⟩,⟨⟨(some 17),.move (.tmp 0),43,"",⟨[]⟩,none⟩,none,true⟩,⟨⟨(some 18),.move (.tmp 10),3,"",⟨[]⟩,none⟩,none,true⟩,⟨⟨(some 19),.indexAddr 43 (.tmp 17) (.tmp 18),0,"",⟨[]⟩,none⟩,none,true⟩,⟨⟨(some 20),.fieldAddr 76 (.tmp 19) 1,0,"",⟨[]⟩,none⟩,none,true⟩,⟨⟨(some 21),.load 3 (.tmp 20),3,"",⟨[]⟩,none⟩,none,true⟩,⟨⟨(some 22),.indexAddr 22 (.tmp 16) (.tmp 21),0,"",⟨[]⟩,none⟩,none,true⟩,⟨⟨(some 23),.load 3 (.tmp 22),3,"",⟨[]⟩,none⟩,none,true⟩,⟨⟨(some 24),.move (.tmp 1),22,"",⟨[]⟩,none⟩,none,true⟩,⟨⟨(some 25),.move (.tmp 0),43,"",⟨[]⟩,none⟩,none,true⟩,⟨⟨(some 26),.move (.tmp 3),3,"",⟨[]⟩,none⟩,none,true⟩,⟨⟨(some 27),.indexAddr 43 (.tmp 25) (.tmp 26),0,"",⟨[]⟩,none⟩,none,true⟩,⟨⟨(some 28),.fieldAddr 76 (.tmp 27) 1,0,"",⟨[]⟩,none⟩,none,true⟩,⟨⟨(some 29),.load 3 (.tmp 28),3,"",⟨[]⟩,none⟩,none,true⟩,⟨⟨(some 30),.indexAddr 22 (.tmp 24) (.tmp 29),0,"",⟨[]⟩,none⟩,none,true⟩,⟨⟨(some 31),.load 3 (.tmp 30),3,"",⟨[]⟩,none⟩,none,true⟩,⟨⟨(some 32),.binOp .eql 3 (.tmp 23) (.tmp 31) 3,4,"",⟨[]⟩,none⟩,none,true⟩,⟨⟨(some 33),.move (.tmp 32),4,"",⟨[]⟩,none⟩,none,true⟩,⟨⟨(some 34),.move (.tmp 0),43,"",⟨[]⟩,none⟩,some ((some 33),true),true⟩,⟨⟨(some 35),.move (.tmp 10),3,"",⟨[]⟩,none⟩,some ((some 33),true),true⟩,⟨⟨(some 36),.indexAddr 43 (.tmp 34) (.tmp 35),0,"",⟨[]⟩,none⟩,some ((some 33),true),true⟩,⟨⟨(some 37),.fieldAddr 76 (.tmp 36) 0,0,"",⟨[]⟩,none⟩,some ((some 33),true),true⟩,⟨⟨(some 38),.load 3 (.tmp 37),3,"",⟨[]⟩,none⟩,some ((some 33),true),true⟩,⟨⟨(some 39),.move (.tmp 0),43,"",⟨[]⟩,none⟩,some ((some 33),true),true⟩,⟨⟨(some 40),.move (.tmp 3),3,"",⟨[]⟩,none⟩,some ((some 33),true),true⟩,⟨⟨(some 41),.indexAddr 43 (.tmp 39) (.tmp 40),0,"",⟨[]⟩,none⟩,some ((some 33),true),true⟩,⟨⟨(some 42),.fieldAddr 76 (.tmp 41) 0,0,"",⟨[]⟩,none⟩,some ((some 33),true),true⟩,⟨⟨(some 43),.load 3 (.tmp 42),3,"",⟨[]⟩,none⟩,some ((some 33),true),true⟩,⟨⟨(some 44),.fieldAddr 46 (.tmp 6) 0,0,"",⟨[]⟩,none⟩,some ((some 33),true),true⟩,⟨⟨(some 45),.load 3 (.tmp 44),3,"",⟨[]⟩,none⟩,some ((some 33),true),true⟩,⟨⟨(some 46),.binOp .sub 3 (.tmp 43) (.tmp 45) 3,3,"",⟨[]⟩,none⟩,some ((some 33),true),true⟩,⟨⟨(some 47),.binOp .gtr 3 (.tmp 38) (.tmp 46) 3,4,"",⟨[]⟩,none⟩,some ((some 33),true),true⟩,⟨⟨(some 48),.pick (.tmp 33) (.tmp 47) (.const (.bool false)),4,"",⟨[]⟩,none⟩,none,true⟩]) (.cond (.tmp 48) (.ops false [⟨⟨(some 49),.move (.tmp 9),22,"",⟨[]⟩,none⟩,none,false⟩,⟨⟨(some 50),.move (.tmp 10),3,"",⟨[]⟩,none⟩,none,false⟩,⟨⟨(some 51),.buildSlice 22 1 ⟨[(0,(.tmp 50))]⟩,22,"",⟨[]⟩,none⟩,none,false⟩,⟨⟨(some 52),.call ⟨.builtin .append,⟨[(.tmp 49),(.tmp 51)]⟩,⟨[22,22]⟩⟩,22,"",⟨[]⟩,none⟩,none,false⟩,⟨⟨(some 9),.assign (.tmp 52),22,"",⟨[]⟩,none⟩,none,false⟩]) .skip))) (.ops false [⟨⟨(some 14),.move (.tmp 10),3,"",⟨[]⟩,none⟩,none,false⟩,⟨⟨(some 15),.binOp .add 3 (.tmp 14) (.const (.int .i64 1)) 3,3,"",⟨[]⟩,none⟩,none,false⟩,⟨⟨(some 10),.assign (.tmp 15),3,"",⟨[]⟩,none⟩,none,false⟩])))))) (.seq (.ops false [⟨⟨(some 53),.move (.tmp 9),22,"",⟨[]⟩,none⟩,none,false⟩,⟨⟨(some 8),.assign (.tmp 53),22,"",⟨[]⟩,none⟩,none,false⟩]) .ret))))
def Tryz.s78 : SC := (.seq (.ops false [⟨⟨(some 4),.box 46 (.tmp 1),0,"",⟨[]⟩,none⟩,none,false⟩,⟨⟨(some 6),.assign (.const (.bool false)),4,"",⟨[]⟩,none⟩,none,false⟩]) (.seq (.ops true [⟨⟨(some 7),.move (.tmp 0),43,"",⟨[]⟩,none⟩,none,true⟩,⟨⟨(some 8),.move (.tmp 2),22,"",⟨[]⟩,none⟩,none,true⟩,⟨⟨(some 10),.fieldAddr 46 (.tmp 4) 1,0,"",⟨[]⟩,none⟩,none,true⟩,⟨⟨(some 11),.load 3 (.tmp 10),3,"",⟨[]⟩,none⟩,none,true⟩,⟨⟨(some 9),.call ⟨.value (.func 79),⟨[(.tmp 7),(.tmp 8)]⟩,⟨[43,22]⟩⟩,3,"",⟨[]⟩,none⟩,none,true⟩,⟨⟨(some 12),.binOp .geq 3 (.tmp 9) (.tmp 11) 3,4,"",⟨[]⟩,none⟩,none,true⟩,⟨⟨(some 13),.move (.tmp 12),4,"",⟨[]⟩,none⟩,none,true⟩,⟨⟨(some 14),.move (.tmp 0),43,"",⟨[]⟩,none⟩,some ((some 13),false),true⟩,⟨⟨(some 15),.load 46 (.tmp 4),46,"",⟨[]⟩,none⟩,some ((some 13),false),true⟩,⟨⟨(some 16),.move (.tmp 2),22,"",⟨[]⟩,none⟩,some ((some 13),false),true⟩,⟨⟨(some 19),.fieldAddr 46 (.tmp 4) 3,0,"",⟨[]⟩,none⟩,some ((some 13),false),true⟩,⟨⟨(some 20),.load 3 (.tmp 19),3,"",⟨[]⟩,none⟩,some ((some 13),false),true⟩,⟨⟨(some 17),.call ⟨.value (.func 83),⟨[(.tmp 14),(.tmp 15),(.tmp 16)]⟩,⟨[43,46,22]⟩⟩,22,"",⟨[]⟩,none⟩,some ((some 13),false),true⟩,⟨⟨(some 18),.call ⟨.builtin .len,⟨[(.tmp 17)]⟩,⟨[22]⟩⟩,3,"",⟨[]⟩,none⟩,some ((some 13),false),true⟩,⟨⟨(some 21),.binOp .geq 3 (.tmp 18) (.tmp 20) 3,4,"",⟨[]⟩,none⟩,some ((some 13),false),true⟩,⟨⟨(some 22),.pick (.tmp 13) (.const (.bool true)) (.tmp 21),4,"",⟨[]⟩,none⟩,none,true⟩,⟨⟨(some 6),.assign (.tmp 22),4,"",⟨[]⟩,none⟩,none,true⟩]) .ret))
def Tryz.s79 : SC := (.seq (.ops false [⟨⟨(some 4),.assign (.const (.int .i64 0)),3,"",⟨[]⟩,none⟩,none,false⟩]) (.seq (.ops false [⟨⟨(some 5),.assign (.const (.int .i64 0)),3,"",⟨[]⟩,none⟩,none,false⟩]) (.seq (.seq (.ops false [⟨⟨(some 6),.assign (.const (.int .i64 0)),3,"",⟨[]⟩,none⟩,none,false⟩]) (.block 0 (.loop (.seq (.seq (.ops false [⟨⟨(some 7),.move (.tmp 6),3,"",⟨[]⟩,none⟩,none,false⟩,⟨⟨(some 8),.move (.tmp 1),22,"",⟨[]⟩,none⟩,none,false⟩,⟨⟨(some 9),.call ⟨.builtin .len,⟨[(.tmp 8)]⟩,⟨[22]⟩⟩,3,"",⟨[]⟩,none⟩,none,false⟩,⟨⟨(some 10),.binOp .lss 3 (.tmp 7) (.tmp 9) 3,4,"",⟨[]⟩,none⟩,none,false⟩]) (.cond (.tmp 10) .skip (.exit 0))) (.seq (.block 1 (.ops false [⟨⟨(some 13),.move (.tmp 5),3,"",⟨[]⟩,none⟩,none,false⟩,⟨⟨(some 14),.move (.tmp 0),43,"",⟨[]⟩,none⟩,none,false⟩,⟨⟨(some 15),.move (.tmp 1),22,"",⟨[]⟩,none⟩,none,false⟩,⟨⟨(some 16),.move (.tmp 6),3,"",⟨[]⟩,none⟩,none,false⟩,⟨⟨(some 17),.indexAddr 22 (.tmp 15) (.tmp 16),0,"",⟨[]⟩,none⟩,none,false⟩,⟨⟨(some 18),.load 3 (.tmp 17),3,"",⟨[]⟩,none⟩,none,false⟩,⟨⟨(some 19),.indexAddr 43 (.tmp 14) (.tmp 18),0,"",⟨[]⟩,none⟩,none,false⟩,⟨⟨(some 20),.fieldAddr 76 (.tmp 19) 2,0,"",⟨[]⟩,none⟩,none,false⟩,⟨⟨(some 21),.load 3 (.tmp 20),3,"",⟨[]⟩,none⟩,none,false⟩,⟨⟨(some 22),.binOp .add 3 (.tmp 13) (.tmp 21) 3,3,"",⟨[]⟩,none⟩,none,false⟩,⟨⟨(some 5),.assign (.tmp 22),3,"",⟨[]⟩,none⟩,none,false⟩])) (.ops false [⟨⟨(some 11),.move (.tmp 6),3,"",⟨[]⟩,none⟩,none,false⟩,⟨⟨(some 12),.binOp .add 3 (.tmp 11) (.const (.int .i64 1)) 3,3,"",⟨[]⟩,none⟩,none,false⟩,⟨⟨(some 6),.assign (.tmp 12),3,"",⟨[]⟩,none⟩,none,false⟩])))))) (.seq (.ops false [⟨⟨(some 23),.move (.tmp 5),3,"",⟨[]⟩,none⟩,none,false⟩,⟨⟨(some 4),.assign (.tmp 23),3,"",⟨[]⟩,none⟩,none,false⟩]) .ret))))
def Tryz.s82 : SC := (.seq (.ops false [⟨⟨(some 6),.assign (.const (.slice none 0 0)),22,"",⟨[]⟩,none⟩,none,false⟩]) (.seq (.ops false [⟨⟨(some 7),.assign (.const (.int .i64 0)),3,"",⟨[]⟩,none⟩,none,false⟩]) (.seq (.block 0 (.loop (.seq (.seq (.ops false [⟨⟨(some 10),.move (.tmp 0),43,"",⟨[]⟩,none⟩,none,false⟩,⟨⟨(some 11),.move (.tmp 1),22,"",⟨[]⟩,none⟩,none,false⟩,⟨⟨(some 12),.move (.tmp 7),3,"",⟨[]⟩,none⟩,none,false⟩,⟨⟨(some 13),.call ⟨.value (.func 119),⟨[(.tmp 10),(.tmp 11),(.tmp 12)]⟩,⟨[43,22,3]⟩⟩,3,"",⟨[]⟩,none⟩,none,false⟩,⟨⟨(some 14),.move (.tmp 2),3,"",⟨[]⟩,none⟩,none,false⟩,⟨⟨(some 15),.binOp .lss 3 (.tmp 13) (.tmp 14) 3,4,"",⟨[]⟩,none⟩,none,false⟩]) (.cond (.tmp 15) .skip (.exit 0))) (.block 1 (.ops false [⟨⟨(some 16),.move (.tmp 7),3,"",⟨[]⟩,none⟩,none,false⟩,⟨⟨(some 17),.binOp .add 3 (.tmp 16) (.const (.int .i64 1)) 3,3,"",⟨[]⟩,none⟩,none,false⟩,⟨⟨(some 7),.assign (.tmp 17),3,"",⟨[]⟩,none⟩,none,false⟩]))))) (.seq (.ops false [⟨⟨(some 8),.assign (.const (.slice none 0 0)),22,"",⟨[]⟩,none⟩,none,false⟩]) (.seq (.seq (.ops false [⟨⟨(some 9),.assign (.const (.int .i64 0)),3,"",⟨[]⟩,none⟩,none,false⟩]) (.block 2 (.loop (.seq (.seq (.ops false [⟨⟨(some 18),.move (.tmp 9),3,"",⟨[]⟩,none⟩,none,false⟩,⟨⟨(some 19),.move (.tmp 1),22,"",⟨[]⟩,none⟩,none,false⟩,⟨⟨(some 20),.call ⟨.builtin .len,⟨[(.tmp 19)]⟩,⟨[22]⟩⟩,3,"",⟨[]⟩,none⟩,none,false⟩,⟨⟨(some 21),.binOp .lss 3 (.tmp 18) (.tmp 20) 3,4,"",⟨[]⟩,none⟩,none,false⟩,⟨⟨(some 22),.move (.tmp 21),4,"",⟨[]⟩,none⟩,none,false⟩,⟨⟨(some 23),.move (.tmp 7),3,"",⟨[]⟩,none⟩,some ((some 22),true),false⟩,⟨⟨(some 24),.binOp .gtr 3 (.tmp 23) (.const (.int .i64 0)) 3,4,"",⟨[]⟩,none⟩,some ((some 22),true),false⟩,⟨⟨(some 25),.pick (.tmp 22) (.tmp 24) (.const (.bool false)),4,"",⟨[]⟩,none⟩,none,false⟩]) (.cond (.tmp 25) .skip (.exit 2))) (.seq (.block 3 (.seq (.ops true [⟨⟨(some 28),.move (.tmp 0),43,"",⟨[]⟩,none⟩,none,true⟩,⟨⟨(some 29),.move (.tmp 1),22,"",⟨[]⟩,none⟩,none,true⟩,⟨⟨(some 30),.move (.tmp 9),3,"",⟨[]⟩,none⟩,none,true⟩,⟨⟨(some 31),.indexAddr 22 (.tmp 29) (.tmp 30),0,"",⟨[]⟩,none⟩,none,true⟩,⟨⟨(some 32),.load 3 (.tmp 31),3,"",⟨[]⟩,none⟩,none,true⟩,⟨⟨(some 33),.indexAddr 43 (.tmp 28) (.tmp 32),0,"",⟨[]⟩,none⟩,none,true⟩,⟨⟨(some 34),.fieldAddr 76 (.tmp 33) 2,0,"",⟨[]⟩,none⟩,none,true⟩,⟨⟨(some 35),.load 3 (.tmp 34),3,"",⟨[]⟩,none⟩,none,true⟩,⟨⟨(some 36),.move (.tmp 0),43,"",⟨[]⟩,none⟩,none,true⟩,⟨⟨(some 37),.move (.tmp 1),22,"",⟨[]⟩,none⟩,none,true⟩,⟨⟨(some 38),.move (.tmp 9),3,"",⟨[]⟩,none⟩,none,true⟩,⟨⟨(some 39),.binOp .add 3 (.tmp 38) (.const (.int .i64 1)) 3,3,"",⟨[]⟩,none⟩,none,true⟩,⟨⟨(some 40),.slice 22 (.tmp 37) (some (.tmp 39)) none none,22,"",⟨[]⟩,none⟩,none,true⟩,⟨⟨(some 41),.move (.tmp 7),3,"",⟨[]⟩,none⟩,none,true⟩,⟨⟨(some 42),.binOp .sub 3 (.tmp 41) (.const (.int .i64 1)) 3,3,"",⟨[]⟩,none⟩,none,true⟩,⟨⟨(some 45),.move (.tmp 2),3,"",⟨[]⟩,none⟩,none,true⟩,⟨⟨(some 43),.call ⟨.value (.func 119),⟨[(.tmp 36),(.tmp 40),(.tmp 42)]⟩,⟨[43,22,3]⟩⟩,3,"",⟨[]⟩,none⟩,none,true⟩,⟨⟨(some 44),.binOp .add 3 (.tmp 35) (.tmp 43) 3,3,"",⟨[]⟩,none⟩,none,true⟩,⟨⟨(some 46),.binOp .geq 3 (.tmp 44) (.tmp 45) 3,4,"",⟨[]⟩,none⟩,none,true⟩]) (.cond (.tmp 46) (.seq (.ops false [⟨⟨(some 47),.move (.tmp 8),22,"",⟨[]⟩,none⟩,none,false⟩,⟨⟨(some 48),.move (.tmp 1),22,"",⟨[]⟩,none⟩,none,false⟩,⟨⟨(some 49),.move (.tmp 9),3,"",⟨[]⟩,none⟩,none,false⟩,⟨⟨(some 50),.indexAddr 22 (.tmp 48) (.tmp 49),0,"",⟨[]⟩,none⟩,none,false⟩,⟨⟨(some 51),.load 3 (.tmp 50),3,"",⟨[]⟩,none⟩,none,false⟩,⟨⟨(some 52),.buildSlice 22 1 ⟨[(0,(.tmp 51))]⟩,22,"",⟨[]⟩,none⟩,none,false⟩,⟨⟨(some 53),.call ⟨.builtin .append,⟨[(.tmp 47),(.tmp 52)]⟩,⟨[22,22]⟩⟩,22,"",⟨[]⟩,none⟩,none,false⟩,⟨⟨(some 8),.assign (.tmp 53),22,"",⟨[]⟩,none⟩,none,false⟩]) (.ops false [⟨⟨(some 54),.move (.tmp 2),3,"",⟨[]⟩,none⟩,none,false⟩,⟨⟨(some 55),.move (.tmp 0),43,"",⟨[]⟩,none⟩,none,false⟩,⟨⟨(some 56),.move (.tmp 1),22,"",⟨[]⟩,none⟩,none,false⟩,⟨⟨(some 57),.move (.tmp 9),3,"",⟨[]⟩,none⟩,none,false⟩,⟨⟨(some 58),.indexAddr 22 (.tmp 56) (.tmp 57),0,"",⟨[]⟩,none⟩,none,false⟩,⟨⟨(some 59),.load 3 (.tmp 58),3,"",⟨[]⟩,none⟩,none,false⟩,⟨⟨(some 60),.indexAddr 43 (.tmp 55) (.tmp 59),0,"",⟨[]⟩,none⟩,none,false⟩,⟨⟨(some 61),.fieldAddr 76 (.tmp 60) 2,0,"",⟨[]⟩,none⟩,none,false⟩,⟨⟨(some 62),.load 3 (.tmp 61),3,"",⟨[]⟩,none⟩,none,false⟩,⟨⟨(some 63),.binOp .sub 3 (.tmp 54) (.tmp 62) 3,3,"",⟨[]⟩,none⟩,none,false⟩,⟨⟨(some 64),.move (.tmp 7),3,"",⟨[]⟩,none⟩,none,false⟩,⟨⟨(some 65),.binOp .sub 3 (.tmp 64) (.const (.int .i64 1)) 3,3,"",⟨[]⟩,none⟩,none,false⟩,⟨⟨(some 2),.assign (.tmp 63),3,"",⟨[]⟩,none⟩,none,false⟩,⟨⟨(some 7),.assign (.tmp 65),3,"",⟨[]⟩,none⟩,none,false⟩])) .skip))) (.ops false [⟨⟨(some 26),.move (.tmp 9),3,"",⟨[]⟩,none⟩,none,false⟩,⟨⟨(some 27),.binOp .add 3 (.tmp 26) (.const (.int .i64 1)) 3,3,"",⟨[]⟩,none⟩,none,false⟩,⟨⟨(some 9),.assign (.tmp 27),3,"",⟨[]⟩,none⟩,none,false⟩])))))) (.seq (.ops false [⟨⟨(some 66),.move (.tmp 8),22,"",⟨[]⟩,none⟩,none,false⟩,⟨⟨(some 6),.assign (.tmp 66),22,"",⟨[]⟩,none⟩,none,false⟩]) .ret))))))
def Tryz.s83 : SC := (.seq (.ops false [⟨⟨(some 4),.box 46 (.tmp 1),0,"",⟨[]⟩,none⟩,none,false⟩,⟨⟨(some 6),.assign (.const (.slice none 0 0)),22,"",⟨[]⟩,none⟩,none,false⟩]) (.seq (.ops false [⟨⟨(some 7),.assign (.const (.slice none 0 0)),22,"",⟨[]⟩,none⟩,none,false⟩]) (.seq (.seq (.ops false [⟨⟨(some 8),.assign (.const (.int .i64 0)),3,"",⟨[]⟩,none⟩,none,false⟩]) (.block 0 (.loop (.seq (.seq (.ops false [⟨⟨(some 9),.move (.tmp 8),3,"",⟨[]⟩,none⟩,none,false⟩,⟨⟨(some 10),.move (.tmp 2),22,"",⟨[]⟩,none⟩,none,false⟩,⟨⟨(some 11),.call ⟨.builtin .len,⟨[(.tmp 10)]⟩,⟨[22]⟩⟩,3,"",⟨[]⟩,none⟩,none,false⟩,⟨⟨(some 12),.binOp .lss 3 (.tmp 9) (.tmp 11) 3,4,"",⟨[]⟩,none⟩,none,false⟩]) (.cond (.tmp 12) .skip (.exit 0))) (.seq (.block 1 (.seq (.ops true [⟨⟨(some 15),.fieldAddr 46 (.tmp 4) 2,0,"",⟨[]⟩,none⟩,none,true⟩,⟨⟨(some 16),.load 3 (.tmp 15),3,"",⟨[]⟩,none⟩,none,true⟩,⟨⟨(some 17),.move (.tmp 0),43,"",⟨[]⟩,none⟩,none,true⟩,⟨⟨(some 18),.move (.tmp 2),22,"",⟨[]⟩,none⟩,none,true⟩,⟨⟨(some 19),.move (.tmp 8),3,"",⟨[]⟩,none⟩,none,true⟩,⟨⟨(some 20),.indexAddr 22 (.tmp 18) (.tmp 19),0,"",⟨[]⟩,none⟩,none,true⟩,⟨⟨(some 21),.load 3 (.tmp 20),3,"",⟨[]⟩,none⟩,none,true⟩,⟨⟨(some 22),.indexAddr 43 (.tmp 17) (.tmp 21),0,"",⟨[]⟩,none⟩,none,true⟩,⟨⟨(some 23),.fieldAddr 76 (.tmp 22) 2,0,"",⟨[]⟩,none⟩,none,true⟩,⟨⟨(some 24),.load 3 (.tmp 23),3,"",⟨[]⟩,none⟩,none,true⟩,⟨⟨(some 25),.fieldAddr 46 (.tmp 4) 1,0,"",⟨[]⟩,none⟩,none,true⟩,⟨⟨(some 26),.load 3 (.tmp 25),3,"",⟨[]⟩,none⟩,none,true⟩,⟨⟨(some 27),.binOp .sub 3 (.tmp 26) (.const (.int .i64 1)) 3,3,"",⟨[]⟩,none⟩,none,true⟩,⟨⟨(some 28),.call ⟨.value (.func 40),⟨[(.tmp 16),(.tmp 24),(.tmp 27)]⟩,⟨[3,3,3]⟩⟩,4,"",⟨[]⟩,none⟩,none,false⟩]) (.cond (.tmp 28) (.ops false [⟨⟨(some 29),.move (.tmp 7),22,"",⟨[]⟩,none⟩,none,false⟩,⟨⟨(some 30),.move (.tmp 2),22,"",⟨[]⟩,none⟩,none,false⟩,⟨⟨(some 31),.move (.tmp 8),3,"",⟨[]⟩,none⟩,none,false⟩,⟨⟨(some 32),.indexAddr 22 (.tmp 30) (.tmp 31),0,"",⟨[]⟩,none⟩,none,false⟩,⟨⟨(some 33),.load 3 (.tmp 32),3,"",⟨[]⟩,none⟩,none,false⟩,⟨⟨(some 34),.buildSlice 22 1 ⟨[(0,(.tmp 33))]⟩,22,"",⟨[]⟩,none⟩,none,false⟩,⟨⟨(some 35),.call ⟨.builtin .append,⟨[(.tmp 29),(.tmp 34)]⟩,⟨[22,22]⟩⟩,22,"",⟨[]⟩,none⟩,none,false⟩,⟨⟨(some 7),.assign (.tmp 35),22,"",⟨[]⟩,none⟩,none,false⟩]) .skip))) (.ops false [⟨⟨(some 13),.move (.tmp 8),3,"",⟨[]⟩,none⟩,none,false⟩,⟨⟨(some 14),.binOp .add 3 (.tmp 13) (.const (.int .i64 1)) 3,3,"",⟨[]⟩,none⟩,none,false⟩,⟨⟨(some 8),.assign (.tmp 14),3,"",⟨[]⟩,none⟩,none,false⟩])))))) (.seq (.ops false [⟨⟨(some 36),.move (.tmp 7),22,"",⟨[]⟩,none⟩,none,false⟩,⟨⟨(some 6),.assign (.tmp 36),22,"",⟨[]⟩,none⟩,none,false⟩]) .ret))))
def Tryz.s119 : SC := (.seq (.ops false [⟨⟨(some 6),.assign (.const (.int .i64 0)),3,"",⟨[]⟩,none⟩,none,false⟩]) (.seq (.seq (.ops false [⟨⟨(some 10),.move (.tmp 2),3,"",⟨[]⟩,none⟩,none,false⟩,⟨⟨(some 11),.binOp .eql 3 (.tmp 10) (.const (.int .i64 0)) 3,4,"",⟨[]⟩,none⟩,none,false⟩,⟨⟨(some 12),.move (.tmp 11),4,"",⟨[]⟩,none⟩,none,false⟩,⟨⟨(some 13),.move (.tmp 1),22,"",⟨[]⟩,none⟩,some ((some 12),false),false⟩,⟨⟨(some 14),.call ⟨.builtin .len,⟨[(.tmp 13)]⟩,⟨[22]⟩⟩,3,"",⟨[]⟩,none⟩,some ((some 12),false),false⟩,⟨⟨(some 15),.binOp .eql 3 (.tmp 14) (.const (.int .i64 0)) 3,4,"",⟨[]⟩,none⟩,some ((some 12),false),false⟩,⟨⟨(some 16),.pick (.tmp 12) (.const (.bool true)) (.tmp 15),4,"",⟨[]⟩,none⟩,none,false⟩]) (.cond (.tmp 16) (.seq (.ops false [⟨⟨(some 6),.assign (.const (.int .i64 0)),3,"",⟨[]⟩,none⟩,none,false⟩]) .ret) .skip)) (.seq (.ops false [⟨⟨(some 7),.assign (.const (.int .i64 0)),3,"",⟨[]⟩,none⟩,none,false⟩]) (.seq (.seq (.ops false [⟨⟨(some 8),.assign (.const (.int .i64 0)),3,"",⟨[]⟩,none⟩,none,false⟩]) (.block 0 (.loop (.seq (.seq (.ops false [⟨⟨(some 17),.move (.tmp 8),3,"",⟨[]⟩,none⟩,none,false⟩,⟨⟨(some 18),.move (.tmp 1),22,"",⟨[]⟩,none⟩,none,false⟩,⟨⟨(some 19),.call ⟨.builtin .len,⟨[(.tmp 18)]⟩,⟨[22]⟩⟩,3,"",⟨[]⟩,none⟩,none,false⟩,⟨⟨(some 20),.binOp .lss 3 (.tmp 17) (.tmp 19) 3,4,"",⟨[]⟩,none⟩,none,false⟩]) (.cond (.tmp 20) .skip (.exit 0))) (.seq (.block 1 (.seq (.ops true [⟨⟨(some 23),.move (.tmp 0),43,"",⟨[]⟩,none⟩,none,true⟩,⟨⟨(some 24),.move (.tmp 1),22,"",⟨[]⟩,none⟩,none,true⟩,⟨⟨(some 25),.move (.tmp 8),3,"",⟨[]⟩,none⟩,none,true⟩,⟨⟨(some 26),.indexAddr 22 (.tmp 24) (.tmp 25),0,"",⟨[]⟩,none⟩,none,true⟩,⟨⟨(some 27),.load 3 (.tmp 26),3,"",⟨[]⟩,none⟩,none,true⟩,⟨⟨(some 28),.indexAddr 43 (.tmp 23) (.tmp 27),0,"",⟨[]⟩,none⟩,none,true⟩,⟨⟨(some 29),.fieldAddr 76 (.tmp 28) 2,0,"",⟨[]⟩,none⟩,none,true⟩,⟨⟨(some 30),.load 3 (.tmp 29),3,"",⟨[]⟩,none⟩,none,true⟩,⟨⟨(some 31),.move (.tmp 0),43,"",⟨[]⟩,none⟩,none,true⟩,⟨⟨(some 32),.move (.tmp 1),22,"",⟨[]⟩,none⟩,none,true⟩,⟨⟨(some 33),.move (.tmp 7),3,"",⟨[]⟩,none⟩,none,true⟩,⟨⟨(some 34),.indexAddr 22 (.tmp 32) (.tmp 33),0,"",⟨[]⟩,none⟩,none,true⟩,⟨⟨(some 35),.load 3 (.tmp 34),3,"",⟨[]⟩,none⟩,none,true⟩,⟨⟨(some 36),.indexAddr 43 (.tmp 31) (.tmp 35),0,"",⟨[]⟩,none⟩,none,true⟩,⟨⟨(some 37),.fieldAddr 76 (.tmp 36) 2,0,"",⟨[]⟩,none⟩,none,true⟩,⟨⟨(some 38),.load 3 (.tmp 37),3,"",⟨[]⟩,none⟩,none,true⟩,⟨⟨(some 39),.binOp .gtr 3 (.tmp 30) (.tmp 38) 3,4,"",⟨[]⟩,none⟩,none,true⟩]) (.cond (.tmp 39) (.ops false [⟨⟨(some 40),.move (.tmp 8),3,"",⟨[]⟩,none⟩,none,false⟩,⟨⟨(some 7),.assign (.tmp 40),3,"",⟨[]⟩,none⟩,none,false⟩]) .skip))) (.ops false [⟨⟨(some 21),.move (.tmp 8),3,"",⟨[]⟩,none⟩,none,false⟩,⟨⟨(some 22),.binOp .add 3 (.tmp 21) (.const (.int .i64 1)) 3,3,"",⟨[]⟩,none⟩,none,false⟩,⟨⟨(some 8),.assign (.tmp 22),3,"",⟨[]⟩,none⟩,none,false⟩])))))) (.seq (.ops true [⟨⟨(some 41),.move (.tmp 1),22,"",⟨[]⟩,none⟩,none,true⟩,⟨⟨(some 42),.move (.tmp 7),3,"",⟨[]⟩,none⟩,none,true⟩,⟨⟨(some 43),.slice 22 (.tmp 41) none (some (.tmp 42)) none,22,"",⟨[]⟩,none⟩,none,true⟩,⟨⟨(some 45),.move (.tmp 1),22,"",⟨[]⟩,none⟩,none,true⟩,⟨⟨(some 46),.move (.tmp 7),3,"",⟨[]⟩,none⟩,none,true⟩,⟨⟨(some 47),.binOp .add 3 (.tmp 46) (.const (.int .i64 1)) 3,3,"",⟨[]⟩,none⟩,none,true⟩,⟨⟨(some 48),.slice 22 (.tmp 45) (some (.tmp 47)) none none,22,"",⟨[]⟩,none⟩,none,true⟩,⟨⟨(some 44),.call ⟨.value (.func 93),⟨[(.tmp 43)]⟩,⟨[22]⟩⟩,22,"",⟨[]⟩,none⟩,none,true⟩,⟨⟨(some 49),.call ⟨.builtin .append,⟨[(.tmp 44),(.tmp 48)]⟩,⟨[22,22]⟩⟩,22,"",⟨[]⟩,none⟩,none,false⟩,⟨⟨(some 9),.assign (.tmp 49),22,"",⟨[]⟩,none⟩,none,true⟩]) (.seq (.ops true [⟨⟨(some 50),.move (.tmp 0),43,"",⟨[]⟩,none⟩,none,true⟩,⟨⟨(some 51),.move (.tmp 1),22,"",⟨[]⟩,none⟩,none,true⟩,⟨⟨(some 52),.move (.tmp 7),3,"",⟨[]⟩,none⟩,none,true⟩,⟨⟨(some 53),.indexAddr 22 (.tmp 51) (.tmp 52),0,"",⟨[]⟩,none⟩,none,true⟩,⟨⟨(some 54),.load 3 (.tmp 53),3,"",⟨[]⟩,none⟩,none,true⟩,⟨⟨(some 55),.indexAddr 43 (.tmp 50) (.tmp 54),0,"",⟨[]⟩,none⟩,none,true⟩,⟨⟨(some 56),.fieldAddr 76 (.tmp 55) 2,0,"",⟨[]⟩,none⟩,none,true⟩,⟨⟨(some 57),.load 3 (.tmp 56),3,"",⟨[]⟩,none⟩,none,true⟩,⟨⟨(some 58),.move (.tmp 0),43,"",⟨[]⟩,none⟩,none,true⟩,⟨⟨(some 59),.move (.tmp 9),22,"",⟨[]⟩,none⟩,none,true⟩,⟨⟨(some 60),.move (.tmp 2),3,"",⟨[]⟩,none⟩,none,true⟩,⟨⟨(some 61),.binOp .sub 3 (.tmp 60) (.const (.int .i64 1)) 3,3,"",⟨[]⟩,none⟩,none,true⟩,⟨⟨(some 62),.call ⟨.value (.func 119),⟨[(.tmp 58),(.tmp 59),(.tmp 61)]⟩,⟨[43,22,3]⟩⟩,3,"",⟨[]⟩,none⟩,none,true⟩,⟨⟨(some 63),.binOp .add 3 (.tmp 57) (.tmp 62) 3,3,"",⟨[]⟩,none⟩,none,true⟩,⟨⟨(some 6),.assign (.tmp 63),3,"",⟨[]⟩,none⟩,none,true⟩]) .ret))))))
theorem Tryz.s5_eq : Tryz.f5.body.map sOf = some Tryz.s5 := by kernel_rfl
theorem Tryz.s29_eq : Tryz.f29.body.map sOf = some Tryz.s29 := by kernel_rfl
theorem Tryz.s31_eq : Tryz.f31.body.map sOf = some Tryz.s31 := by kernel_rfl
theorem Tryz.s33_eq : Tryz.f33.body.map sOf = some Tryz.s33 := by kernel_rfl
theorem Tryz.s70_eq : Tryz.f70.body.map sOf = some Tryz.s70 := by kernel_rfl
theorem Tryz.s71_eq : Tryz.f71.body.map sOf = some Tryz.s71 := by kernel_rfl
theorem Tryz.s76_eq : Tryz.f76.body.map sOf = some Tryz.s76 := by kernel_rfl
theorem Tryz.s77_eq : Tryz.f77.body.map sOf = some Tryz.s77 := by kernel_rfl
theorem Tryz.s78_eq : Tryz.f78.body.map sOf = some Tryz.s78 := by kernel_rfl
theorem Tryz.s79_eq : Tryz.f79.body.map sOf = some Tryz.s79 := by kernel_rfl
theorem Tryz.s82_eq : Tryz.f82.body.map sOf = some Tryz.s82 := by kernel_rfl
theorem Tryz.s83_eq : Tryz.f83.body.map sOf = some Tryz.s83 := by kernel_rfl
theorem Tryz.s119_eq : Tryz.f119.body.map sOf = some Tryz.s119 := by kernel_rfl
end Go.Proofs

namespace Go.Proofs
open Go Go.RowKit Go.Sim
set_option maxRecDepth 100000
theorem Tryz.ty25 : (prg Tryz.prog).ty 25 = some ⟨true, (.array 2 3), 2, 16, .agg #[.int .i64 0, .int .i64 0]⟩ := by kernel_rfl
attribute [go_sem] Tryz.ty25
theorem Tryz.ty44 : (prg Tryz.prog).ty 44 = some ⟨false, (.slice 25), 1, 24, .slice none 0 0⟩ := by kernel_rfl
attribute [go_sem] Tryz.ty44
theorem Tryz.ty115 : (prg Tryz.prog).ty 115 = some ⟨true, (.array 24 3), 24, 192, .agg #[.int .i64 0, .int .i64 0, .int .i64 0, .int .i64 0, .int .i64 0, .int .i64 0, .int .i64 0, .int .i64 0, .int .i64 0, .int .i64 0, .int .i64 0, .int .i64 0, .int .i64 0, .int .i64 0, .int .i64 0, .int .i64 0, .int .i64 0, .int .i64 0, .int .i64 0, .int .i64 0, .int .i64 0, .int .i64 0, .int .i64 0, .int .i64 0]⟩ := by kernel_rfl
attribute [go_sem] Tryz.ty115
theorem Tryz.ty164 : (prg Tryz.prog).ty 164 = some ⟨false, (.func #[25] #[4] false), 1, 8, .nilFunc⟩ := by kernel_rfl
attribute [go_sem] Tryz.ty164
theorem Tryz.ty165 : (prg Tryz.prog).ty 165 = some ⟨false, (.func #[3, 3] #[] false), 1, 8, .nilFunc⟩ := by kernel_rfl
attribute [go_sem] Tryz.ty165
theorem Tryz.ia44 (t : Tmps) (w : AW) (x y : Operand) : fast (prg Tryz.prog) t w (.indexAddr 44 x y) = indexV 2 (ev t x) (ev t y) := fast_indexAddr Tryz.ty44 Tryz.ty25
attribute [go_sem] Tryz.ia44
theorem Tryz.ln44 (t : Tmps) (w : AW) (x : Operand) : fast (prg Tryz.prog) t w (.call ⟨.builtin .len, ⟨[x]⟩, ⟨[44]⟩⟩) = lenV (ev t x) := fast_len Tryz.ty44
attribute [go_sem] Tryz.ln44
theorem Tryz.ia25 (t : Tmps) (w : AW) (x y : Operand) : fast (prg Tryz.prog) t w (.indexAddr 25 x y) = indexA 1 2 (ev t x) (ev t y) := fast_indexAddrA Tryz.ty25 Tryz.ty3
theorem indexA_0 (b o : Nat) (k : IntKind) : indexA 1 2 (.pointer (some ⟨b, o, none⟩)) (.int k 0) = some (.pointer (some ⟨b, o, none⟩)) := rfl
theorem indexA_1 (b o : Nat) (k : IntKind) : indexA 1 2 (.pointer (some ⟨b, o, none⟩)) (.int k 1) = some (.pointer (some ⟨b, o + 1, none⟩)) := rfl
attribute [go_sem] Tryz.ia25 indexA_0 indexA_1
end Go.Proofs

namespace Go.Proofs
open Go Go.RowKit Go.Sim
set_option maxRecDepth 100000
theorem Tryz.ty43 : (prg Tryz.prog).ty 43 = some ⟨false, (.slice 76), 1, 24, .slice none 0 0⟩ := by kernel_rfl
attribute [go_sem] Tryz.ty43
theorem Tryz.ty46 : (prg Tryz.prog).ty 46 = some ⟨true, (.struct #[{ name := "Days", type := 3, offset := 0, embedded := false, tag := "", pkgPath := "", byteOffset := 0 }, { name := "Sum", type := 3, offset := 1, embedded := false, tag := "", pkgPath := "", byteOffset := 8 }, { name := "Low", type := 3, offset := 2, embedded := false, tag := "", pkgPath := "", byteOffset := 16 }, { name := "Many", type := 3, offset := 3, embedded := false, tag := "", pkgPath := "", byteOffset := 24 }]), 4, 32, .agg #[.int .i64 0, .int .i64 0, .int .i64 0, .int .i64 0]⟩ := by kernel_rfl
attribute [go_sem] Tryz.ty46
theorem Tryz.ty76 : (prg Tryz.prog).ty 76 = some ⟨true, (.struct #[{ name := "Day", type := 3, offset := 0, embedded := false, tag := "", pkgPath := "", byteOffset := 0 }, { name := "Person", type := 3, offset := 1, embedded := false, tag := "", pkgPath := "", byteOffset := 8 }, { name := "Sum", type := 3, offset := 2, embedded := false, tag := "", pkgPath := "", byteOffset := 16 }]), 3, 24, .agg #[.int .i64 0, .int .i64 0, .int .i64 0]⟩ := by kernel_rfl
attribute [go_sem] Tryz.ty76
theorem Tryz.ty185 : (prg Tryz.prog).ty 185 = some ⟨false, (.func #[76] #[4] false), 1, 8, .nilFunc⟩ := by kernel_rfl
attribute [go_sem] Tryz.ty185
theorem Tryz.ia43 (t : Tmps) (w : AW) (x y : Operand) : fast (prg Tryz.prog) t w (.indexAddr 43 x y) = indexV 3 (ev t x) (ev t y) := fast_indexAddr Tryz.ty43 Tryz.ty76
attribute [go_sem] Tryz.ia43
theorem Tryz.ln43 (t : Tmps) (w : AW) (x : Operand) : fast (prg Tryz.prog) t w (.call ⟨.builtin .len, ⟨[x]⟩, ⟨[43]⟩⟩) = lenV (ev t x) := fast_len Tryz.ty43
attribute [go_sem] Tryz.ln43
theorem Tryz.fa46x0 (t : Tmps) (w : AW) (x : Operand) : fast (prg Tryz.prog) t w (.fieldAddr 46 x 0) = fieldOff (ev t x) 0 := fast_fieldAddr (fd := { name := "Days", type := 3, offset := 0, embedded := false, tag := "", pkgPath := "", byteOffset := 0 }) Tryz.ty46 rfl Tryz.ty3 rfl
attribute [go_sem] Tryz.fa46x0
theorem Tryz.fa46x1 (t : Tmps) (w : AW) (x : Operand) : fast (prg Tryz.prog) t w (.fieldAddr 46 x 1) = fieldOff (ev t x) 1 := fast_fieldAddr (fd := { name := "Sum", type := 3, offset := 1, embedded := false, tag := "", pkgPath := "", byteOffset := 8 }) Tryz.ty46 rfl Tryz.ty3 rfl
attribute [go_sem] Tryz.fa46x1
theorem Tryz.fa46x2 (t : Tmps) (w : AW) (x : Operand) : fast (prg Tryz.prog) t w (.fieldAddr 46 x 2) = fieldOff (ev t x) 2 := fast_fieldAddr (fd := { name := "Low", type := 3, offset := 2, embedded := false, tag := "", pkgPath := "", byteOffset := 16 }) Tryz.ty46 rfl Tryz.ty3 rfl
attribute [go_sem] Tryz.fa46x2
theorem Tryz.fa46x3 (t : Tmps) (w : AW) (x : Operand) : fast (prg Tryz.prog) t w (.fieldAddr 46 x 3) = fieldOff (ev t x) 3 := fast_fieldAddr (fd := { name := "Many", type := 3, offset := 3, embedded := false, tag := "", pkgPath := "", byteOffset := 24 }) Tryz.ty46 rfl Tryz.ty3 rfl
attribute [go_sem] Tryz.fa46x3
theorem Tryz.fa76x0 (t : Tmps) (w : AW) (x : Operand) : fast (prg Tryz.prog) t w (.fieldAddr 76 x 0) = fieldOff (ev t x) 0 := fast_fieldAddr (fd := { name := "Day", type := 3, offset := 0, embedded := false, tag := "", pkgPath := "", byteOffset := 0 }) Tryz.ty76 rfl Tryz.ty3 rfl
attribute [go_sem] Tryz.fa76x0
theorem Tryz.fa76x1 (t : Tmps) (w : AW) (x : Operand) : fast (prg Tryz.prog) t w (.fieldAddr 76 x 1) = fieldOff (ev t x) 1 := fast_fieldAddr (fd := { name := "Person", type := 3, offset := 1, embedded := false, tag := "", pkgPath := "", byteOffset := 8 }) Tryz.ty76 rfl Tryz.ty3 rfl
attribute [go_sem] Tryz.fa76x1
theorem Tryz.fa76x2 (t : Tmps) (w : AW) (x : Operand) : fast (prg Tryz.prog) t w (.fieldAddr 76 x 2) = fieldOff (ev t x) 2 := fast_fieldAddr (fd := { name := "Sum", type := 3, offset := 2, embedded := false, tag := "", pkgPath := "", byteOffset := 16 }) Tryz.ty76 rfl Tryz.ty3 rfl
attribute [go_sem] Tryz.fa76x2
end Go.Proofs
