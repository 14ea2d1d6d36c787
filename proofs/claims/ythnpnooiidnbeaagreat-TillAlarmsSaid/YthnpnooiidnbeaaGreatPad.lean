/- This program: its code, contracts, numbers, part 4. -/
import Derived.Test.YthnpnooiidnbeaaGreatPac
import Derived.Test.YthnpnooiidnbeaaGreatSh
import Derived.Test.YthnpnooiidnbeaaGreatPaa
import Derived.Test.YthnpnooiidnbeaaGreatNa
import Derived.Test.YthnpnooiidnbeaaGreatNc
import Derived.Test.YthnpnooiidnbeaaGreatPab
import Derived.Test.YthnpnooiidnbeaaGreatNd
import Derived.Test.YthnpnooiidnbeaaGreatSf
set_option linter.unusedVariables false
set_option linter.unusedSimpArgs false
namespace Go.Proofs
open Go Go.RowKit Go.Sim
set_option maxRecDepth 100000
theorem Tryz.bv22 (t : Tmps) (l : List (Nat × Operand)) : makes (prg Tryz.prog) t (.buildSlice 22 1 ⟨l⟩) = bsQ 3 1 1 [.int .i64 0] (l.map fun p => (p.1, ev t p.2)) := makes_bs Tryz.ty22 Tryz.ty3 rfl (by kernel_rfl)
theorem Tryz.bv22x0 (t : Tmps) (l : List (Nat × Operand)) : makes (prg Tryz.prog) t (.buildSlice 22 0 ⟨l⟩) = bsQ 3 0 1 [] (l.map fun p => (p.1, ev t p.2)) := makes_bs Tryz.ty22 Tryz.ty3 rfl (by kernel_rfl)
theorem bsQ_00v {e : TypeId} {z : Nat} : bsQ e 0 z [] [] = some ([], e, fun n => .slice (some ⟨n, 0, none⟩) 0 0) := rfl
attribute [go_sem] Tryz.bv22 Tryz.bv22x0 bsQ_00v
theorem first1 {u : AW} {b : Nat} {x : Value} (hx : u.cell? ⟨b, 0, none⟩ = some x) : aFirst u 1 1 (.slice (some ⟨b, 0, none⟩) 1 1) = some [x] := by
  show aCells u b 0 (1 * 1) = some [x]
  simp only [Nat.one_mul, aCells, hx]
theorem app_int {S : Nat → Prop} {w : AW} {v : Value} {L : List Int} (h : AOwnS S w 3 1 v L.length (L.flatMap icells)) (f : Fresh w) (x : Int) (hr : L.length + 1 ≤ 1048576) :
    ∃ p n c w', append (prg Tryz.prog) (w.push (.cells [.int .i64 x] 3 w.next 0 0)) 22 22 v (.slice (some ⟨w.next, 0, none⟩) 1 1) = some (.slice p n c, w') ∧ AOwnS (fun j => S j ∨ j = w.next + 1) w' 3 1 (.slice p n c) (L ++ [x]).length ((L ++ [x]).flatMap icells) ∧ MutS S w w' ∧ w'.next = w.next + 1 + 1 := by
  have g := (Grown.refl f).push (.cells [.int .i64 x] 3 w.next 0 0)
  have o := Own.new f 3 [.int .i64 x]
  have hn : (w.push (.cells [.int .i64 x] 3 w.next 0 0)).next = w.next + 1 := AW.next_push _ _
  obtain ⟨v', w', h1, h2, h3, h4, h5, h6, _⟩ := append_anyS Tryz.ty22 Tryz.ty3 rfl (by omega) (by omega) (h.keep g.1) g.2 (first1 (o.cell (o := 0) rfl rfl)) rfl (fun y hy => by simp at hy; subst hy; rfl) hr
  rw [hn] at h2 h4 h5 h6
  obtain ⟨p, n, c, rfl⟩ := h2.isSlice
  refine ⟨p, n, c, w', h1, ?_, ⟨fun i hi _ => by rw [h5 i (by omega)]; exact g.1.blk i hi, fun i hi q => by rw [h6 i (by omega) q]; exact g.1.fam i hi, by omega, h3⟩, h4⟩
  rw [List.length_append, List.flatMap_append]
  exact h2
structure VP where
  d : Nat
  q : Nat
  v : Nat
  y : Nat
  x : Nat
  dm : Nat
  lp : Nat
def VP.ok (c : VP) (n : Nat) : Prop := n ≤ c.d ∧ c.d < c.q ∧ c.q < c.v ∧ c.v < c.y ∧ c.y < c.x ∧ c.x < c.dm ∧ c.dm < c.lp
structure VI (W0 : AW) (c : VP) (W : WatchN) (v0 : Value) (A : List Int) (k : Int) (lp : ALoop) (L M : List Int) (w : AW) : Prop where
  od : Own w c.d 119 (deskL W v0 A)
  oq : Own w c.q 123 [.slice none 0 0, .slice none 0 0, .int .i64 0]
  oy : Own w c.y 119 (deskL W v0 A)
  ox : Own w c.x 3 [.int .i64 k]
  ov : ∃ (p r : Option Addr) (m n e g : Nat) (S T : Nat → Prop), Own w c.v 123 [.slice p m e, .slice r n g, .int .i64 0] ∧ AOwnS S w 3 1 (.slice p m e) L.length (L.flatMap icells) ∧ AOwnS T w 3 1 (.slice r n g) M.length (M.flatMap icells) ∧ (∀ j, S j → c.lp < j ∧ j < w.next ∧ ¬ T j) ∧ (∀ j, T j → c.lp < j ∧ j < w.next)
  loop : w.blk c.lp = some (.loop lp)
  mark : w.blk c.dm = some (.deferred (some []))
  keep : Keep W0.next W0 w
  lt : c.lp < w.next
  fresh : Fresh w
theorem VI.mut {W0 : AW} {c : VP} {W : WatchN} {v0 : Value} {A : List Int} {k : Int} {lp lp2 : ALoop} {L M : List Int} {w w' : AW} (h : VI W0 c W v0 A k lp L M w) (hc : c.ok W0.next) (m : MutS (fun j => j = c.lp) w w') (hl : w'.blk c.lp = some (.loop lp2)) : VI W0 c W v0 A k lp2 L M w' := by
  obtain ⟨h1, h2, h3, h4, h5, h6, h7⟩ := hc
  obtain ⟨p, r, a, b, e, g, S, T, k1, k2, k3, k4, k5⟩ := h.ov
  have hlt := h.lt
  have hn := m.next
  exact ⟨m.own h.od (by omega), m.own h.oq (by omega), m.own h.oy (by omega), m.own h.ox (by omega), ⟨p, r, a, b, e, g, S, T, m.own k1 (by omega), k2.other m fun j q z => by have := (k4 j q).1; omega, k3.other m fun j q z => by have := (k5 j q).1; omega, fun j q => ⟨(k4 j q).1, by have := (k4 j q).2.1; omega, (k4 j q).2.2⟩, fun j q => ⟨(k5 j q).1, by have := (k5 j q).2; omega⟩⟩,
    hl, by rw [m.blk _ (by omega) (by omega)]; exact h.mark, h.keep.trans (m.keep (fun j q => by omega) h.keep.next), by omega, m.fresh⟩
theorem VI.relp {W0 : AW} {c : VP} {W : WatchN} {v0 : Value} {A : List Int} {k : Int} {lp : ALoop} {L M : List Int} {w : AW} (h : VI W0 c W v0 A k lp L M w) (hc : c.ok W0.next) (lp2 : ALoop) : VI W0 c W v0 A k lp2 L M (w.put c.lp (.loop lp2)) :=
  h.mut hc (MutS.put (S := fun j => j = c.lp) h.fresh rfl h.lt _) (by rw [AW.blk_put _ _ _ _ (Trie.in_ _) (Trie.in_ _), if_pos rfl])
theorem VI.grown {W0 : AW} {c : VP} {W : WatchN} {v0 : Value} {A : List Int} {k : Int} {lp : ALoop} {L M : List Int} {w w' : AW} (h : VI W0 c W v0 A k lp L M w) (hc : c.ok W0.next) (g : Grown w w') : VI W0 c W v0 A k lp L M w' :=
  h.mut hc (.of g) (by rw [g.1.blk _ h.lt]; exact h.loop)
theorem VI.all {W0 : AW} {c : VP} {W : WatchN} {v0 : Value} {A : List Int} {k : Int} {lp : ALoop} {L M : List Int} {w : AW} (h : VI W0 c W v0 A k lp L M w) (hc : c.ok W0.next) (x : Int) (hr : L.length + 1 ≤ 1048576) :
    ∃ (p r : Option Addr) (m n e g : Nat) (w1 w2 : AW) (q : Option Addr) (a b : Nat), w.cell? ⟨c.v, 0, none⟩ = some (.slice p m e) ∧ append (prg Tryz.prog) (w.push (.cells [.int .i64 x] 3 w.next 0 0)) 22 22 (.slice p m e) (.slice (some ⟨w.next, 0, none⟩) 1 1) = some (.slice q a b, w1) ∧
      storeV w1 false 1 (.pointer (some ⟨c.v, 0, none⟩)) (.slice q a b) = some w2 ∧ VI W0 c W v0 A k lp (L ++ [x]) M w2 := by
  obtain ⟨h1, h2, h3, h4, h5, h6, h7⟩ := hc
  obtain ⟨p, r, a, b, e, g, S, T, k1, k2, k3, k4, k5⟩ := h.ov
  have hlt := h.lt
  obtain ⟨q, n', c', w1, a1, a2, a3, a4⟩ := app_int k2 h.fresh x hr
  have o1 := a3.own k1 (fun z => by have := (k4 _ z).1; omega)
  have st := storeV_own1 (o := 0) (v := .slice q n' c') o1 (by simp) rfl
  simp only [setL] at st
  have m2 := MutS.put (S := fun j => j = c.v) a3.fresh rfl o1.lt (.cells [.slice q n' c', .slice r b g, .int .i64 0] 123 c.v 0 0)
  have hn2 : (w1.put c.v (.cells [.slice q n' c', .slice r b g, .int .i64 0] 123 c.v 0 0)).next = w.next + 1 + 1 := by rw [AW.next_put]; exact a4
  have m : MutS (fun j => S j ∨ j = c.v) w (w1.put c.v (.cells [.slice q n' c', .slice r b g, .int .i64 0] 123 c.v 0 0)) := (a3.mono fun j z => .inl z).trans (m2.mono fun j z => .inr z) (Within.refl _ _)
  have out : ∀ j, j ≤ c.lp → j ≠ c.v → ¬ (S j ∨ j = c.v) := fun j hj hv z => z.elim (fun z => by have := (k4 _ z).1; omega) hv
  refine ⟨p, r, a, b, e, g, w1, _, q, n', c', k1.cell (o := 0) rfl rfl, a1, st, ⟨m.own h.od (out _ (by omega) (by omega)), m.own h.oq (out _ (by omega) (by omega)), m.own h.oy (out _ (by omega) (by omega)), m.own h.ox (out _ (by omega) (by omega)), ⟨q, r, n', b, c', g, _, T, o1.put _, a2.other m2 (fun j z y => ?_), k3.other m (fun j z y => ?_), fun j z => ?_, fun j z => ?_⟩, ?_, ?_, ?_, by omega, m.fresh⟩⟩
  · rcases z with z | z
    · have := (k4 _ z).1; omega
    · omega
  · rcases y with y | y
    · exact (k4 _ y).2.2 z
    · have := (k5 _ z).1; omega
  · rcases z with z | z
    · exact ⟨(k4 _ z).1, by have := (k4 _ z).2.1; omega, (k4 _ z).2.2⟩
    · exact ⟨by omega, by omega, fun y => by have := (k5 _ y).2; omega⟩
  · exact ⟨(k5 _ z).1, by have := (k5 _ z).2; omega⟩
  · rw [m.blk _ hlt (out _ (by omega) (by omega))]; exact h.loop
  · rw [m.blk _ (by omega) (out _ (by omega) (by omega))]; exact h.mark
  · exact h.keep.trans (m.keep (fun j z => z.elim (fun z => by have := (k4 _ z).1; omega) (fun z => by omega)) h.keep.next)
theorem VI.sm {W0 : AW} {c : VP} {W : WatchN} {v0 : Value} {A : List Int} {k : Int} {lp : ALoop} {L M : List Int} {w : AW} (h : VI W0 c W v0 A k lp L M w) (hc : c.ok W0.next) (x : Int) (hr : M.length + 1 ≤ 1048576) :
    ∃ (p r : Option Addr) (m n e g : Nat) (w1 w2 : AW) (q : Option Addr) (a b : Nat), w.cell? ⟨c.v, 1, none⟩ = some (.slice r n g) ∧ append (prg Tryz.prog) (w.push (.cells [.int .i64 x] 3 w.next 0 0)) 22 22 (.slice r n g) (.slice (some ⟨w.next, 0, none⟩) 1 1) = some (.slice q a b, w1) ∧
      storeV w1 false 1 (.pointer (some ⟨c.v, 1, none⟩)) (.slice q a b) = some w2 ∧ VI W0 c W v0 A k lp L (M ++ [x]) w2 := by
  obtain ⟨h1, h2, h3, h4, h5, h6, h7⟩ := hc
  obtain ⟨p, r, a, b, e, g, S, T, k1, k2, k3, k4, k5⟩ := h.ov
  have hlt := h.lt
  obtain ⟨q, n', c', w1, a1, a2, a3, a4⟩ := app_int k3 h.fresh x hr
  have o1 := a3.own k1 (fun z => by have := (k5 _ z).1; omega)
  have st := storeV_own1 (o := 1) (v := .slice q n' c') o1 (by simp) rfl
  simp only [setL] at st
  have m2 := MutS.put (S := fun j => j = c.v) a3.fresh rfl o1.lt (.cells [.slice p a e, .slice q n' c', .int .i64 0] 123 c.v 0 0)
  have hn2 : (w1.put c.v (.cells [.slice p a e, .slice q n' c', .int .i64 0] 123 c.v 0 0)).next = w.next + 1 + 1 := by rw [AW.next_put]; exact a4
  have m : MutS (fun j => T j ∨ j = c.v) w (w1.put c.v (.cells [.slice p a e, .slice q n' c', .int .i64 0] 123 c.v 0 0)) := (a3.mono fun j z => .inl z).trans (m2.mono fun j z => .inr z) (Within.refl _ _)
  have out : ∀ j, j ≤ c.lp → j ≠ c.v → ¬ (T j ∨ j = c.v) := fun j hj hv z => z.elim (fun z => by have := (k5 _ z).1; omega) hv
  refine ⟨p, r, a, b, e, g, w1, _, q, n', c', k1.cell (o := 1) rfl rfl, a1, st, ⟨m.own h.od (out _ (by omega) (by omega)), m.own h.oq (out _ (by omega) (by omega)), m.own h.oy (out _ (by omega) (by omega)), m.own h.ox (out _ (by omega) (by omega)), ⟨p, q, a, n', e, c', S, _, o1.put _, k2.other m (fun j z y => ?_), a2.other m2 (fun j z y => ?_), fun j z => ?_, fun j z => ?_⟩, ?_, ?_, ?_, by omega, m.fresh⟩⟩
  · rcases y with y | y
    · exact (k4 _ z).2.2 y
    · have := (k4 _ z).1; omega
  · rcases z with z | z
    · have := (k5 _ z).1; omega
    · omega
  · refine ⟨(k4 _ z).1, by have := (k4 _ z).2.1; omega, fun y => ?_⟩
    rcases y with y | y
    · exact (k4 _ z).2.2 y
    · have := (k4 _ z).2.1; omega
  · rcases z with z | z
    · exact ⟨(k5 _ z).1, by have := (k5 _ z).2; omega⟩
    · exact ⟨by omega, by omega⟩
  · rw [m.blk _ hlt (out _ (by omega) (by omega))]; exact h.loop
  · rw [m.blk _ (by omega) (out _ (by omega) (by omega))]; exact h.mark
  · exact h.keep.trans (m.keep (fun j z => z.elim (fun z => by have := (k5 _ z).1; omega) (fun z => by omega)) h.keep.next)
noncomputable abbrev lpV (s : LoopState) (t : Tmps) (dm : Nat) : ALoop := ⟨s, none, 74, t, #[10], codeA Tryz.f74, codeB Tryz.f74, dm⟩
def addSm (W : WatchN) (l : List DealN) (M : List Int) (i : Nat) : List Int := if smallB W l i = true then M ++ [(i : Int)] else M
set_option maxHeartbeats 8000000 in
theorem yieldV_ok (W0 : AW) (c : VP) (hc : c.ok W0.next) (W : WatchN) (v0 : Value) (l : List DealN) (A : List Int) (k : Int) (hs : ArrOf W0 3 dcells v0 l) (hA : A.length = 24) (hW : watchB W = true) (t : Tmps) (e2 : ev t (.tmp 2) = .pointer (some ⟨c.d, 0, none⟩)) (e5 : ev t (.tmp 5) = .pointer (some ⟨c.v, 0, none⟩)) (L M : List Int) (hL : L.length ≤ 64) (hM : M.length ≤ 64) (i : Nat) (hi : i < l.length) (w : AW)
    (h : VI W0 c W v0 A k (lpV .ready t c.dm) L M w) :
    CallT Tryz.prog Tryz.T1 (.fn (.yield c.lp) #[]) #[.int .i64 (i : Int)] w (fun v w' => v = .bool true ∧ VI W0 c W v0 A k (lpV .ready t c.dm) (L ++ [(i : Int)]) (addSm W l M i) w') := by
  have hc' := hc
  obtain ⟨h1, h2, h3, h4, h5, h6, h7⟩ := hc'
  obtain ⟨p0, c0, rfl, _⟩ := id hs.open
  refine callT_yield (lp := lpV .ready t c.dm) h.loop rfl ?_
  show CodeT Tryz.prog Tryz.T1 { fn := 74, round := some c.lp } (codeA Tryz.f74) (putTmp t (some 10) _) [] w _
  refine codeR_codeT (x := .mk) _ ?_
  rw [Tryz.ra74_eq]
  unfold Tryz.ra74
  simp -dsimp -implicitDefEqProofs (maxSteps := 2000000) (disch := first | assumption | omega | (simp only [nx]; omega) | ((repeat refine Fresh.push ?_ _); assumption) | (simp only [smA]; done) | (simp [oneCell, AW.next_push]; done) | fail) only [go_sem, Nat.reduceEqDiff, reduceIte, Nat.reduceAdd, Int.toNat_natCast, Nat.add_zero, Owes_true]
  refine ⟨trivial, _, h.loop, rfl, ?_⟩
  refine codeR_codeT (x := .mk) _ ?_
  rw [Tryz.rb74_eq]
  unfold Tryz.rb74
  have hI2 := h.relp hc (lpV .busy t c.dm)
  generalize w.put c.lp (.loop (lpV .busy t c.dm)) = w2 at *
  obtain ⟨p, r, m, n, e, g, w3, w4, q, a, b, a1, a2, a3, hI4⟩ := hI2.all hc (i : Int) (by omega)
  have hld := desk_load hI4.od hA
  have gW : Grown W0 w4 := ⟨hI4.keep, hI4.fresh⟩
  have hf2 := hI2.fresh
  simp -dsimp -implicitDefEqProofs (maxSteps := 2000000) (disch := first | assumption | omega | (simp only [nx]; omega) | ((repeat refine Fresh.push ?_ _); assumption) | (simp only [smA]; done) | (simp [oneCell, AW.next_push]; done) | fail) only [go_sem, Nat.reduceEqDiff, reduceIte, Nat.reduceAdd, Int.toNat_natCast, Nat.add_zero, Owes_true, e2, e5, a1, a2, a3, Nat.zero_add, hld]
  apply callV_of (e := rfl)
  · exact isSmall_ok W _ l A i hi w4 hI4.fresh (hs.grown gW) hA hW
  rintro _ w5 ⟨rfl, g5⟩
  have hI5 := hI4.grown hc g5
  cases hsm : smallB W l i with
  | false =>
    have hM' : addSm W l M i = M := by unfold addSm; rw [hsm]; rfl
    simp -dsimp -implicitDefEqProofs (maxSteps := 2000000) (disch := first | assumption | omega | (simp only [nx]; omega) | ((repeat refine Fresh.push ?_ _); assumption) | (simp only [smA]; done) | (simp [oneCell, AW.next_push]; done) | fail) only [go_sem, Nat.reduceEqDiff, reduceIte, Nat.reduceAdd, Int.toNat_natCast, Nat.add_zero, Owes_true]
    rw [hM']
    exact ⟨by trivial, by trivial, _, hI5.loop, by trivial, hI5.relp hc _⟩
  | true =>
    have hM' : addSm W l M i = M ++ [(i : Int)] := by unfold addSm; rw [hsm]; rfl
    obtain ⟨p, r, m, n, e, g, w6, w7, q, a, b, b1, b2, b3, hI7⟩ := hI5.sm hc (i : Int) (by omega)
    have hf5 := hI5.fresh
    simp -dsimp -implicitDefEqProofs (maxSteps := 2000000) (disch := first | assumption | omega | (simp only [nx]; omega) | ((repeat refine Fresh.push ?_ _); assumption) | (simp only [smA]; done) | (simp [oneCell, AW.next_push]; done) | fail) only [go_sem, Nat.reduceEqDiff, reduceIte, Nat.reduceAdd, Int.toNat_natCast, Nat.add_zero, Owes_true, e2, e5, b1, b2, b3, Nat.zero_add]
    rw [hM']
    exact ⟨by trivial, by trivial, _, hI7.loop, by trivial, hI7.relp hc _⟩
end Go.Proofs

namespace Go.Proofs
open Go Go.RowKit Go.Sim
set_option maxRecDepth 100000
def Gives (w0 : AW) (fn : FuncId) (cap : Array Value) (l : List Int) (g : Int → Int) : Prop := ∀ x ∈ l, ∀ w, Grown w0 w → CallT Tryz.prog Tryz.T1 (.fn (.func fn) cap) #[.int .i64 x] w (Ret (.int .i64 (g x)) (Grown w))
theorem sum_take_map {g : Int → Int} {l : List Int} {B : Int} (h : ∀ x ∈ l, 0 ≤ g x ∧ g x ≤ B) (hB : 0 ≤ B) : ∀ i, i ≤ l.length → 0 ≤ ((l.take i).map g).sum ∧ ((l.take i).map g).sum ≤ (i : Int) * B
  | 0, _ => by simp
  | i + 1, hi => by
    have ih := sum_take_map h hB i (by omega)
    have hx := h _ (List.getElem_mem (show i < l.length by omega))
    rw [List.take_succ_eq_append_getElem (by omega), List.map_append, List.sum_append]
    simp only [List.map_cons, List.map_nil, List.sum_cons, List.sum_nil, Int.add_zero]
    have : ((i + 1 : Nat) : Int) * B = (i : Int) * B + B := by
      rw [show ((i + 1 : Nat) : Int) = (i : Int) + 1 from by omega, Int.add_mul, Int.one_mul]
    omega
theorem total_ok (l : List Int) (g : Int → Int) (v : Value) (fn : FuncId) (cap : Array Value) (w : AW) (f : Fresh w) (hs : ArrOf w 1 icells v l) (hfn : same 12 (.func (.func fn) #[] cap) (.func (.func fn) #[] cap) = true) (hg : Gives w fn cap l g) (hb : ∀ x ∈ l, 0 ≤ g x ∧ g x ≤ 1073741824) (hl : l.length ≤ 1000) :
    CallT Tryz.prog Tryz.T1 (.fn (.func 99) #[]) #[v, .func (.func fn) #[] cap] w (Ret (.int .i64 (l.map g).sum) (Grown w)) := by
  obtain ⟨p, cp, rfl, _, _, hat⟩ := hs.open
  refine callT_code rfl Tryz.func99 rfl Tryz.s99_eq rfl ?_
  unfold Tryz.s99
  simp -dsimp -implicitDefEqProofs (maxSteps := 2000000) (disch := first | assumption | omega | (simp only [nx]; omega) | ((repeat refine Fresh.push ?_ _); assumption) | (simp only [smA]; done) | (simp [oneCell, AW.next_push]; done) | fail) only [go_sem, Nat.reduceEqDiff, reduceIte, Nat.reduceAdd, Int.toNat_natCast, Nat.add_zero, Owes_true, Tryz.results99]
  refine loopR (fun k t ds w1 => ∃ i : Nat, i ≤ l.length ∧ k = l.length - i ∧ ds = [] ∧ ev t (.tmp 0) = .slice p l.length cp ∧ ev t (.tmp 1) = .func (.func fn) #[] cap ∧ ev t (.tmp 5) = .int .i64 ((l.take i).map g).sum ∧ ev t (.tmp 8) = .slice p l.length cp ∧ ev t (.tmp 9) = .int .i64 (l.length : Int) ∧ ev t (.tmp 10) = .int .i64 (i : Int) ∧ Grown w w1) (l.length) ?_ ?_
  · refine ⟨0, by omega, by omega, rfl, ?_, ?_, ?_, ?_, ?_, ?_, Grown.refl f⟩ <;> simp -dsimp -implicitDefEqProofs (maxSteps := 2000000) (disch := first | assumption | omega | (simp only [nx]; omega) | ((repeat refine Fresh.push ?_ _); assumption) | (simp only [smA]; done) | (simp [oneCell, AW.next_push]; done) | fail) only [go_sem, Nat.reduceEqDiff, reduceIte, Nat.reduceAdd, Int.toNat_natCast, Nat.add_zero, Owes_true] <;> rfl
  rintro k t ds w1 ⟨i, hii, rfl, rfl, e0, e1, e5, e8, e9, e10, g1⟩
  by_cases hlt : (i : Int) < (l.length : Int)
  case neg =>
    obtain rfl : i = l.length := by omega
    rw [List.take_of_length_le (Nat.le_refl _)] at e5
    simp -dsimp -implicitDefEqProofs (maxSteps := 2000000) (disch := first | assumption | omega | (simp only [nx]; omega) | ((repeat refine Fresh.push ?_ _); assumption) | (simp only [smA]; done) | (simp [oneCell, AW.next_push]; done) | fail) only [go_sem, Nat.reduceEqDiff, reduceIte, Nat.reduceAdd, Int.toNat_natCast, Nat.add_zero, Owes_true, Tryz.results99, e0, e1, e5, e8, e9, e10, hlt]
    exact ⟨rfl, g1⟩
  have hlt' : i < l.length := by omega
  obtain ⟨b1, o1, rfl, hb1, hcell⟩ := hat i hlt'
  have a0 := hcell w1 g1.1 0 _ rfl
  rw [Nat.add_zero] at a0
  have hcall := hg l[i] (List.getElem_mem hlt') w1 g1
  have hgi := hb l[i] (List.getElem_mem hlt')
  have hst := sum_take_map hb (by omega) i (by omega)
  have hsn : ((l.take (i + 1)).map g).sum = ((l.take i).map g).sum + g l[i] := by
    rw [List.take_succ_eq_append_getElem hlt', List.map_append, List.sum_append]; simp
  generalize ((l.take i).map g).sum = S at *
  generalize g l[i] = gi at *
  simp -dsimp -implicitDefEqProofs (maxSteps := 2000000) (disch := first | assumption | omega | (simp only [nx]; omega) | ((repeat refine Fresh.push ?_ _); assumption) | (simp only [smA]; done) | (simp [oneCell, AW.next_push]; done) | fail) only [go_sem, Nat.reduceEqDiff, reduceIte, Nat.reduceAdd, Int.toNat_natCast, Nat.add_zero, Owes_true, Tryz.results99, e0, e1, e5, e8, e9, e10, hlt, indexV_eq, a0, hfn]
  apply callV_of (e := rfl)
  · exact hcall
  rintro _ w2 ⟨rfl, g2⟩
  simp -dsimp -implicitDefEqProofs (maxSteps := 2000000) (disch := first | assumption | omega | (simp only [nx]; omega) | ((repeat refine Fresh.push ?_ _); assumption) | (simp only [smA]; done) | (simp [oneCell, AW.next_push]; done) | fail) only [go_sem, Nat.reduceEqDiff, reduceIte, Nat.reduceAdd, Int.toNat_natCast, Nat.add_zero, Owes_true, Tryz.results99, e0, e1, e5, e8, e9, e10]
  refine ⟨_, by omega, i + 1, by omega, rfl, rfl, by (simp -dsimp -implicitDefEqProofs (maxSteps := 2000000) (disch := first | assumption | omega | (simp only [nx]; omega) | ((repeat refine Fresh.push ?_ _); assumption) | (simp only [smA]; done) | (simp [oneCell, AW.next_push]; done) | fail) only [go_sem, Nat.reduceEqDiff, reduceIte, Nat.reduceAdd, Int.toNat_natCast, Nat.add_zero, Owes_true, e0, hsn]; try rfl), by (simp -dsimp -implicitDefEqProofs (maxSteps := 2000000) (disch := first | assumption | omega | (simp only [nx]; omega) | ((repeat refine Fresh.push ?_ _); assumption) | (simp only [smA]; done) | (simp [oneCell, AW.next_push]; done) | fail) only [go_sem, Nat.reduceEqDiff, reduceIte, Nat.reduceAdd, Int.toNat_natCast, Nat.add_zero, Owes_true, e1, hsn]; try rfl), by (simp -dsimp -implicitDefEqProofs (maxSteps := 2000000) (disch := first | assumption | omega | (simp only [nx]; omega) | ((repeat refine Fresh.push ?_ _); assumption) | (simp only [smA]; done) | (simp [oneCell, AW.next_push]; done) | fail) only [go_sem, Nat.reduceEqDiff, reduceIte, Nat.reduceAdd, Int.toNat_natCast, Nat.add_zero, Owes_true, e5, hsn]; try rfl), by (simp -dsimp -implicitDefEqProofs (maxSteps := 2000000) (disch := first | assumption | omega | (simp only [nx]; omega) | ((repeat refine Fresh.push ?_ _); assumption) | (simp only [smA]; done) | (simp [oneCell, AW.next_push]; done) | fail) only [go_sem, Nat.reduceEqDiff, reduceIte, Nat.reduceAdd, Int.toNat_natCast, Nat.add_zero, Owes_true, e8, hsn]; try rfl), by (simp -dsimp -implicitDefEqProofs (maxSteps := 2000000) (disch := first | assumption | omega | (simp only [nx]; omega) | ((repeat refine Fresh.push ?_ _); assumption) | (simp only [smA]; done) | (simp [oneCell, AW.next_push]; done) | fail) only [go_sem, Nat.reduceEqDiff, reduceIte, Nat.reduceAdd, Int.toNat_natCast, Nat.add_zero, Owes_true, e9, hsn]; try rfl), by (simp -dsimp -implicitDefEqProofs (maxSteps := 2000000) (disch := first | assumption | omega | (simp only [nx]; omega) | ((repeat refine Fresh.push ?_ _); assumption) | (simp only [smA]; done) | (simp [oneCell, AW.next_push]; done) | fail) only [go_sem, Nat.reduceEqDiff, reduceIte, Nat.reduceAdd, Int.toNat_natCast, Nat.add_zero, Owes_true, e10, hsn]; try rfl), g1.trans g2⟩
end Go.Proofs

namespace Go.Proofs
open Go Go.RowKit Go.Sim
set_option maxRecDepth 100000
def inWin (W : WatchN) (A : List Int) (l : List DealN) (k i : Nat) : Bool := decide (dayAt l i > dayAt l k - W.days) && decide (leadAt A l i = leadAt A l k)
def winTo (W : WatchN) (A : List Int) (l : List DealN) (k n : Nat) : List Nat := (List.range n).filter (inWin W A l k)
def toI (L : List Nat) : List Int := L.map fun (n : Nat) => (n : Int)
theorem toI_len (L : List Nat) : (toI L).length = L.length := List.length_map ..
theorem winTo_succ (W : WatchN) (A : List Int) (l : List DealN) (k n : Nat) : winTo W A l k (n + 1) = if inWin W A l k n = true then winTo W A l k n ++ [n] else winTo W A l k n := by
  unfold winTo
  rw [List.range_succ, List.filter_append]
  cases h : inWin W A l k n <;> simp [h]
theorem winTo_len (W : WatchN) (A : List Int) (l : List DealN) (k n : Nat) : (winTo W A l k n).length ≤ n := by
  have := List.length_filter_le (inWin W A l k) (List.range n)
  rw [List.length_range] at this; exact this
def smalls (W : WatchN) (l : List DealN) (L : List Nat) : List Nat := L.filter (smallB W l)
theorem smalls_len (W : WatchN) (l : List DealN) (L : List Nat) : (smalls W l L).length ≤ L.length := List.length_filter_le _ _
theorem toI_add (L : List Nat) (n : Nat) : toI (L ++ [n]) = toI L ++ [(n : Int)] := by simp [toI]
theorem addSm_eq (W : WatchN) (l : List DealN) (L : List Nat) (i : Nat) : addSm W l (toI (smalls W l L)) i = toI (smalls W l (L ++ [i])) := by
  unfold addSm smalls
  rw [List.filter_append]
  cases h : smallB W l i <;> simp [h, toI]
set_option maxHeartbeats 16000000 in
theorem roundsV_ok (W0 : AW) (c : VP) (hc : c.ok W0.next) (W : WatchN) (v0 : Value) (l : List DealN) (A : List Int) (kd : Nat) (hk : kd < l.length) (hl : l.length ≤ 64) (hs : ArrOf W0 3 dcells v0 l) (hd : ∀ d ∈ l, dealB d = true) (hA : A.length = 24) (hW : watchB W = true) (tt : Tmps) (e2 : ev tt (.tmp 2) = .pointer (some ⟨c.d, 0, none⟩)) (e5 : ev tt (.tmp 5) = .pointer (some ⟨c.v, 0, none⟩)) (w : AW)
    (h : VI W0 c W v0 A (kd : Int) (lpV .ready tt c.dm) [] [] w) :
    CallT Tryz.prog Tryz.T1 (.fn (.func 144) #[.pointer (some ⟨c.x, 0, none⟩), .pointer (some ⟨c.y, 0, none⟩)]) #[.func (.yield c.lp) #[] #[]] w (fun _ w' => VI W0 c W v0 A (kd : Int) (lpV .ready tt c.dm) (toI (winTo W A l kd (kd + 1))) (toI (smalls W l (winTo W A l kd (kd + 1)))) w') := by
  obtain ⟨p, cap, rfl, hcap, hmax, hat⟩ := id hs.open
  have hW' := hW
  simp only [watchB, Bool.and_eq_true, inR_iff] at hW'
  have x0 := h.ox.cell (o := 0) rfl rfl
  refine callT_code rfl Tryz.func144 rfl Tryz.s144_eq rfl ?_
  unfold Tryz.s144
  simp -dsimp -implicitDefEqProofs (maxSteps := 2000000) (disch := first | assumption | omega | (simp only [nx]; omega) | ((repeat refine Fresh.push ?_ _); assumption) | (simp only [smA]; done) | (simp [oneCell, AW.next_push]; done) | fail) only [go_sem, Nat.reduceEqDiff, reduceIte, Nat.reduceAdd, Int.toNat_natCast, Nat.add_zero, Owes_true, Tryz.results144, Nat.zero_add, x0]
  refine loopR (fun k t ds w2 => ∃ i : Nat, i ≤ kd + 1 ∧ k = kd + 1 - i ∧ ds = [] ∧ ev t (.tmp 0) = .func (.yield c.lp) #[] #[] ∧ ev t (.tmp 1) = .pointer (some ⟨c.x, 0, none⟩) ∧ ev t (.tmp 2) = .pointer (some ⟨c.y, 0, none⟩) ∧ ev t (.tmp 7) = .int .i64 ((kd : Int) + 1) ∧ ev t (.tmp 8) = .int .i64 (i : Int) ∧ VI W0 c W (.slice p l.length cap) A (kd : Int) (lpV .ready tt c.dm) (toI (winTo W A l kd i)) (toI (smalls W l (winTo W A l kd i))) w2) (kd + 1) ?_ ?_
  · refine ⟨0, by omega, by omega, rfl, ?_, ?_, ?_, ?_, ?_, h⟩ <;> simp -dsimp -implicitDefEqProofs (maxSteps := 2000000) (disch := first | assumption | omega | (simp only [nx]; omega) | ((repeat refine Fresh.push ?_ _); assumption) | (simp only [smA]; done) | (simp [oneCell, AW.next_push]; done) | fail) only [go_sem, Nat.reduceEqDiff, reduceIte, Nat.reduceAdd, Int.toNat_natCast, Nat.add_zero, Owes_true] <;> rfl
  rintro k t ds w2 ⟨i, hii, rfl, rfl, e0, e1, e2, e7, e8, hI⟩
  by_cases hlt : (i : Int) < (kd : Int) + 1
  case neg =>
    obtain rfl : i = kd + 1 := by omega
    simp -dsimp -implicitDefEqProofs (maxSteps := 2000000) (disch := first | assumption | omega | (simp only [nx]; omega) | ((repeat refine Fresh.push ?_ _); assumption) | (simp only [smA]; done) | (simp [oneCell, AW.next_push]; done) | fail) only [go_sem, Nat.reduceEqDiff, reduceIte, Nat.reduceAdd, Int.toNat_natCast, Nat.add_zero, Owes_true, Tryz.results144, e0, e1, e2, e7, e8, hlt]
    exact hI
  have hil : i < l.length := by omega
  have hil2 : (i : Int) < (l.length : Int) := by omega
  have hkl2 : (kd : Int) < (l.length : Int) := by omega
  obtain ⟨b1, o1, rfl, hb1, hcell⟩ := hat i hil
  obtain ⟨b2, o2, q2, hb2, hcell2⟩ := hat kd hk
  cases q2
  have a0 := hcell _ hI.keep 0 _ rfl
  have ak := hcell2 _ hI.keep 0 _ rfl
  rw [Nat.add_zero] at a0 ak
  have y0 := hI.oy.cell (o := 0) rfl rfl
  have y4 := hI.oy.cell (o := 4) rfl rfl
  have x0 := hI.ox.cell (o := 0) rfl rfl
  have hld := desk_load hI.oy hA
  have hsm := same_desk W (some ⟨b1, o1, none⟩) l.length cap A
  have hi1 := (dealB_iff _).1 (hd _ (List.getElem_mem hil))
  have hk1 := (dealB_iff _).1 (hd _ (List.getElem_mem hk))
  have hwin : inWin W A l kd i = (decide (l[i].day > l[kd].day - W.days) && decide (leadAt A l i = leadAt A l kd)) := by unfold inWin; rw [dayAt_eq hil, dayAt_eq hk]
  have hsu := winTo_succ W A l kd i
  have hadd := addSm_eq W l (winTo W A l kd i) i
  have hL1 := winTo_len W A l kd i
  have hL2 := smalls_len W l (winTo W A l kd i)
  have hty := toI_add (winTo W A l kd i) i
  have gI : Grown W0 w2 := ⟨hI.keep, hI.fresh⟩
  generalize l[i].day = di at *
  generalize l[kd].day = dk at *
  have hys := yieldV_ok W0 c hc W _ l A (kd : Int) hs hA hW tt (by assumption) e5 (toI (winTo W A l kd i)) (toI (smalls W l (winTo W A l kd i))) (by rw [toI_len]; omega) (by rw [toI_len]; omega) i hil
  have hdf : ¬ (dk - W.days ≥ 9223372036854775808) := by omega
  by_cases hday : di > dk - W.days
  case neg =>
    have hno : ¬ (inWin W A l kd i = true) := by rw [hwin, decide_eq_false hday]; simp
    rw [if_neg hno] at hsu
    have hdd : decide (dk - W.days < di) = false := decide_eq_false (by omega)
    simp -dsimp -implicitDefEqProofs (maxSteps := 2000000) (disch := first | assumption | omega | (simp only [nx]; omega) | ((repeat refine Fresh.push ?_ _); assumption) | (simp only [smA]; done) | (simp [oneCell, AW.next_push]; done) | fail) only [go_sem, Nat.reduceEqDiff, reduceIte, Nat.reduceAdd, Int.toNat_natCast, Nat.add_zero, Owes_true, Tryz.results144, e0, e1, e2, e7, e8, hlt, hil2, hkl2, indexV_eq, a0, ak, y0, y4, x0, Nat.zero_add, hdd]
    refine ⟨_, by omega, i + 1, by omega, rfl, rfl, by (simp -dsimp -implicitDefEqProofs (maxSteps := 2000000) (disch := first | assumption | omega | (simp only [nx]; omega) | ((repeat refine Fresh.push ?_ _); assumption) | (simp only [smA]; done) | (simp [oneCell, AW.next_push]; done) | fail) only [go_sem, Nat.reduceEqDiff, reduceIte, Nat.reduceAdd, Int.toNat_natCast, Nat.add_zero, Owes_true, e0]; try rfl), by (simp -dsimp -implicitDefEqProofs (maxSteps := 2000000) (disch := first | assumption | omega | (simp only [nx]; omega) | ((repeat refine Fresh.push ?_ _); assumption) | (simp only [smA]; done) | (simp [oneCell, AW.next_push]; done) | fail) only [go_sem, Nat.reduceEqDiff, reduceIte, Nat.reduceAdd, Int.toNat_natCast, Nat.add_zero, Owes_true, e1]; try rfl), by (simp -dsimp -implicitDefEqProofs (maxSteps := 2000000) (disch := first | assumption | omega | (simp only [nx]; omega) | ((repeat refine Fresh.push ?_ _); assumption) | (simp only [smA]; done) | (simp [oneCell, AW.next_push]; done) | fail) only [go_sem, Nat.reduceEqDiff, reduceIte, Nat.reduceAdd, Int.toNat_natCast, Nat.add_zero, Owes_true, e2]; try rfl), by (simp -dsimp -implicitDefEqProofs (maxSteps := 2000000) (disch := first | assumption | omega | (simp only [nx]; omega) | ((repeat refine Fresh.push ?_ _); assumption) | (simp only [smA]; done) | (simp [oneCell, AW.next_push]; done) | fail) only [go_sem, Nat.reduceEqDiff, reduceIte, Nat.reduceAdd, Int.toNat_natCast, Nat.add_zero, Owes_true, e7]; try rfl), by (simp -dsimp -implicitDefEqProofs (maxSteps := 2000000) (disch := first | assumption | omega | (simp only [nx]; omega) | ((repeat refine Fresh.push ?_ _); assumption) | (simp only [smA]; done) | (simp [oneCell, AW.next_push]; done) | fail) only [go_sem, Nat.reduceEqDiff, reduceIte, Nat.reduceAdd, Int.toNat_natCast, Nat.add_zero, Owes_true, e8]; try rfl), (by rw [hsu]; exact hI)⟩
  have hdd : decide (dk - W.days < di) = true := decide_eq_true (by omega)
  simp -dsimp -implicitDefEqProofs (maxSteps := 2000000) (disch := first | assumption | omega | (simp only [nx]; omega) | ((repeat refine Fresh.push ?_ _); assumption) | (simp only [smA]; done) | (simp [oneCell, AW.next_push]; done) | fail) only [go_sem, Nat.reduceEqDiff, reduceIte, Nat.reduceAdd, Int.toNat_natCast, Nat.add_zero, Owes_true, Tryz.results144, e0, e1, e2, e7, e8, hlt, hil2, hkl2, indexV_eq, a0, ak, y0, y4, x0, Nat.zero_add, hdd, hld, hsm]
  apply callV_of (e := rfl)
  · exact leader_ok W _ l A i hil w2 hI.fresh (hs.grown gI) hd hA
  rintro _ w3 ⟨rfl, g3⟩
  have hle := g3.1.wle hI.fresh
  have hI3 := hI.grown hc g3
  simp -dsimp -implicitDefEqProofs (maxSteps := 2000000) (disch := first | assumption | omega | (simp only [nx]; omega) | ((repeat refine Fresh.push ?_ _); assumption) | (simp only [smA]; done) | (simp [oneCell, AW.next_push]; done) | fail) only [go_sem, Nat.reduceEqDiff, reduceIte, Nat.reduceAdd, Int.toNat_natCast, Nat.add_zero, Owes_true, hle]
  apply callV_of (e := rfl)
  · exact leader_ok W _ l A kd hk w3 g3.2 (hs.grown ⟨hI3.keep, hI3.fresh⟩) hd hA
  rintro _ w4 ⟨rfl, g4⟩
  have hI4 := hI3.grown hc g4
  by_cases hld2 : leadAt A l i = leadAt A l kd
  case neg =>
    have hno : ¬ (inWin W A l kd i = true) := by rw [hwin, decide_eq_false hld2]; simp
    rw [if_neg hno] at hsu
    simp -dsimp -implicitDefEqProofs (maxSteps := 2000000) (disch := first | assumption | omega | (simp only [nx]; omega) | ((repeat refine Fresh.push ?_ _); assumption) | (simp only [smA]; done) | (simp [oneCell, AW.next_push]; done) | fail) only [go_sem, Nat.reduceEqDiff, reduceIte, Nat.reduceAdd, Int.toNat_natCast, Nat.add_zero, Owes_true, Tryz.results144, e0, e1, e2, e7, e8, hld2]
    refine ⟨_, by omega, i + 1, by omega, rfl, rfl, by (simp -dsimp -implicitDefEqProofs (maxSteps := 2000000) (disch := first | assumption | omega | (simp only [nx]; omega) | ((repeat refine Fresh.push ?_ _); assumption) | (simp only [smA]; done) | (simp [oneCell, AW.next_push]; done) | fail) only [go_sem, Nat.reduceEqDiff, reduceIte, Nat.reduceAdd, Int.toNat_natCast, Nat.add_zero, Owes_true, e0]; try rfl), by (simp -dsimp -implicitDefEqProofs (maxSteps := 2000000) (disch := first | assumption | omega | (simp only [nx]; omega) | ((repeat refine Fresh.push ?_ _); assumption) | (simp only [smA]; done) | (simp [oneCell, AW.next_push]; done) | fail) only [go_sem, Nat.reduceEqDiff, reduceIte, Nat.reduceAdd, Int.toNat_natCast, Nat.add_zero, Owes_true, e1]; try rfl), by (simp -dsimp -implicitDefEqProofs (maxSteps := 2000000) (disch := first | assumption | omega | (simp only [nx]; omega) | ((repeat refine Fresh.push ?_ _); assumption) | (simp only [smA]; done) | (simp [oneCell, AW.next_push]; done) | fail) only [go_sem, Nat.reduceEqDiff, reduceIte, Nat.reduceAdd, Int.toNat_natCast, Nat.add_zero, Owes_true, e2]; try rfl), by (simp -dsimp -implicitDefEqProofs (maxSteps := 2000000) (disch := first | assumption | omega | (simp only [nx]; omega) | ((repeat refine Fresh.push ?_ _); assumption) | (simp only [smA]; done) | (simp [oneCell, AW.next_push]; done) | fail) only [go_sem, Nat.reduceEqDiff, reduceIte, Nat.reduceAdd, Int.toNat_natCast, Nat.add_zero, Owes_true, e7]; try rfl), by (simp -dsimp -implicitDefEqProofs (maxSteps := 2000000) (disch := first | assumption | omega | (simp only [nx]; omega) | ((repeat refine Fresh.push ?_ _); assumption) | (simp only [smA]; done) | (simp [oneCell, AW.next_push]; done) | fail) only [go_sem, Nat.reduceEqDiff, reduceIte, Nat.reduceAdd, Int.toNat_natCast, Nat.add_zero, Owes_true, e8]; try rfl), (by rw [hsu]; exact hI4)⟩
  have hyes : inWin W A l kd i = true := by rw [hwin, decide_eq_true hld2, decide_eq_true hday]; rfl
  rw [if_pos hyes] at hsu
  have hl3 : decide (leadAt A l i = leadAt A l kd) = true := decide_eq_true hld2
  have hsf : same 12 (Value.func (.yield c.lp) #[] #[]) (Value.func (.yield c.lp) #[] #[]) = true := by simp [same, same.all]
  simp -dsimp -implicitDefEqProofs (maxSteps := 2000000) (disch := first | assumption | omega | (simp only [nx]; omega) | ((repeat refine Fresh.push ?_ _); assumption) | (simp only [smA]; done) | (simp [oneCell, AW.next_push]; done) | fail) only [go_sem, Nat.reduceEqDiff, reduceIte, Nat.reduceAdd, Int.toNat_natCast, Nat.add_zero, Owes_true, Tryz.results144, e0, e1, e2, e7, e8, hl3, hsf]
  apply callV_of (e := rfl)
  · exact hys w4 hI4
  rintro _ w5 ⟨rfl, hI5⟩
  rw [hadd, ← hty, ← hsu] at hI5
  simp -dsimp -implicitDefEqProofs (maxSteps := 2000000) (disch := first | assumption | omega | (simp only [nx]; omega) | ((repeat refine Fresh.push ?_ _); assumption) | (simp only [smA]; done) | (simp [oneCell, AW.next_push]; done) | fail) only [go_sem, Nat.reduceEqDiff, reduceIte, Nat.reduceAdd, Int.toNat_natCast, Nat.add_zero, Owes_true, Tryz.results144, e0, e1, e2, e7, e8]
  refine ⟨_, by omega, i + 1, by omega, rfl, rfl, by (simp -dsimp -implicitDefEqProofs (maxSteps := 2000000) (disch := first | assumption | omega | (simp only [nx]; omega) | ((repeat refine Fresh.push ?_ _); assumption) | (simp only [smA]; done) | (simp [oneCell, AW.next_push]; done) | fail) only [go_sem, Nat.reduceEqDiff, reduceIte, Nat.reduceAdd, Int.toNat_natCast, Nat.add_zero, Owes_true, e0]; try rfl), by (simp -dsimp -implicitDefEqProofs (maxSteps := 2000000) (disch := first | assumption | omega | (simp only [nx]; omega) | ((repeat refine Fresh.push ?_ _); assumption) | (simp only [smA]; done) | (simp [oneCell, AW.next_push]; done) | fail) only [go_sem, Nat.reduceEqDiff, reduceIte, Nat.reduceAdd, Int.toNat_natCast, Nat.add_zero, Owes_true, e1]; try rfl), by (simp -dsimp -implicitDefEqProofs (maxSteps := 2000000) (disch := first | assumption | omega | (simp only [nx]; omega) | ((repeat refine Fresh.push ?_ _); assumption) | (simp only [smA]; done) | (simp [oneCell, AW.next_push]; done) | fail) only [go_sem, Nat.reduceEqDiff, reduceIte, Nat.reduceAdd, Int.toNat_natCast, Nat.add_zero, Owes_true, e2]; try rfl), by (simp -dsimp -implicitDefEqProofs (maxSteps := 2000000) (disch := first | assumption | omega | (simp only [nx]; omega) | ((repeat refine Fresh.push ?_ _); assumption) | (simp only [smA]; done) | (simp [oneCell, AW.next_push]; done) | fail) only [go_sem, Nat.reduceEqDiff, reduceIte, Nat.reduceAdd, Int.toNat_natCast, Nat.add_zero, Owes_true, e7]; try rfl), by (simp -dsimp -implicitDefEqProofs (maxSteps := 2000000) (disch := first | assumption | omega | (simp only [nx]; omega) | ((repeat refine Fresh.push ?_ _); assumption) | (simp only [smA]; done) | (simp [oneCell, AW.next_push]; done) | fail) only [go_sem, Nat.reduceEqDiff, reduceIte, Nat.reduceAdd, Int.toNat_natCast, Nat.add_zero, Owes_true, e8]; try rfl), hI5⟩
end Go.Proofs

namespace Go.Proofs
open Go Go.RowKit Go.Sim
set_option maxRecDepth 100000
theorem toI_at {L : List Nat} {i : Nat} (h : i < L.length) : (toI L)[i]'(by rw [toI_len]; exact h) = (L[i] : Int) := by simp [toI]
def RowN (w : AW) (v : Value) (L : List Nat) : Prop := AOwn 0 w 3 1 v (toI L).length ((toI L).flatMap icells)
theorem RowN.arr {w : AW} {v : Value} {L : List Nat} (h : RowN w v L) (hl : L.length ≤ 64) : ArrOf w 1 icells v (toI L) := AOwn.arr h icells_len (by rw [toI_len]; omega)
theorem RowN.grown {w w' : AW} {v : Value} {L : List Nat} (h : RowN w v L) (g : Grown w w') : RowN w' v L := AOwn.keep h g.1 (Nat.le_refl _)
theorem openN {w : AW} {v : Value} {L : List Nat} (h : ArrOf w 1 icells v (toI L)) : ∃ p cap, v = .slice p L.length cap ∧ L.length ≤ cap ∧ (cap : Int) ≤ 140737488355328 ∧
    ∀ i (hi : i < L.length), ∃ b o, p = some ⟨b, o, none⟩ ∧ b < w.next ∧ ∀ w', Keep w.next w w' → w'.cell? ⟨b, o + i * 1, none⟩ = some (.int .i64 (L[i] : Int)) := by
  obtain ⟨p, cap, rfl, h1, h2, h3⟩ := h.open
  refine ⟨p, cap, by rw [toI_len], by rw [← toI_len]; exact h1, h2, fun i hi => ?_⟩
  obtain ⟨b, o, rfl, hb, hc⟩ := h3 i (by rw [toI_len]; exact hi)
  refine ⟨b, o, rfl, hb, fun w' hk => ?_⟩
  have := hc w' hk 0 _ rfl
  rwa [Nat.add_zero, toI_at hi] at this
theorem sums_in {l : List DealN} (hd : ∀ d ∈ l, dealB d = true) {L : List Nat} (hN : ∀ n ∈ L, n < l.length) : ∀ i, i ≤ L.length → 0 ≤ ((L.take i).map (sumAt l)).sum ∧ ((L.take i).map (sumAt l)).sum ≤ (i : Int) * 1073741824
  | 0, _ => by simp
  | i + 1, hi => by
    have ih := sums_in hd hN i (by omega)
    have hn := hN _ (List.getElem_mem (show i < L.length by omega))
    have hx := ((dealB_iff _).1 (hd _ (List.getElem_mem hn))).2.2
    rw [← sumAt_eq hn] at hx
    rw [List.take_succ_eq_append_getElem (by omega), List.map_append, List.sum_append]
    simp only [List.map_cons, List.map_nil, List.sum_cons, List.sum_nil, Int.add_zero]
    omega
theorem sumAt_in {l : List DealN} (hd : ∀ d ∈ l, dealB d = true) {n : Nat} (hn : n < l.length) : 1 ≤ sumAt l n ∧ sumAt l n ≤ 1073741824 := by
  have hx := ((dealB_iff _).1 (hd _ (List.getElem_mem hn))).2.2
  rw [← sumAt_eq hn] at hx; exact hx
set_option maxHeartbeats 4000000 in
theorem totalD_ok (W : WatchN) (v0 : Value) (l : List DealN) (A : List Int) (L : List Nat) (hN : ∀ n ∈ L, n < l.length) (hlen : L.length ≤ 64) (v : Value) (w : AW) (f : Fresh w) (hs : ArrOf w 3 dcells v0 l) (hv : ArrOf w 1 icells v (toI L)) (hd : ∀ d ∈ l, dealB d = true) :
    CallT Tryz.prog Tryz.T1 (.fn (.func 99) #[]) #[v, .func (.func 117) #[.agg (deskL W v0 A).toArray] #[]] w (Ret (.int .i64 (L.map (sumAt l)).sum) (Grown w)) := by
  obtain ⟨p, cp, rfl, _, _, hat⟩ := openN hv
  refine callT_code rfl Tryz.func99 rfl Tryz.s99_eq rfl ?_
  unfold Tryz.s99
  simp -dsimp -implicitDefEqProofs (maxSteps := 2000000) (disch := first | assumption | omega | (simp only [nx]; omega) | ((repeat refine Fresh.push ?_ _); assumption) | (simp only [smA]; done) | (simp [oneCell, AW.next_push]; done) | fail) only [go_sem, Nat.reduceEqDiff, reduceIte, Nat.reduceAdd, Int.toNat_natCast, Nat.add_zero, Owes_true, Tryz.results99]
  refine loopR (fun k t ds w1 => ∃ i : Nat, i ≤ L.length ∧ k = L.length - i ∧ ds = [] ∧ ev t (.tmp 0) = .slice p L.length cp ∧ ev t (.tmp 1) = .func (.func 117) #[.agg (deskL W v0 A).toArray] #[] ∧ ev t (.tmp 5) = .int .i64 ((L.take i).map (sumAt l)).sum ∧ ev t (.tmp 8) = .slice p L.length cp ∧ ev t (.tmp 9) = .int .i64 (L.length : Int) ∧ ev t (.tmp 10) = .int .i64 (i : Int) ∧ Grown w w1) (L.length) ?_ ?_
  · refine ⟨0, by omega, by omega, rfl, ?_, ?_, ?_, ?_, ?_, ?_, Grown.refl f⟩ <;> simp -dsimp -implicitDefEqProofs (maxSteps := 2000000) (disch := first | assumption | omega | (simp only [nx]; omega) | ((repeat refine Fresh.push ?_ _); assumption) | (simp only [smA]; done) | (simp [oneCell, AW.next_push]; done) | fail) only [go_sem, Nat.reduceEqDiff, reduceIte, Nat.reduceAdd, Int.toNat_natCast, Nat.add_zero, Owes_true] <;> rfl
  rintro k t ds w1 ⟨i, hii, rfl, rfl, e0, e1, e5, e8, e9, e10, g1⟩
  by_cases hlt : (i : Int) < (L.length : Int)
  case neg =>
    obtain rfl : i = L.length := by omega
    rw [List.take_of_length_le (Nat.le_refl _)] at e5
    simp -dsimp -implicitDefEqProofs (maxSteps := 2000000) (disch := first | assumption | omega | (simp only [nx]; omega) | ((repeat refine Fresh.push ?_ _); assumption) | (simp only [smA]; done) | (simp [oneCell, AW.next_push]; done) | fail) only [go_sem, Nat.reduceEqDiff, reduceIte, Nat.reduceAdd, Int.toNat_natCast, Nat.add_zero, Owes_true, Tryz.results99, e0, e1, e5, e8, e9, e10, hlt]
    exact ⟨rfl, g1⟩
  have hlt' : i < L.length := by omega
  obtain ⟨b1, o1, rfl, hb1, hcell⟩ := hat i (by omega)
  have a0 := hcell w1 g1.1
  have hn := hN _ (List.getElem_mem hlt')
  have hcall := sumOf_ok W v0 l A L[i] hn w1 g1.2 (hs.grown g1)
  have hgi := sumAt_in hd hn
  have hst := sums_in hd hN i (by omega)
  have hsn : ((L.take (i + 1)).map (sumAt l)).sum = ((L.take i).map (sumAt l)).sum + sumAt l L[i] := by
    rw [List.take_succ_eq_append_getElem hlt', List.map_append, List.sum_append]; simp
  generalize ((L.take i).map (sumAt l)).sum = S at *
  generalize hgg : sumAt l L[i] = gi at *
  simp -dsimp -implicitDefEqProofs (maxSteps := 2000000) (disch := first | assumption | omega | (simp only [nx]; omega) | ((repeat refine Fresh.push ?_ _); assumption) | (simp only [smA]; done) | (simp [oneCell, AW.next_push]; done) | fail) only [go_sem, Nat.reduceEqDiff, reduceIte, Nat.reduceAdd, Int.toNat_natCast, Nat.add_zero, Owes_true, Tryz.results99, e0, e1, e5, e8, e9, e10, hlt, indexV_eq, a0]
  apply callV_of (e := rfl)
  · exact hcall
  rintro _ w2 ⟨rfl, g2⟩
  simp -dsimp -implicitDefEqProofs (maxSteps := 2000000) (disch := first | assumption | omega | (simp only [nx]; omega) | ((repeat refine Fresh.push ?_ _); assumption) | (simp only [smA]; done) | (simp [oneCell, AW.next_push]; done) | fail) only [go_sem, Nat.reduceEqDiff, reduceIte, Nat.reduceAdd, Int.toNat_natCast, Nat.add_zero, Owes_true, Tryz.results99, e0, e1, e5, e8, e9, e10]
  refine ⟨_, by omega, i + 1, by omega, rfl, rfl, by (simp -dsimp -implicitDefEqProofs (maxSteps := 2000000) (disch := first | assumption | omega | (simp only [nx]; omega) | ((repeat refine Fresh.push ?_ _); assumption) | (simp only [smA]; done) | (simp [oneCell, AW.next_push]; done) | fail) only [go_sem, Nat.reduceEqDiff, reduceIte, Nat.reduceAdd, Int.toNat_natCast, Nat.add_zero, Owes_true, e0, hsn]; try rfl), by (simp -dsimp -implicitDefEqProofs (maxSteps := 2000000) (disch := first | assumption | omega | (simp only [nx]; omega) | ((repeat refine Fresh.push ?_ _); assumption) | (simp only [smA]; done) | (simp [oneCell, AW.next_push]; done) | fail) only [go_sem, Nat.reduceEqDiff, reduceIte, Nat.reduceAdd, Int.toNat_natCast, Nat.add_zero, Owes_true, e1, hsn]; try rfl), by (simp -dsimp -implicitDefEqProofs (maxSteps := 2000000) (disch := first | assumption | omega | (simp only [nx]; omega) | ((repeat refine Fresh.push ?_ _); assumption) | (simp only [smA]; done) | (simp [oneCell, AW.next_push]; done) | fail) only [go_sem, Nat.reduceEqDiff, reduceIte, Nat.reduceAdd, Int.toNat_natCast, Nat.add_zero, Owes_true, e5, hsn]; try rfl), by (simp -dsimp -implicitDefEqProofs (maxSteps := 2000000) (disch := first | assumption | omega | (simp only [nx]; omega) | ((repeat refine Fresh.push ?_ _); assumption) | (simp only [smA]; done) | (simp [oneCell, AW.next_push]; done) | fail) only [go_sem, Nat.reduceEqDiff, reduceIte, Nat.reduceAdd, Int.toNat_natCast, Nat.add_zero, Owes_true, e8, hsn]; try rfl), by (simp -dsimp -implicitDefEqProofs (maxSteps := 2000000) (disch := first | assumption | omega | (simp only [nx]; omega) | ((repeat refine Fresh.push ?_ _); assumption) | (simp only [smA]; done) | (simp [oneCell, AW.next_push]; done) | fail) only [go_sem, Nat.reduceEqDiff, reduceIte, Nat.reduceAdd, Int.toNat_natCast, Nat.add_zero, Owes_true, e9, hsn]; try rfl), by (simp -dsimp -implicitDefEqProofs (maxSteps := 2000000) (disch := first | assumption | omega | (simp only [nx]; omega) | ((repeat refine Fresh.push ?_ _); assumption) | (simp only [smA]; done) | (simp [oneCell, AW.next_push]; done) | fail) only [go_sem, Nat.reduceEqDiff, reduceIte, Nat.reduceAdd, Int.toNat_natCast, Nat.add_zero, Owes_true, e10, hsn]; try rfl), g1.trans g2⟩
theorem rangeV_ok (W0 w3 : AW) (d q v y x : Nat) (hc : VP.ok ⟨d, q, v, y, x, w3.next, w3.next + 1⟩ W0.next) (W : WatchN) (v0 : Value) (l : List DealN) (A : List Int) (kd : Nat) (hk : kd < l.length) (hl : l.length ≤ 64) (hs : ArrOf W0 3 dcells v0 l) (hd : ∀ d ∈ l, dealB d = true) (hA : A.length = 24) (hW : watchB W = true)
    (g3 : Grown W0 w3) (o1 : Own w3 d 119 (deskL W v0 A)) (o2 : Own w3 q 123 [.slice none 0 0, .slice none 0 0, .int .i64 0]) (o3 : Own w3 v 123 [.slice none 0 0, .slice none 0 0, .int .i64 0]) (o4 : Own w3 y 119 (deskL W v0 A)) (o5 : Own w3 x 3 [.int .i64 (kd : Int)])
    (tt : Tmps) (e2 : ev tt (.tmp 2) = .pointer (some ⟨d, 0, none⟩)) (e5 : ev tt (.tmp 5) = .pointer (some ⟨v, 0, none⟩)) :
    CallT Tryz.prog Tryz.T1 (.fn (.func 144) #[.pointer (some ⟨x, 0, none⟩), .pointer (some ⟨y, 0, none⟩)]) #[.func (.yield (w3.next + 1)) #[] #[]] ((w3.push (.deferred (some []))).push (.loop (lpV .ready tt w3.next)))
      (fun _ w' => VI W0 ⟨d, q, v, y, x, w3.next, w3.next + 1⟩ W v0 A (kd : Int) (lpV .ready tt w3.next) (toI (winTo W A l kd (kd + 1))) (toI (smalls W l (winTo W A l kd (kd + 1)))) w') := by
  have hn1 : (w3.push (.deferred (some []))).next = w3.next + 1 := AW.next_push _ _
  refine roundsV_ok W0 ⟨d, q, v, y, x, w3.next, w3.next + 1⟩ hc W v0 l A kd hk hl hs hd hA hW tt e2 e5 _ ?_
  have g4 := (g3.push (.deferred (some []))).push (.loop (lpV .ready tt w3.next))
  refine ⟨(o1.push _).push _, (o2.push _).push _, (o4.push _).push _, (o5.push _).push _, ⟨none, none, 0, 0, 0, 0, fun _ => False, fun _ => False, (o3.push _).push _, .inl ⟨rfl, rfl, rfl⟩, .inl ⟨rfl, rfl, rfl⟩, fun _ q => q.elim, fun _ q => q.elim⟩, ?_, ?_, g4.1, ?_, g4.2⟩
  · show ((w3.push (.deferred (some []))).push _).blk (w3.next + 1) = _
    rw [AW.blk_push _ _ _ (Trie.in_ _) (Trie.in_ _), if_pos hn1.symm]
  · show ((w3.push (.deferred (some []))).push _).blk w3.next = _
    rw [AW.blk_push _ _ _ (Trie.in_ _) (Trie.in_ _), if_neg (by omega), AW.blk_push _ _ _ (Trie.in_ _) (Trie.in_ _), if_pos rfl]
  · show w3.next + 1 < ((w3.push (.deferred (some []))).push _).next
    rw [AW.next_push, hn1]; omega
def winOf (W : WatchN) (A : List Int) (l : List DealN) (k : Nat) : List Nat := winTo W A l k (k + 1)
def sumW (l : List DealN) (L : List Nat) : Int := (L.map (sumAt l)).sum
theorem winOf_lt {W : WatchN} {A : List Int} {l : List DealN} {k : Nat} : ∀ n ∈ winOf W A l k, n ≤ k := fun n hn => by
  have := (List.mem_filter.mp hn).1
  rw [List.mem_range] at this; omega
set_option maxHeartbeats 16000000 in
theorem view_ok (W : WatchN) (v0 : Value) (l : List DealN) (A : List Int) (kd : Nat) (hk : kd < l.length) (hl : l.length ≤ 64) (w : AW) (f : Fresh w) (hs : ArrOf w 3 dcells v0 l) (hd : ∀ d ∈ l, dealB d = true) (hA : A.length = 24) (hW : watchB W = true) :
    CallT Tryz.prog Tryz.T1 (.fn (.func 74) #[]) #[.agg (deskL W v0 A).toArray, .int .i64 (kd : Int)] w (fun r w' => ∃ (p r2 : Option Addr) (m n e g : Nat), r = .agg #[.slice p m e, .slice r2 n g, .int .i64 (sumW l (winOf W A l kd))] ∧ RowN w' (.slice p m e) (winOf W A l kd) ∧ RowN w' (.slice r2 n g) (smalls W l (winOf W A l kd)) ∧ Grown w w') := by
  obtain ⟨p0, c0, rfl, _⟩ := id hs.open
  have g1 := (Grown.refl f).push (.cells (deskL W (.slice p0 l.length c0) A) 119 w.next 0 0)
  have o1 := Own.new f 119 (deskL W (.slice p0 l.length c0) A)
  have g2 := g1.push (.cells [.slice none 0 0, .slice none 0 0, .int .i64 0] 123 (w.next + 1) 0 0)
  have o2 := Own.new g1.2 123 [.slice none 0 0, .slice none 0 0, .int .i64 0]
  rw [AW.next_push] at o2
  have g3 := g2.push (.cells [.slice none 0 0, .slice none 0 0, .int .i64 0] 123 (w.next + 1 + 1) 0 0)
  have o3 := Own.new g2.2 123 [.slice none 0 0, .slice none 0 0, .int .i64 0]
  rw [AW.next_push, AW.next_push] at o3
  have o1c := (o1.push (.cells [.slice none 0 0, .slice none 0 0, .int .i64 0] 123 (w.next + 1) 0 0)).push (.cells [.slice none 0 0, .slice none 0 0, .int .i64 0] 123 (w.next + 1 + 1) 0 0)
  have o2c := o2.push (.cells [.slice none 0 0, .slice none 0 0, .int .i64 0] 123 (w.next + 1 + 1) 0 0)
  have hn3 : (((w.push (.cells (deskL W (.slice p0 l.length c0) A) 119 w.next 0 0)).push (.cells [.slice none 0 0, .slice none 0 0, .int .i64 0] 123 (w.next + 1) 0 0)).push (.cells [.slice none 0 0, .slice none 0 0, .int .i64 0] 123 (w.next + 1 + 1) 0 0)).next = w.next + 1 + 1 + 1 := by simp only [AW.next_push]
  have hld := desk_load o1c hA
  refine callT_code rfl Tryz.func74 rfl Tryz.s74_eq rfl ?_
  unfold Tryz.s74
  simp -dsimp -implicitDefEqProofs (maxSteps := 2000000) (disch := first | assumption | omega | (simp only [nx]; omega) | ((repeat refine Fresh.push ?_ _); assumption) | (simp only [smA]; done) | (simp [oneCell, AW.next_push]; done) | fail) only [go_sem, Nat.reduceEqDiff, reduceIte, Nat.reduceAdd, Int.toNat_natCast, Nat.add_zero, Owes_true, Tryz.results74, Nat.zero_add, hld]
  generalize hw3 : (((w.push (.cells (deskL W (.slice p0 l.length c0) A) 119 w.next 0 0)).push (.cells [.slice none 0 0, .slice none 0 0, .int .i64 0] 123 (w.next + 1) 0 0)).push (.cells [.slice none 0 0, .slice none 0 0, .int .i64 0] 123 (w.next + 1 + 1) 0 0)) = w3 at *
  apply callV_of (e := rfl)
  · exact window_ok W _ A kd w3 g3.2
  rintro _ w4 ⟨rfl, oy, ox, g4, hn4⟩
  rw [hn3] at oy ox hn4
  have gg := g3.trans g4
  have hc : VP.ok ⟨w.next, w.next + 1, w.next + 1 + 1, w.next + 1 + 1 + 1, w.next + 1 + 1 + 1 + 1, w4.next, w4.next + 1⟩ w.next := by
    refine ⟨?_, ?_, ?_, ?_, ?_, ?_, ?_⟩ <;> simp only [] <;> omega
  simp -dsimp -implicitDefEqProofs (maxSteps := 2000000) (disch := first | assumption | omega | (simp only [nx]; omega) | ((repeat refine Fresh.push ?_ _); assumption) | (simp only [smA]; done) | (simp [oneCell, AW.next_push]; done) | fail) only [go_sem, Nat.reduceEqDiff, reduceIte, Nat.reduceAdd, Int.toNat_natCast, Nat.add_zero, Owes_true, Tryz.results74, hn3]
  refine codeT_range rfl (by simp -dsimp -implicitDefEqProofs (maxSteps := 2000000) (disch := first | assumption | omega | (simp only [nx]; omega) | ((repeat refine Fresh.push ?_ _); assumption) | (simp only [smA]; done) | (simp [oneCell, AW.next_push]; done) | fail) only [go_sem, Nat.reduceEqDiff, reduceIte, Nat.reduceAdd, Int.toNat_natCast, Nat.add_zero, Owes_true]; rfl) ?_
  refine (rangeV_ok w w4 w.next (w.next + 1) (w.next + 1 + 1) (w.next + 1 + 1 + 1) (w.next + 1 + 1 + 1 + 1) hc W _ l A kd hk hl hs hd hA hW gg (o1c.keep g4.1) (o2c.keep g4.1) (o3.keep g4.1) oy ox _ (by simp -dsimp -implicitDefEqProofs (maxSteps := 2000000) (disch := first | assumption | omega | (simp only [nx]; omega) | ((repeat refine Fresh.push ?_ _); assumption) | (simp only [smA]; done) | (simp [oneCell, AW.next_push]; done) | fail) only [go_sem, Nat.reduceEqDiff, reduceIte, Nat.reduceAdd, Int.toNat_natCast, Nat.add_zero, Owes_true]) (by simp -dsimp -implicitDefEqProofs (maxSteps := 2000000) (disch := first | assumption | omega | (simp only [nx]; omega) | ((repeat refine Fresh.push ?_ _); assumption) | (simp only [smA]; done) | (simp [oneCell, AW.next_push]; done) | fail) only [go_sem, Nat.reduceEqDiff, reduceIte, Nat.reduceAdd, Int.toNat_natCast, Nat.add_zero, Owes_true])).mono ?_
  rintro _ w5 hI
  refine ⟨_, hI.loop, rfl, rfl, ?_⟩
  intro W2 hW2
  obtain ⟨lpx, hIW⟩ : ∃ lpx, VI w ⟨w.next, w.next + 1, w.next + 1 + 1, w.next + 1 + 1 + 1, w.next + 1 + 1 + 1 + 1, w4.next, w4.next + 1⟩ W (.slice p0 l.length c0) A (kd : Int) lpx (toI (winOf W A l kd)) (toI (smalls W l (winOf W A l kd))) W2 := ⟨_, by rw [hW2]; exact hI.relp hc _⟩
  clear hW2 hI
  have hm2 := hIW.mark
  have hl2 := hIW.lt
  have hk2 := hIW.keep
  have hf2 := hIW.fresh
  obtain ⟨p, r, m, n, e, g, S, T, k1, k2, k3, k4, k5⟩ := hIW.ov
  have q1 := hIW.od
  have q2 := hIW.oq
  simp only [] at hm2 hl2 k1 k4 k5 q1 q2
  have hA1 : ArrOf W2 1 icells (.slice p m e) (toI (winOf W A l kd)) := k2.own.arr icells_len (by rw [toI_len]; have := winTo_len W A l kd (kd + 1); unfold winOf; omega)
  have hA2 : ArrOf W2 1 icells (.slice r n g) (toI (smalls W l (winOf W A l kd))) := k3.own.arr icells_len (by rw [toI_len]; have := winTo_len W A l kd (kd + 1); have := smalls_len W l (winOf W A l kd); unfold winOf at *; omega)
  have v0 := k1.cell (o := 0) rfl rfl
  have hld2 := desk_load q1 hA
  have gW : Grown w W2 := ⟨hk2, hf2⟩
  simp -dsimp -implicitDefEqProofs (maxSteps := 2000000) (disch := first | assumption | omega | (simp only [nx]; omega) | ((repeat refine Fresh.push ?_ _); assumption) | (simp only [smA]; done) | (simp [oneCell, AW.next_push]; done) | fail) only [go_sem, Nat.reduceEqDiff, reduceIte, Nat.reduceAdd, Int.toNat_natCast, Nat.add_zero, Owes_true, Tryz.results74, v0, Nat.zero_add, hld2]
  apply callV_of (e := rfl)
  · exact totalD_ok W _ l A (winOf W A l kd) (fun n hn => by have := winOf_lt n hn; omega) (by have := winTo_len W A l kd (kd + 1); unfold winOf; omega) _ W2 hf2 (hs.grown gW) hA1 hd
  rintro _ w6 ⟨rfl, g6⟩
  have r1 := k1.keep g6.1
  have r2 := q2.keep g6.1
  have st := storeV_own1 (o := 2) (v := .int .i64 (sumW l (winOf W A l kd))) r1 (by simp) rfl
  simp only [setL] at st
  unfold sumW at st
  have m7 := MutS.put (S := fun j => j = w.next + 1 + 1) g6.2 rfl r1.lt (.cells [.slice p m e, .slice r n g, .int .i64 ((winOf W A l kd).map (sumAt l)).sum] 123 (w.next + 1 + 1) 0 0)
  have r1' := r1.put [.slice p m e, .slice r n g, .int .i64 ((winOf W A l kd).map (sumAt l)).sum]
  have r2' := m7.own r2 (by omega)
  have s0 := r1'.cell (o := 0) rfl rfl
  have s1 := r1'.cell (o := 1) rfl rfl
  have s2 := r1'.cell (o := 2) rfl rfl
  have st2 := storeV_own (o := 0) (l := [.slice p m e, .slice r n g, .int .i64 ((winOf W A l kd).map (sumAt l)).sum]) (size := 3) r2' rfl (by omega) (by simp) (by rfl)
  simp only [setsL, setL] at st2
  have m8 := MutS.put (S := fun j => j = w.next + 1) m7.fresh rfl r2'.lt (.cells [.slice p m e, .slice r n g, .int .i64 ((winOf W A l kd).map (sumAt l)).sum] 123 (w.next + 1) 0 0)
  have r2'' := r2'.put [.slice p m e, .slice r n g, .int .i64 ((winOf W A l kd).map (sumAt l)).sum]
  simp -dsimp -implicitDefEqProofs (maxSteps := 2000000) (disch := first | assumption | omega | (simp only [nx]; omega) | ((repeat refine Fresh.push ?_ _); assumption) | (simp only [smA]; done) | (simp [oneCell, AW.next_push]; done) | fail) only [go_sem, Nat.reduceEqDiff, reduceIte, Nat.reduceAdd, Int.toNat_natCast, Nat.add_zero, Owes_true, Tryz.results74, Nat.zero_add, st, s0, s1, s2, st2]
  refine Left_one ?_ ?_
  · rw [m8.blk _ (by have := m7.next; have := g6.1.next; omega) (by omega), m7.blk _ (by have := g6.1.next; omega) (by omega), g6.1.blk _ (by omega)]; exact hm2
  have hn7 := m7.next
  have hn8 := m8.next
  have hn6 := g6.1.next
  have m9 := MutS.put (S := fun j => j = w4.next) m8.fresh rfl (by omega) (.deferred none)
  have r3 := m9.own r2'' (by omega)
  have z0 := r3.cell (o := 0) rfl rfl
  have z1 := r3.cell (o := 1) rfl rfl
  have z2 := r3.cell (o := 2) rfl rfl
  have kk : Keep w.next w _ := ((hk2.trans (g6.1.mono hk2.next)).trans (m7.keep (fun j q => by omega) (by have := hk2.next; omega))).trans ((m8.keep (fun j q => by omega) (by have := hk2.next; omega)).trans (m9.keep (fun j q => by omega) (by have := hk2.next; omega)))
  have mall : MutS (fun j => j = w.next + 1 + 1 ∨ j = w.next + 1 ∨ j = w4.next) W2 _ := (((MutS.of g6).trans (m7.mono fun j q => Or.inl q) (Within.refl _ _)).trans (m8.mono fun j q => Or.inr (Or.inl q)) (Within.refl _ _)).trans (m9.mono fun j q => Or.inr (Or.inr q)) (Within.refl _ _)
  simp -dsimp -implicitDefEqProofs (maxSteps := 2000000) (disch := first | assumption | omega | (simp only [nx]; omega) | ((repeat refine Fresh.push ?_ _); assumption) | (simp only [smA]; done) | (simp [oneCell, AW.next_push]; done) | fail) only [go_sem, Nat.reduceEqDiff, reduceIte, Nat.reduceAdd, Int.toNat_natCast, Nat.add_zero, Owes_true, Tryz.results74, Nat.zero_add, z0, z1, z2]
  refine ⟨p, r, m, n, e, g, rfl, ?_, ?_, kk, mall.fresh⟩
  · exact (k2.other mall fun j q z => by have := (k4 j q).1; omega).own
  · exact (k3.other mall fun j q z => by have := (k5 j q).1; omega).own
end Go.Proofs

namespace Go.Proofs
open Go Go.RowKit Go.Sim
set_option maxRecDepth 100000
def Tryz.s100 : SC := (.seq (.ops false [⟨⟨(some 2),.assign (.const (.int .i64 0)),3,"",⟨[]⟩,none⟩,none,false⟩]) (.seq (.ops false [⟨⟨(some 3),.move (.tmp 0),3,"",⟨[]⟩,none⟩,none,false⟩,⟨⟨(some 2),.assign (.tmp 3),3,"",⟨[]⟩,none⟩,none,false⟩]) .ret))
theorem Tryz.s100_eq : Tryz.f100.body.map sOf = some Tryz.s100 := by kernel_rfl
end Go.Proofs

namespace Go.Sim
open Go Go.RowKit
theorem setsL_all (c l : List Value) (h : l.length = c.length) : setsL c 0 l = l := by
  have := setsL_zero l c [] h
  rwa [List.append_nil, List.append_nil] at this
theorem sortFT_own {s : FuncIds} {w : AW} {b e cap : Nat} {L : List Int} (h : Own w b e (L.map encInt)) (hL : L.length ≤ 1048576) :
    ∃ w', sortFT s [.slice (some ⟨b, 0, none⟩) L.length cap, .func (.func s.g) #[] #[]] w = some (.tuple #[], w') ∧ ((L = [] ∧ w' = w) ∨ w' = w.put b (.cells ((sortedD L).map encInt) e b 0 0)) := by
  have hids : Nat.beq s.g s.g = true := Nat.beq_refl _
  cases hLL : L with
  | nil => exact ⟨w, by simp [sortFT, hids], .inl ⟨rfl, rfl⟩⟩
  | cons x M =>
    rw [← hLL]
    have h1 : 1 ≤ L.length := by rw [hLL]; simp
    have hn : Nat.beq L.length 0 = false := by rw [hLL]; rfl
    have hcell : ∀ j (hj : j < L.length), w.cell? ⟨b, j, none⟩ = some (.int .i64 L[j]) := fun j hj => h.cell (by simp [hj, encInt]) rfl
    have hread : readInts w b 0 L.length = some L := by rw [readInts_map hcell L.length 0 (by omega)]; rfl
    have hst := stores_own ((sortedD L).map encInt) 0 w _ h (by intro q; have := congrArg List.length q; simp [sortedD_len] at this; rw [this] at h1; simp at h1) (by simp [sortedD_len]) (by
      intro v hv; obtain ⟨z, _, rfl⟩ := List.mem_map.mp hv; rfl)
    rw [setsL_all _ _ (by simp [sortedD_len])] at hst
    refine ⟨_, ?_, .inr rfl⟩
    have hb : Nat.ble L.length 1048576 = true := Nat.ble_eq_true_of_le hL
    simp only [sortFT, hids, hn, sortRowF, hb, hread, hst]
end Go.Sim

namespace Go.Proofs
open Go Go.RowKit Go.Sim
set_option maxRecDepth 100000
theorem Tryz.sl22a (t : Tmps) (w : AW) (x hi : Operand) : fast (prg Tryz.prog) t w (.slice 22 x none (some hi) none) = sliceV w 1 (ev t x) none (some (ev t hi)) := by
  simp only [fast, Tryz.ty22, Tryz.ty3, Option.map]
theorem Tryz.sl22b (t : Tmps) (w : AW) (x lo : Operand) : fast (prg Tryz.prog) t w (.slice 22 x (some lo) none none) = sliceV w 1 (ev t x) (some (ev t lo)) none := by
  simp only [fast, Tryz.ty22, Tryz.ty3, Option.map]
attribute [go_sem] Tryz.sl22a Tryz.sl22b
theorem row_from {w : AW} {v : Value} {n a : Nat} {cells : List Value} (h : AOwn 0 w 3 1 v n cells) (h1 : 1 ≤ n) (ha : a ≤ n) : ∃ b, v = .slice (some ⟨b, 0, none⟩) n n ∧ sliceV w 1 v (some (.int .i64 (a : Int))) none = some (.slice (some ⟨b, a, none⟩) (n - a) (n - a)) := by
  rcases h with ⟨_, h0, _⟩ | ⟨b, r, rfl, _, _, _, _, hb, _⟩
  · omega
  · refine ⟨b, rfl, ?_⟩
    show sliceV w 1 (.slice (some ⟨b, 0, none⟩) n n) (some (.int .i64 (Int.ofNat a))) none = _
    have b1 : Nat.ble a n = true := Nat.ble_eq_true_of_le ha
    have b2 : Nat.ble n n = true := Nat.ble_eq_true_of_le (Nat.le_refl _)
    have b3 : Nat.beq 1 1 = true := rfl
    simp only [sliceV, natOr, b1, b2, hb, Bool.and_self, b3, Bool.true_or, Nat.mul_one, Nat.zero_add]
theorem row_to {w : AW} {v : Value} {n a : Nat} {cells : List Value} (h : AOwn 0 w 3 1 v n cells) (h1 : 1 ≤ n) (ha : a ≤ n) : ∃ b, v = .slice (some ⟨b, 0, none⟩) n n ∧ sliceV w 1 v none (some (.int .i64 (a : Int))) = some (.slice (some ⟨b, 0, none⟩) a n) := by
  rcases h with ⟨_, h0, _⟩ | ⟨b, r, rfl, _, _, _, _, hb, _⟩
  · omega
  · refine ⟨b, rfl, ?_⟩
    show sliceV w 1 (.slice (some ⟨b, 0, none⟩) n n) none (some (.int .i64 (Int.ofNat a))) = _
    have b1 : Nat.ble a n = true := Nat.ble_eq_true_of_le ha
    have b2 : Nat.ble 0 a = true := Nat.ble_eq_true_of_le (Nat.zero_le _)
    have b3 : Nat.beq 1 1 = true := rfl
    simp only [sliceV, natOr, b1, b2, hb, Bool.and_self, b3, Bool.true_or, Nat.zero_mul, Nat.zero_add, Nat.sub_zero]
theorem own_to {w : AW} {b n a : Nat} {e : TypeId} {cells : List Value} (h : Own w b e cells) (ha : a ≤ n) : sliceV w 1 (.slice (some ⟨b, 0, none⟩) n n) none (some (.int .i64 (a : Int))) = some (.slice (some ⟨b, 0, none⟩) a n) := by
  show sliceV w 1 (.slice (some ⟨b, 0, none⟩) n n) none (some (.int .i64 (Int.ofNat a))) = _
  have b1 : Nat.ble a n = true := Nat.ble_eq_true_of_le ha
  have b2 : Nat.ble 0 a = true := Nat.ble_eq_true_of_le (Nat.zero_le _)
  have b3 : Nat.beq 0 1 = false := rfl
  have b4 : Nat.beq 0 0 = true := rfl
  simp only [sliceV, natOr, b1, b2, h.blk, Bool.and_self, b3, b4, Bool.true_or, Bool.false_or, Nat.zero_mul, Nat.zero_add, Nat.sub_zero]
def partD (l : List DealN) (L : List Nat) (i : Nat) : List Int := (L.take i).map (sumAt l) ++ List.replicate (L.length - i) 0
theorem partD_len (l : List DealN) (L : List Nat) (i : Nat) (h : i ≤ L.length) : (partD l L i).length = L.length := by simp [partD]; omega
theorem partD_set (l : List DealN) (L : List Nat) (i : Nat) (h : i < L.length) : (partD l L i).set i (sumAt l L[i]) = partD l L (i + 1) := by
  unfold partD
  rw [List.set_append_right _ _ (by simp; omega), List.length_map, List.length_take, Nat.min_eq_left (by omega), Nat.sub_self, List.take_succ_eq_append_getElem h, List.map_append, List.append_assoc]
  congr 1
  obtain ⟨r, hr⟩ : ∃ r, L.length - i = r + 1 := ⟨L.length - i - 1, by omega⟩
  rw [hr, List.replicate_succ, List.set_cons_zero, show L.length - (i + 1) = r by omega]
  rfl
theorem partD_all (l : List DealN) (L : List Nat) : partD l L L.length = L.map (sumAt l) := by simp [partD]
theorem zeros (n : Nat) : (List.replicate n (Value.int .i64 0 :: [])).flatten = icl (List.replicate n 0) := by
  induction n with
  | zero => rfl
  | succ n ih => rw [List.replicate_succ, List.flatten_cons, ih, List.replicate_succ]; rfl
set_option maxHeartbeats 4000000 in
theorem each_ok (W : WatchN) (v0 : Value) (l : List DealN) (A : List Int) (L : List Nat) (hN : ∀ n ∈ L, n < l.length) (hlen : L.length ≤ 64) (v : Value) (w : AW) (f : Fresh w) (hs : ArrOf w 3 dcells v0 l) (hv : ArrOf w 1 icells v (toI L)) :
    CallT Tryz.prog Tryz.T1 (.fn (.func 145) #[]) #[v, .func (.func 117) #[.agg (deskL W v0 A).toArray] #[]] w (fun r w' => r = .slice (some ⟨w.next, 0, none⟩) L.length L.length ∧ Own w' w.next 3 (icl (L.map (sumAt l))) ∧ Grown w w') := by
  obtain ⟨p, cp, rfl, _, _, hat⟩ := openN hv
  have hmk := makeSliceV_room (g := prg Tryz.prog) (w := w) Tryz.ty22 Tryz.ty3 (q := .i64) (q' := .i64) (n := L.length) (by omega) (by omega) (by omega) rfl
  have hz : (Value.int .i64 0).cells.toList = [Value.int .i64 0] := rfl
  rw [hz, zeros] at hmk
  have g1 := (Grown.refl f).push (.cells (icl (List.replicate L.length 0)) 3 w.next 0 0)
  have o1 := Own.new f 3 (icl (List.replicate L.length 0))
  have hD0 : partD l L 0 = List.replicate L.length 0 := by simp [partD]
  rw [← hD0] at o1
  refine callT_code rfl Tryz.func145 rfl Tryz.s145_eq rfl ?_
  unfold Tryz.s145
  simp -dsimp -implicitDefEqProofs (maxSteps := 2000000) (disch := first | assumption | omega | (simp only [nx]; omega) | ((repeat refine Fresh.push ?_ _); assumption) | (simp only [smA]; done) | (simp [oneCell, AW.next_push]; done) | fail) only [go_sem, Nat.reduceEqDiff, reduceIte, Nat.reduceAdd, Int.toNat_natCast, Nat.add_zero, Owes_true, Tryz.results145, hmk]
  rw [← hD0] at g1 ⊢
  refine loopR (fun k t ds w1 => ∃ i : Nat, i ≤ L.length ∧ k = L.length - i ∧ ds = [] ∧ ev t (.tmp 1) = .func (.func 117) #[.agg (deskL W v0 A).toArray] #[] ∧ ev t (.tmp 5) = .slice (some ⟨w.next, 0, none⟩) i L.length ∧ ev t (.tmp 11) = .slice p L.length cp ∧ ev t (.tmp 12) = .int .i64 (L.length : Int) ∧ ev t (.tmp 13) = .int .i64 (i : Int) ∧ Own w1 w.next 3 (icl (partD l L i)) ∧ Grown w w1) (L.length) ?_ ?_
  · refine ⟨0, by omega, by omega, rfl, ?_, ?_, ?_, ?_, ?_, o1, g1⟩ <;> simp -dsimp -implicitDefEqProofs (maxSteps := 2000000) (disch := first | assumption | omega | (simp only [nx]; omega) | ((repeat refine Fresh.push ?_ _); assumption) | (simp only [smA]; done) | (simp [oneCell, AW.next_push]; done) | fail) only [go_sem, Nat.reduceEqDiff, reduceIte, Nat.reduceAdd, Int.toNat_natCast, Nat.add_zero, Owes_true] <;> rfl
  rintro k t ds w1 ⟨i, hii, rfl, rfl, e1, e5, e11, e12, e13, oD, g2⟩
  by_cases hlt : (i : Int) < (L.length : Int)
  case neg =>
    obtain rfl : i = L.length := by omega
    rw [partD_all] at oD
    simp -dsimp -implicitDefEqProofs (maxSteps := 2000000) (disch := first | assumption | omega | (simp only [nx]; omega) | ((repeat refine Fresh.push ?_ _); assumption) | (simp only [smA]; done) | (simp [oneCell, AW.next_push]; done) | fail) only [go_sem, Nat.reduceEqDiff, reduceIte, Nat.reduceAdd, Int.toNat_natCast, Nat.add_zero, Owes_true, Tryz.results145, e1, e5, e11, e12, e13, hlt]
    exact ⟨trivial, oD, g2⟩
  have hlt' : i < L.length := by omega
  obtain ⟨b1, o1, rfl, hb1, hcell⟩ := hat i hlt'
  have a0 := hcell w1 g2.1
  have hn := hN _ (List.getElem_mem hlt')
  simp -dsimp -implicitDefEqProofs (maxSteps := 2000000) (disch := first | assumption | omega | (simp only [nx]; omega) | ((repeat refine Fresh.push ?_ _); assumption) | (simp only [smA]; done) | (simp [oneCell, AW.next_push]; done) | fail) only [go_sem, Nat.reduceEqDiff, reduceIte, Nat.reduceAdd, Int.toNat_natCast, Nat.add_zero, Owes_true, Tryz.results145, e1, e5, e11, e12, e13, hlt, indexV_eq, a0]
  apply callV_of (e := rfl)
  · exact sumOf_ok W v0 l A L[i] hn w1 g2.2 (hs.grown g2)
  rintro _ w2 ⟨rfl, g3⟩
  have oD3 := oD.keep g3.1
  have hf3 := g3.2
  have happ := append_in (g := prg Tryz.prog) (e' := 3) Tryz.ty22 Tryz.ty3 rfl (by omega) oD3 g3.2 hlt' (by rw [icl_len]; exact partD_len l L i (by omega)) (by omega) (sumAt l L[i])
  rw [icl_set, partD_set l L i hlt'] at happ
  have gP := g3.push (.cells [.int .i64 (sumAt l L[i])] 3 w2.next 0 0)
  have oP := oD3.push (.cells [.int .i64 (sumAt l L[i])] 3 w2.next 0 0)
  have m := MutS.put (S := fun j => j = w.next) gP.2 rfl oP.lt (.cells (icl (partD l L (i + 1))) 3 w.next 0 0)
  have oN := oP.put (icl (partD l L (i + 1)))
  have hgg : Grown w _ := ⟨(g2.trans gP).1.trans (m.keep (fun j q => by omega) (g2.trans gP).1.next), m.fresh⟩
  simp -dsimp -implicitDefEqProofs (maxSteps := 2000000) (disch := first | assumption | omega | (simp only [nx]; omega) | ((repeat refine Fresh.push ?_ _); assumption) | (simp only [smA]; done) | (simp [oneCell, AW.next_push]; done) | fail) only [go_sem, Nat.reduceEqDiff, reduceIte, Nat.reduceAdd, Int.toNat_natCast, Nat.add_zero, Owes_true, Tryz.results145, e1, e5, e11, e12, e13, happ]
  refine ⟨_, by omega, i + 1, by omega, rfl, rfl, by (simp -dsimp -implicitDefEqProofs (maxSteps := 2000000) (disch := first | assumption | omega | (simp only [nx]; omega) | ((repeat refine Fresh.push ?_ _); assumption) | (simp only [smA]; done) | (simp [oneCell, AW.next_push]; done) | fail) only [go_sem, Nat.reduceEqDiff, reduceIte, Nat.reduceAdd, Int.toNat_natCast, Nat.add_zero, Owes_true, e1]; try rfl), by (simp -dsimp -implicitDefEqProofs (maxSteps := 2000000) (disch := first | assumption | omega | (simp only [nx]; omega) | ((repeat refine Fresh.push ?_ _); assumption) | (simp only [smA]; done) | (simp [oneCell, AW.next_push]; done) | fail) only [go_sem, Nat.reduceEqDiff, reduceIte, Nat.reduceAdd, Int.toNat_natCast, Nat.add_zero, Owes_true, e5]; try rfl), by (simp -dsimp -implicitDefEqProofs (maxSteps := 2000000) (disch := first | assumption | omega | (simp only [nx]; omega) | ((repeat refine Fresh.push ?_ _); assumption) | (simp only [smA]; done) | (simp [oneCell, AW.next_push]; done) | fail) only [go_sem, Nat.reduceEqDiff, reduceIte, Nat.reduceAdd, Int.toNat_natCast, Nat.add_zero, Owes_true, e11]; try rfl), by (simp -dsimp -implicitDefEqProofs (maxSteps := 2000000) (disch := first | assumption | omega | (simp only [nx]; omega) | ((repeat refine Fresh.push ?_ _); assumption) | (simp only [smA]; done) | (simp [oneCell, AW.next_push]; done) | fail) only [go_sem, Nat.reduceEqDiff, reduceIte, Nat.reduceAdd, Int.toNat_natCast, Nat.add_zero, Owes_true, e12]; try rfl), by (simp -dsimp -implicitDefEqProofs (maxSteps := 2000000) (disch := first | assumption | omega | (simp only [nx]; omega) | ((repeat refine Fresh.push ?_ _); assumption) | (simp only [smA]; done) | (simp [oneCell, AW.next_push]; done) | fail) only [go_sem, Nat.reduceEqDiff, reduceIte, Nat.reduceAdd, Int.toNat_natCast, Nat.add_zero, Owes_true, e13]; try rfl), oN, hgg⟩
theorem id_gives (w0 : AW) (S : List Int) : Gives w0 100 #[] S fun x => x := fun x _ w g => by
  refine callT_code rfl Tryz.func100 rfl Tryz.s100_eq rfl ?_
  unfold Tryz.s100
  simp -dsimp -implicitDefEqProofs (maxSteps := 2000000) (disch := first | assumption | omega | (simp only [nx]; omega) | ((repeat refine Fresh.push ?_ _); assumption) | (simp only [smA]; done) | (simp [oneCell, AW.next_push]; done) | fail) only [go_sem, Nat.reduceEqDiff, reduceIte, Nat.reduceAdd, Int.toNat_natCast, Nat.add_zero, Owes_true, Tryz.results100]
  exact ⟨rfl, Grown.refl g.2⟩
def greatN (S : List Int) (m : Nat) : Int := ((sortedD S).take m).sum
set_option maxHeartbeats 4000000 in
theorem greatest_ok (W : WatchN) (v0 : Value) (l : List DealN) (A : List Int) (hA : A.length = 24) (L : List Nat) (hN : ∀ n ∈ L, n < l.length) (hlen : L.length ≤ 64) (m : Nat) (v : Value) (w : AW) (f : Fresh w) (hs : ArrOf w 3 dcells v0 l) (hv : ArrOf w 1 icells v (toI L)) (hd : ∀ d ∈ l, dealB d = true) :
    CallT Tryz.prog Tryz.T1 (.fn (.func 118) #[]) #[.agg (deskL W v0 A).toArray, v, .int .i64 (m : Int)] w (Ret (.int .i64 (greatN (L.map (sumAt l)) m)) (Grown w)) := by
  obtain ⟨p0, c0, rfl, _⟩ := id hs.open
  obtain ⟨p, cp, rfl, _⟩ := openN hv
  have gD := (Grown.refl f).push (.cells (deskL W (.slice p0 l.length c0) A) 119 w.next 0 0)
  have oD := Own.new f 119 (deskL W (.slice p0 l.length c0) A)
  have hld := desk_load oD hA
  refine callT_code rfl Tryz.func118 rfl Tryz.s118_eq rfl ?_
  unfold Tryz.s118
  simp -dsimp -implicitDefEqProofs (maxSteps := 2000000) (disch := first | assumption | omega | (simp only [nx]; omega) | ((repeat refine Fresh.push ?_ _); assumption) | (simp only [smA]; done) | (simp [oneCell, AW.next_push]; done) | fail) only [go_sem, Nat.reduceEqDiff, reduceIte, Nat.reduceAdd, Int.toNat_natCast, Nat.add_zero, Owes_true, Tryz.results118, Nat.zero_add, hld]
  apply callV_of (e := rfl)
  · exact each_ok W _ l A L hN hlen _ _ gD.2 (hs.grown gD) (hv.grown gD)
  rintro _ w1 ⟨rfl, oE, g1⟩
  rw [AW.next_push] at oE
  have hlm : (L.map (sumAt l)).length = L.length := List.length_map ..
  obtain ⟨w2, ht, hw2⟩ := sortFT_own (s := Tryz.funcIds) (cap := L.length) oE (by rw [hlm]; omega)
  rw [hlm] at ht
  have o2 : Own w2 (w.next + 1) 3 (icl (sortedD (L.map (sumAt l)))) ∧ Grown w w2 := by
    rcases hw2 with ⟨h0, rfl⟩ | rfl
    · exact ⟨by rw [h0] at oE ⊢; simpa [sortedD] using oE, gD.trans g1⟩
    · have mm := MutS.put (S := fun j => j = w.next + 1) g1.2 rfl oE.lt (.cells ((sortedD (L.map (sumAt l))).map encInt) 3 (w.next + 1) 0 0)
      exact ⟨oE.put _, ⟨(gD.trans g1).1.trans (mm.keep (fun j q => by omega) (gD.trans g1).1.next), mm.fresh⟩⟩
  obtain ⟨o2, g2⟩ := o2
  simp -dsimp -implicitDefEqProofs (maxSteps := 2000000) (disch := first | assumption | omega | (simp only [nx]; omega) | ((repeat refine Fresh.push ?_ _); assumption) | (simp only [smA]; done) | (simp [oneCell, AW.next_push]; done) | fail) only [go_sem, Nat.reduceEqDiff, reduceIte, Nat.reduceAdd, Int.toNat_natCast, Nat.add_zero, Owes_true, Tryz.results118]
  apply callV_of (e := rfl)
  · exact callT_told (Q := fun v w' => v = .tuple #[] ∧ w2 = w') (v := .tuple #[]) (w' := w2) ht ⟨rfl, rfl⟩
  rintro _ _ ⟨rfl, rfl⟩
  obtain ⟨M, hM1, hM2⟩ : ∃ M : Nat, min (m : Int) (L.length : Int) = (M : Int) ∧ M = min m L.length := ⟨min m L.length, by omega, rfl⟩
  have hsl := own_to (a := M) (n := L.length) o2 (by omega)
  have hsl2 := sortedD_len (L.map (sumAt l))
  have harr : ArrOf w2 1 icells (.slice (some ⟨w.next + 1, 0, none⟩) M L.length) ((sortedD (L.map (sumAt l))).take M) := by
    refine ⟨_, M, _, rfl, by simp; omega, by omega, by omega, fun _ => ⟨w.next + 1, 0, rfl, o2.lt, fun i j r x hi hx => ?_⟩⟩
    rw [List.getElem?_map] at hi
    obtain ⟨y, hy, rfl⟩ := Option.map_eq_some_iff.mp hi
    rw [List.getElem?_take] at hy
    split at hy
    case isFalse => cases hy
    have hj : j = 0 := by
      rcases Nat.eq_zero_or_pos j with q | q
      · exact q
      · rw [List.getElem?_eq_none (by simp [icells]; omega)] at hx; cases hx
    subst hj
    simp only [icells, List.getElem?_cons_zero, Option.some.injEq] at hx
    subst hx
    rw [Nat.mul_one, Nat.add_zero, Nat.zero_add]
    exact o2.cell (by simp only [icl, Nat.add_zero, List.getElem?_map, hy, Option.map_some]) rfl
  simp -dsimp -implicitDefEqProofs (maxSteps := 2000000) (disch := first | assumption | omega | (simp only [nx]; omega) | ((repeat refine Fresh.push ?_ _); assumption) | (simp only [smA]; done) | (simp [oneCell, AW.next_push]; done) | fail) only [go_sem, Nat.reduceEqDiff, reduceIte, Nat.reduceAdd, Int.toNat_natCast, Nat.add_zero, Owes_true, Tryz.results118, hM1, hsl]
  have hbd : ∀ x ∈ (sortedD (L.map (sumAt l))).take M, 0 ≤ x ∧ x ≤ 1073741824 := fun x hx => by
    have h1 := List.mem_of_mem_take hx
    unfold sortedD at h1
    rw [List.mem_mergeSort] at h1
    obtain ⟨n, hn, rfl⟩ := List.mem_map.mp h1
    have := sumAt_in hd (hN n hn)
    omega
  apply callV_of (e := rfl)
  · exact total_ok _ (fun x => x) _ 100 #[] w2 g2.2 harr (same_fn0 100) (id_gives _ _) hbd (by rw [List.length_take]; omega)
  rintro _ w3 ⟨rfl, g3⟩
  simp -dsimp -implicitDefEqProofs (maxSteps := 2000000) (disch := first | assumption | omega | (simp only [nx]; omega) | ((repeat refine Fresh.push ?_ _); assumption) | (simp only [smA]; done) | (simp [oneCell, AW.next_push]; done) | fail) only [go_sem, Nat.reduceEqDiff, reduceIte, Nat.reduceAdd, Int.toNat_natCast, Nat.add_zero, Owes_true, Tryz.results118]
  refine ⟨?_, g2.trans g3⟩
  have ht : (sortedD (L.map (sumAt l))).take M = (sortedD (L.map (sumAt l))).take m := by
    rcases Nat.le_total m L.length with q | q
    · rw [hM2, Nat.min_eq_left q]
    · rw [hM2, Nat.min_eq_right q, List.take_of_length_le (by rw [hsl2, hlm]; exact Nat.le_refl _), List.take_of_length_le (by rw [hsl2, hlm]; exact q)]
  unfold greatN
  rw [ht, List.map_id']
end Go.Proofs

namespace Go.Proofs
open Go Go.RowKit Go.Sim
set_option maxRecDepth 100000
theorem perm_sum {a b : List Int} (h : a.Perm b) : a.sum = b.sum := by
  induction h with
  | nil => rfl
  | cons x _ ih => simp only [List.sum_cons, ih]
  | swap x y l => simp only [List.sum_cons]; omega
  | trans _ _ ih1 ih2 => exact ih1.trans ih2
theorem sortedD_perm (S : List Int) : (sortedD S).Perm S := List.mergeSort_perm _ _
theorem greatN_all (S : List Int) : greatN S S.length = S.sum := by
  unfold greatN
  rw [List.take_of_length_le (by rw [sortedD_len]; exact Nat.le_refl _)]
  exact perm_sum (sortedD_perm S)
theorem sum_in {B : Int} : ∀ {S : List Int}, (∀ x ∈ S, 0 ≤ x ∧ x ≤ B) → 0 ≤ S.sum ∧ S.sum ≤ (S.length : Int) * B
  | [], _ => by simp
  | a :: S, h => by
    have ih := sum_in (S := S) fun x hx => h x (List.mem_cons_of_mem _ hx)
    have ha := h a List.mem_cons_self
    rw [List.sum_cons, List.length_cons, show ((S.length + 1 : Nat) : Int) = (S.length : Int) + 1 from by omega, Int.add_mul, Int.one_mul]
    omega
theorem greatN_in {S : List Int} (h : ∀ x ∈ S, 0 ≤ x ∧ x ≤ 1073741824) (hl : S.length ≤ 64) (m : Nat) : 0 ≤ greatN S m ∧ greatN S m ≤ 68719476736 := by
  have := sum_in (B := 1073741824) (S := (sortedD S).take m) fun x hx => h x ((sortedD_perm S).mem_iff.mp (List.mem_of_mem_take hx))
  have h2 : ((sortedD S).take m).length ≤ 64 := by
    have := List.length_take_le m (sortedD S)
    have := List.length_take_le' m (sortedD S)
    rw [sortedD_len] at this; omega
  unfold greatN; omega
theorem same_deskN (k : Nat) (W : WatchN) (p : Option Addr) (n c : Nat) (A : List Int) : same (k + 2) (.agg (deskL W (.slice p n c) A).toArray) (.agg (deskL W (.slice p n c) A).toArray) = true := by
  have h1 : ∀ x : Int, same (k + 1) (.int .i64 x) (.int .i64 x) = true := fun x => by
    show intEq x x = true
    rw [intEq_eq]; simp
  have h2 : same (k + 1) (.slice p n c) (.slice p n c) = true := by
    have := same_sliceP p n c
    cases p with
    | none => exact this
    | some a => obtain ⟨b, o, s⟩ := a; cases s <;> exact this
  show same.all (k + 1) (deskL W (.slice p n c) A).toArray.toList (deskL W (.slice p n c) A).toArray.toList = true
  simp only [List.toList_toArray, deskL, same.all, h1, h2, Bool.true_and]
  exact same_iclN k A
theorem same_deskF (f : Nat) (W : WatchN) (p : Option Addr) (n c : Nat) (A : List Int) : same 12 (.func (.func f) #[.agg (deskL W (.slice p n c) A).toArray] #[]) (.func (.func f) #[.agg (deskL W (.slice p n c) A).toArray] #[]) = true := by
  have h := same_deskN 9 W p n c A
  show (Nat.beq f f && same.all 11 [.agg (deskL W (.slice p n c) A).toArray] [.agg (deskL W (.slice p n c) A).toArray] && same.all 11 [] []) = true
  rw [Nat.beq_refl]
  show (true && (same 11 _ _ && true) && true) = true
  rw [h]; rfl
theorem aown_low {B : Nat} {w : AW} {e : TypeId} {size n : Nat} {v : Value} {cells : List Value} (h : AOwn B w e size v n cells) : AOwn 0 w e size v n cells := by
  rcases h with h | ⟨b, r, a1, a2, a3, a4, a5, a6, a7, a9, a8⟩
  · exact .inl h
  · exact .inr ⟨b, r, a1, Nat.zero_le _, a3, Nat.zero_le _, a5, a6, a7, a9, fun j hj => ⟨Nat.zero_le _, (a8 j hj).2⟩⟩
theorem row_drop {w : AW} {v : Value} {L : List Nat} {a : Nat} (h : RowN w v L) (h1 : 1 ≤ L.length) (ha : a ≤ L.length) (hl : L.length ≤ 64) :
    ∃ b, v = .slice (some ⟨b, 0, none⟩) L.length L.length ∧ sliceV w 1 v (some (.int .i64 (a : Int))) none = some (.slice (some ⟨b, a, none⟩) (L.length - a) (L.length - a)) ∧ ArrOf w 1 icells (.slice (some ⟨b, a, none⟩) (L.length - a) (L.length - a)) (toI (L.drop a)) := by
  have hr := row_from (a := a) h (by rw [toI_len]; exact h1) (by rw [toI_len]; exact ha)
  rw [toI_len] at hr
  obtain ⟨b, rfl, hs⟩ := hr
  refine ⟨b, rfl, hs, ?_⟩
  have hA := h.arr hl
  obtain ⟨p, n, cap, e, hn, hc, hm, hat⟩ := hA
  injection e with e1 e2 e3
  subst e1 e2 e3
  refine ⟨_, _, _, rfl, by rw [List.length_map, toI_len, List.length_drop], Nat.le_refl _, by omega, fun hpos => ?_⟩
  obtain ⟨b', o', e, hb, hcell⟩ := hat (by omega)
  injection e with e
  injection e with e1 e2
  subst e1 e2
  refine ⟨b, a, rfl, hb, fun i j r x hi hx => ?_⟩
  have hi' : (List.map icells (toI L))[a + i]? = some r := by
    rw [← hi, List.getElem?_map, List.getElem?_map]
    congr 1
    unfold toI
    rw [List.map_drop, List.getElem?_drop]
  have := hcell (a + i) j r x hi' hx
  rw [show 0 + (a + i) * 1 + j = a + i * 1 + j by omega] at this
  exact this
def chooseR (l : List DealN) (sum : Int) (m : Nat) : List Nat → List Nat → List Nat
  | ch, [] => ch
  | ch, x :: rest => if m ≤ ch.length then ch else if sum ≤ (ch.map (sumAt l)).sum + sumAt l x + greatN (rest.map (sumAt l)) (m - ch.length - 1) then chooseR l sum m (ch ++ [x]) rest else chooseR l sum m ch rest
structure FewM (S : List Int) (sum : Int) (m : Nat) : Prop where
  pos : 1 ≤ m
  le : m ≤ S.length
  ok : sum ≤ greatN S m
  not : ∀ j, 1 ≤ j → j < m → greatN S j < sum
theorem FewM.one {S : List Int} {sum : Int} {m n : Nat} (h : FewM S sum m) (k : FewM S sum n) : m = n := by
  rcases Nat.lt_trichotomy m n with q | q | q
  · have := k.not m h.pos q; have := h.ok; omega
  · exact q
  · have := h.not n k.pos q; have := k.ok; omega
set_option maxHeartbeats 16000000 in
theorem fewest_ok (W : WatchN) (v0 : Value) (l : List DealN) (A : List Int) (hA : A.length = 24) (hW : watchB W = true) (L : List Nat) (hN : ∀ n ∈ L, n < l.length) (hlen : L.length ≤ 64) (v : Value) (w : AW) (f : Fresh w) (hs : ArrOf w 3 dcells v0 l) (hv : RowN w v L) (hd : ∀ d ∈ l, dealB d = true) (hsum : W.sum ≤ (L.map (sumAt l)).sum) :
    CallT Tryz.prog Tryz.T1 (.fn (.func 81) #[]) #[.agg (deskL W v0 A).toArray, v] w (fun r w' => ∃ (m : Nat) (p : Option Addr) (n c : Nat), FewM (L.map (sumAt l)) W.sum m ∧ r = .slice p n c ∧ RowN w' (.slice p n c) (chooseR l W.sum m [] L) ∧ (∀ x ∈ chooseR l W.sum m [] L, x ∈ L) ∧ Grown w w') := by
  obtain ⟨p0, c0, rfl, _⟩ := id hs.open
  have hW' := hW
  simp only [watchB, Bool.and_eq_true, inR_iff] at hW'
  have hL1 : 1 ≤ L.length := by
    rcases Nat.eq_zero_or_pos L.length with q | q
    · rw [List.length_eq_zero_iff.mp q] at hsum; simp at hsum; omega
    · exact q
  obtain ⟨bv, rfl, _⟩ := row_drop (a := 0) hv hL1 (Nat.zero_le _) hlen
  have gD := (Grown.refl f).push (.cells (deskL W (.slice p0 l.length c0) A) 119 w.next 0 0)
  have oD := Own.new f 119 (deskL W (.slice p0 l.length c0) A)
  have hsm := same_desk W p0 l.length c0 A
  have hsf := same_deskF 117 W p0 l.length c0 A
  have hS : ∀ x ∈ L.map (sumAt l), 0 ≤ x ∧ x ≤ 1073741824 := fun x hx => by
    obtain ⟨n, hn, rfl⟩ := List.mem_map.mp hx
    have := sumAt_in hd (hN n hn); omega
  have hSl : (L.map (sumAt l)).length = L.length := List.length_map ..
  have hall := greatN_all (L.map (sumAt l))
  rw [hSl] at hall
  refine callT_code rfl Tryz.func81 rfl Tryz.s81_eq rfl ?_
  unfold Tryz.s81
  simp -dsimp -implicitDefEqProofs (maxSteps := 2000000) (disch := first | assumption | omega | (simp only [nx]; omega) | ((repeat refine Fresh.push ?_ _); assumption) | (simp only [smA]; done) | (simp [oneCell, AW.next_push]; done) | fail) only [go_sem, Nat.reduceEqDiff, reduceIte, Nat.reduceAdd, Int.toNat_natCast, Nat.add_zero, Owes_true, Tryz.results81]
  refine loopR (fun k t ds w1 => ∃ i : Nat, i ≤ L.length ∧ k = L.length - i ∧ ds = [] ∧ ev t (.tmp 1) = .slice (some ⟨bv, 0, none⟩) L.length L.length ∧ ev t (.tmp 2) = .pointer (some ⟨w.next, 0, none⟩) ∧ ev t (.tmp 5) = .int .i64 ((i : Int) + 1) ∧ i < L.length ∧ (∀ j, 1 ≤ j → j ≤ i → greatN (L.map (sumAt l)) j < W.sum) ∧ Own w1 w.next 119 (deskL W (.slice p0 l.length c0) A) ∧ Grown w w1) (L.length) ?_ ?_
  · refine ⟨0, by omega, by omega, rfl, ?_, ?_, ?_, hL1, (fun j h1 h2 => absurd h1 (by omega)), oD, gD⟩ <;> simp -dsimp -implicitDefEqProofs (maxSteps := 2000000) (disch := first | assumption | omega | (simp only [nx]; omega) | ((repeat refine Fresh.push ?_ _); assumption) | (simp only [smA]; done) | (simp [oneCell, AW.next_push]; done) | fail) only [go_sem, Nat.reduceEqDiff, reduceIte, Nat.reduceAdd, Int.toNat_natCast, Nat.add_zero, Owes_true] <;> rfl
  rintro k t ds w1 ⟨i, hii, rfl, rfl, e1, e2, e5, hi1, hno, o1, g1⟩
  have hld := desk_load o1 hA
  have d1 := o1.cell (o := 1) rfl rfl
  have hgr := greatN_in hS (by rw [hSl]; exact hlen) (i + 1)
  have hcall := greatest_ok W _ l A hA L hN hlen (i + 1) _ w1 g1.2 (hs.grown g1) ((hv.grown g1).arr hlen) hd
  rw [show ((i + 1 : Nat) : Int) = (i : Int) + 1 from by omega] at hcall
  simp -dsimp -implicitDefEqProofs (maxSteps := 2000000) (disch := first | assumption | omega | (simp only [nx]; omega) | ((repeat refine Fresh.push ?_ _); assumption) | (simp only [smA]; done) | (simp [oneCell, AW.next_push]; done) | fail) only [go_sem, Nat.reduceEqDiff, reduceIte, Nat.reduceAdd, Int.toNat_natCast, Nat.add_zero, Owes_true, Tryz.results81, e1, e2, e5, Nat.zero_add, d1, hld, hsm]
  apply callV_of (e := rfl)
  · exact hcall
  rintro _ w2 ⟨rfl, g2⟩
  have hle := g2.1.wle g1.2
  by_cases hc : greatN (L.map (sumAt l)) (i + 1) < W.sum
  · have hne : i + 1 < L.length := by
      rcases Nat.lt_or_ge (i + 1) L.length with q | q
      · exact q
      · have : i + 1 = L.length := by omega
        rw [this, hall] at hc; omega
    simp -dsimp -implicitDefEqProofs (maxSteps := 2000000) (disch := first | assumption | omega | (simp only [nx]; omega) | ((repeat refine Fresh.push ?_ _); assumption) | (simp only [smA]; done) | (simp [oneCell, AW.next_push]; done) | fail) only [go_sem, Nat.reduceEqDiff, reduceIte, Nat.reduceAdd, Int.toNat_natCast, Nat.add_zero, Owes_true, Tryz.results81, e1, e2, e5, hle, hc]
    refine ⟨_, by omega, i + 1, by omega, rfl, rfl, by (simp -dsimp -implicitDefEqProofs (maxSteps := 2000000) (disch := first | assumption | omega | (simp only [nx]; omega) | ((repeat refine Fresh.push ?_ _); assumption) | (simp only [smA]; done) | (simp [oneCell, AW.next_push]; done) | fail) only [go_sem, Nat.reduceEqDiff, reduceIte, Nat.reduceAdd, Int.toNat_natCast, Nat.add_zero, Owes_true, e1]; try rfl), by (simp -dsimp -implicitDefEqProofs (maxSteps := 2000000) (disch := first | assumption | omega | (simp only [nx]; omega) | ((repeat refine Fresh.push ?_ _); assumption) | (simp only [smA]; done) | (simp [oneCell, AW.next_push]; done) | fail) only [go_sem, Nat.reduceEqDiff, reduceIte, Nat.reduceAdd, Int.toNat_natCast, Nat.add_zero, Owes_true, e2]; try rfl), by (simp -dsimp -implicitDefEqProofs (maxSteps := 2000000) (disch := first | assumption | omega | (simp only [nx]; omega) | ((repeat refine Fresh.push ?_ _); assumption) | (simp only [smA]; done) | (simp [oneCell, AW.next_push]; done) | fail) only [go_sem, Nat.reduceEqDiff, reduceIte, Nat.reduceAdd, Int.toNat_natCast, Nat.add_zero, Owes_true, e5]; try rfl), hne, (fun j h1 h2 => by rcases Nat.lt_or_ge j (i + 1) with q | q; exact hno j h1 (by omega); rw [show j = i + 1 by omega]; exact hc), o1.keep g2.1, g1.trans g2⟩
  have hfm : FewM (L.map (sumAt l)) W.sum (i + 1) := ⟨by omega, by rw [hSl]; omega, by omega, fun j h1 h2 => hno j h1 (by omega)⟩
  have oD2 := o1.keep g2.1
  have gg2 := g1.trans g2
  simp -dsimp -implicitDefEqProofs (maxSteps := 2000000) (disch := first | assumption | omega | (simp only [nx]; omega) | ((repeat refine Fresh.push ?_ _); assumption) | (simp only [smA]; done) | (simp [oneCell, AW.next_push]; done) | fail) only [go_sem, Nat.reduceEqDiff, reduceIte, Nat.reduceAdd, Int.toNat_natCast, Nat.add_zero, Owes_true, Tryz.results81, e1, e2, e5, hle, hc]
  generalize hm : i + 1 = m at *
  have hmI : (i : Int) + 1 = (m : Int) := by omega
  refine loopR (fun k t ds w5 => ∃ q : Nat, q ≤ L.length ∧ k = L.length - q ∧ ds = [] ∧ ev t (.tmp 1) = .slice (some ⟨bv, 0, none⟩) L.length L.length ∧ ev t (.tmp 2) = .pointer (some ⟨w.next, 0, none⟩) ∧ ev t (.tmp 5) = .int .i64 (m : Int) ∧ ev t (.tmp 20) = .slice (some ⟨bv, 0, none⟩) L.length L.length ∧ ev t (.tmp 21) = .int .i64 (L.length : Int) ∧ ev t (.tmp 22) = .int .i64 (q : Int) ∧ ∃ (ch : List Nat) (p6 : Option Addr) (n6 c6 : Nat), ev t (.tmp 6) = .slice p6 n6 c6 ∧ AOwn (w.next + 1) w5 3 1 (.slice p6 n6 c6) (toI ch).length ((toI ch).flatMap icells) ∧ chooseR l W.sum m ch (L.drop q) = chooseR l W.sum m [] L ∧ (∀ x ∈ ch, x ∈ L) ∧ ch.length ≤ q ∧ Own w5 w.next 119 (deskL W (.slice p0 l.length c0) A) ∧ Grown w w5) (L.length) ?_ ?_
  · refine ⟨0, by omega, by omega, rfl, ?_, ?_, ?_, ?_, ?_, ?_, [], none, 0, 0, (by simp -dsimp -implicitDefEqProofs (maxSteps := 2000000) (disch := first | assumption | omega | (simp only [nx]; omega) | ((repeat refine Fresh.push ?_ _); assumption) | (simp only [smA]; done) | (simp [oneCell, AW.next_push]; done) | fail) only [go_sem, Nat.reduceEqDiff, reduceIte, Nat.reduceAdd, Int.toNat_natCast, Nat.add_zero, Owes_true]; try rfl), .inl ⟨rfl, rfl, rfl⟩, rfl, (fun _ h => by simp at h), Nat.le_refl _, oD2, gg2⟩ <;> simp -dsimp -implicitDefEqProofs (maxSteps := 2000000) (disch := first | assumption | omega | (simp only [nx]; omega) | ((repeat refine Fresh.push ?_ _); assumption) | (simp only [smA]; done) | (simp [oneCell, AW.next_push]; done) | fail) only [go_sem, Nat.reduceEqDiff, reduceIte, Nat.reduceAdd, Int.toNat_natCast, Nat.add_zero, Owes_true, e1, e2, e5, hmI] <;> rfl
  rintro k t ds w5 ⟨q, hiq, rfl, rfl, e1, e2, e5, e20, e21, e22, ch, p6, n6, c6, e6, hR, hch, hin, hcl, o5, g5⟩
  have hRl : n6 = ch.length := by
    rcases hR with ⟨h1, h2, _⟩ | ⟨b, r, h1, _⟩
    · injection h1 with _ h1 _; rw [toI_len] at h2; omega
    · injection h1 with _ h1 _; rw [toI_len] at h1; exact h1
  subst hRl
  have done : ∀ (X : List Nat), chooseR l W.sum m [] L = X → X = ch → RowN w5 (.slice p6 ch.length c6) (chooseR l W.sum m [] L) ∧ (∀ x ∈ chooseR l W.sum m [] L, x ∈ L) := fun X h1 h2 => by
    rw [h1, h2]; exact ⟨aown_low hR, hin⟩
  by_cases hlt : (q : Int) < (L.length : Int)
  case neg =>
    obtain rfl : q = L.length := by omega
    rw [List.drop_length] at hch
    obtain ⟨r1, r2⟩ := done _ hch.symm rfl
    simp -dsimp -implicitDefEqProofs (maxSteps := 2000000) (disch := first | assumption | omega | (simp only [nx]; omega) | ((repeat refine Fresh.push ?_ _); assumption) | (simp only [smA]; done) | (simp [oneCell, AW.next_push]; done) | fail) only [go_sem, Nat.reduceEqDiff, reduceIte, Nat.reduceAdd, Int.toNat_natCast, Nat.add_zero, Owes_true, Tryz.results81, e1, e2, e5, e6, e20, e21, e22, hlt]
    exact ⟨m, p6, ch.length, c6, hfm, rfl, r1, r2, g5⟩
  have hlt' : q < L.length := by omega
  have hA5 := (hv.grown g5).arr hlen
  obtain ⟨px, cx, ex, _, _, hat⟩ := openN hA5
  injection ex with ex1 ex2 ex3
  subst ex1 ex3
  obtain ⟨b1, o1, hbo, hb1, hcell⟩ := hat q hlt'
  injection hbo with hbo
  injection hbo with hb2 hb3
  subst hb2 hb3
  have a0 := hcell w5 (.refl _ _)
  rw [Nat.zero_add] at a0
  rw [List.drop_eq_getElem_cons hlt'] at hch
  have hn := hN _ (List.getElem_mem hlt')
  have hmem := List.getElem_mem hlt'
  by_cases hot : (m : Int) - (ch.length : Int) - 1 < 0
  · have hx : chooseR l W.sum m ch (L[q] :: L.drop (q + 1)) = ch := by
      show (if m ≤ ch.length then ch else _) = ch
      rw [if_pos (by omega)]
    rw [hx] at hch
    obtain ⟨r1, r2⟩ := done _ hch.symm rfl
    simp -dsimp -implicitDefEqProofs (maxSteps := 2000000) (disch := first | assumption | omega | (simp only [nx]; omega) | ((repeat refine Fresh.push ?_ _); assumption) | (simp only [smA]; done) | (simp [oneCell, AW.next_push]; done) | fail) only [go_sem, Nat.reduceEqDiff, reduceIte, Nat.reduceAdd, Int.toNat_natCast, Nat.add_zero, Owes_true, Tryz.results81, e1, e2, e5, e6, e20, e21, e22, hlt, indexV_eq, Nat.zero_add, a0, hot]
    exact ⟨m, p6, ch.length, c6, hfm, rfl, r1, r2, g5⟩
  have hld5 := desk_load o5 hA
  have d51 := o5.cell (o := 1) rfl rfl
  obtain ⟨bv2, ebv, hsl, hAd⟩ := row_drop (a := q + 1) (hv.grown g5) hL1 (by omega) hlen
  injection ebv with ebv _ _
  injection ebv with ebv
  injection ebv with ebv _
  subst ebv
  rw [show ((q + 1 : Nat) : Int) = (q : Int) + 1 from by omega] at hsl
  have hRA : ArrOf w5 1 icells (.slice p6 ch.length c6) (toI ch) := RowN.arr (aown_low hR) (by omega)
  have hchN : ∀ n ∈ ch, n < l.length := fun n h => hN n (hin n h)
  have hb1 := sums_in hd hchN ch.length (Nat.le_refl _)
  rw [List.take_of_length_le (Nat.le_refl _)] at hb1
  have hb2 := sumAt_in hd hn
  have hSd : ∀ x ∈ (L.drop (q + 1)).map (sumAt l), 0 ≤ x ∧ x ≤ 1073741824 := fun x hx => by
    obtain ⟨n, hn, rfl⟩ := List.mem_map.mp hx
    have := sumAt_in hd (hN n (List.mem_of_mem_drop hn)); omega
  have hb3 := greatN_in hSd (by rw [List.length_map, List.length_drop]; omega) (m - ch.length - 1)
  obtain ⟨ot, hot2, hot3⟩ : ∃ ot : Nat, (m : Int) - (ch.length : Int) - 1 = (ot : Int) ∧ ot = m - ch.length - 1 := ⟨m - ch.length - 1, by omega, rfl⟩
  have hot4 : ¬ (ot : Int) < 0 := by omega
  simp -dsimp -implicitDefEqProofs (maxSteps := 2000000) (disch := first | assumption | omega | (simp only [nx]; omega) | ((repeat refine Fresh.push ?_ _); assumption) | (simp only [smA]; done) | (simp [oneCell, AW.next_push]; done) | fail) only [go_sem, Nat.reduceEqDiff, reduceIte, Nat.reduceAdd, Int.toNat_natCast, Nat.add_zero, Owes_true, Tryz.results81, e1, e2, e5, e6, e20, e21, e22, hlt, indexV_eq, a0, hot2, hot4, Nat.zero_add, d51, hld5, hsm, hsf, hsl]
  apply callV_of (e := rfl)
  · exact totalD_ok W _ l A ch hchN (by omega) _ w5 g5.2 (hs.grown g5) hRA hd
  rintro _ w6 ⟨rfl, g6⟩
  have hle6 := g6.1.wle g5.2
  simp -dsimp -implicitDefEqProofs (maxSteps := 2000000) (disch := first | assumption | omega | (simp only [nx]; omega) | ((repeat refine Fresh.push ?_ _); assumption) | (simp only [smA]; done) | (simp [oneCell, AW.next_push]; done) | fail) only [go_sem, Nat.reduceEqDiff, reduceIte, Nat.reduceAdd, Int.toNat_natCast, Nat.add_zero, Owes_true, hle6]
  apply callV_of (e := rfl)
  · exact sumOf_ok W _ l A L[q] hn w6 g6.2 (hs.grown (g5.trans g6))
  rintro _ w7 ⟨rfl, g7⟩
  have hle7 := g7.1.wle g6.2
  have g67 := g6.trans g7
  simp -dsimp -implicitDefEqProofs (maxSteps := 2000000) (disch := first | assumption | omega | (simp only [nx]; omega) | ((repeat refine Fresh.push ?_ _); assumption) | (simp only [smA]; done) | (simp [oneCell, AW.next_push]; done) | fail) only [go_sem, Nat.reduceEqDiff, reduceIte, Nat.reduceAdd, Int.toNat_natCast, Nat.add_zero, Owes_true, hle7]
  apply callV_of (e := rfl)
  · exact greatest_ok W _ l A hA (L.drop (q + 1)) (fun n h => hN n (List.mem_of_mem_drop h)) (by rw [List.length_drop]; omega) ot _ w7 g7.2 (hs.grown (g5.trans g67)) (hAd.grown g67) hd
  rintro _ w8 ⟨rfl, g8⟩
  have hle8 := g8.1.wle g7.2
  have g68 := g67.trans g8
  rw [← hot3] at hb3
  have hch2 : chooseR l W.sum m ch (L[q] :: L.drop (q + 1)) = if W.sum ≤ (ch.map (sumAt l)).sum + sumAt l L[q] + greatN ((L.drop (q + 1)).map (sumAt l)) ot then chooseR l W.sum m (ch ++ [L[q]]) (L.drop (q + 1)) else chooseR l W.sum m ch (L.drop (q + 1)) := by
    show (if m ≤ ch.length then ch else _) = _
    rw [if_neg (by omega), hot3]
  rw [hch2] at hch
  have hR8 := AOwn.keep hR g68.1 (Nat.le_refl _)
  have o8 := o5.keep g68.1
  have g58 := g5.trans g68
  generalize (ch.map (sumAt l)).sum = S1 at *
  generalize hS2 : sumAt l L[q] = S2 at *
  generalize greatN ((L.drop (q + 1)).map (sumAt l)) ot = S3 at *
  by_cases hge : W.sum ≤ S1 + S2 + S3
  · rw [if_pos hge] at hch
    have hdg : decide (S1 + S2 + S3 ≥ W.sum) = true := decide_eq_true hge
    have hn8 : w.next + 1 ≤ _ := Nat.le_trans o8.lt (Nat.le_refl _)
    obtain ⟨u9, w9, happ, hR9, hk9, hf9, hn9, _⟩ := append_one (e' := 3) Tryz.ty22 Tryz.ty3 rfl (by omega) (by omega) hR8 g68.2 hn8 (icells_len (L[q] : Int)) (icells_one _) (by rw [toI_len]; omega)
    simp only [icells] at happ
    obtain ⟨p9, n9, c9, rfl⟩ : ∃ x y z, u9 = .slice x y z := by rcases hR9 with ⟨rfl, _⟩ | ⟨_, _, rfl, _⟩ <;> exact ⟨_, _, _, rfl⟩
    have hR9' : AOwn (w.next + 1) w9 3 1 (.slice p9 n9 c9) (toI (ch ++ [L[q]])).length ((toI (ch ++ [L[q]])).flatMap icells) := by
      rw [toI_add, List.length_append, List.flatMap_append]
      exact hR9
    have hf8 := g68.2
    have o9 := o8.keepC hk9 (by omega)
    simp -dsimp -implicitDefEqProofs (maxSteps := 2000000) (disch := first | assumption | omega | (simp only [nx]; omega) | ((repeat refine Fresh.push ?_ _); assumption) | (simp only [smA]; done) | (simp [oneCell, AW.next_push]; done) | fail) only [go_sem, Nat.reduceEqDiff, reduceIte, Nat.reduceAdd, Int.toNat_natCast, Nat.add_zero, Owes_true, Tryz.results81, e1, e2, e5, e6, e20, e21, e22, hle8, hdg, happ]
    refine ⟨_, by omega, q + 1, by omega, rfl, rfl, by (simp -dsimp -implicitDefEqProofs (maxSteps := 2000000) (disch := first | assumption | omega | (simp only [nx]; omega) | ((repeat refine Fresh.push ?_ _); assumption) | (simp only [smA]; done) | (simp [oneCell, AW.next_push]; done) | fail) only [go_sem, Nat.reduceEqDiff, reduceIte, Nat.reduceAdd, Int.toNat_natCast, Nat.add_zero, Owes_true, e1]; try rfl), by (simp -dsimp -implicitDefEqProofs (maxSteps := 2000000) (disch := first | assumption | omega | (simp only [nx]; omega) | ((repeat refine Fresh.push ?_ _); assumption) | (simp only [smA]; done) | (simp [oneCell, AW.next_push]; done) | fail) only [go_sem, Nat.reduceEqDiff, reduceIte, Nat.reduceAdd, Int.toNat_natCast, Nat.add_zero, Owes_true, e2]; try rfl), by (simp -dsimp -implicitDefEqProofs (maxSteps := 2000000) (disch := first | assumption | omega | (simp only [nx]; omega) | ((repeat refine Fresh.push ?_ _); assumption) | (simp only [smA]; done) | (simp [oneCell, AW.next_push]; done) | fail) only [go_sem, Nat.reduceEqDiff, reduceIte, Nat.reduceAdd, Int.toNat_natCast, Nat.add_zero, Owes_true, e5]; try rfl), by (simp -dsimp -implicitDefEqProofs (maxSteps := 2000000) (disch := first | assumption | omega | (simp only [nx]; omega) | ((repeat refine Fresh.push ?_ _); assumption) | (simp only [smA]; done) | (simp [oneCell, AW.next_push]; done) | fail) only [go_sem, Nat.reduceEqDiff, reduceIte, Nat.reduceAdd, Int.toNat_natCast, Nat.add_zero, Owes_true, e20]; try rfl), by (simp -dsimp -implicitDefEqProofs (maxSteps := 2000000) (disch := first | assumption | omega | (simp only [nx]; omega) | ((repeat refine Fresh.push ?_ _); assumption) | (simp only [smA]; done) | (simp [oneCell, AW.next_push]; done) | fail) only [go_sem, Nat.reduceEqDiff, reduceIte, Nat.reduceAdd, Int.toNat_natCast, Nat.add_zero, Owes_true, e21]; try rfl), by (simp -dsimp -implicitDefEqProofs (maxSteps := 2000000) (disch := first | assumption | omega | (simp only [nx]; omega) | ((repeat refine Fresh.push ?_ _); assumption) | (simp only [smA]; done) | (simp [oneCell, AW.next_push]; done) | fail) only [go_sem, Nat.reduceEqDiff, reduceIte, Nat.reduceAdd, Int.toNat_natCast, Nat.add_zero, Owes_true, e22]; try rfl), ch ++ [L[q]], p9, n9, c9, (by simp -dsimp -implicitDefEqProofs (maxSteps := 2000000) (disch := first | assumption | omega | (simp only [nx]; omega) | ((repeat refine Fresh.push ?_ _); assumption) | (simp only [smA]; done) | (simp [oneCell, AW.next_push]; done) | fail) only [go_sem, Nat.reduceEqDiff, reduceIte, Nat.reduceAdd, Int.toNat_natCast, Nat.add_zero, Owes_true]; try rfl), hR9', hch, (fun x hx => by rcases List.mem_append.mp hx with h | h; exact hin x h; simp at h; subst h; exact hmem), (by rw [List.length_append]; simp; omega), o9, ⟨g58.1.trans (hk9.mono (by omega)), hf9⟩⟩
  · rw [if_neg hge] at hch
    have hdg : decide (S1 + S2 + S3 ≥ W.sum) = false := decide_eq_false hge
    simp -dsimp -implicitDefEqProofs (maxSteps := 2000000) (disch := first | assumption | omega | (simp only [nx]; omega) | ((repeat refine Fresh.push ?_ _); assumption) | (simp only [smA]; done) | (simp [oneCell, AW.next_push]; done) | fail) only [go_sem, Nat.reduceEqDiff, reduceIte, Nat.reduceAdd, Int.toNat_natCast, Nat.add_zero, Owes_true, Tryz.results81, e1, e2, e5, e6, e20, e21, e22, hle8, hdg]
    refine ⟨_, by omega, q + 1, by omega, rfl, rfl, by (simp -dsimp -implicitDefEqProofs (maxSteps := 2000000) (disch := first | assumption | omega | (simp only [nx]; omega) | ((repeat refine Fresh.push ?_ _); assumption) | (simp only [smA]; done) | (simp [oneCell, AW.next_push]; done) | fail) only [go_sem, Nat.reduceEqDiff, reduceIte, Nat.reduceAdd, Int.toNat_natCast, Nat.add_zero, Owes_true, e1]; try rfl), by (simp -dsimp -implicitDefEqProofs (maxSteps := 2000000) (disch := first | assumption | omega | (simp only [nx]; omega) | ((repeat refine Fresh.push ?_ _); assumption) | (simp only [smA]; done) | (simp [oneCell, AW.next_push]; done) | fail) only [go_sem, Nat.reduceEqDiff, reduceIte, Nat.reduceAdd, Int.toNat_natCast, Nat.add_zero, Owes_true, e2]; try rfl), by (simp -dsimp -implicitDefEqProofs (maxSteps := 2000000) (disch := first | assumption | omega | (simp only [nx]; omega) | ((repeat refine Fresh.push ?_ _); assumption) | (simp only [smA]; done) | (simp [oneCell, AW.next_push]; done) | fail) only [go_sem, Nat.reduceEqDiff, reduceIte, Nat.reduceAdd, Int.toNat_natCast, Nat.add_zero, Owes_true, e5]; try rfl), by (simp -dsimp -implicitDefEqProofs (maxSteps := 2000000) (disch := first | assumption | omega | (simp only [nx]; omega) | ((repeat refine Fresh.push ?_ _); assumption) | (simp only [smA]; done) | (simp [oneCell, AW.next_push]; done) | fail) only [go_sem, Nat.reduceEqDiff, reduceIte, Nat.reduceAdd, Int.toNat_natCast, Nat.add_zero, Owes_true, e20]; try rfl), by (simp -dsimp -implicitDefEqProofs (maxSteps := 2000000) (disch := first | assumption | omega | (simp only [nx]; omega) | ((repeat refine Fresh.push ?_ _); assumption) | (simp only [smA]; done) | (simp [oneCell, AW.next_push]; done) | fail) only [go_sem, Nat.reduceEqDiff, reduceIte, Nat.reduceAdd, Int.toNat_natCast, Nat.add_zero, Owes_true, e21]; try rfl), by (simp -dsimp -implicitDefEqProofs (maxSteps := 2000000) (disch := first | assumption | omega | (simp only [nx]; omega) | ((repeat refine Fresh.push ?_ _); assumption) | (simp only [smA]; done) | (simp [oneCell, AW.next_push]; done) | fail) only [go_sem, Nat.reduceEqDiff, reduceIte, Nat.reduceAdd, Int.toNat_natCast, Nat.add_zero, Owes_true, e22]; try rfl), ch, p6, ch.length, c6, (by simp -dsimp -implicitDefEqProofs (maxSteps := 2000000) (disch := first | assumption | omega | (simp only [nx]; omega) | ((repeat refine Fresh.push ?_ _); assumption) | (simp only [smA]; done) | (simp [oneCell, AW.next_push]; done) | fail) only [go_sem, Nat.reduceEqDiff, reduceIte, Nat.reduceAdd, Int.toNat_natCast, Nat.add_zero, Owes_true, e6]; try rfl), hR8, hch, hin, (by omega), o8, g58⟩
end Go.Proofs

namespace Go.Proofs
open Go Go.RowKit Go.Sim
set_option maxRecDepth 100000
theorem Tryz.sl115 (t : Tmps) (w : AW) (x : Operand) : fast (prg Tryz.prog) t w (.slice 115 x none none none) = slicePV 24 1 (ev t x) none none := by
  simp only [fast, Tryz.ty115, Tryz.ty3, Option.map]
theorem slicePV_24 (b : Nat) : slicePV 24 1 (.pointer (some ⟨b, 0, none⟩)) none none = some (.slice (some ⟨b, 0, none⟩) 24 24) := rfl
attribute [go_sem] Tryz.sl115 slicePV_24
theorem same_icl12 (A : List Int) : same 12 (.agg (icl A).toArray) (.agg (icl A).toArray) = true := by
  show same.all 11 (icl A).toArray.toList (icl A).toArray.toList = true
  rw [List.toList_toArray]; exact same_iclN 10 A
theorem same_agg4 (a b c d : Int) : same 12 (.agg #[.int .i64 a, .int .i64 b, .int .i64 c, .int .i64 d]) (.agg #[.int .i64 a, .int .i64 b, .int .i64 c, .int .i64 d]) = true := by simp [same, same.all, intEq_eq]
theorem links_all {L : List (Int × Int)} (h : linksB L = true) : ∀ x ∈ L, linkB x = true := by
  simp only [linksB, Bool.and_eq_true] at h
  exact fun x hx => List.all_eq_true.mp h.2 x hx
theorem z24' : icl (List.replicate 24 0) = [.int .i64 0, .int .i64 0, .int .i64 0, .int .i64 0, .int .i64 0, .int .i64 0, .int .i64 0, .int .i64 0, .int .i64 0, .int .i64 0, .int .i64 0, .int .i64 0, .int .i64 0, .int .i64 0, .int .i64 0, .int .i64 0, .int .i64 0, .int .i64 0, .int .i64 0, .int .i64 0, .int .i64 0, .int .i64 0, .int .i64 0, .int .i64 0] := rfl
set_option maxHeartbeats 4000000 in
theorem Linked_ok (L : List (Int × Int)) (v : Value) (w : AW) (f : Fresh w) (hs : ArrOf w 2 lcells v L) :
    CallT Tryz.prog Tryz.T1 (.fn (.func 28) #[]) #[v] w (fun r w' => ((linksB L = false ∧ r = .tuple #[.slice none 0 0, .int .i64 83]) ∨ (linksB L = true ∧ ∃ A b, Labs L A ∧ r = .tuple #[.slice (some ⟨b, 0, none⟩) 24 24, .int .i64 0] ∧ Own w' b 115 (icl A))) ∧ Grown w w') := by
  obtain ⟨p, c, rfl, _⟩ := id hs.open
  refine callT_code rfl Tryz.func28 rfl Tryz.s28_eq rfl ?_
  unfold Tryz.s28
  simp -dsimp -implicitDefEqProofs (maxSteps := 2000000) (disch := first | assumption | omega | (simp only [nx]; omega) | ((repeat refine Fresh.push ?_ _); assumption) | (simp only [smA]; done) | (simp [oneCell, AW.next_push]; done) | fail) only [go_sem, Nat.reduceEqDiff, reduceIte, Nat.reduceAdd, Int.toNat_natCast, Nat.add_zero, Owes_true, Tryz.results28]
  apply callV_of (e := rfl)
  · exact areLinks_ok L _ w f hs
  rintro _ w1 ⟨rfl, g1⟩
  cases hB : linksB L with
  | false =>
    simp -dsimp -implicitDefEqProofs (maxSteps := 2000000) (disch := first | assumption | omega | (simp only [nx]; omega) | ((repeat refine Fresh.push ?_ _); assumption) | (simp only [smA]; done) | (simp [oneCell, AW.next_push]; done) | fail) only [go_sem, Nat.reduceEqDiff, reduceIte, Nat.reduceAdd, Int.toNat_natCast, Nat.add_zero, Owes_true, Tryz.results28]
    exact ⟨.inl ⟨trivial, trivial⟩, g1⟩
  | true =>
  simp -dsimp -implicitDefEqProofs (maxSteps := 2000000) (disch := first | assumption | omega | (simp only [nx]; omega) | ((repeat refine Fresh.push ?_ _); assumption) | (simp only [smA]; done) | (simp [oneCell, AW.next_push]; done) | fail) only [go_sem, Nat.reduceEqDiff, reduceIte, Nat.reduceAdd, Int.toNat_natCast, Nat.add_zero, Owes_true, Tryz.results28]
  apply callV_of (e := rfl)
  · exact linked_ok L _ w1 g1.2 (hs.grown g1) (links_all hB)
  rintro _ w2 ⟨A, rfl, hA, g2⟩
  have gg := g1.trans g2
  have gN := gg.push (.cells [.int .i64 0, .int .i64 0, .int .i64 0, .int .i64 0, .int .i64 0, .int .i64 0, .int .i64 0, .int .i64 0, .int .i64 0, .int .i64 0, .int .i64 0, .int .i64 0, .int .i64 0, .int .i64 0, .int .i64 0, .int .i64 0, .int .i64 0, .int .i64 0, .int .i64 0, .int .i64 0, .int .i64 0, .int .i64 0, .int .i64 0, .int .i64 0] 115 w2.next 0 0)
  have oN := Own.new gg.2 115 [.int .i64 0, .int .i64 0, .int .i64 0, .int .i64 0, .int .i64 0, .int .i64 0, .int .i64 0, .int .i64 0, .int .i64 0, .int .i64 0, .int .i64 0, .int .i64 0, .int .i64 0, .int .i64 0, .int .i64 0, .int .i64 0, .int .i64 0, .int .i64 0, .int .i64 0, .int .i64 0, .int .i64 0, .int .i64 0, .int .i64 0, .int .i64 0]
  rw [← z24'] at oN
  have hst := storeV_own (o := 0) (l := icl A) (size := 24) oN (by rw [icl_len]; exact hA.len) (by omega) (by rw [icl_len, List.length_replicate]; omega) (icl_all A)
  rw [setsL_icl _ _ (by rw [hA.len, List.length_replicate]), z24'] at hst
  have mN := MutS.put (S := fun j => j = w2.next) gN.2 rfl oN.lt (.cells (icl A) 115 w2.next 0 0)
  have oN2 := oN.put (icl A)
  rw [z24'] at oN2
  have hf2 := g2.2
  simp -dsimp -implicitDefEqProofs (maxSteps := 2000000) (disch := first | assumption | omega | (simp only [nx]; omega) | ((repeat refine Fresh.push ?_ _); assumption) | (simp only [smA]; done) | (simp [oneCell, AW.next_push]; done) | fail) only [go_sem, Nat.reduceEqDiff, reduceIte, Nat.reduceAdd, Int.toNat_natCast, Nat.add_zero, Owes_true, Tryz.results28, hst]
  exact ⟨.inr ⟨trivial, A, w2.next, hA, rfl, oN2⟩, ⟨gN.1.trans (mN.keep (fun j q => by have := gg.1.next; omega) gN.1.next), mN.fresh⟩⟩
def reportB (l : List DealN) (L : List (Int × Int)) (W : WatchN) : Bool := dealsB l && linksB L && watchB W
theorem z29 : deskL ⟨0, 0, 0, 0⟩ (.slice none 0 0) (List.replicate 24 0) = [.int .i64 0, .int .i64 0, .int .i64 0, .int .i64 0, .slice none 0 0, .int .i64 0, .int .i64 0, .int .i64 0, .int .i64 0, .int .i64 0, .int .i64 0, .int .i64 0, .int .i64 0, .int .i64 0, .int .i64 0, .int .i64 0, .int .i64 0, .int .i64 0, .int .i64 0, .int .i64 0, .int .i64 0, .int .i64 0, .int .i64 0, .int .i64 0, .int .i64 0, .int .i64 0, .int .i64 0, .int .i64 0, .int .i64 0] := rfl
theorem bld119 (a b c d : Int) (p : Option Addr) (n k : Nat) : ∀ (A : List Int), A.length = 24 → bldQ [(0, 4), (4, 1), (5, 24)] [.int .i64 0, .int .i64 0, .int .i64 0, .int .i64 0, .slice none 0 0, .int .i64 0, .int .i64 0, .int .i64 0, .int .i64 0, .int .i64 0, .int .i64 0, .int .i64 0, .int .i64 0, .int .i64 0, .int .i64 0, .int .i64 0, .int .i64 0, .int .i64 0, .int .i64 0, .int .i64 0, .int .i64 0, .int .i64 0, .int .i64 0, .int .i64 0, .int .i64 0, .int .i64 0, .int .i64 0, .int .i64 0, .int .i64 0] [(0, .agg #[.int .i64 a, .int .i64 b, .int .i64 c, .int .i64 d]), (1, .slice p n k), (2, .agg (icl A).toArray)] = some (.agg (deskL ⟨a, b, c, d⟩ (.slice p n k) A).toArray)
  | [a0, a1, a2, a3, a4, a5, a6, a7, a8, a9, a10, a11, a12, a13, a14, a15, a16, a17, a18, a19, a20, a21, a22, a23], _ => by kernel_rfl
set_option maxHeartbeats 8000000 in
theorem deskOf_ok (l : List DealN) (L : List (Int × Int)) (W : WatchN) (v0 v1 : Value) (w : AW) (f : Fresh w) (hs : ArrOf w 3 dcells v0 l) (hL : ArrOf w 2 lcells v1 L) :
    CallT Tryz.prog Tryz.T1 (.fn (.func 72) #[]) #[v0, v1, .agg #[.int .i64 W.days, .int .i64 W.sum, .int .i64 W.small, .int .i64 W.more]] w (fun r w' => ((reportB l L W = false ∧ r = .tuple #[.agg (deskL ⟨0, 0, 0, 0⟩ (.slice none 0 0) (List.replicate 24 0)).toArray, .int .i64 83]) ∨ (reportB l L W = true ∧ ∃ A, Labs L A ∧ r = .tuple #[.agg (deskL W v0 A).toArray, .int .i64 0])) ∧ Grown w w') := by
  obtain ⟨p0, c0, rfl, _⟩ := id hs.open
  obtain ⟨p1, c1, rfl, _⟩ := id hL.open
  have g1 := (Grown.refl f).push (.cells [.int .i64 W.days, .int .i64 W.sum, .int .i64 W.small, .int .i64 W.more] 46 w.next 0 0)
  have o1 := Own.new f 46 [.int .i64 W.days, .int .i64 W.sum, .int .i64 W.small, .int .i64 W.more]
  have g2 := g1.push (.cells [.int .i64 0, .int .i64 0, .int .i64 0, .int .i64 0, .slice none 0 0, .int .i64 0, .int .i64 0, .int .i64 0, .int .i64 0, .int .i64 0, .int .i64 0, .int .i64 0, .int .i64 0, .int .i64 0, .int .i64 0, .int .i64 0, .int .i64 0, .int .i64 0, .int .i64 0, .int .i64 0, .int .i64 0, .int .i64 0, .int .i64 0, .int .i64 0, .int .i64 0, .int .i64 0, .int .i64 0, .int .i64 0, .int .i64 0] 119 (w.next + 1) 0 0)
  have o2 := Own.new g1.2 119 [.int .i64 0, .int .i64 0, .int .i64 0, .int .i64 0, .slice none 0 0, .int .i64 0, .int .i64 0, .int .i64 0, .int .i64 0, .int .i64 0, .int .i64 0, .int .i64 0, .int .i64 0, .int .i64 0, .int .i64 0, .int .i64 0, .int .i64 0, .int .i64 0, .int .i64 0, .int .i64 0, .int .i64 0, .int .i64 0, .int .i64 0, .int .i64 0, .int .i64 0, .int .i64 0, .int .i64 0, .int .i64 0, .int .i64 0]
  rw [AW.next_push] at o2
  have o1c := o1.push (.cells [.int .i64 0, .int .i64 0, .int .i64 0, .int .i64 0, .slice none 0 0, .int .i64 0, .int .i64 0, .int .i64 0, .int .i64 0, .int .i64 0, .int .i64 0, .int .i64 0, .int .i64 0, .int .i64 0, .int .i64 0, .int .i64 0, .int .i64 0, .int .i64 0, .int .i64 0, .int .i64 0, .int .i64 0, .int .i64 0, .int .i64 0, .int .i64 0, .int .i64 0, .int .i64 0, .int .i64 0, .int .i64 0, .int .i64 0] 119 (w.next + 1) 0 0)
  unfold reportB
  refine callT_code rfl Tryz.func72 rfl Tryz.s72_eq rfl ?_
  unfold Tryz.s72
  simp -dsimp -implicitDefEqProofs (maxSteps := 2000000) (disch := first | assumption | omega | (simp only [nx]; omega) | ((repeat refine Fresh.push ?_ _); assumption) | (simp only [smA]; done) | (simp [oneCell, AW.next_push]; done) | fail) only [go_sem, Nat.reduceEqDiff, reduceIte, Nat.reduceAdd, Int.toNat_natCast, Nat.add_zero, Owes_true, Tryz.results72]
  generalize hw2 : ((w.push (.cells [.int .i64 W.days, .int .i64 W.sum, .int .i64 W.small, .int .i64 W.more] 46 w.next 0 0)).push (.cells [.int .i64 0, .int .i64 0, .int .i64 0, .int .i64 0, .slice none 0 0, .int .i64 0, .int .i64 0, .int .i64 0, .int .i64 0, .int .i64 0, .int .i64 0, .int .i64 0, .int .i64 0, .int .i64 0, .int .i64 0, .int .i64 0, .int .i64 0, .int .i64 0, .int .i64 0, .int .i64 0, .int .i64 0, .int .i64 0, .int .i64 0, .int .i64 0, .int .i64 0, .int .i64 0, .int .i64 0, .int .i64 0, .int .i64 0] 119 (w.next + 1) 0 0)) = w2 at *
  apply callV_of (e := rfl)
  · exact areDealings_ok l _ w2 g2.2 (hs.grown g2)
  rintro _ w3 ⟨rfl, g3⟩
  have bad : ∀ w4, Grown w2 w4 → ∃ w5, storeV w4 true 29 (.pointer (some ⟨w.next + 1, 0, none⟩)) (.agg #[.int .i64 0, .int .i64 0, .int .i64 0, .int .i64 0, .slice none 0 0, .int .i64 0, .int .i64 0, .int .i64 0, .int .i64 0, .int .i64 0, .int .i64 0, .int .i64 0, .int .i64 0, .int .i64 0, .int .i64 0, .int .i64 0, .int .i64 0, .int .i64 0, .int .i64 0, .int .i64 0, .int .i64 0, .int .i64 0, .int .i64 0, .int .i64 0, .int .i64 0, .int .i64 0, .int .i64 0, .int .i64 0, .int .i64 0]) = some w5 ∧ loadV w5 true 29 (.pointer (some ⟨w.next + 1, 0, none⟩)) = some (.agg (deskL ⟨0, 0, 0, 0⟩ (.slice none 0 0) (List.replicate 24 0)).toArray) ∧ Grown w w5 := by
    intro w4 g4
    have o4 := o2.keep g4.1
    have hst := storeV_own (o := 0) (l := [.int .i64 0, .int .i64 0, .int .i64 0, .int .i64 0, .slice none 0 0, .int .i64 0, .int .i64 0, .int .i64 0, .int .i64 0, .int .i64 0, .int .i64 0, .int .i64 0, .int .i64 0, .int .i64 0, .int .i64 0, .int .i64 0, .int .i64 0, .int .i64 0, .int .i64 0, .int .i64 0, .int .i64 0, .int .i64 0, .int .i64 0, .int .i64 0, .int .i64 0, .int .i64 0, .int .i64 0, .int .i64 0, .int .i64 0]) (size := 29) o4 rfl (by omega) (by simp) (by rfl)
    have o5 := o4.put (setsL [.int .i64 0, .int .i64 0, .int .i64 0, .int .i64 0, .slice none 0 0, .int .i64 0, .int .i64 0, .int .i64 0, .int .i64 0, .int .i64 0, .int .i64 0, .int .i64 0, .int .i64 0, .int .i64 0, .int .i64 0, .int .i64 0, .int .i64 0, .int .i64 0, .int .i64 0, .int .i64 0, .int .i64 0, .int .i64 0, .int .i64 0, .int .i64 0, .int .i64 0, .int .i64 0, .int .i64 0, .int .i64 0, .int .i64 0] 0 [.int .i64 0, .int .i64 0, .int .i64 0, .int .i64 0, .slice none 0 0, .int .i64 0, .int .i64 0, .int .i64 0, .int .i64 0, .int .i64 0, .int .i64 0, .int .i64 0, .int .i64 0, .int .i64 0, .int .i64 0, .int .i64 0, .int .i64 0, .int .i64 0, .int .i64 0, .int .i64 0, .int .i64 0, .int .i64 0, .int .i64 0, .int .i64 0, .int .i64 0, .int .i64 0, .int .i64 0, .int .i64 0, .int .i64 0])
    have m5 := MutS.put (S := fun j => j = w.next + 1) g4.2 rfl o4.lt (.cells (setsL [.int .i64 0, .int .i64 0, .int .i64 0, .int .i64 0, .slice none 0 0, .int .i64 0, .int .i64 0, .int .i64 0, .int .i64 0, .int .i64 0, .int .i64 0, .int .i64 0, .int .i64 0, .int .i64 0, .int .i64 0, .int .i64 0, .int .i64 0, .int .i64 0, .int .i64 0, .int .i64 0, .int .i64 0, .int .i64 0, .int .i64 0, .int .i64 0, .int .i64 0, .int .i64 0, .int .i64 0, .int .i64 0, .int .i64 0] 0 [.int .i64 0, .int .i64 0, .int .i64 0, .int .i64 0, .slice none 0 0, .int .i64 0, .int .i64 0, .int .i64 0, .int .i64 0, .int .i64 0, .int .i64 0, .int .i64 0, .int .i64 0, .int .i64 0, .int .i64 0, .int .i64 0, .int .i64 0, .int .i64 0, .int .i64 0, .int .i64 0, .int .i64 0, .int .i64 0, .int .i64 0, .int .i64 0, .int .i64 0, .int .i64 0, .int .i64 0, .int .i64 0, .int .i64 0]) 119 (w.next + 1) 0 0)
    have hls : setsL [.int .i64 0, .int .i64 0, .int .i64 0, .int .i64 0, .slice none 0 0, .int .i64 0, .int .i64 0, .int .i64 0, .int .i64 0, .int .i64 0, .int .i64 0, .int .i64 0, .int .i64 0, .int .i64 0, .int .i64 0, .int .i64 0, .int .i64 0, .int .i64 0, .int .i64 0, .int .i64 0, .int .i64 0, .int .i64 0, .int .i64 0, .int .i64 0, .int .i64 0, .int .i64 0, .int .i64 0, .int .i64 0, .int .i64 0] 0 [.int .i64 0, .int .i64 0, .int .i64 0, .int .i64 0, .slice none 0 0, .int .i64 0, .int .i64 0, .int .i64 0, .int .i64 0, .int .i64 0, .int .i64 0, .int .i64 0, .int .i64 0, .int .i64 0, .int .i64 0, .int .i64 0, .int .i64 0, .int .i64 0, .int .i64 0, .int .i64 0, .int .i64 0, .int .i64 0, .int .i64 0, .int .i64 0, .int .i64 0, .int .i64 0, .int .i64 0, .int .i64 0, .int .i64 0] = [.int .i64 0, .int .i64 0, .int .i64 0, .int .i64 0, .slice none 0 0, .int .i64 0, .int .i64 0, .int .i64 0, .int .i64 0, .int .i64 0, .int .i64 0, .int .i64 0, .int .i64 0, .int .i64 0, .int .i64 0, .int .i64 0, .int .i64 0, .int .i64 0, .int .i64 0, .int .i64 0, .int .i64 0, .int .i64 0, .int .i64 0, .int .i64 0, .int .i64 0, .int .i64 0, .int .i64 0, .int .i64 0, .int .i64 0] := by kernel_rfl
    rw [hls] at hst o5 m5
    refine ⟨_, hst, ?_, ⟨(g2.trans g4).1.trans (m5.keep (fun j q => by omega) (g2.trans g4).1.next), m5.fresh⟩⟩
    rw [z29]
    exact loadAll o5 rfl (by decide)
  cases h1 : dealsB l with
  | false =>
    obtain ⟨w5, b1, b2, b3⟩ := bad w3 g3
    simp -dsimp -implicitDefEqProofs (maxSteps := 2000000) (disch := first | assumption | omega | (simp only [nx]; omega) | ((repeat refine Fresh.push ?_ _); assumption) | (simp only [smA]; done) | (simp [oneCell, AW.next_push]; done) | fail) only [go_sem, Nat.reduceEqDiff, reduceIte, Nat.reduceAdd, Int.toNat_natCast, Nat.add_zero, Owes_true, Tryz.results72, b1, b2]
    exact ⟨.inl ⟨trivial, trivial⟩, b3⟩
  | true =>
  simp -dsimp -implicitDefEqProofs (maxSteps := 2000000) (disch := first | assumption | omega | (simp only [nx]; omega) | ((repeat refine Fresh.push ?_ _); assumption) | (simp only [smA]; done) | (simp [oneCell, AW.next_push]; done) | fail) only [go_sem, Nat.reduceEqDiff, reduceIte, Nat.reduceAdd, Int.toNat_natCast, Nat.add_zero, Owes_true, Tryz.results72]
  apply callV_of (e := rfl)
  · exact areLinks_ok L _ w3 g3.2 ((hL.grown g2).grown g3)
  rintro _ w4 ⟨rfl, g4⟩
  have g34 := g3.trans g4
  cases h2 : linksB L with
  | false =>
    obtain ⟨w5, b1, b2, b3⟩ := bad w4 g34
    simp -dsimp -implicitDefEqProofs (maxSteps := 2000000) (disch := first | assumption | omega | (simp only [nx]; omega) | ((repeat refine Fresh.push ?_ _); assumption) | (simp only [smA]; done) | (simp [oneCell, AW.next_push]; done) | fail) only [go_sem, Nat.reduceEqDiff, reduceIte, Nat.reduceAdd, Int.toNat_natCast, Nat.add_zero, Owes_true, Tryz.results72, b1, b2]
    exact ⟨.inl ⟨trivial, trivial⟩, b3⟩
  | true =>
  have o14 := o1c.keep g34.1
  have w0 := o14.cell (o := 0) rfl rfl
  have w1' := o14.cell (o := 1) rfl rfl
  have w2' := o14.cell (o := 2) rfl rfl
  have w3' := o14.cell (o := 3) rfl rfl
  simp -dsimp -implicitDefEqProofs (maxSteps := 2000000) (disch := first | assumption | omega | (simp only [nx]; omega) | ((repeat refine Fresh.push ?_ _); assumption) | (simp only [smA]; done) | (simp [oneCell, AW.next_push]; done) | fail) only [go_sem, Nat.reduceEqDiff, reduceIte, Nat.reduceAdd, Int.toNat_natCast, Nat.add_zero, Owes_true, Tryz.results72, Nat.zero_add, w0, w1', w2', w3']
  apply callV_of (e := rfl)
  · exact isWatch_ok W w4 g4.2
  rintro _ w5 ⟨rfl, g5⟩
  have g35 := g34.trans g5
  cases h3 : watchB W with
  | false =>
    obtain ⟨w6, b1, b2, b3⟩ := bad w5 g35
    simp -dsimp -implicitDefEqProofs (maxSteps := 2000000) (disch := first | assumption | omega | (simp only [nx]; omega) | ((repeat refine Fresh.push ?_ _); assumption) | (simp only [smA]; done) | (simp [oneCell, AW.next_push]; done) | fail) only [go_sem, Nat.reduceEqDiff, reduceIte, Nat.reduceAdd, Int.toNat_natCast, Nat.add_zero, Owes_true, Tryz.results72, b1, b2]
    exact ⟨.inl ⟨trivial, trivial⟩, b3⟩
  | true =>
  have o15 := o1c.keep g35.1
  have y0 := o15.cell (o := 0) rfl rfl
  have y1 := o15.cell (o := 1) rfl rfl
  have y2 := o15.cell (o := 2) rfl rfl
  have y3 := o15.cell (o := 3) rfl rfl
  have hs4 := same_agg4 W.days W.sum W.small W.more
  simp -dsimp -implicitDefEqProofs (maxSteps := 2000000) (disch := first | assumption | omega | (simp only [nx]; omega) | ((repeat refine Fresh.push ?_ _); assumption) | (simp only [smA]; done) | (simp [oneCell, AW.next_push]; done) | fail) only [go_sem, Nat.reduceEqDiff, reduceIte, Nat.reduceAdd, Int.toNat_natCast, Nat.add_zero, Owes_true, Tryz.results72, Nat.zero_add, y0, y1, y2, y3, hs4]
  apply callV_of (e := rfl)
  · exact linked_ok L _ w5 g5.2 ((hL.grown g2).grown g35) (links_all h2)
  rintro _ w6 ⟨A, rfl, hA, g6⟩
  have hle := g6.1.wle g5.2
  have hsi := same_icl12 A
  have hsd := same_desk W p0 l.length c0 A
  have hb := bld119 W.days W.sum W.small W.more p0 l.length c0 A hA.len
  have o6 := o2.keep (g35.trans g6).1
  have hst := storeV_own (o := 0) (l := deskL W (.slice p0 l.length c0) A) (size := 29) o6 (deskL_len _ _ hA.len) (by omega) (by simp) (List.all_eq_true.mpr (deskL_one _ _ _ _ _))
  rw [setsL_all _ _ (by rw [deskL_len _ _ hA.len]; rfl)] at hst
  have o7 := o6.put (deskL W (.slice p0 l.length c0) A)
  have m7 := MutS.put (S := fun j => j = w.next + 1) g6.2 rfl o6.lt (.cells (deskL W (.slice p0 l.length c0) A) 119 (w.next + 1) 0 0)
  have hld := desk_load o7 hA.len
  simp -dsimp -implicitDefEqProofs (maxSteps := 2000000) (disch := first | assumption | omega | (simp only [nx]; omega) | ((repeat refine Fresh.push ?_ _); assumption) | (simp only [smA]; done) | (simp [oneCell, AW.next_push]; done) | fail) only [go_sem, Nat.reduceEqDiff, reduceIte, Nat.reduceAdd, Int.toNat_natCast, Nat.add_zero, Owes_true, Tryz.results72, hle, hsi, hb, hsd, hst, hld]
  exact ⟨.inr ⟨trivial, A, hA, rfl⟩, ⟨(g2.trans (g35.trans g6)).1.trans (m7.keep (fun j q => by omega) (g2.trans (g35.trans g6)).1.next), m7.fresh⟩⟩
theorem isReported_ok (W : WatchN) (v0 : Value) (A : List Int) (p r : Option Addr) (m e n g : Nat) (s : Int) (w : AW) (f : Fresh w) :
    CallT Tryz.prog Tryz.T1 (.fn (.func 75) #[]) #[.agg (deskL W v0 A).toArray, .agg #[.slice p m e, .slice r n g, .int .i64 s]] w (Ret (.bool (decide (s ≥ W.sum) || decide ((n : Int) ≥ W.more))) (Grown w)) := by
  have gD := ((Grown.refl f).push (.cells (deskL W v0 A) 119 w.next 0 0)).push (.cells [.slice p m e, .slice r n g, .int .i64 s] 123 (w.next + 1) 0 0)
  have oD := (Own.new f 119 (deskL W v0 A)).push (.cells [.slice p m e, .slice r n g, .int .i64 s] 123 (w.next + 1) 0 0)
  have oV := Own.new (f.push (.cells (deskL W v0 A) 119 w.next 0 0)) 123 [.slice p m e, .slice r n g, .int .i64 s]
  rw [AW.next_push] at oV
  have d1 := oD.cell (o := 1) rfl rfl
  have d3 := oD.cell (o := 3) rfl rfl
  have v1 := oV.cell (o := 1) rfl rfl
  have v2 := oV.cell (o := 2) rfl rfl
  refine callT_code rfl Tryz.func75 rfl Tryz.s75_eq rfl ?_
  unfold Tryz.s75
  by_cases h : s ≥ W.sum
  · have hd : decide (s ≥ W.sum) = true := decide_eq_true h
    simp -dsimp -implicitDefEqProofs (maxSteps := 2000000) (disch := first | assumption | omega | (simp only [nx]; omega) | ((repeat refine Fresh.push ?_ _); assumption) | (simp only [smA]; done) | (simp [oneCell, AW.next_push]; done) | fail) only [go_sem, Nat.reduceEqDiff, reduceIte, Nat.reduceAdd, Int.toNat_natCast, Nat.add_zero, Owes_true, Tryz.results75, Nat.zero_add, d1, d3, v1, v2, hd]
    exact ⟨rfl, gD⟩
  · have hd : decide (s ≥ W.sum) = false := decide_eq_false h
    simp -dsimp -implicitDefEqProofs (maxSteps := 2000000) (disch := first | assumption | omega | (simp only [nx]; omega) | ((repeat refine Fresh.push ?_ _); assumption) | (simp only [smA]; done) | (simp [oneCell, AW.next_push]; done) | fail) only [go_sem, Nat.reduceEqDiff, reduceIte, Nat.reduceAdd, Int.toNat_natCast, Nat.add_zero, Owes_true, Tryz.results75, Nat.zero_add, d1, d3, v1, v2, hd]
    exact ⟨rfl, gD⟩
end Go.Proofs

namespace Go.Proofs
open Go Go.RowKit Go.Sim
set_option maxRecDepth 100000
theorem put_desk (w1 : AW) (f : Fresh w1) (W : WatchN) (p : Option Addr) (n c : Nat) (A : List Int) (hA : A.length = 24) :
    ∃ w2, storeV (w1.push (.cells [.int .i64 0, .int .i64 0, .int .i64 0, .int .i64 0, .slice none 0 0, .int .i64 0, .int .i64 0, .int .i64 0, .int .i64 0, .int .i64 0, .int .i64 0, .int .i64 0, .int .i64 0, .int .i64 0, .int .i64 0, .int .i64 0, .int .i64 0, .int .i64 0, .int .i64 0, .int .i64 0, .int .i64 0, .int .i64 0, .int .i64 0, .int .i64 0, .int .i64 0, .int .i64 0, .int .i64 0, .int .i64 0, .int .i64 0] 119 w1.next 0 0)) true 29 (.pointer (some ⟨w1.next, 0, none⟩)) (.agg (deskL W (.slice p n c) A).toArray) = some w2 ∧ Own w2 w1.next 119 (deskL W (.slice p n c) A) ∧ Grown w1 w2 ∧ w2.next = w1.next + 1 := by
  have g := (Grown.refl f).push (.cells [.int .i64 0, .int .i64 0, .int .i64 0, .int .i64 0, .slice none 0 0, .int .i64 0, .int .i64 0, .int .i64 0, .int .i64 0, .int .i64 0, .int .i64 0, .int .i64 0, .int .i64 0, .int .i64 0, .int .i64 0, .int .i64 0, .int .i64 0, .int .i64 0, .int .i64 0, .int .i64 0, .int .i64 0, .int .i64 0, .int .i64 0, .int .i64 0, .int .i64 0, .int .i64 0, .int .i64 0, .int .i64 0, .int .i64 0] 119 w1.next 0 0)
  have o := Own.new f 119 [.int .i64 0, .int .i64 0, .int .i64 0, .int .i64 0, .slice none 0 0, .int .i64 0, .int .i64 0, .int .i64 0, .int .i64 0, .int .i64 0, .int .i64 0, .int .i64 0, .int .i64 0, .int .i64 0, .int .i64 0, .int .i64 0, .int .i64 0, .int .i64 0, .int .i64 0, .int .i64 0, .int .i64 0, .int .i64 0, .int .i64 0, .int .i64 0, .int .i64 0, .int .i64 0, .int .i64 0, .int .i64 0, .int .i64 0]
  have hst := storeV_own (o := 0) (l := deskL W (.slice p n c) A) (size := 29) o (deskL_len _ _ hA) (by omega) (by simp) (List.all_eq_true.mpr (deskL_one _ _ _ _ _))
  rw [setsL_all _ _ (by rw [deskL_len _ _ hA]; rfl)] at hst
  have m := MutS.put (S := fun j => j = w1.next) g.2 rfl o.lt (.cells (deskL W (.slice p n c) A) 119 w1.next 0 0)
  exact ⟨_, hst, o.put _, ⟨g.1.trans (m.keep (fun j q => by omega) g.1.next), m.fresh⟩, by rw [AW.next_put, AW.next_push]⟩
theorem put_view (w1 : AW) (f : Fresh w1) (p r : Option Addr) (m e n g : Nat) (s : Int) :
    ∃ w2, storeV (w1.push (.cells [.slice none 0 0, .slice none 0 0, .int .i64 0] 123 w1.next 0 0)) true 3 (.pointer (some ⟨w1.next, 0, none⟩)) (.agg #[.slice p m e, .slice r n g, .int .i64 s]) = some w2 ∧ Own w2 w1.next 123 [.slice p m e, .slice r n g, .int .i64 s] ∧ Grown w1 w2 ∧ w2.next = w1.next + 1 := by
  have gg := (Grown.refl f).push (.cells [.slice none 0 0, .slice none 0 0, .int .i64 0] 123 w1.next 0 0)
  have o := Own.new f 123 [.slice none 0 0, .slice none 0 0, .int .i64 0]
  have hst := storeV_own (o := 0) (l := [.slice p m e, .slice r n g, .int .i64 s]) (size := 3) o rfl (by omega) (by simp) (by rfl)
  simp only [setsL, setL] at hst
  have mm := MutS.put (S := fun j => j = w1.next) gg.2 rfl o.lt (.cells [.slice p m e, .slice r n g, .int .i64 s] 123 w1.next 0 0)
  exact ⟨_, hst, o.put _, ⟨gg.1.trans (mm.keep (fun j q => by omega) gg.1.next), mm.fresh⟩, by rw [AW.next_put, AW.next_push]⟩
def ReasIs (l : List DealN) (L : List (Int × Int)) (W : WatchN) (k : Int) (r : Value) (w : AW) : Prop :=
  (reportB l L W = false ∧ r = .tuple #[.slice none 0 0, .int .i64 83]) ∨
  (reportB l L W = true ∧ inR 0 k ((l.length : Int) - 1) = false ∧ r = .tuple #[.slice none 0 0, .int .i64 7]) ∨
  (reportB l L W = true ∧ ∃ (n : Nat) (A : List Int), k = (n : Int) ∧ n < l.length ∧ Labs L A ∧
    ((W.sum ≤ sumW l (winOf W A l n) ∧ ∃ (m : Nat) (p : Option Addr) (a c : Nat), FewM ((winOf W A l n).map (sumAt l)) W.sum m ∧ r = .tuple #[.slice p a c, .int .i64 0] ∧ RowN w (.slice p a c) (chooseR l W.sum m [] (winOf W A l n)) ∧ (∀ x ∈ chooseR l W.sum m [] (winOf W A l n), x ∈ winOf W A l n)) ∨
     (sumW l (winOf W A l n) < W.sum ∧ W.more ≤ ((smalls W l (winOf W A l n)).length : Int) ∧ ∃ (p : Option Addr) (a c : Nat), r = .tuple #[.slice p a c, .int .i64 0] ∧ ArrOf w 1 icells (.slice p a c) (toI ((smalls W l (winOf W A l n)).take W.more.toNat))) ∨
     (sumW l (winOf W A l n) < W.sum ∧ ((smalls W l (winOf W A l n)).length : Int) < W.more ∧ r = .tuple #[.slice none 0 0, .int .i64 4])))
theorem RowN.len {w : AW} {p : Option Addr} {n c : Nat} {L : List Nat} (h : RowN w (.slice p n c) L) : n = L.length := by
  rcases h with ⟨h1, h2, _⟩ | ⟨b, r, h1, _⟩
  · injection h1 with _ h1 _; rw [toI_len] at h2; omega
  · injection h1 with _ h1 _; rw [toI_len] at h1; exact h1
theorem row_take {w : AW} {v : Value} {L : List Nat} {a : Nat} (h : RowN w v L) (h1 : 1 ≤ L.length) (ha : a ≤ L.length) (hl : L.length ≤ 64) :
    ∃ b, v = .slice (some ⟨b, 0, none⟩) L.length L.length ∧ sliceV w 1 v none (some (.int .i64 (a : Int))) = some (.slice (some ⟨b, 0, none⟩) a L.length) ∧ ArrOf w 1 icells (.slice (some ⟨b, 0, none⟩) a L.length) (toI (L.take a)) := by
  have hr := row_to (a := a) h (by rw [toI_len]; exact h1) (by rw [toI_len]; exact ha)
  rw [toI_len] at hr
  obtain ⟨b, rfl, hs⟩ := hr
  refine ⟨b, rfl, hs, ?_⟩
  have hA := h.arr hl
  obtain ⟨p, n, cap, e, hn, hc, hm, hat⟩ := hA
  injection e with e1 e2 e3
  subst e1 e2 e3
  refine ⟨_, _, _, rfl, by rw [List.length_map, toI_len, List.length_take]; omega, ha, by omega, fun hpos => ?_⟩
  obtain ⟨b', o', e, hb, hcell⟩ := hat (by omega)
  injection e with e
  injection e with e1 e2
  subst e1 e2
  refine ⟨b, 0, rfl, hb, fun i j r x hi hx => ?_⟩
  refine hcell i j r x ?_ hx
  rw [List.getElem?_map] at hi ⊢
  unfold toI at hi ⊢
  rw [List.map_take, List.getElem?_take] at hi
  split at hi
  · exact hi
  · cases hi
set_option maxHeartbeats 16000000 in
theorem Reasons_ok (l : List DealN) (L : List (Int × Int)) (W : WatchN) (v0 v1 : Value) (k : Int) (w : AW) (f : Fresh w) (hs : ArrOf w 3 dcells v0 l) (hL : ArrOf w 2 lcells v1 L) :
    CallT Tryz.prog Tryz.T1 (.fn (.func 32) #[]) #[v0, v1, .agg #[.int .i64 W.days, .int .i64 W.sum, .int .i64 W.small, .int .i64 W.more], .int .i64 k] w (fun r w' => ReasIs l L W k r w' ∧ Grown w w') := by
  obtain ⟨p0, c0, rfl, _⟩ := id hs.open
  obtain ⟨p1, c1, rfl, _⟩ := id hL.open
  have g1 := (Grown.refl f).push (.cells [.int .i64 W.days, .int .i64 W.sum, .int .i64 W.small, .int .i64 W.more] 46 w.next 0 0)
  have o1 := Own.new f 46 [.int .i64 W.days, .int .i64 W.sum, .int .i64 W.small, .int .i64 W.more]
  have q0 := o1.cell (o := 0) rfl rfl
  have q1 := o1.cell (o := 1) rfl rfl
  have q2 := o1.cell (o := 2) rfl rfl
  have q3 := o1.cell (o := 3) rfl rfl
  refine callT_code rfl Tryz.func32 rfl Tryz.s32_eq rfl ?_
  unfold Tryz.s32
  simp -dsimp -implicitDefEqProofs (maxSteps := 2000000) (disch := first | assumption | omega | (simp only [nx]; omega) | ((repeat refine Fresh.push ?_ _); assumption) | (simp only [smA]; done) | (simp [oneCell, AW.next_push]; done) | fail) only [go_sem, Nat.reduceEqDiff, reduceIte, Nat.reduceAdd, Int.toNat_natCast, Nat.add_zero, Owes_true, Tryz.results32, Nat.zero_add, q0, q1, q2, q3]
  apply callV_of (e := rfl)
  · exact deskOf_ok l L W _ _ _ g1.2 (hs.grown g1) (hL.grown g1)
  rintro _ w1 ⟨hcase, g2⟩
  have gw1 := g1.trans g2
  have hf1 := g2.2
  rcases hcase with ⟨hb, rfl⟩ | ⟨hb, A, hA, rfl⟩
  · obtain ⟨w2, s1, _, s3, _⟩ := put_desk w1 g2.2 ⟨0, 0, 0, 0⟩ none 0 0 (List.replicate 24 0) rfl
    have h83 : ¬ (83 : Int) = 0 := by decide
    simp -dsimp -implicitDefEqProofs (maxSteps := 2000000) (disch := first | assumption | omega | (simp only [nx]; omega) | ((repeat refine Fresh.push ?_ _); assumption) | (simp only [smA]; done) | (simp [oneCell, AW.next_push]; done) | fail) only [go_sem, Nat.reduceEqDiff, reduceIte, Nat.reduceAdd, Int.toNat_natCast, Nat.add_zero, Owes_true, Tryz.results32, s1, h83]
    exact ⟨Or.inl ⟨hb, rfl⟩, gw1.trans s3⟩
  obtain ⟨w2, s1, o2, s3, hn2⟩ := put_desk w1 g2.2 W p0 l.length c0 A hA.len
  have gw2 := gw1.trans s3
  have hb' := hb
  simp only [reportB, Bool.and_eq_true] at hb'
  obtain ⟨⟨hd, hlk⟩, hW⟩ := hb'
  have hW' := hW
  simp only [watchB, Bool.and_eq_true, inR_iff] at hW'
  simp only [dealsB, Bool.and_eq_true, decide_eq_true_eq] at hd
  obtain ⟨⟨hl64, hdall⟩, hord⟩ := hd
  have hdd : ∀ d ∈ l, dealB d = true := fun d hd => List.all_eq_true.mp hdall d hd
  simp -dsimp -implicitDefEqProofs (maxSteps := 2000000) (disch := first | assumption | omega | (simp only [nx]; omega) | ((repeat refine Fresh.push ?_ _); assumption) | (simp only [smA]; done) | (simp [oneCell, AW.next_push]; done) | fail) only [go_sem, Nat.reduceEqDiff, reduceIte, Nat.reduceAdd, Int.toNat_natCast, Nat.add_zero, Owes_true, Tryz.results32, s1]
  apply callV_of (e := rfl)
  · exact within_ok _ _ _ _
  rintro _ _ ⟨rfl, rfl⟩
  cases hk : inR 0 k ((l.length : Int) - 1) with
  | false =>
    simp -dsimp -implicitDefEqProofs (maxSteps := 2000000) (disch := first | assumption | omega | (simp only [nx]; omega) | ((repeat refine Fresh.push ?_ _); assumption) | (simp only [smA]; done) | (simp [oneCell, AW.next_push]; done) | fail) only [go_sem, Nat.reduceEqDiff, reduceIte, Nat.reduceAdd, Int.toNat_natCast, Nat.add_zero, Owes_true, Tryz.results32]
    exact ⟨.inr (.inl ⟨hb, hk, rfl⟩), gw2⟩
  | true =>
  rw [inR_iff] at hk
  obtain ⟨n, rfl⟩ := Int.eq_ofNat_of_zero_le hk.1
  have hn : n < l.length := by omega
  have hld := desk_load o2 hA.len
  simp -dsimp -implicitDefEqProofs (maxSteps := 2000000) (disch := first | assumption | omega | (simp only [nx]; omega) | ((repeat refine Fresh.push ?_ _); assumption) | (simp only [smA]; done) | (simp [oneCell, AW.next_push]; done) | fail) only [go_sem, Nat.reduceEqDiff, reduceIte, Nat.reduceAdd, Int.toNat_natCast, Nat.add_zero, Owes_true, Tryz.results32, hld]
  apply callV_of (e := rfl)
  · exact view_ok W _ l A n hn hl64 w2 s3.2 (hs.grown gw2) hdd hA.len hW
  rintro _ w3 ⟨p, r, m, nn, e, g, rfl, hR1, hR2, g3⟩
  obtain rfl := hR1.len
  obtain rfl := hR2.len
  have gw3 := gw2.trans g3
  have hf3 := g3.2
  obtain ⟨w4, t1, o4, t3, hn4⟩ := put_view w3 g3.2 p r (winOf W A l n).length e (smalls W l (winOf W A l n)).length g (sumW l (winOf W A l n))
  have gw4 := gw3.trans t3
  have o24 := o2.keep (g3.trans t3).1
  have hld4 := desk_load o24 hA.len
  have d1 := o24.cell (o := 1) rfl rfl
  have d3 := o24.cell (o := 3) rfl rfl
  have v0 := o4.cell (o := 0) rfl rfl
  have v1 := o4.cell (o := 1) rfl rfl
  have v2 := o4.cell (o := 2) rfl rfl
  have hL1 := winOf_lt (W := W) (A := A) (l := l) (k := n)
  have hLl : (winOf W A l n).length ≤ 64 := by have := winTo_len W A l n (n + 1); unfold winOf; omega
  have hSl := smalls_len W l (winOf W A l n)
  have hR14 := hR1.grown t3
  have hR24 := hR2.grown t3
  by_cases hsum : sumW l (winOf W A l n) ≥ W.sum
  · have hdc : decide (sumW l (winOf W A l n) ≥ W.sum) = true := decide_eq_true hsum
    simp -dsimp -implicitDefEqProofs (maxSteps := 2000000) (disch := first | assumption | omega | (simp only [nx]; omega) | ((repeat refine Fresh.push ?_ _); assumption) | (simp only [smA]; done) | (simp [oneCell, AW.next_push]; done) | fail) only [go_sem, Nat.reduceEqDiff, reduceIte, Nat.reduceAdd, Int.toNat_natCast, Nat.add_zero, Owes_true, Tryz.results32, t1, Nat.zero_add, d1, v2, hdc, v0, hld4]
    apply callV_of (e := rfl)
    · exact fewest_ok W _ l A hA.len hW (winOf W A l n) (fun x hx => by have := hL1 x hx; omega) hLl _ w4 t3.2 (hs.grown gw4) hR14 hdd hsum
    rintro _ w5 ⟨mm, pp, na, nc, hF, rfl, hR5, hin5, g5⟩
    simp -dsimp -implicitDefEqProofs (maxSteps := 2000000) (disch := first | assumption | omega | (simp only [nx]; omega) | ((repeat refine Fresh.push ?_ _); assumption) | (simp only [smA]; done) | (simp [oneCell, AW.next_push]; done) | fail) only [go_sem, Nat.reduceEqDiff, reduceIte, Nat.reduceAdd, Int.toNat_natCast, Nat.add_zero, Owes_true, Tryz.results32]
    exact ⟨.inr (.inr ⟨hb, n, A, rfl, hn, hA, .inl ⟨hsum, mm, pp, na, nc, hF, rfl, hR5, hin5⟩⟩), gw4.trans g5⟩
  have hdc : decide (sumW l (winOf W A l n) ≥ W.sum) = false := decide_eq_false hsum
  have hlv : loadV w4 true 3 (.pointer (some ⟨w3.next, 0, none⟩)) = some (.agg #[.slice p (winOf W A l n).length e, .slice r (smalls W l (winOf W A l n)).length g, .int .i64 (sumW l (winOf W A l n))]) := loadAll o4 rfl (by intro v hv; simp at hv; rcases hv with rfl | rfl | rfl <;> rfl)
  simp -dsimp -implicitDefEqProofs (maxSteps := 2000000) (disch := first | assumption | omega | (simp only [nx]; omega) | ((repeat refine Fresh.push ?_ _); assumption) | (simp only [smA]; done) | (simp [oneCell, AW.next_push]; done) | fail) only [go_sem, Nat.reduceEqDiff, reduceIte, Nat.reduceAdd, Int.toNat_natCast, Nat.add_zero, Owes_true, Tryz.results32, t1, Nat.zero_add, d1, v2, hdc, v0, hld4, hlv]
  apply callV_of (e := rfl)
  · exact isReported_ok W _ A p r _ e _ g _ w4 t3.2
  rintro _ w5 ⟨rfl, g5⟩
  rw [hdc, Bool.false_or]
  by_cases hmore : ((smalls W l (winOf W A l n)).length : Int) ≥ W.more
  · have hdm : decide (((smalls W l (winOf W A l n)).length : Int) ≥ W.more) = true := decide_eq_true hmore
    obtain ⟨M, hM⟩ : ∃ M : Nat, W.more = (M : Int) := ⟨W.more.toNat, by omega⟩
    obtain ⟨bs, ebs, hsl, hAs⟩ := row_take (a := M) (hR24.grown g5) (by omega) (by omega) (by omega)
    injection ebs with eb1 eb2 eb3
    subst eb1 eb3
    have o45 := o4.keep g5.1
    have v15 := o45.cell (o := 1) rfl rfl
    have o25 := o24.keep g5.1
    have d35 := o25.cell (o := 3) rfl rfl
    rw [hM] at d35
    simp -dsimp -implicitDefEqProofs (maxSteps := 2000000) (disch := first | assumption | omega | (simp only [nx]; omega) | ((repeat refine Fresh.push ?_ _); assumption) | (simp only [smA]; done) | (simp [oneCell, AW.next_push]; done) | fail) only [go_sem, Nat.reduceEqDiff, reduceIte, Nat.reduceAdd, Int.toNat_natCast, Nat.add_zero, Owes_true, Tryz.results32, Nat.zero_add, hdm, v15, d35, hsl]
    refine ⟨.inr (.inr ⟨hb, n, A, rfl, hn, hA, .inr (.inl ⟨by omega, by omega, _, _, _, rfl, ?_⟩)⟩), gw4.trans g5⟩
    rw [hM, Int.toNat_natCast]; exact hAs
  · have hdm : decide (((smalls W l (winOf W A l n)).length : Int) ≥ W.more) = false := decide_eq_false hmore
    simp -dsimp -implicitDefEqProofs (maxSteps := 2000000) (disch := first | assumption | omega | (simp only [nx]; omega) | ((repeat refine Fresh.push ?_ _); assumption) | (simp only [smA]; done) | (simp [oneCell, AW.next_push]; done) | fail) only [go_sem, Nat.reduceEqDiff, reduceIte, Nat.reduceAdd, Int.toNat_natCast, Nat.add_zero, Owes_true, Tryz.results32, hdm]
    exact ⟨.inr (.inr ⟨hb, n, A, rfl, hn, hA, .inr (.inr ⟨by omega, by omega, rfl⟩)⟩), gw4.trans g5⟩
end Go.Proofs

namespace Go.Proofs
open Go Go.RowKit Go.Sim
set_option maxRecDepth 100000
def bestV : List (Int × Int) → Int → Int × Int
  | [], s => if s = 0 then (0, 0) else (0, 1048576)
  | (c, h) :: l, s => (List.range ((min h (s.tdiv c)).toNat + 1)).foldl (fun p (n : Nat) => if (n : Int) + (bestV l (s - (n : Int) * c)).2 ≤ p.2 then ((n : Int), (n : Int) + (bestV l (s - (n : Int) * c)).2) else p) (0, 1048576)
def restV (k s : Int) : Value := .agg #[.int .i64 k, .int .i64 s]
def payV (p : Int × Int) : Value := .agg #[.int .i64 p.1, .int .i64 p.2]
theorem Tryz.agg3 : prun Tryz.prog (isAgg 3) = some false := by kernel_rfl
theorem eq154 (a b c d : Int) : prun Tryz.prog (Go.Op.equal 154 (restV a b) (restV c d)) = some ((a == c) && (b == d)) := by
  have h := eqStruct (P := Tryz.prog) (ty := 154) (xs := #[.int .i64 a, .int .i64 b]) (ys := #[.int .i64 c, .int .i64 d]) Tryz.underlying154 (by kernel_rfl) (n := 9999) (.cons (eqF_int (k := .i64) (by decide) Tryz.underlying3 Tryz.agg3 rfl rfl) (.cons (eqF_int (k := .i64) (by decide) Tryz.underlying3 Tryz.agg3 rfl rfl) .nil))
  show prun Tryz.prog (Go.Op.equalIn 10000 154 _ _) = _
  unfold restV
  rw [h]; simp
theorem fine154 (e : Bool) (a b : Int) : keyFine Tryz.prog 154 e (restV a b) = true := by
  cases e <;> kernel_rfl
theorem flat_rest (a b : Int) : flat 6 (restV a b) = true := rfl
def KnowsE (D : List (Int × Int)) (es : List MapEntry) : Prop := ∀ e ∈ es, ∃ (k : Nat) (s : Int), k ≤ D.length ∧ e.key = restV k s ∧ e.val = payV (bestV (D.drop k) s)
def KnowsAt (w : AW) (r : Nat) (D : List (Int × Int)) : Prop := ∃ es clock, w.blk r = some (.map es clock) ∧ KnowsE D es.toList ∧ ∃ e ∈ es.toList, e.key = restV D.length 0
theorem restV_inj {a b c d : Int} (h : restV a b = restV c d) : a = c ∧ b = d := by
  unfold restV at h; injection h with h; have := congrArg Array.toList h; simp at this; exact this
theorem ask_rest {D : List (Int × Int)} (k : Nat) (s : Int) : ∀ {es : List MapEntry} (i : Nat), KnowsE D es →
    (findAskQ Tryz.prog 154 (restV k s) es i = some none ∧ ∀ e ∈ es, e.key ≠ restV k s) ∨ ∃ j, i ≤ j ∧ findAskQ Tryz.prog 154 (restV k s) es i = some (some (j, payV (bestV (D.drop k) s))) ∧ ∃ e, es[j - i]? = some e ∧ e.key = restV k s
  | [], i, _ => .inl ⟨rfl, fun e he => by simp at he⟩
  | e :: es, i, h => by
    obtain ⟨k', s', hk, hke, hv⟩ := h e List.mem_cons_self
    have ht := ask_rest (es := es) k s (i + 1) fun x hx => h x (List.mem_cons_of_mem _ hx)
    have hq := eq154 k s k' s'
    simp only [findAskQ, hke, flat_rest, hq]
    by_cases he : ((k : Int) == (k' : Int) && s == s') = true
    · rw [he]
      simp only [Bool.and_eq_true, beq_iff_eq] at he
      obtain ⟨h1, rfl⟩ := he
      obtain rfl : k = k' := by omega
      exact .inr ⟨i, Nat.le_refl _, by simp only [hv], e, by simp, hke⟩
    · have he : ((k : Int) == (k' : Int) && s == s') = false := by simpa using he
      rw [he]
      rcases ht with ⟨q, qn⟩ | ⟨j, hj, q, e', g1, g2⟩
      · refine .inl ⟨q, fun x hx hxe => ?_⟩
        rcases List.mem_cons.1 hx with rfl | hx
        · rw [hke] at hxe
          obtain ⟨a1, a2⟩ := restV_inj hxe
          rw [← a1, ← a2] at he
          simp at he
        · exact qn x hx hxe
      · exact .inr ⟨j, by omega, q, e', by rw [show j - i = (j - (i + 1)) + 1 from by omega]; simpa using g1, g2⟩
theorem Knows.lookup {w : AW} {r : Nat} {D : List (Int × Int)} (h : KnowsAt w r D) (k : Nat) (s : Int) (hk : k ≤ D.length) :
    lookupA Tryz.prog w 154 (.struct #[{ name := "kind", type := 3, offset := 0, embedded := false, tag := "", pkgPath := "lombard/till", byteOffset := 0 }, { name := "sum", type := 3, offset := 1, embedded := false, tag := "", pkgPath := "lombard/till", byteOffset := 8 }]) (payV (0, 0)) (.map (some r)) (restV k s) true = some (.tuple #[payV (bestV (D.drop k) s), .bool true]) ∨ lookupA Tryz.prog w 154 (.struct #[{ name := "kind", type := 3, offset := 0, embedded := false, tag := "", pkgPath := "lombard/till", byteOffset := 0 }, { name := "sum", type := 3, offset := 1, embedded := false, tag := "", pkgPath := "lombard/till", byteOffset := 8 }]) (payV (0, 0)) (.map (some r)) (restV k s) true = some (.tuple #[payV (0, 0), .bool false]) ∧ (k < D.length ∨ s ≠ 0) := by
  obtain ⟨es, clock, hb, he, e0, he0, hk0⟩ := h
  have hf := fine154 es.isEmpty k s
  rcases ask_rest k s 0 he with ⟨q, qn⟩ | ⟨j, _, q, _⟩
  · right
    refine ⟨by simp only [lookupA, aggKey, flat_rest, hb, hf, q, Bool.and_self], ?_⟩
    rcases Nat.lt_or_ge k D.length with a | a
    · exact .inl a
    · refine .inr fun hs => qn e0 he0 ?_
      rw [hk0, hs, show k = D.length from by omega]
  · left
    simp only [lookupA, aggKey, flat_rest, hb, hf, q, Bool.and_self]
end Go.Proofs
