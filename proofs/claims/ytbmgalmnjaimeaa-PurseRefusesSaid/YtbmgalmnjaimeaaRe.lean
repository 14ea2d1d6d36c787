/- Acts that are given; what is refused changes nothing: the law on the machine. -/
import Derived.Test.YtbmgalmnjaimeaaRd
import Derived.Test.YtbmgalmnjaimeaaPc
set_option linter.unusedVariables false
set_option linter.unusedSimpArgs false
namespace Go.Proofs
open Go Go.RowKit Go.Sim
set_option maxRecDepth 100000
noncomputable def actsTo (T : Int) (ac : List ActV) (n : Nat) : PurN := (ac.take n).foldl actX ⟨T, [], 0, []⟩
theorem actsTo_succ {T : Int} {ac : List ActV} {n : Nat} (h : n < ac.length) : actsTo T ac (n + 1) = actX (actsTo T ac n) ac[n] := by
  unfold actsTo; rw [List.take_succ_eq_append_getElem h, List.foldl_append]; rfl
theorem new_inv {T : Int} (h : newB T = true) : PInv ⟨T, [], 0, []⟩ := by
  have hT := (inR_iff _ _ _).1 h
  exact ⟨⟨hT, by simp [heldS], fun y hy => by simp at hy, by simp⟩, by simp [lastDay]⟩
theorem acts_inv {T : Int} {ac : List ActV} (h : newB T = true) (ha : ∀ a ∈ ac, a.Ds.length = a.xs.length) : ∀ n, n ≤ ac.length → PInv (actsTo T ac n) ∧ (actsTo T ac n).N.length ≤ n
  | 0, _ => ⟨by unfold actsTo; exact new_inv h, by simp [actsTo]⟩
  | n + 1, hn => by
    obtain ⟨h1, h2⟩ := acts_inv h ha n (by omega)
    rw [actsTo_succ (by omega)]
    have := act_inv h1 ac[n] (ha _ (List.getElem_mem _))
    exact ⟨this.1, by omega⟩
end Go.Proofs

namespace Go.Proofs
open Go Go.RowKit Go.Sim
set_option maxRecDepth 100000
theorem Try.und38 : Try.prog.underlying 38 = some (.slice 48) := by kernel_rfl
theorem Try.cells48 : Try.prog.cellsOf 48 = 6 := by kernel_rfl
def acells (a : ActV) : List Value := [.int .i64 a.k, .int .i64 a.d, .int .i64 a.p, a.lv, .string a.s, a.wv]
theorem given_lots {w : AW} {n : Nat} {cs : List Value} (h : Hd Try.prog w n 32 cs) : ∃ v, cs = [v] ∧ ∃ (xs : List PartV) (Ds : List (List DueN)), PartsAt w v xs Ds := by
  cases n with
  | zero => exact h.elim
  | succ n =>
    simp only [Hd, Try.und32, Try.cells79] at h
    obtain ⟨u, rows, rfl, ha, hr, hgv⟩ := h
    obtain ⟨xs, Ds, rfl, h2, h3, h4⟩ := parts_of fun r hq => given_part (hr r hq)
    exact ⟨u, rfl, xs, Ds, ha, h2, h3⟩
theorem given_act {w : AW} {n : Nat} {cs : List Value} (h : Hd Try.prog w n 48 cs) : ∃ a : ActV, cs = acells a ∧ ActAt w a := by
  cases n with
  | zero => exact h.elim
  | succ n =>
    simp only [Hd, Try.underlying48] at h
    obtain ⟨parts, rfl, hl, hp⟩ := h
    match parts, hl with
    | [p0, p1, p2, p3, p4, p5], _ =>
      obtain ⟨k, rfl⟩ := given_int (hp 0 _ p0 rfl rfl)
      obtain ⟨d, rfl⟩ := given_int (hp 1 _ p1 rfl rfl)
      obtain ⟨p, rfl⟩ := given_int (hp 2 _ p2 rfl rfl)
      obtain ⟨s, rfl, hs⟩ := given_text (hp 4 _ p4 rfl rfl)
      obtain ⟨lv, rfl, xs, Ds, hL⟩ := given_lots (hp 3 _ p3 rfl rfl)
      obtain ⟨wv, rfl, ws, hW⟩ := given_ints (hp 5 _ p5 rfl rfl)
      exact ⟨⟨k, d, p, lv, xs, Ds, s, wv, ws⟩, rfl, hL, hW⟩
theorem given_actV {w : AW} {n : Nat} {v : Value} (h : HdV Try.prog w n 48 v) : ∃ a : ActV, v = actV a ∧ ActAt w a := by
  simp only [HdV, Try.underlying48] at h
  obtain ⟨cs, rfl, h⟩ := h
  obtain ⟨a, e, ha⟩ := given_act h
  exact ⟨a, by rw [show cs = cs.toList.toArray from rfl, e]; rfl, ha⟩
theorem acts_of {w : AW} : ∀ {rows : List (List Value)}, (∀ r ∈ rows, ∃ a : ActV, r = acells a ∧ ActAt w a) → ∃ ac : List ActV, rows = ac.map acells ∧ ∀ a ∈ ac, ActAt w a
  | [], _ => ⟨[], rfl, fun a h => by simp at h⟩
  | r :: rows, h => by
    obtain ⟨a, ha, hA⟩ := h r List.mem_cons_self
    obtain ⟨ac, h1, h2⟩ := acts_of fun q hq => h q (List.mem_cons_of_mem _ hq)
    refine ⟨a :: ac, by rw [ha, h1]; rfl, fun y hy => ?_⟩
    rcases List.mem_cons.mp hy with rfl | q
    · exact hA
    · exact h2 y q
theorem given_acts {w : AW} {n : Nat} {v : Value} (h : HdV Try.prog w n 38 v) : ∃ ac : List ActV, ArrOf w 6 acells v ac ∧ ∀ a ∈ ac, ActAt w a := by
  simp only [HdV, Try.und38] at h
  cases n with
  | zero => exact h.elim
  | succ n =>
    simp only [Hd, Try.und38, Try.cells48] at h
    obtain ⟨u, rows, e, ha, hr, hgv⟩ := h
    injection e with e
    subst e
    obtain ⟨ac, rfl, h2⟩ := acts_of fun r hq => given_act (hr r hq)
    exact ⟨ac, ha, h2⟩
end Go.Proofs

namespace Go.Proofs
open Go Go.RowKit Go.Sim
set_option maxRecDepth 100000
def Two (w1 wi : AW) (bp bb r : Nat) (x : PurN) (bp2 bb2 r2 : Nat) (y : PurN) : Prop := Fresh wi ∧ Keep w1.next w1 wi ∧ ∃ F1 F2, PurAt wi F1 bp bb r x ∧ PurAt wi F2 bp2 bb2 r2 y ∧ (∀ j, F1 j → ¬ F2 j) ∧ (∀ j, F1 j → w1.next ≤ j) ∧ (∀ j, F2 j → w1.next ≤ j)
theorem Two.symm {w1 wi : AW} {bp bb r : Nat} {x : PurN} {bp2 bb2 r2 : Nat} {y : PurN} (h : Two w1 wi bp bb r x bp2 bb2 r2 y) : Two w1 wi bp2 bb2 r2 y bp bb r x := by
  obtain ⟨f, hk, F1, F2, h1, h2, h3, h4, h5⟩ := h
  exact ⟨f, hk, F2, F1, h2, h1, fun j a b => h3 j b a, h5, h4⟩
theorem Two.grown {w1 wi w' : AW} {bp bb r : Nat} {x : PurN} {bp2 bb2 r2 : Nat} {y : PurN} (h : Two w1 wi bp bb r x bp2 bb2 r2 y) (g : Grown wi w') : Two w1 w' bp bb r x bp2 bb2 r2 y := by
  obtain ⟨f, hk, F1, F2, h1, h2, h3, h4, h5⟩ := h
  exact ⟨g.2, hk.trans (g.1.mono hk.next), F1, F2, h1.grown g, h2.grown g, h3, h4, h5⟩
theorem doneTwo_ok (a : ActV) (bp bb r : Nat) (x : PurN) (bp2 bb2 r2 : Nat) (y : PurN) (w1 wi : AW) (h : Two w1 wi bp bb r x bp2 bb2 r2 y) (ha : ActAt w1 a) (hi : PInv x) (hl : x.N.length < 1000) :
    CallT Try.prog Try.T1 (.fn (.func 25) #[]) #[.pointer (some ⟨bp, 0, none⟩), actV a] wi (fun rv w' => ∃ u1 u2, rv = .tuple #[u1, u2, .int .i64 (actE x a)] ∧ Two w1 w' bp bb r (actX x a) bp2 bb2 r2 y) := by
  obtain ⟨f, hk, F1, F2, h1, h2, h3, h4, h5⟩ := h
  refine (done_ok a bp bb r x F1 w1 wi f h1 ha hk h4 hi.good hl).mono fun rv w' q => ?_
  obtain ⟨u1, u2, F', hr, hP, hM, hW, _⟩ := q
  have hlt2 := h2.lt
  have hn := hk.next
  refine ⟨u1, u2, hr, hM.fresh, hk.trans (hM.keep h4 hn), F', F2, hP, h2.other hM fun j a b => h3 j b a, fun j a b => ?_, fun j a => ?_, h5⟩
  · rcases hW j a with q | q
    · exact h3 j q b
    · have := hlt2 j b; omega
  · rcases hW j a with q | q
    · exact h4 j q
    · omega
theorem ActAt.grown {w w' : AW} {a : ActV} (h : ActAt w a) (g : Grown w w') : ActAt w' a := ⟨h.lot.grown g, h.wts.grown g⟩
theorem Try.sl58 (t : Tmps) (w : AW) (x : Operand) (lo hi : Option Operand) : fast (prg Try.prog) t w (.slice 58 x lo hi none) = sliceV w 3 (ev t x) (lo.map (ev t)) (hi.map (ev t)) := by simp only [fast, Try.ty58, Try.ty87]
attribute [go_sem] Try.sl58
theorem arr_take {α : Type} {w : AW} {z : Nat} {enc : α → List Value} {p : Option Addr} {n c m : Nat} {L : List α} (h : ArrOf w z enc (.slice p n c) L) (hm : m ≤ n) : ArrOf w z enc (.slice p m c) (L.take m) := by
  obtain ⟨p', n', c', e, hl, hc, hb, hat⟩ := h
  injection e with e1 e2 e3
  subst e1 e2 e3
  rw [List.length_map] at hl
  refine ⟨p, m, c, rfl, by simp; omega, by omega, hb, fun h0 => ?_⟩
  obtain ⟨b, o, rfl, hlt, hcell⟩ := hat (by omega)
  refine ⟨b, o, rfl, hlt, fun i j r x hr hx => hcell i j r x ?_ hx⟩
  rw [List.getElem?_map] at hr ⊢
  rw [List.getElem?_take] at hr
  split at hr
  · exact hr
  · cases hr
theorem slice_head {w : AW} {v : Value} {n m : Nat} {cells : List Value} (h : AOwn 0 w 87 3 v n cells) (h1 : 1 ≤ n) (hm : m ≤ n) : ∃ b, v = .slice (some ⟨b, 0, none⟩) n n ∧ sliceV w 3 v none (some (.int .i64 (m : Int))) = some (.slice (some ⟨b, 0, none⟩) m n) := by
  rcases h with ⟨_, h0, _⟩ | ⟨b, r, rfl, _, _, _, _, hb, _⟩
  · omega
  · refine ⟨b, rfl, ?_⟩
    show sliceV w 3 (.slice (some ⟨b, 0, none⟩) n n) none (some (.int .i64 (Int.ofNat m))) = _
    have b1 : Nat.ble 0 m = true := Nat.ble_eq_true_of_le (Nat.zero_le _)
    have b2 : Nat.ble m n = true := Nat.ble_eq_true_of_le hm
    simp only [sliceV, natOr, b1, b2, hb, Bool.and_self, Nat.sub_zero]
    rfl
theorem actX_N {x : PurN} {a : ActV} (h : actE x a = 0) : ∃ n : NotN, (actX x a).N = x.N ++ [n] ∧ n.d = a.d := by
  unfold actX
  rw [if_neg (by rw [h]; simp)]
  split
  · exact ⟨_, rfl, rfl⟩
  split
  · exact ⟨_, rfl, rfl⟩
  split
  · exact ⟨_, rfl, rfl⟩
  · exact ⟨_, rfl, rfl⟩
theorem actX_no {x : PurN} {a : ActV} (h : ¬ actE x a = 0) : actX x a = x := by
  unfold actX; rw [if_pos h]
set_option maxHeartbeats 16000000 in
theorem refuses_law (w : AW) (xs : List Value) (f : Fresh w) (h : HdAll Try.prog w [3, 38, 48] xs) : CallT Try.prog Try.T1 (.fn (.func 12) #[]) xs.toArray w fun v _ => v = .bool true := by
  cases h with
  | cons n1 h1 h =>
  cases h with
  | cons n2 h2 h =>
  cases h with
  | cons n3 h3 h =>
  cases h
  rename_i v1 v2 v3
  obtain ⟨T, rfl⟩ := given_num h1
  obtain ⟨ac, hs, has⟩ := given_acts h2
  obtain ⟨a, rfl, ha⟩ := given_actV h3
  clear h1 h2 h3
  obtain ⟨p, cap, rfl, _, _, hat⟩ := hs.open
  have hlen : ∀ a ∈ ac, a.Ds.length = a.xs.length := fun a h => (has a h).lot.len
  show CallT Try.prog Try.T1 (.fn (.func 12) #[]) #[.int .i64 T, .slice p ac.length cap, actV a] w _
  have hone : ∃ pl nl cl pw nw cw, a.lv = .slice pl nl cl ∧ a.wv = .slice pw nw cw := by
    obtain ⟨pl, cl, e1, _⟩ := ha.lot.at
    obtain ⟨pw, cw, e2, _⟩ := ha.wts.open
    exact ⟨_, _, _, _, _, _, e1, e2⟩
  have g0 := (Grown.refl f).push (.cells (acells a) 48 w.next 0 0)
  have hO := Own.new f 48 (acells a)
  refine callT_code rfl Try.func12 rfl Try.s12_eq rfl ?_
  unfold Try.s12
  simp only [actV]
  simp -dsimp -implicitDefEqProofs (maxSteps := 2000000) (disch := first | assumption | omega | (simp only [nx]; omega) | ((repeat refine Fresh.push ?_ _); assumption) | (simp only [smA]; done) | (simp [oneCell, AW.next_push]; done) | fail) only [go_sem, Nat.reduceEqDiff, reduceIte, Nat.reduceAdd, Int.toNat_natCast, Nat.add_zero, Owes_true, Try.results12]
  have hnx : (w.push (.cells (acells a) 48 w.next 0 0)).next = w.next + 1 := AW.next_push _ _
  simp only [acells] at g0 hO hnx
  generalize w.push (.cells [.int .i64 a.k, .int .i64 a.d, .int .i64 a.p, a.lv, .string a.s, a.wv] 48 w.next 0 0) = w1 at *
  apply callV_of (e := rfl)
  · exact New_ok T w1 g0.2
  rintro _ w2 (⟨hT, rfl, rfl⟩ | ⟨hT, bp, bb, r, rfl, hP, hg2⟩)
  · simp -dsimp -implicitDefEqProofs (maxSteps := 2000000) (disch := first | assumption | omega | (simp only [nx]; omega) | ((repeat refine Fresh.push ?_ _); assumption) | (simp only [smA]; done) | (simp [oneCell, AW.next_push]; done) | fail) only [go_sem, Nat.reduceEqDiff, reduceIte, Nat.reduceAdd, Int.toNat_natCast, Nat.add_zero, Owes_true, Try.results12]
    apply callV_of (e := rfl)
    · exact New_ok T w1 g0.2
    rintro _ w2 (⟨_, rfl, rfl⟩ | ⟨q, _⟩)
    rotate_left
    · rw [hT] at q; cases q
    have e7 : decide ((7 : Int) = 0) = false := rfl
    simp -dsimp -implicitDefEqProofs (maxSteps := 2000000) (disch := first | assumption | omega | (simp only [nx]; omega) | ((repeat refine Fresh.push ?_ _); assumption) | (simp only [smA]; done) | (simp [oneCell, AW.next_push]; done) | fail) only [go_sem, Nat.reduceEqDiff, reduceIte, Nat.reduceAdd, Int.toNat_natCast, Nat.add_zero, Owes_true, Try.results12, e7]
    apply callV_of (e := rfl)
    · exact callT_told (Q := fun v w' => v = .bool true ∧ w1 = w') (v := .bool true) (w' := w1) rfl ⟨rfl, rfl⟩
    rintro _ _ ⟨rfl, rfl⟩
    simp -dsimp -implicitDefEqProofs (maxSteps := 2000000) (disch := first | assumption | omega | (simp only [nx]; omega) | ((repeat refine Fresh.push ?_ _); assumption) | (simp only [smA]; done) | (simp [oneCell, AW.next_push]; done) | fail) only [go_sem, Nat.reduceEqDiff, reduceIte, Nat.reduceAdd, Int.toNat_natCast, Nat.add_zero, Owes_true, Try.results12]
  simp -dsimp -implicitDefEqProofs (maxSteps := 2000000) (disch := first | assumption | omega | (simp only [nx]; omega) | ((repeat refine Fresh.push ?_ _); assumption) | (simp only [smA]; done) | (simp [oneCell, AW.next_push]; done) | fail) only [go_sem, Nat.reduceEqDiff, reduceIte, Nat.reduceAdd, Int.toNat_natCast, Nat.add_zero, Owes_true, Try.results12]
  apply callV_of (e := rfl)
  · exact New_ok T w2 hg2.2
  rintro _ w3 (⟨q, _⟩ | ⟨_, bp2, bb2, r2, rfl, hQ, hg3⟩)
  · rw [hT] at q; cases q
  have hTwo : Two w1 w3 bp bb r (actsTo T ac 0) bp2 bb2 r2 (actsTo T ac 0) := ⟨hg3.2, (hg2.trans hg3).1, _, _, hP.grown hg3, hQ, fun j a b => by omega, fun j a => a.1, fun j a => by have := hg2.1.next; omega⟩
  have hinv := fun n hn => acts_inv hT hlen n hn
  have hax := ha.grown g0
  have hasx := fun b (hb : b ∈ ac) => (has b hb).grown g0
  simp -dsimp -implicitDefEqProofs (maxSteps := 2000000) (disch := first | assumption | omega | (simp only [nx]; omega) | ((repeat refine Fresh.push ?_ _); assumption) | (simp only [smA]; done) | (simp [oneCell, AW.next_push]; done) | fail) only [go_sem, Nat.reduceEqDiff, reduceIte, Nat.reduceAdd, Int.toNat_natCast, Nat.add_zero, Owes_true, Try.results12]
  refine loopR (fun k t ds w4 => ∃ i : Nat, i ≤ min ac.length 60 ∧ k = min ac.length 60 - i ∧ ds = [] ∧ ev t (.tmp 1) = .slice p ac.length cap ∧ ev t (.tmp 5) = .pointer (some ⟨w.next, 0, none⟩) ∧ ev t (.tmp 7) = .pointer (some ⟨bp, 0, none⟩) ∧ ev t (.tmp 9) = .pointer (some ⟨bp2, 0, none⟩) ∧ ev t (.tmp 11) = .int .i64 (i : Int) ∧ Two w1 w4 bp bb r (actsTo T ac i) bp2 bb2 r2 (actsTo T ac i)) (min ac.length 60) ?_ ?_
  · refine ⟨0, by omega, by omega, rfl, ?_, ?_, ?_, ?_, ?_, hTwo⟩ <;> simp -dsimp -implicitDefEqProofs (maxSteps := 2000000) (disch := first | assumption | omega | (simp only [nx]; omega) | ((repeat refine Fresh.push ?_ _); assumption) | (simp only [smA]; done) | (simp [oneCell, AW.next_push]; done) | fail) only [go_sem, Nat.reduceEqDiff, reduceIte, Nat.reduceAdd, Int.toNat_natCast, Nat.add_zero, Owes_true] <;> rfl
  rintro k t ds w4 ⟨i, hii, rfl, rfl, e1, e5, e7, e9, e11, hw⟩
  have hk4 : Keep w.next w w4 := g0.1.trans (hw.2.1.mono (by omega))
  obtain ⟨hi1, hi2⟩ := hinv i (by omega)
  by_cases hlt : i < min ac.length 60
  case pos =>
    have hl1 : (i : Int) < (ac.length : Int) := by omega
    have hl2 : (i : Int) < 60 := by omega
    have hli : i < ac.length := by omega
    obtain ⟨b1, o1, rfl, hb1, hcell⟩ := hat i hli
    have a0 := hcell w4 hk4 0 _ rfl
    have a1 := hcell w4 hk4 1 _ rfl
    have a2 := hcell w4 hk4 2 _ rfl
    have a3 := hcell w4 hk4 3 _ rfl
    have a4 := hcell w4 hk4 4 _ rfl
    have a5 := hcell w4 hk4 5 _ rfl
    rw [Nat.add_zero] at a0
    have hn := actsTo_succ (T := T) hli
    have hai := hasx ac[i] (List.getElem_mem hli)
    simp -dsimp -implicitDefEqProofs (maxSteps := 2000000) (disch := first | assumption | omega | (simp only [nx]; omega) | ((repeat refine Fresh.push ?_ _); assumption) | (simp only [smA]; done) | (simp [oneCell, AW.next_push]; done) | fail) only [go_sem, Nat.reduceEqDiff, reduceIte, Nat.reduceAdd, Int.toNat_natCast, Nat.add_zero, Owes_true, e1, e5, e7, e9, e11, hl1, hl2, indexV_eq, a0, a1, a2, a3, a4, a5]
    apply callV_of (e := rfl)
    · exact doneTwo_ok ac[i] bp bb r _ bp2 bb2 r2 _ w1 w4 hw hai hi1 (by omega)
    rintro _ w5 ⟨u1, u2, rfl, hw5⟩
    have hk5 : Keep w.next w w5 := g0.1.trans (hw5.2.1.mono (by omega))
    have a0 := hcell w5 hk5 0 _ rfl
    have a1 := hcell w5 hk5 1 _ rfl
    have a2 := hcell w5 hk5 2 _ rfl
    have a3 := hcell w5 hk5 3 _ rfl
    have a4 := hcell w5 hk5 4 _ rfl
    have a5 := hcell w5 hk5 5 _ rfl
    rw [Nat.add_zero] at a0
    simp -dsimp -implicitDefEqProofs (maxSteps := 2000000) (disch := first | assumption | omega | (simp only [nx]; omega) | ((repeat refine Fresh.push ?_ _); assumption) | (simp only [smA]; done) | (simp [oneCell, AW.next_push]; done) | fail) only [go_sem, Nat.reduceEqDiff, reduceIte, Nat.reduceAdd, Int.toNat_natCast, Nat.add_zero, Owes_true, e1, e5, e7, e9, e11, hl1, indexV_eq, a0, a1, a2, a3, a4, a5]
    apply callV_of (e := rfl)
    · exact doneTwo_ok ac[i] bp2 bb2 r2 _ bp bb r _ w1 w5 hw5.symm hai hi1 (by omega)
    rintro _ w6 ⟨u1, u2, rfl, hw6⟩
    simp -dsimp -implicitDefEqProofs (maxSteps := 2000000) (disch := first | assumption | omega | (simp only [nx]; omega) | ((repeat refine Fresh.push ?_ _); assumption) | (simp only [smA]; done) | (simp [oneCell, AW.next_push]; done) | fail) only [go_sem, Nat.reduceEqDiff, reduceIte, Nat.reduceAdd, Int.toNat_natCast, Nat.add_zero, Owes_true, e1, e5, e7, e9, e11]
    refine ⟨_, by omega, i + 1, by omega, rfl, rfl, by (simp -dsimp -implicitDefEqProofs (maxSteps := 2000000) (disch := first | assumption | omega | (simp only [nx]; omega) | ((repeat refine Fresh.push ?_ _); assumption) | (simp only [smA]; done) | (simp [oneCell, AW.next_push]; done) | fail) only [go_sem, Nat.reduceEqDiff, reduceIte, Nat.reduceAdd, Int.toNat_natCast, Nat.add_zero, Owes_true, e1]; try rfl), by (simp -dsimp -implicitDefEqProofs (maxSteps := 2000000) (disch := first | assumption | omega | (simp only [nx]; omega) | ((repeat refine Fresh.push ?_ _); assumption) | (simp only [smA]; done) | (simp [oneCell, AW.next_push]; done) | fail) only [go_sem, Nat.reduceEqDiff, reduceIte, Nat.reduceAdd, Int.toNat_natCast, Nat.add_zero, Owes_true, e5]; try rfl), by (simp -dsimp -implicitDefEqProofs (maxSteps := 2000000) (disch := first | assumption | omega | (simp only [nx]; omega) | ((repeat refine Fresh.push ?_ _); assumption) | (simp only [smA]; done) | (simp [oneCell, AW.next_push]; done) | fail) only [go_sem, Nat.reduceEqDiff, reduceIte, Nat.reduceAdd, Int.toNat_natCast, Nat.add_zero, Owes_true, e7]; try rfl), by (simp -dsimp -implicitDefEqProofs (maxSteps := 2000000) (disch := first | assumption | omega | (simp only [nx]; omega) | ((repeat refine Fresh.push ?_ _); assumption) | (simp only [smA]; done) | (simp [oneCell, AW.next_push]; done) | fail) only [go_sem, Nat.reduceEqDiff, reduceIte, Nat.reduceAdd, Int.toNat_natCast, Nat.add_zero, Owes_true, e9]; try rfl), by (simp -dsimp -implicitDefEqProofs (maxSteps := 2000000) (disch := first | assumption | omega | (simp only [nx]; omega) | ((repeat refine Fresh.push ?_ _); assumption) | (simp only [smA]; done) | (simp [oneCell, AW.next_push]; done) | fail) only [go_sem, Nat.reduceEqDiff, reduceIte, Nat.reduceAdd, Int.toNat_natCast, Nat.add_zero, Owes_true, e11]; try rfl), (by rw [hn]; exact hw6.symm)⟩
  have hexit : decide ((i : Int) < (ac.length : Int)) = false ∨ (decide ((i : Int) < (ac.length : Int)) = true ∧ decide ((i : Int) < 60) = false) := by
    by_cases q : (i : Int) < (ac.length : Int)
    · exact .inr ⟨decide_eq_true q, decide_eq_false (by omega)⟩
    · exact .inl (decide_eq_false q)
  generalize hX : actsTo T ac i = x at *
  have hOi := hO.keep hw.2.1
  have c0 := hOi.cell (o := 0) rfl rfl
  have c1 := hOi.cell (o := 1) rfl rfl
  have c2 := hOi.cell (o := 2) rfl rfl
  have c4 := hOi.cell (o := 4) rfl rfl
  obtain ⟨pl, nl, cl, pw, nw, cw, el, ew⟩ := hone
  have c3 := hOi.cell (o := 3) rfl (by rw [el]; rfl)
  have c5 := hOi.cell (o := 5) rfl (by rw [ew]; rfl)
  have hact := act_inv hi1 a ha.lot.len
  have h60 : i ≤ 60 := by omega
  rcases hexit with hx1 | ⟨hx1, hx2⟩
  · simp -dsimp -implicitDefEqProofs (maxSteps := 2000000) (disch := first | assumption | omega | (simp only [nx]; omega) | ((repeat refine Fresh.push ?_ _); assumption) | (simp only [smA]; done) | (simp [oneCell, AW.next_push]; done) | fail) only [go_sem, Nat.reduceEqDiff, reduceIte, Nat.reduceAdd, Int.toNat_natCast, Nat.add_zero, Owes_true, e1, e5, e7, e9, e11, hx1, c0, c1, c2, c3, c4, c5, Nat.zero_add]
    apply callV_of (e := rfl)
    · exact doneTwo_ok a bp bb r x bp2 bb2 r2 x w1 w4 hw hax hi1 (by omega)
    rintro _ w5 ⟨u1, u2, rfl, hw5⟩
    obtain ⟨f5, hk5, F1, F2, q1, q2, _⟩ := id hw5
    simp -dsimp -implicitDefEqProofs (maxSteps := 2000000) (disch := first | assumption | omega | (simp only [nx]; omega) | ((repeat refine Fresh.push ?_ _); assumption) | (simp only [smA]; done) | (simp [oneCell, AW.next_push]; done) | fail) only [go_sem, Nat.reduceEqDiff, reduceIte, Nat.reduceAdd, Int.toNat_natCast, Nat.add_zero, Owes_true, e1, e5, e7, e9, e11]
    apply callV_of (e := rfl)
    · exact Notes_ok bp bb r (actX x a) F1 w5 f5 q1 (by omega)
    rintro n1 w6 ⟨hN1, hNo, hg6⟩
    simp -dsimp -implicitDefEqProofs (maxSteps := 2000000) (disch := first | assumption | omega | (simp only [nx]; omega) | ((repeat refine Fresh.push ?_ _); assumption) | (simp only [smA]; done) | (simp [oneCell, AW.next_push]; done) | fail) only [go_sem, Nat.reduceEqDiff, reduceIte, Nat.reduceAdd, Int.toNat_natCast, Nat.add_zero, Owes_true, e1, e5, e7, e9, e11]
    apply callV_of (e := rfl)
    · exact Notes_ok bp2 bb2 r2 x F2 w6 hg6.2 (q2.grown hg6) (by omega)
    rintro n2 w7 ⟨hN2, _, hg7⟩
    have hN1' := hN1.grown hg7
    have hNo7 := fun q => (hNo q).keep hg7.1 (Nat.le_refl _)
    obtain ⟨m2, v2, rfl, _, _, _⟩ := id hN2.open
    have hg57 := hg6.trans hg7
    by_cases hE : actE x a = 0
    · have hEd : decide (actE x a = 0) = true := decide_eq_true hE
      obtain ⟨nn, hXN, hnd⟩ := actX_N hE
      have hXl : (actX x a).N.length = x.N.length + 1 := by rw [hXN]; simp
      obtain ⟨bn, rfl, hsl⟩ := slice_head (m := x.N.length) (hNo7 (by omega)) (by omega) (by omega)
      have hT1 := arr_take (m := x.N.length) hN1' (by omega)
      rw [show (actX x a).N.take x.N.length = x.N from by rw [hXN]; simp] at hT1
      have hle : decide (((actX x a).N.length : Int) = (x.N.length : Int) + 1) = true := decide_eq_true (by omega)
      obtain ⟨pz, cz, ez, _, _, hatz⟩ := hN1'.open
      injection ez with ez1 ez2 ez3
      subst ez1
      obtain ⟨bz, oz, ebz, _, hcz⟩ := hatz x.N.length (by omega)
      injection ebz with ebz
      injection ebz with eb1 eb2 eb3
      subst eb1 eb2
      have hnl : (actX x a).N[x.N.length]'(by omega) = nn := by simp [hXN]
      rw [hnl] at hcz
      have az := hcz w7 (Keep.refl _ _) 1 (.int .i64 a.d) (by rw [← hnd]; rfl)
      rw [Nat.zero_add] at az
      have hlz : (x.N.length : Int) < ((actX x a).N.length : Int) := by omega
      have hO7 := (hO.keep hk5).keep hg57.1
      have c17 := hO7.cell (o := 1) rfl rfl
      simp -dsimp -implicitDefEqProofs (maxSteps := 2000000) (disch := first | assumption | omega | (simp only [nx]; omega) | ((repeat refine Fresh.push ?_ _); assumption) | (simp only [smA]; done) | (simp [oneCell, AW.next_push]; done) | fail) only [go_sem, Nat.reduceEqDiff, reduceIte, Nat.reduceAdd, Int.toNat_natCast, Nat.add_zero, Owes_true, e1, e5, e7, e9, e11, hEd, hle, Option.map, hsl]
      apply callV_of (e := rfl)
      · exact SameNotes_ok x.N _ _ w7 hT1 hN2
      rintro _ _ ⟨rfl, rfl⟩
      simp -dsimp -implicitDefEqProofs (maxSteps := 2000000) (disch := first | assumption | omega | (simp only [nx]; omega) | ((repeat refine Fresh.push ?_ _); assumption) | (simp only [smA]; done) | (simp [oneCell, AW.next_push]; done) | fail) only [go_sem, Nat.reduceEqDiff, reduceIte, Nat.reduceAdd, Int.toNat_natCast, Nat.add_zero, Owes_true, e1, e5, e7, e9, e11, indexV_eq, hlz, az, c17, Nat.zero_add]
      apply callV_of (e := rfl)
      · exact callT_told (Q := fun v w' => v = .bool true ∧ w7 = w') (v := .bool true) (w' := w7) rfl ⟨rfl, rfl⟩
      rintro _ _ ⟨rfl, rfl⟩
      simp -dsimp -implicitDefEqProofs (maxSteps := 2000000) (disch := first | assumption | omega | (simp only [nx]; omega) | ((repeat refine Fresh.push ?_ _); assumption) | (simp only [smA]; done) | (simp [oneCell, AW.next_push]; done) | fail) only [go_sem, Nat.reduceEqDiff, reduceIte, Nat.reduceAdd, Int.toNat_natCast, Nat.add_zero, Owes_true, Try.results12]
    · have hEd : decide (actE x a = 0) = false := decide_eq_false hE
      have hXx := actX_no hE
      simp -dsimp -implicitDefEqProofs (maxSteps := 2000000) (disch := first | assumption | omega | (simp only [nx]; omega) | ((repeat refine Fresh.push ?_ _); assumption) | (simp only [smA]; done) | (simp [oneCell, AW.next_push]; done) | fail) only [go_sem, Nat.reduceEqDiff, reduceIte, Nat.reduceAdd, Int.toNat_natCast, Nat.add_zero, Owes_true, e1, e5, e7, e9, e11, hEd]
      apply callV_of (e := rfl)
      · exact Holds_ok bp bb r (actX x a) F1 w7 (hg57.2) (q1.grown hg57) hact.1.good
      rintro _ w8 ⟨rfl, hg8⟩
      simp -dsimp -implicitDefEqProofs (maxSteps := 2000000) (disch := first | assumption | omega | (simp only [nx]; omega) | ((repeat refine Fresh.push ?_ _); assumption) | (simp only [smA]; done) | (simp [oneCell, AW.next_push]; done) | fail) only [go_sem, Nat.reduceEqDiff, reduceIte, Nat.reduceAdd, Int.toNat_natCast, Nat.add_zero, Owes_true, e1, e5, e7, e9, e11]
      apply callV_of (e := rfl)
      · exact Holds_ok bp2 bb2 r2 x F2 w8 hg8.2 ((q2.grown hg57).grown hg8) hi1.good
      rintro _ w9 ⟨rfl, hg9⟩
      have g79 := hg8.trans hg9
      rw [hXx] at hN1' q1
      rw [hXx]
      have hNA := hN1'.grown g79
      have hNB := hN2.grown g79
      obtain ⟨m1, v1, rfl, _, _, _⟩ := id hNA.open
      simp -dsimp -implicitDefEqProofs (maxSteps := 2000000) (disch := first | assumption | omega | (simp only [nx]; omega) | ((repeat refine Fresh.push ?_ _); assumption) | (simp only [smA]; done) | (simp [oneCell, AW.next_push]; done) | fail) only [go_sem, Nat.reduceEqDiff, reduceIte, Nat.reduceAdd, Int.toNat_natCast, Nat.add_zero, Owes_true, e1, e5, e7, e9, e11]
      apply callV_of (e := rfl)
      · exact SameNotes_ok x.N _ _ w9 hNA hNB
      rintro _ _ ⟨rfl, rfl⟩
      have qq1 := (q1.grown hg57).grown g79
      have qq2 := (q2.grown hg57).grown g79
      have hns := hi1.good.n
      simp -dsimp -implicitDefEqProofs (maxSteps := 2000000) (disch := first | assumption | omega | (simp only [nx]; omega) | ((repeat refine Fresh.push ?_ _); assumption) | (simp only [smA]; done) | (simp [oneCell, AW.next_push]; done) | fail) only [go_sem, Nat.reduceEqDiff, reduceIte, Nat.reduceAdd, Int.toNat_natCast, Nat.add_zero, Owes_true, e1, e5, e7, e9, e11]
      apply callV_of (e := rfl)
      · exact Surpluses_ok bp bb r x F1 w9 g79.2 qq1 (by omega)
      rintro s1 w10 ⟨hS1, _, hg10⟩
      simp -dsimp -implicitDefEqProofs (maxSteps := 2000000) (disch := first | assumption | omega | (simp only [nx]; omega) | ((repeat refine Fresh.push ?_ _); assumption) | (simp only [smA]; done) | (simp [oneCell, AW.next_push]; done) | fail) only [go_sem, Nat.reduceEqDiff, reduceIte, Nat.reduceAdd, Int.toNat_natCast, Nat.add_zero, Owes_true, e1, e5, e7, e9, e11]
      apply callV_of (e := rfl)
      · exact Surpluses_ok bp2 bb2 r2 x F2 w10 hg10.2 (qq2.grown hg10) (by omega)
      rintro s2 w11 ⟨hS2, _, hg11⟩
      simp -dsimp -implicitDefEqProofs (maxSteps := 2000000) (disch := first | assumption | omega | (simp only [nx]; omega) | ((repeat refine Fresh.push ?_ _); assumption) | (simp only [smA]; done) | (simp [oneCell, AW.next_push]; done) | fail) only [go_sem, Nat.reduceEqDiff, reduceIte, Nat.reduceAdd, Int.toNat_natCast, Nat.add_zero, Owes_true, e1, e5, e7, e9, e11]
      apply callV_of (e := rfl)
      · exact SameSurs_ok x.S _ _ w11 (hS1.grown hg11) hS2
      rintro _ _ ⟨rfl, rfl⟩
      simp -dsimp -implicitDefEqProofs (maxSteps := 2000000) (disch := first | assumption | omega | (simp only [nx]; omega) | ((repeat refine Fresh.push ?_ _); assumption) | (simp only [smA]; done) | (simp [oneCell, AW.next_push]; done) | fail) only [go_sem, Nat.reduceEqDiff, reduceIte, Nat.reduceAdd, Int.toNat_natCast, Nat.add_zero, Owes_true, e1, e5, e7, e9, e11]
      apply callV_of (e := rfl)
      · exact callT_told (Q := fun v w' => v = .bool true ∧ w11 = w') (v := .bool true) (w' := w11) rfl ⟨rfl, rfl⟩
      rintro _ _ ⟨rfl, rfl⟩
      simp -dsimp -implicitDefEqProofs (maxSteps := 2000000) (disch := first | assumption | omega | (simp only [nx]; omega) | ((repeat refine Fresh.push ?_ _); assumption) | (simp only [smA]; done) | (simp [oneCell, AW.next_push]; done) | fail) only [go_sem, Nat.reduceEqDiff, reduceIte, Nat.reduceAdd, Int.toNat_natCast, Nat.add_zero, Owes_true, Try.results12]
  · simp -dsimp -implicitDefEqProofs (maxSteps := 2000000) (disch := first | assumption | omega | (simp only [nx]; omega) | ((repeat refine Fresh.push ?_ _); assumption) | (simp only [smA]; done) | (simp [oneCell, AW.next_push]; done) | fail) only [go_sem, Nat.reduceEqDiff, reduceIte, Nat.reduceAdd, Int.toNat_natCast, Nat.add_zero, Owes_true, e1, e5, e7, e9, e11, hx1, hx2, c0, c1, c2, c3, c4, c5, Nat.zero_add]
    apply callV_of (e := rfl)
    · exact doneTwo_ok a bp bb r x bp2 bb2 r2 x w1 w4 hw hax hi1 (by omega)
    rintro _ w5 ⟨u1, u2, rfl, hw5⟩
    obtain ⟨f5, hk5, F1, F2, q1, q2, _⟩ := id hw5
    simp -dsimp -implicitDefEqProofs (maxSteps := 2000000) (disch := first | assumption | omega | (simp only [nx]; omega) | ((repeat refine Fresh.push ?_ _); assumption) | (simp only [smA]; done) | (simp [oneCell, AW.next_push]; done) | fail) only [go_sem, Nat.reduceEqDiff, reduceIte, Nat.reduceAdd, Int.toNat_natCast, Nat.add_zero, Owes_true, e1, e5, e7, e9, e11]
    apply callV_of (e := rfl)
    · exact Notes_ok bp bb r (actX x a) F1 w5 f5 q1 (by omega)
    rintro n1 w6 ⟨hN1, hNo, hg6⟩
    simp -dsimp -implicitDefEqProofs (maxSteps := 2000000) (disch := first | assumption | omega | (simp only [nx]; omega) | ((repeat refine Fresh.push ?_ _); assumption) | (simp only [smA]; done) | (simp [oneCell, AW.next_push]; done) | fail) only [go_sem, Nat.reduceEqDiff, reduceIte, Nat.reduceAdd, Int.toNat_natCast, Nat.add_zero, Owes_true, e1, e5, e7, e9, e11]
    apply callV_of (e := rfl)
    · exact Notes_ok bp2 bb2 r2 x F2 w6 hg6.2 (q2.grown hg6) (by omega)
    rintro n2 w7 ⟨hN2, _, hg7⟩
    have hN1' := hN1.grown hg7
    have hNo7 := fun q => (hNo q).keep hg7.1 (Nat.le_refl _)
    obtain ⟨m2, v2, rfl, _, _, _⟩ := id hN2.open
    have hg57 := hg6.trans hg7
    by_cases hE : actE x a = 0
    · have hEd : decide (actE x a = 0) = true := decide_eq_true hE
      obtain ⟨nn, hXN, hnd⟩ := actX_N hE
      have hXl : (actX x a).N.length = x.N.length + 1 := by rw [hXN]; simp
      obtain ⟨bn, rfl, hsl⟩ := slice_head (m := x.N.length) (hNo7 (by omega)) (by omega) (by omega)
      have hT1 := arr_take (m := x.N.length) hN1' (by omega)
      rw [show (actX x a).N.take x.N.length = x.N from by rw [hXN]; simp] at hT1
      have hle : decide (((actX x a).N.length : Int) = (x.N.length : Int) + 1) = true := decide_eq_true (by omega)
      obtain ⟨pz, cz, ez, _, _, hatz⟩ := hN1'.open
      injection ez with ez1 ez2 ez3
      subst ez1
      obtain ⟨bz, oz, ebz, _, hcz⟩ := hatz x.N.length (by omega)
      injection ebz with ebz
      injection ebz with eb1 eb2 eb3
      subst eb1 eb2
      have hnl : (actX x a).N[x.N.length]'(by omega) = nn := by simp [hXN]
      rw [hnl] at hcz
      have az := hcz w7 (Keep.refl _ _) 1 (.int .i64 a.d) (by rw [← hnd]; rfl)
      rw [Nat.zero_add] at az
      have hlz : (x.N.length : Int) < ((actX x a).N.length : Int) := by omega
      have hO7 := (hO.keep hk5).keep hg57.1
      have c17 := hO7.cell (o := 1) rfl rfl
      simp -dsimp -implicitDefEqProofs (maxSteps := 2000000) (disch := first | assumption | omega | (simp only [nx]; omega) | ((repeat refine Fresh.push ?_ _); assumption) | (simp only [smA]; done) | (simp [oneCell, AW.next_push]; done) | fail) only [go_sem, Nat.reduceEqDiff, reduceIte, Nat.reduceAdd, Int.toNat_natCast, Nat.add_zero, Owes_true, e1, e5, e7, e9, e11, hEd, hle, Option.map, hsl]
      apply callV_of (e := rfl)
      · exact SameNotes_ok x.N _ _ w7 hT1 hN2
      rintro _ _ ⟨rfl, rfl⟩
      simp -dsimp -implicitDefEqProofs (maxSteps := 2000000) (disch := first | assumption | omega | (simp only [nx]; omega) | ((repeat refine Fresh.push ?_ _); assumption) | (simp only [smA]; done) | (simp [oneCell, AW.next_push]; done) | fail) only [go_sem, Nat.reduceEqDiff, reduceIte, Nat.reduceAdd, Int.toNat_natCast, Nat.add_zero, Owes_true, e1, e5, e7, e9, e11, indexV_eq, hlz, az, c17, Nat.zero_add]
      apply callV_of (e := rfl)
      · exact callT_told (Q := fun v w' => v = .bool true ∧ w7 = w') (v := .bool true) (w' := w7) rfl ⟨rfl, rfl⟩
      rintro _ _ ⟨rfl, rfl⟩
      simp -dsimp -implicitDefEqProofs (maxSteps := 2000000) (disch := first | assumption | omega | (simp only [nx]; omega) | ((repeat refine Fresh.push ?_ _); assumption) | (simp only [smA]; done) | (simp [oneCell, AW.next_push]; done) | fail) only [go_sem, Nat.reduceEqDiff, reduceIte, Nat.reduceAdd, Int.toNat_natCast, Nat.add_zero, Owes_true, Try.results12]
    · have hEd : decide (actE x a = 0) = false := decide_eq_false hE
      have hXx := actX_no hE
      simp -dsimp -implicitDefEqProofs (maxSteps := 2000000) (disch := first | assumption | omega | (simp only [nx]; omega) | ((repeat refine Fresh.push ?_ _); assumption) | (simp only [smA]; done) | (simp [oneCell, AW.next_push]; done) | fail) only [go_sem, Nat.reduceEqDiff, reduceIte, Nat.reduceAdd, Int.toNat_natCast, Nat.add_zero, Owes_true, e1, e5, e7, e9, e11, hEd]
      apply callV_of (e := rfl)
      · exact Holds_ok bp bb r (actX x a) F1 w7 (hg57.2) (q1.grown hg57) hact.1.good
      rintro _ w8 ⟨rfl, hg8⟩
      simp -dsimp -implicitDefEqProofs (maxSteps := 2000000) (disch := first | assumption | omega | (simp only [nx]; omega) | ((repeat refine Fresh.push ?_ _); assumption) | (simp only [smA]; done) | (simp [oneCell, AW.next_push]; done) | fail) only [go_sem, Nat.reduceEqDiff, reduceIte, Nat.reduceAdd, Int.toNat_natCast, Nat.add_zero, Owes_true, e1, e5, e7, e9, e11]
      apply callV_of (e := rfl)
      · exact Holds_ok bp2 bb2 r2 x F2 w8 hg8.2 ((q2.grown hg57).grown hg8) hi1.good
      rintro _ w9 ⟨rfl, hg9⟩
      have g79 := hg8.trans hg9
      rw [hXx] at hN1' q1
      rw [hXx]
      have hNA := hN1'.grown g79
      have hNB := hN2.grown g79
      obtain ⟨m1, v1, rfl, _, _, _⟩ := id hNA.open
      simp -dsimp -implicitDefEqProofs (maxSteps := 2000000) (disch := first | assumption | omega | (simp only [nx]; omega) | ((repeat refine Fresh.push ?_ _); assumption) | (simp only [smA]; done) | (simp [oneCell, AW.next_push]; done) | fail) only [go_sem, Nat.reduceEqDiff, reduceIte, Nat.reduceAdd, Int.toNat_natCast, Nat.add_zero, Owes_true, e1, e5, e7, e9, e11]
      apply callV_of (e := rfl)
      · exact SameNotes_ok x.N _ _ w9 hNA hNB
      rintro _ _ ⟨rfl, rfl⟩
      have qq1 := (q1.grown hg57).grown g79
      have qq2 := (q2.grown hg57).grown g79
      have hns := hi1.good.n
      simp -dsimp -implicitDefEqProofs (maxSteps := 2000000) (disch := first | assumption | omega | (simp only [nx]; omega) | ((repeat refine Fresh.push ?_ _); assumption) | (simp only [smA]; done) | (simp [oneCell, AW.next_push]; done) | fail) only [go_sem, Nat.reduceEqDiff, reduceIte, Nat.reduceAdd, Int.toNat_natCast, Nat.add_zero, Owes_true, e1, e5, e7, e9, e11]
      apply callV_of (e := rfl)
      · exact Surpluses_ok bp bb r x F1 w9 g79.2 qq1 (by omega)
      rintro s1 w10 ⟨hS1, _, hg10⟩
      simp -dsimp -implicitDefEqProofs (maxSteps := 2000000) (disch := first | assumption | omega | (simp only [nx]; omega) | ((repeat refine Fresh.push ?_ _); assumption) | (simp only [smA]; done) | (simp [oneCell, AW.next_push]; done) | fail) only [go_sem, Nat.reduceEqDiff, reduceIte, Nat.reduceAdd, Int.toNat_natCast, Nat.add_zero, Owes_true, e1, e5, e7, e9, e11]
      apply callV_of (e := rfl)
      · exact Surpluses_ok bp2 bb2 r2 x F2 w10 hg10.2 (qq2.grown hg10) (by omega)
      rintro s2 w11 ⟨hS2, _, hg11⟩
      simp -dsimp -implicitDefEqProofs (maxSteps := 2000000) (disch := first | assumption | omega | (simp only [nx]; omega) | ((repeat refine Fresh.push ?_ _); assumption) | (simp only [smA]; done) | (simp [oneCell, AW.next_push]; done) | fail) only [go_sem, Nat.reduceEqDiff, reduceIte, Nat.reduceAdd, Int.toNat_natCast, Nat.add_zero, Owes_true, e1, e5, e7, e9, e11]
      apply callV_of (e := rfl)
      · exact SameSurs_ok x.S _ _ w11 (hS1.grown hg11) hS2
      rintro _ _ ⟨rfl, rfl⟩
      simp -dsimp -implicitDefEqProofs (maxSteps := 2000000) (disch := first | assumption | omega | (simp only [nx]; omega) | ((repeat refine Fresh.push ?_ _); assumption) | (simp only [smA]; done) | (simp [oneCell, AW.next_push]; done) | fail) only [go_sem, Nat.reduceEqDiff, reduceIte, Nat.reduceAdd, Int.toNat_natCast, Nat.add_zero, Owes_true, e1, e5, e7, e9, e11]
      apply callV_of (e := rfl)
      · exact callT_told (Q := fun v w' => v = .bool true ∧ w11 = w') (v := .bool true) (w' := w11) rfl ⟨rfl, rfl⟩
      rintro _ _ ⟨rfl, rfl⟩
      simp -dsimp -implicitDefEqProofs (maxSteps := 2000000) (disch := first | assumption | omega | (simp only [nx]; omega) | ((repeat refine Fresh.push ?_ _); assumption) | (simp only [smA]; done) | (simp [oneCell, AW.next_push]; done) | fail) only [go_sem, Nat.reduceEqDiff, reduceIte, Nat.reduceAdd, Int.toNat_natCast, Nat.add_zero, Owes_true, Try.results12]
end Go.Proofs
