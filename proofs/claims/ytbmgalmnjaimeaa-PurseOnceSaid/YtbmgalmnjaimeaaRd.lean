/- New, Notes, Surpluses, Holds; an act is done; what a purse keeps. -/
import Derived.Test.YtbmgalmnjaimeaaRc
import Derived.Test.YtbmgalmnjaimeaaNd
import Derived.Test.YtbmgalmnjaimeaaTe
set_option linter.unusedVariables false
set_option linter.unusedSimpArgs false
namespace Go.Proofs
open Go Go.RowKit Go.Sim
set_option maxRecDepth 100000
theorem bld117 (T : Int) (r : Nat) : bldQ [(0, 1), (1, 1), (2, 1), (3, 1), (4, 1)] [.int .i64 0, .slice none 0 0, .map none, .int .i64 0, .slice none 0 0] [(0, .int .i64 T), (2, .map (some r))] = some (.agg #[.int .i64 T, .slice none 0 0, .map (some r), .int .i64 0, .slice none 0 0]) := by kernel_rfl
attribute [go_sem] bld117
def newB (T : Int) : Bool := inR 0 T 12000
set_option maxHeartbeats 4000000 in
theorem New_ok (T : Int) (w : AW) (f : Fresh w) :
    CallT Try.prog Try.T1 (.fn (.func 23) #[]) #[.int .i64 T] w (fun rv w' => (newB T = false ∧ rv = .tuple #[.pointer none, .int .i64 7] ∧ w = w') ∨ (newB T = true ∧ ∃ bp bb r, rv = .tuple #[.pointer (some ⟨bp, 0, none⟩), .int .i64 0] ∧ PurAt w' (fun j => w.next ≤ j ∧ j < w'.next) bp bb r ⟨T, [], 0, []⟩ ∧ Grown w w')) := by
  refine callT_code rfl Try.func23 rfl Try.s23_eq rfl ?_
  unfold Try.s23
  simp -dsimp -implicitDefEqProofs (maxSteps := 2000000) (disch := first | assumption | omega | (simp only [nx]; omega) | ((repeat refine Fresh.push ?_ _); assumption) | (simp only [smA]; done) | (simp [oneCell, AW.next_push]; done) | fail) only [go_sem, Nat.reduceEqDiff, reduceIte, Nat.reduceAdd, Int.toNat_natCast, Nat.add_zero, Owes_true, Try.results23]
  apply callV_of (e := rfl)
  · exact within_ok _ _ _ _
  rintro _ _ ⟨rfl, rfl⟩
  unfold newB
  cases hT : inR 0 T 12000 with
  | false =>
    simp -dsimp -implicitDefEqProofs (maxSteps := 2000000) (disch := first | assumption | omega | (simp only [nx]; omega) | ((repeat refine Fresh.push ?_ _); assumption) | (simp only [smA]; done) | (simp [oneCell, AW.next_push]; done) | fail) only [go_sem, Nat.reduceEqDiff, reduceIte, Nat.reduceAdd, Int.toNat_natCast, Nat.add_zero, Owes_true, Try.results23]
    exact .inl ⟨trivial, trivial, trivial⟩
  | true =>
    have g1 := (Grown.refl f).push (.map #[] 0)
    have g2 := g1.push (.cells [.int .i64 T, .slice none 0 0, .map (some w.next), .int .i64 0, .slice none 0 0] 117 (w.next + 1) 0 0)
    have g3 := g2.push (.cells [.pointer (some ⟨w.next + 1, 0, none⟩)] 93 (w.next + 1 + 1) 0 0)
    have hm := ((MapN.new w).other (MutS.of ((Grown.refl g1.2).push (.cells [.int .i64 T, .slice none 0 0, .map (some w.next), .int .i64 0, .slice none 0 0] 117 (w.next + 1) 0 0))) (S := fun _ => False) id).other (MutS.of ((Grown.refl g2.2).push (.cells [.pointer (some ⟨w.next + 1, 0, none⟩)] 93 (w.next + 1 + 1) 0 0))) (S := fun _ => False) id
    have h2 := Own.new g1.2 117 [.int .i64 T, .slice none 0 0, .map (some w.next), .int .i64 0, .slice none 0 0]
    simp only [AW.next_push] at h2
    have h2 := h2.push (.cells [.pointer (some ⟨w.next + 1, 0, none⟩)] 93 (w.next + 1 + 1) 0 0)
    have h3 := Own.new g2.2 93 [.pointer (some ⟨w.next + 1, 0, none⟩)]
    simp only [AW.next_push] at h3
    simp -dsimp -implicitDefEqProofs (maxSteps := 2000000) (disch := first | assumption | omega | (simp only [nx]; omega) | ((repeat refine Fresh.push ?_ _); assumption) | (simp only [smA]; done) | (simp [oneCell, AW.next_push]; done) | fail) only [go_sem, Nat.reduceEqDiff, reduceIte, Nat.reduceAdd, Int.toNat_natCast, Nat.add_zero, Owes_true, Try.results23]
    refine .inr ⟨trivial, w.next + 1 + 1, w.next + 1, w.next, rfl, ⟨.slice none 0 0, .slice none 0 0, fun _ => False, fun _ => False, h3, h2, .inl ⟨rfl, rfl, rfl⟩, .inl ⟨rfl, rfl, rfl⟩, hm, ?_, fun j q => q.elim, fun j q => q.elim, ⟨by omega, by omega, by omega⟩, fun j hj => hj.2⟩, g3⟩
    omega
def nilSQ (d : Option Value) : Value → Option Value
  | .slice none _ _ => some (.bool true)
  | .slice (some _) _ _ => some (.bool false)
  | _ => d
theorem nilSQ_some (d : Option Value) (a : Addr) (n c : Nat) : nilSQ d (.slice (some a) n c) = some (.bool false) := rfl
theorem nilSQ_none (d : Option Value) (n c : Nat) : nilSQ d (.slice none n c) = some (.bool true) := rfl
theorem eqQ_sl {P : Program} {op : BinOp} {ty : TypeId} {a : Option Addr} {n c : Nat} {y : Value} : eqQ P op ty (.slice a n c) y = none := by cases y <;> rfl
theorem sl_nil {t : Tmps} {w : AW} {ty r e : TypeId} {x : Operand} {a : Bool} {n b : Nat} {z : Value} (h : (prg Try.prog).ty ty = some ⟨a, .slice e, n, b, z⟩) : fast (prg Try.prog) t w (.binOp .eql ty x (.const (.slice none 0 0)) r) = nilSQ (fast0 (prg Try.prog) t w (.binOp .eql ty x (.const (.slice none 0 0)) r)) (ev t x) := by
  generalize hv : ev t x = v
  cases v <;> try rfl
  rename_i q _ _
  cases q <;> simp only [nilSQ, fast, hv, h, ev_const] <;> rfl
theorem Try.sn57 (t : Tmps) (w : AW) (x : Operand) (r : TypeId) : fast (prg Try.prog) t w (.binOp .eql 57 x (.const (.slice none 0 0)) r) = nilSQ (fast0 (prg Try.prog) t w (.binOp .eql 57 x (.const (.slice none 0 0)) r)) (ev t x) := sl_nil Try.ty57
theorem Try.bs57x0 (t : Tmps) (l : List (Nat × Operand)) : makes (prg Try.prog) t (.buildSlice 57 0 ⟨l⟩) = bsQ 53 0 5 [] (l.map fun p => (p.1, ev t p.2)) := makes_bs Try.ty57 Try.ty53 rfl (by kernel_rfl)
attribute [go_sem] Try.bs57x0
attribute [go_sem] nilSQ_some nilSQ_none eqQ_sl Try.sn57
set_option maxHeartbeats 4000000 in
theorem cloneS_ok (L : List SurN) (v : Value) (S : Nat → Prop) (w : AW) (f : Fresh w) (h : AOwnS S w 53 5 v L.length (L.flatMap surc)) (hl : L.length ≤ 1000) :
    CallT Try.prog Try.T1 (.fn (.func 73) #[]) #[v] w (fun rv w' => ArrOf w' 5 surc rv L ∧ (1 ≤ L.length → ∀ b o n c, rv = .slice (some ⟨b, o, none⟩) n c → w.next ≤ b) ∧ Grown w w') := by
  rcases h with ⟨rfl, h0, _⟩ | ⟨b, r, rfl, q1, q2, q3, q4, q5, q6, q8, q7⟩
  · have : L = [] := List.length_eq_zero_iff.mp h0
    subst this
    refine callT_code rfl Try.func73 rfl Try.s73_eq rfl ?_
    unfold Try.s73
    simp -dsimp -implicitDefEqProofs (maxSteps := 2000000) (disch := first | assumption | omega | (simp only [nx]; omega) | ((repeat refine Fresh.push ?_ _); assumption) | (simp only [smA]; done) | (simp [oneCell, AW.next_push]; done) | fail) only [go_sem, Nat.reduceEqDiff, reduceIte, Nat.reduceAdd, Int.toNat_natCast, Nat.add_zero, Owes_true, Try.results73]
    exact ⟨ArrOf.nil _ _ _, fun q => by simp at q, .refl f⟩
  · have hA : AOwn 0 w 53 5 (.slice (some ⟨b, 0, none⟩) L.length L.length) L.length (L.flatMap surc) := AOwnS.own (S := S) (.inr ⟨b, r, rfl, q1, q2, q3, q4, q5, q6, q8, q7⟩)
    have hs := hA.arr surc_len (by omega)
    have g := (Grown.refl f).push (.cells [] 53 w.next 0 0)
    have hn := arr_new (hs.grown g) surc_len (by omega)
    obtain ⟨v', w', happ, hk, hf, hor⟩ := append_empty (b := w.next) (e' := 53) Try.ty57 Try.ty53 rfl (by omega) (blk_push_top _ _) g.2 rfl hn (flatMap_len surc_len L) q8 (by omega) (by omega)
    refine callT_code rfl Try.func73 rfl Try.s73_eq rfl ?_
    unfold Try.s73
    simp -dsimp -implicitDefEqProofs (maxSteps := 2000000) (disch := first | assumption | omega | (simp only [nx]; omega) | ((repeat refine Fresh.push ?_ _); assumption) | (simp only [smA]; done) | (simp [oneCell, AW.next_push]; done) | fail) only [go_sem, Nat.reduceEqDiff, reduceIte, Nat.reduceAdd, Int.toNat_natCast, Nat.add_zero, Owes_true, Try.results73, happ]
    refine ⟨?_, ?_, g.trans ⟨hk, hf⟩⟩
    rotate_left
    · intro q b o n c e
      rcases hor with ⟨h0, _, _⟩ | hA
      · omega
      · rcases hA with ⟨rfl, h0, _⟩ | ⟨b', r', rfl, a2, _⟩
        · cases e
        · injection e with e1
          injection e1 with e1
          injection e1 with e1
          subst e1
          rw [AW.next_push] at a2
          omega
    rcases hor with ⟨h0, rfl, rfl⟩ | hA
    · have : L = [] := List.length_eq_zero_iff.mp h0
      subst this
      exact ⟨_, _, _, rfl, rfl, by simp, by simp, fun h => by simp at h⟩
    · exact hA.arr surc_len (by omega)
theorem Surpluses_ok (bp bb r : Nat) (x : PurN) (F : Nat → Prop) (w : AW) (f : Fresh w) (h : PurAt w F bp bb r x) (hl : x.S.length ≤ 1000) :
    CallT Try.prog Try.T1 (.fn (.func 32) #[]) #[.pointer (some ⟨bp, 0, none⟩)] w (fun rv w' => ArrOf w' 5 surc rv x.S ∧ (1 ≤ x.S.length → ∀ b o n c, rv = .slice (some ⟨b, o, none⟩) n c → w.next ≤ b) ∧ Grown w w') := by
  obtain ⟨vs, vn, S1, S2, hB⟩ := h
  obtain ⟨p0, n0, k0, rfl⟩ := hB.sur.isSlice
  have o0 := hB.own.cell (o := 0) rfl rfl
  have b1 := hB.bk.cell (o := 1) rfl rfl
  refine callT_code rfl Try.func32 rfl Try.s32_eq rfl ?_
  unfold Try.s32
  simp -dsimp -implicitDefEqProofs (maxSteps := 2000000) (disch := first | assumption | omega | (simp only [nx]; omega) | ((repeat refine Fresh.push ?_ _); assumption) | (simp only [smA]; done) | (simp [oneCell, AW.next_push]; done) | fail) only [go_sem, Nat.reduceEqDiff, reduceIte, Nat.reduceAdd, Int.toNat_natCast, Nat.add_zero, Owes_true]
  apply callV_of (e := rfl)
  · exact isNil_ok bp bb w hB.own
  rintro _ _ ⟨rfl, rfl⟩
  simp -dsimp -implicitDefEqProofs (maxSteps := 2000000) (disch := first | assumption | omega | (simp only [nx]; omega) | ((repeat refine Fresh.push ?_ _); assumption) | (simp only [smA]; done) | (simp [oneCell, AW.next_push]; done) | fail) only [go_sem, Nat.reduceEqDiff, reduceIte, Nat.reduceAdd, Int.toNat_natCast, Nat.add_zero, Owes_true, o0, b1, Nat.zero_add]
  apply callV_of (e := rfl)
  · exact cloneS_ok x.S _ S1 w f hB.sur hl
  rintro u w1 ⟨hA, hNw, hg⟩
  simp -dsimp -implicitDefEqProofs (maxSteps := 2000000) (disch := first | assumption | omega | (simp only [nx]; omega) | ((repeat refine Fresh.push ?_ _); assumption) | (simp only [smA]; done) | (simp [oneCell, AW.next_push]; done) | fail) only [go_sem, Nat.reduceEqDiff, reduceIte, Nat.reduceAdd, Int.toNat_natCast, Nat.add_zero, Owes_true, Try.results32]
  exact ⟨hA, hNw, hg⟩
end Go.Proofs

namespace Go.Proofs
open Go Go.RowKit Go.Sim
set_option maxRecDepth 100000
theorem Try.agg3 : prun Try.prog (isAgg 3) = some false := by kernel_rfl
theorem Try.agg9 : prun Try.prog (isAgg 9) = some false := by kernel_rfl
theorem beq_bytes (a : ByteArray) : (a == a) = true := by
  cases a with
  | mk d => show (d == d) = true; simp
theorem eqF_string {P : Program} {n : Nat} {xs ys : Array Value} {f : Field} {a : ByteArray} (hn : f.name ≠ "_") (hu : P.underlying f.type = some .string) (e : prun P (isAgg f.type) = some false) (hx : xs[f.offset]? = some (.string a)) (hy : ys[f.offset]? = some (.string a)) : EqF P (n + 1) xs ys f true := by
  refine ⟨hn, _, _, part_one e hx, part_one e hy, ?_⟩
  rw [Op.equalIn]
  rw [prun_bindS _ _ (prun_underlying hu)]
  have h := beq_bytes a
  simp only [h]
  rfl
theorem Try.nq53 (s : ByteArray) (a b c d : Int) : eqQ Try.prog .neq 53 (.agg #[.string s, .int .i64 a, .int .i64 b, .int .i64 c, .int .i64 d]) (.agg #[.string s, .int .i64 a, .int .i64 b, .int .i64 c, .int .i64 d]) = some (.bool false) := by
  have h := eqQ_neq (P := Try.prog) (ty := 53) (xs := #[.string s, .int .i64 a, .int .i64 b, .int .i64 c, .int .i64 d]) (ys := #[.string s, .int .i64 a, .int .i64 b, .int .i64 c, .int .i64 d]) (by kernel_rfl) rfl (eqStruct Try.underlying53 (by kernel_rfl) (n := 9999) (.cons (eqF_string (by decide) Try.underlying9 Try.agg9 rfl rfl) (.cons (eqF_int (k := .i64) (by decide) Try.underlying3 Try.agg3 rfl rfl) (.cons (eqF_int (k := .i64) (by decide) Try.underlying3 Try.agg3 rfl rfl) (.cons (eqF_int (k := .i64) (by decide) Try.underlying3 Try.agg3 rfl rfl) (.cons (eqF_int (k := .i64) (by decide) Try.underlying3 Try.agg3 rfl rfl) .nil))))))
  rw [h]; simp
attribute [go_sem] Try.nq53
theorem same_bool (b : Bool) : same 12 (.bool b) (.bool b) = true := by cases b <;> rfl
theorem same_sur (s : ByteArray) (a b c d : Int) : same 12 (.agg #[.string s, .int .i64 a, .int .i64 b, .int .i64 c, .int .i64 d]) (.agg #[.string s, .int .i64 a, .int .i64 b, .int .i64 c, .int .i64 d]) = true := by simp [same, same.all, intEq_eq, bytesEq_eq]
end Go.Proofs

namespace Go.Proofs
open Go Go.RowKit Go.Sim
set_option maxRecDepth 100000
def heldQ (S : List SurN) (i : Nat) : Bool := match S[i]? with
  | some y => decide (y.st = 1)
  | none => false
def heldM (x : PurN) : Int := ((pick (heldQ x.S) x.S.length).map (mOf x.S)).sum
theorem waits1_ok (i : Nat) (b1 bp bb r : Nat) (x : PurN) (F : Nat → Prop) (w : AW) (h : PurAt w F bp bb r x) (hi : i < x.S.length) (h1 : Own w b1 91 [.pointer (some ⟨bb, 0, none⟩)]) :
    CallT Try.prog Try.T1 (.fn (.func 103) #[.pointer (some ⟨b1, 0, none⟩)]) #[.int .i64 (i : Int)] w (Ret (.int .i64 (mOf x.S i)) fun w' => w = w') := by
  obtain ⟨vs, vn, S1, S2, hB⟩ := h
  obtain ⟨b, rfl, _, _, hcell⟩ := hB.sur.cells surc_len (by omega)
  have q1 := h1.cell (o := 0) rfl rfl
  have c1 := hB.bk.cell (o := 1) rfl rfl
  have hget : x.S[i]? = some x.S[i] := List.getElem?_eq_getElem hi
  have hm : mOf x.S i = x.S[i].m := by unfold mOf; rw [hget]
  have hil : (i : Int) < (x.S.length : Int) := by omega
  have a1 := hcell (i * 5 + 1) (.int .i64 x.S[i].m) (by have := flatMap_get surc_len x.S i 1 _ hget (by omega); rw [this]; rfl)
  rw [hm]
  refine callT_code rfl Try.func103 rfl Try.s103_eq rfl ?_
  unfold Try.s103
  simp -dsimp -implicitDefEqProofs (maxSteps := 2000000) (disch := first | assumption | omega | (simp only [nx]; omega) | ((repeat refine Fresh.push ?_ _); assumption) | (simp only [smA]; done) | (simp [oneCell, AW.next_push]; done) | fail) only [go_sem, Nat.reduceEqDiff, reduceIte, Nat.reduceAdd, Int.toNat_natCast, Nat.add_zero, Owes_true, Try.results103, q1, c1, Nat.zero_add, indexV_eq, hil, a1]
  exact ⟨rfl, rfl⟩
set_option maxHeartbeats 4000000 in
theorem waits_ok (bp bb r : Nat) (x : PurN) (F : Nat → Prop) (w : AW) (f : Fresh w) (h : PurAt w F bp bb r x) (hg : PGood x) :
    CallT Try.prog Try.T1 (.fn (.func 71) #[]) #[.pointer (some ⟨bb, 0, none⟩)] w (Ret (.int .i64 (heldM x)) (Grown w)) := by
  have g1 := (Grown.refl f).push (.cells [.pointer (some ⟨bb, 0, none⟩)] 91 w.next 0 0)
  have h1 := Own.new f 91 [.pointer (some ⟨bb, 0, none⟩)]
  have q1 := h1.cell (o := 0) rfl rfl
  have hP := h.grown g1
  obtain ⟨vs, vn, S1, S2, hB⟩ := id hP
  obtain ⟨p0, n0, k0, rfl⟩ := hB.sur.isSlice
  have b1 := hB.bk.cell (o := 1) rfl rfl
  have hsn := hg.n
  refine callT_code rfl Try.func71 rfl Try.s71_eq rfl ?_
  unfold Try.s71
  simp -dsimp -implicitDefEqProofs (maxSteps := 2000000) (disch := first | assumption | omega | (simp only [nx]; omega) | ((repeat refine Fresh.push ?_ _); assumption) | (simp only [smA]; done) | (simp [oneCell, AW.next_push]; done) | fail) only [go_sem, Nat.reduceEqDiff, reduceIte, Nat.reduceAdd, Int.toNat_natCast, Nat.add_zero, Owes_true, Try.results71, Nat.zero_add, q1, b1]
  generalize w.push (.cells [.pointer (some ⟨bb, 0, none⟩)] 91 w.next 0 0) = w1 at *
  apply callV_of (e := rfl)
  · exact placesS_ok x.S (.slice p0 n0 k0) (.func 102) #[] #[] (heldQ x.S) w1 g1.2 (hB.sur.own.arr surc_len (by omega)) (by omega) (fun w3 g3 i hi => by
    have : heldQ x.S i = decide (x.S[i].st = 1) := by unfold heldQ; rw [List.getElem?_eq_getElem hi]
    rw [this]; exact isHeld_ok x.S[i] w3 g3.2)
  rintro u w2 ⟨hA, hg2⟩
  have hpl := pick_len (heldQ x.S) x.S.length
  have hpn : ((pick (heldQ x.S) x.S.length).map nint).length = (pick (heldQ x.S) x.S.length).length := by simp
  have g2 := g1.trans hg2
  have h12 := h1.keep hg2.1
  simp -dsimp -implicitDefEqProofs (maxSteps := 2000000) (disch := first | assumption | omega | (simp only [nx]; omega) | ((repeat refine Fresh.push ?_ _); assumption) | (simp only [smA]; done) | (simp [oneCell, AW.next_push]; done) | fail) only [go_sem, Nat.reduceEqDiff, reduceIte, Nat.reduceAdd, Int.toNat_natCast, Nat.add_zero, Owes_true, Try.results71]
  apply callV_of (e := rfl)
  · exact each_ok ((pick (heldQ x.S) x.S.length).map nint) u (.func 103) #[] #[.pointer (some ⟨w.next, 0, none⟩)] (fun z => mOf x.S z.toNat) w2 g2.2 (hA.arr icells_len (by omega)) (by omega) (fun w3 g3 z hz => by
    obtain ⟨i, hi, rfl⟩ := List.mem_map.1 hz
    have := (pick_lt hi).1
    exact waits1_ok i _ bp bb r x F w3 ((hP.grown hg2).grown g3) this (h12.keep g3.1))
  rintro _ w3 ⟨b, rfl, hb, hO, hg3⟩
  have hmm : ((pick (heldQ x.S) x.S.length).map nint).map (fun z => mOf x.S z.toNat) = (pick (heldQ x.S) x.S.length).map (mOf x.S) := by
    rw [List.map_map]; rfl
  rw [hmm] at hO
  have hl3 : ((pick (heldQ x.S) x.S.length).map (mOf x.S)).length = ((pick (heldQ x.S) x.S.length).map nint).length := by simp
  have hArr := hO.iarr (by rw [hl3]; omega)
  rw [hl3] at hArr
  have hsm : Small ((pick (heldQ x.S) x.S.length).map (mOf x.S)) := small_of (m := 67108864) (fun z hz => by
    obtain ⟨i, _, rfl⟩ := List.mem_map.1 hz
    exact mOf_good hg i) (by rw [hl3]; omega)
  simp -dsimp -implicitDefEqProofs (maxSteps := 2000000) (disch := first | assumption | omega | (simp only [nx]; omega) | ((repeat refine Fresh.push ?_ _); assumption) | (simp only [smA]; done) | (simp [oneCell, AW.next_push]; done) | fail) only [go_sem, Nat.reduceEqDiff, reduceIte, Nat.reduceAdd, Int.toNat_natCast, Nat.add_zero, Owes_true, Try.results71]
  apply callV_of (e := rfl)
  · exact total_ok _ _ w3 hArr hsm
  rintro _ _ ⟨rfl, rfl⟩
  simp -dsimp -implicitDefEqProofs (maxSteps := 2000000) (disch := first | assumption | omega | (simp only [nx]; omega) | ((repeat refine Fresh.push ?_ _); assumption) | (simp only [smA]; done) | (simp [oneCell, AW.next_push]; done) | fail) only [go_sem, Nat.reduceEqDiff, reduceIte, Nat.reduceAdd, Int.toNat_natCast, Nat.add_zero, Owes_true, Try.results71]
  exact ⟨rfl, g2.trans hg3⟩
set_option maxHeartbeats 4000000 in
theorem Holds_ok (bp bb r : Nat) (x : PurN) (F : Nat → Prop) (w : AW) (f : Fresh w) (h : PurAt w F bp bb r x) (hg : PGood x) :
    CallT Try.prog Try.T1 (.fn (.func 27) #[]) #[.pointer (some ⟨bp, 0, none⟩)] w (Ret (.tuple #[.int .i64 (heldM x), .int .i64 x.W, .int .i64 0]) (Grown w)) := by
  obtain ⟨vs, vn, S1, S2, hB⟩ := id h
  have o0 := hB.own.cell (o := 0) rfl rfl
  have b3 := hB.bk.cell (o := 3) rfl rfl
  refine callT_code rfl Try.func27 rfl Try.s27_eq rfl ?_
  unfold Try.s27
  simp -dsimp -implicitDefEqProofs (maxSteps := 2000000) (disch := first | assumption | omega | (simp only [nx]; omega) | ((repeat refine Fresh.push ?_ _); assumption) | (simp only [smA]; done) | (simp [oneCell, AW.next_push]; done) | fail) only [go_sem, Nat.reduceEqDiff, reduceIte, Nat.reduceAdd, Int.toNat_natCast, Nat.add_zero, Owes_true]
  apply callV_of (e := rfl)
  · exact isNil_ok bp bb w hB.own
  rintro _ _ ⟨rfl, rfl⟩
  simp -dsimp -implicitDefEqProofs (maxSteps := 2000000) (disch := first | assumption | omega | (simp only [nx]; omega) | ((repeat refine Fresh.push ?_ _); assumption) | (simp only [smA]; done) | (simp [oneCell, AW.next_push]; done) | fail) only [go_sem, Nat.reduceEqDiff, reduceIte, Nat.reduceAdd, Int.toNat_natCast, Nat.add_zero, Owes_true, o0, b3, Nat.zero_add]
  apply callV_of (e := rfl)
  · exact waits_ok bp bb r x F w f h hg
  rintro _ w1 ⟨rfl, hg1⟩
  have hle := hg1.1.wle f
  simp -dsimp -implicitDefEqProofs (maxSteps := 2000000) (disch := first | assumption | omega | (simp only [nx]; omega) | ((repeat refine Fresh.push ?_ _); assumption) | (simp only [smA]; done) | (simp [oneCell, AW.next_push]; done) | fail) only [go_sem, Nat.reduceEqDiff, reduceIte, Nat.reduceAdd, Int.toNat_natCast, Nat.add_zero, Owes_true, Try.results27]
  exact ⟨rfl, hg1⟩
end Go.Proofs

namespace Go.Proofs
open Go Go.RowKit Go.Sim
set_option maxRecDepth 100000
structure ActV where
  k : Int
  d : Int
  p : Int
  lv : Value
  xs : List PartV
  Ds : List (List DueN)
  s : ByteArray
  wv : Value
  ws : List Int
def actV (a : ActV) : Value := .agg #[.int .i64 a.k, .int .i64 a.d, .int .i64 a.p, a.lv, .string a.s, a.wv]
structure ActAt (w : AW) (a : ActV) : Prop where
  lot : PartsAt w a.lv a.xs a.Ds
  wts : ArrOf w 1 icells a.wv a.ws
noncomputable def actE (x : PurN) (a : ActV) : Int := if inR (lastDay x.N) a.d 36500 = false then 34 else if a.k = 1 then sellE x a.p a.xs a.Ds else if a.k = 2 then (if payB x a.d a.s = true then 0 else 73) else if a.k = 3 then 0 else shareE a.ws x.W
noncomputable def actX (x : PurN) (a : ActV) : PurN := if actE x a ≠ 0 then x else if a.k = 1 then { sellX x a.p a.xs a.Ds a.d with N := x.N ++ [⟨1, a.d, a.p⟩] } else if a.k = 2 then { payX x a.d a.s with N := x.N ++ [⟨2, a.d, payM x a.s⟩] } else if a.k = 3 then { passX x a.d with N := x.N ++ [⟨3, a.d, passM x a.d⟩] } else { x with W := 0, N := x.N ++ [⟨4, a.d, x.W⟩] }
def DoneRes (B : Nat) (w : AW) (x : PurN) (a : ActV) (u1 u2 : Value) : Prop := actE x a = 0 → (a.k = 1 → ∃ zs, PortsAt w (fun j => j < B) u1 zs ∧ Lefts a.p a.xs a.Ds zs) ∧ (a.k = 2 → ArrOf w 1 icells u2 [payM x a.s]) ∧ (a.k = 3 → ArrOf w 1 icells u2 [passM x a.d]) ∧ (a.k ≠ 1 → a.k ≠ 2 → a.k ≠ 3 → ArrOf w 1 icells u2 (shareL a.ws x.W))
theorem one_arr {w : AW} (f : Fresh w) (n : Int) : ArrOf (w.push (.cells [.int .i64 n] 3 w.next 0 0)) 1 icells (.slice (some ⟨w.next, 0, none⟩) 1 1) [n] :=
  (Own.new f 3 [.int .i64 n]).arr (enc := icells) (L := [n]) (fun _ => rfl) (fun x v hv => by simp [icells] at hv; subst hv; rfl) (by simp)
set_option maxHeartbeats 16000000 in
theorem done_ok (a : ActV) (bp bb r : Nat) (x : PurN) (F : Nat → Prop) (w0 w : AW) (f : Fresh w) (h : PurAt w F bp bb r x) (ha : ActAt w0 a) (hk0 : Keep w0.next w0 w) (hF0 : ∀ j, F j → w0.next ≤ j) (hg : PGood x) (hl : x.N.length < 1000) :
    CallT Try.prog Try.T1 (.fn (.func 25) #[]) #[.pointer (some ⟨bp, 0, none⟩), actV a] w (fun rv w' => ∃ u1 u2 F', rv = .tuple #[u1, u2, .int .i64 (actE x a)] ∧ PurAt w' F' bp bb r (actX x a) ∧ MutS F w w' ∧ Within F w F' ∧ DoneRes w.next w' x a u1 u2) := by
  obtain ⟨k, d, p, lv, xs, Ds, s, wv, ws⟩ := a
  obtain ⟨hlot, hwts⟩ := ha
  simp only at hlot hwts
  obtain ⟨pl, cl, rfl, _⟩ := id hlot.at
  obtain ⟨pw, cw, rfl, _⟩ := id hwts.open
  have g1 := (Grown.refl f).push (.cells [.int .i64 k, .int .i64 d, .int .i64 p, .slice pl xs.length cl, .string s, .slice pw ws.length cw] 48 w.next 0 0)
  have hO := Own.new f 48 [.int .i64 k, .int .i64 d, .int .i64 p, .slice pl xs.length cl, .string s, .slice pw ws.length cw]
  have c0 := hO.cell (o := 0) rfl rfl
  have c1 := hO.cell (o := 1) rfl rfl
  have c2 := hO.cell (o := 2) rfl rfl
  have c3 := hO.cell (o := 3) rfl rfl
  have c4 := hO.cell (o := 4) rfl rfl
  have c5 := hO.cell (o := 5) rfl rfl
  have hP := h.grown g1
  have hk1 : Keep w0.next w0 _ := hk0.trans (g1.1.mono hk0.next)
  have hwt : ArrOf _ 1 icells (.slice pw ws.length cw) ws := hwts.grown ⟨hk1, g1.2⟩
  have hEd : actE x ⟨k, d, p, .slice pl xs.length cl, xs, Ds, s, .slice pw ws.length cw, ws⟩ = if inR (lastDay x.N) d 36500 = false then 34 else if k = 1 then sellE x p xs Ds else if k = 2 then (if payB x d s = true then 0 else 73) else if k = 3 then 0 else shareE ws x.W := rfl
  have hXd : actX x ⟨k, d, p, .slice pl xs.length cl, xs, Ds, s, .slice pw ws.length cw, ws⟩ = if actE x ⟨k, d, p, .slice pl xs.length cl, xs, Ds, s, .slice pw ws.length cw, ws⟩ ≠ 0 then x else if k = 1 then { sellX x p xs Ds d with N := x.N ++ [⟨1, d, p⟩] } else if k = 2 then { payX x d s with N := x.N ++ [⟨2, d, payM x s⟩] } else if k = 3 then { passX x d with N := x.N ++ [⟨3, d, passM x d⟩] } else { x with W := 0, N := x.N ++ [⟨4, d, x.W⟩] } := rfl
  have hRd : ∀ w' u1 u2, DoneRes w.next w' x ⟨k, d, p, .slice pl xs.length cl, xs, Ds, s, .slice pw ws.length cw, ws⟩ u1 u2 = (actE x ⟨k, d, p, .slice pl xs.length cl, xs, Ds, s, .slice pw ws.length cw, ws⟩ = 0 → (k = 1 → ∃ zs, PortsAt w' (fun j => j < w.next) u1 zs ∧ Lefts p xs Ds zs) ∧ (k = 2 → ArrOf w' 1 icells u2 [payM x s]) ∧ (k = 3 → ArrOf w' 1 icells u2 [passM x d]) ∧ (k ≠ 1 → k ≠ 2 → k ≠ 3 → ArrOf w' 1 icells u2 (shareL ws x.W))) := fun _ _ _ => rfl
  simp only [actV, hRd]
  rw [hXd, hEd]
  refine callT_code rfl Try.func25 rfl Try.s25_eq rfl ?_
  unfold Try.s25
  simp -dsimp -implicitDefEqProofs (maxSteps := 2000000) (disch := first | assumption | omega | (simp only [nx]; omega) | ((repeat refine Fresh.push ?_ _); assumption) | (simp only [smA]; done) | (simp [oneCell, AW.next_push]; done) | fail) only [go_sem, Nat.reduceEqDiff, reduceIte, Nat.reduceAdd, Int.toNat_natCast, Nat.add_zero, Owes_true, Nat.zero_add, c0]
  generalize w.push (.cells [.int .i64 k, .int .i64 d, .int .i64 p, .slice pl xs.length cl, .string s, .slice pw ws.length cw] 48 w.next 0 0) = w1 at *
  have hFn := h.lt
  have hW1 : ∀ F', Within F w1 F' → Within F w F' := fun F' hw j hj => (hw j hj).imp id fun q => by have := g1.1.next; omega
  have hM1 : ∀ w', MutS F w1 w' → MutS F w w' := fun w' m => (MutS.of g1).trans m (Within.refl _ _)
  by_cases h1 : k = 1
  · have e1 : decide (k = 1) = true := decide_eq_true h1
    simp -dsimp -implicitDefEqProofs (maxSteps := 2000000) (disch := first | assumption | omega | (simp only [nx]; omega) | ((repeat refine Fresh.push ?_ _); assumption) | (simp only [smA]; done) | (simp [oneCell, AW.next_push]; done) | fail) only [go_sem, Nat.reduceEqDiff, reduceIte, Nat.reduceAdd, Int.toNat_natCast, Nat.add_zero, Owes_true, Nat.zero_add, c1, c2, c3, e1]
    apply callV_of (e := rfl)
    · exact Sell_ok d p xs Ds _ bp bb r x F w0 w1 g1.2 hP hlot hk1 hF0 hg.n hl
    rintro _ w2 ⟨u, e, F', x', rfl, hP2, hM, hW, hor⟩
    simp -dsimp -implicitDefEqProofs (maxSteps := 2000000) (disch := first | assumption | omega | (simp only [nx]; omega) | ((repeat refine Fresh.push ?_ _); assumption) | (simp only [smA]; done) | (simp [oneCell, AW.next_push]; done) | fail) only [go_sem, Nat.reduceEqDiff, reduceIte, Nat.reduceAdd, Int.toNat_natCast, Nat.add_zero, Owes_true, Try.results25]
    rcases hor with ⟨a, rfl, rfl, hx⟩ | ⟨a, hE, rfl, rfl, hx⟩ | ⟨a, hE, rfl, rfl, zs, hZ⟩
    · exact ⟨_, _, F', by rw [if_pos a], by rw [if_pos a, if_pos (by decide), ← hx]; exact hP2, hM1 _ hM, hW1 _ hW, fun q => by rw [if_pos a] at q; exact absurd q (by decide)⟩
    · have a' : ¬ inR (lastDay x.N) d 36500 = false := by rw [a]; simp
      exact ⟨_, _, F', by rw [if_neg a', if_pos h1], by rw [if_neg a', if_pos h1, if_pos hE, ← hx]; exact hP2, hM1 _ hM, hW1 _ hW, fun q => by rw [if_neg a', if_pos h1] at q; exact absurd q hE⟩
    · have a' : ¬ inR (lastDay x.N) d 36500 = false := by rw [a]; simp
      exact ⟨_, _, F', by rw [if_neg a', if_pos h1, hE], by rw [if_neg a', if_pos h1, hE, if_neg (by simp), if_pos h1]; exact hP2, hM1 _ hM, hW1 _ hW, fun _ => ⟨fun _ => ⟨zs, hZ.1.mono fun j q => by have := g1.1.next; omega, hZ.2⟩, fun q => absurd (h1.symm.trans q) (by decide), fun q => absurd (h1.symm.trans q) (by decide), fun q => absurd h1 q⟩⟩
  have e1 : decide (k = 1) = false := decide_eq_false h1
  by_cases h2 : k = 2
  · have e2 : decide (k = 2) = true := decide_eq_true h2
    simp -dsimp -implicitDefEqProofs (maxSteps := 2000000) (disch := first | assumption | omega | (simp only [nx]; omega) | ((repeat refine Fresh.push ?_ _); assumption) | (simp only [smA]; done) | (simp [oneCell, AW.next_push]; done) | fail) only [go_sem, Nat.reduceEqDiff, reduceIte, Nat.reduceAdd, Int.toNat_natCast, Nat.add_zero, Owes_true, Nat.zero_add, c1, c4, e1, e2]
    apply callV_of (e := rfl)
    · exact Pay_ok d s bp bb r x F w1 g1.2 hP hg hl
    rintro _ w2 ⟨sm, e, F', x', rfl, hP2, hM, hW, hor⟩
    have f2 := hM.fresh
    simp -dsimp -implicitDefEqProofs (maxSteps := 2000000) (disch := first | assumption | omega | (simp only [nx]; omega) | ((repeat refine Fresh.push ?_ _); assumption) | (simp only [smA]; done) | (simp [oneCell, AW.next_push]; done) | fail) only [go_sem, Nat.reduceEqDiff, reduceIte, Nat.reduceAdd, Int.toNat_natCast, Nat.add_zero, Owes_true, Try.results25]
    have gN := (Grown.refl f2).push (.cells [.int .i64 sm] 3 w2.next 0 0)
    have hP3 := hP2.grown gN
    have hM3 : MutS F w _ := (hM1 _ hM).trans (MutS.of (S := F) gN) (Within.refl _ _)
    rcases hor with ⟨a, rfl, rfl, hx⟩ | ⟨a, hE, rfl, rfl, hx⟩ | ⟨a, hE, rfl, rfl, rfl⟩
    · exact ⟨_, _, F', by rw [if_pos a], by rw [if_pos a, if_pos (by decide), ← hx]; exact hP3, hM3, hW1 _ hW, fun q => by rw [if_pos a] at q; exact absurd q (by decide)⟩
    · have a' : ¬ inR (lastDay x.N) d 36500 = false := by rw [a]; simp
      have hE' : ¬ payB x d s = true := by rw [hE]; simp
      exact ⟨_, _, F', by rw [if_neg a', if_neg h1, if_pos h2, if_neg hE'], by rw [if_neg a', if_neg h1, if_pos h2, if_neg hE', if_pos (by decide), ← hx]; exact hP3, hM3, hW1 _ hW, fun q => by rw [if_neg a', if_neg h1, if_pos h2, if_neg hE'] at q; exact absurd q (by decide)⟩
    · have a' : ¬ inR (lastDay x.N) d 36500 = false := by rw [a]; simp
      exact ⟨_, _, F', by rw [if_neg a', if_neg h1, if_pos h2, if_pos hE], by rw [if_neg a', if_neg h1, if_pos h2, if_pos hE, if_neg (by simp), if_neg h1, if_pos h2]; exact hP3, hM3, hW1 _ hW, fun _ => ⟨fun q => absurd q h1, fun _ => one_arr f2 _, fun q => absurd (h2.symm.trans q) (by decide), fun _ q => absurd h2 q⟩⟩
  have e2 : decide (k = 2) = false := decide_eq_false h2
  by_cases h3 : k = 3
  · have e3 : decide (k = 3) = true := decide_eq_true h3
    simp -dsimp -implicitDefEqProofs (maxSteps := 2000000) (disch := first | assumption | omega | (simp only [nx]; omega) | ((repeat refine Fresh.push ?_ _); assumption) | (simp only [smA]; done) | (simp [oneCell, AW.next_push]; done) | fail) only [go_sem, Nat.reduceEqDiff, reduceIte, Nat.reduceAdd, Int.toNat_natCast, Nat.add_zero, Owes_true, Nat.zero_add, c1, e1, e2, e3]
    apply callV_of (e := rfl)
    · exact Pass_ok d bp bb r x F w1 g1.2 hP hg hl
    rintro _ w2 ⟨sm, e, F', x', rfl, hP2, hM, hW, hor⟩
    have f2 := hM.fresh
    simp -dsimp -implicitDefEqProofs (maxSteps := 2000000) (disch := first | assumption | omega | (simp only [nx]; omega) | ((repeat refine Fresh.push ?_ _); assumption) | (simp only [smA]; done) | (simp [oneCell, AW.next_push]; done) | fail) only [go_sem, Nat.reduceEqDiff, reduceIte, Nat.reduceAdd, Int.toNat_natCast, Nat.add_zero, Owes_true, Try.results25]
    have gN := (Grown.refl f2).push (.cells [.int .i64 sm] 3 w2.next 0 0)
    have hP3 := hP2.grown gN
    have hM3 : MutS F w _ := (hM1 _ hM).trans (MutS.of (S := F) gN) (Within.refl _ _)
    rcases hor with ⟨a, rfl, rfl, hx⟩ | ⟨a, rfl, rfl, rfl⟩
    · exact ⟨_, _, F', by rw [if_pos a], by rw [if_pos a, if_pos (by decide), ← hx]; exact hP3, hM3, hW1 _ hW, fun q => by rw [if_pos a] at q; exact absurd q (by decide)⟩
    · have a' : ¬ inR (lastDay x.N) d 36500 = false := by rw [a]; simp
      exact ⟨_, _, F', by rw [if_neg a', if_neg h1, if_neg h2, if_pos h3], by rw [if_neg a', if_neg h1, if_neg h2, if_pos h3, if_neg (by simp), if_neg h1, if_neg h2, if_pos h3]; exact hP3, hM3, hW1 _ hW, fun _ => ⟨fun q => absurd q h1, fun q => absurd q h2, fun _ => one_arr f2 _, fun _ _ q => absurd h3 q⟩⟩
  have e3 : decide (k = 3) = false := decide_eq_false h3
  simp -dsimp -implicitDefEqProofs (maxSteps := 2000000) (disch := first | assumption | omega | (simp only [nx]; omega) | ((repeat refine Fresh.push ?_ _); assumption) | (simp only [smA]; done) | (simp [oneCell, AW.next_push]; done) | fail) only [go_sem, Nat.reduceEqDiff, reduceIte, Nat.reduceAdd, Int.toNat_natCast, Nat.add_zero, Owes_true, Nat.zero_add, c1, c5, e1, e2, e3]
  apply callV_of (e := rfl)
  · exact Give_ok d ws _ bp bb r x F w1 g1.2 hP hwt hl
  rintro _ w2 ⟨u, e, F', x', rfl, hP2, hM, hW, hor⟩
  simp -dsimp -implicitDefEqProofs (maxSteps := 2000000) (disch := first | assumption | omega | (simp only [nx]; omega) | ((repeat refine Fresh.push ?_ _); assumption) | (simp only [smA]; done) | (simp [oneCell, AW.next_push]; done) | fail) only [go_sem, Nat.reduceEqDiff, reduceIte, Nat.reduceAdd, Int.toNat_natCast, Nat.add_zero, Owes_true, Try.results25]
  rcases hor with ⟨a, rfl, rfl, hx⟩ | ⟨a, hE, rfl, rfl, hx⟩ | ⟨a, hE, hA, rfl, rfl⟩
  · exact ⟨_, _, F', by rw [if_pos a], by rw [if_pos a, if_pos (by decide), ← hx]; exact hP2, hM1 _ hM, hW1 _ hW, fun q => by rw [if_pos a] at q; exact absurd q (by decide)⟩
  · have a' : ¬ inR (lastDay x.N) d 36500 = false := by rw [a]; simp
    exact ⟨_, _, F', by rw [if_neg a', if_neg h1, if_neg h2, if_neg h3], by rw [if_neg a', if_neg h1, if_neg h2, if_neg h3, if_pos hE, ← hx]; exact hP2, hM1 _ hM, hW1 _ hW, fun q => by rw [if_neg a', if_neg h1, if_neg h2, if_neg h3] at q; exact absurd q hE⟩
  · have a' : ¬ inR (lastDay x.N) d 36500 = false := by rw [a]; simp
    exact ⟨_, _, F', by rw [if_neg a', if_neg h1, if_neg h2, if_neg h3, hE], by rw [if_neg a', if_neg h1, if_neg h2, if_neg h3, hE, if_neg (by simp), if_neg h1, if_neg h2, if_neg h3]; exact hP2, hM1 _ hM, hW1 _ hW, fun _ => ⟨fun q => absurd q h1, fun q => absurd q h2, fun q => absurd q h3, fun _ _ _ => hA⟩⟩
end Go.Proofs

namespace Go.Proofs
open Go Go.RowKit Go.Sim
set_option maxRecDepth 100000
def hv (y : SurN) : Int := if y.st = 1 then y.m else 0
theorem heldS_def (S : List SurN) : heldS S = (S.map hv).sum := rfl
theorem heldS_set {S : List SurN} {i : Nat} (hi : i < S.length) (y : SurN) : heldS (S.set i y) = heldS S - hv S[i] + hv y := by
  rw [heldS_def, heldS_def, List.map_set, sum_set (by simpa using hi), W_map _ hi]
theorem heldS_app (S T : List SurN) : heldS (S ++ T) = heldS S + heldS T := by
  rw [heldS_def, List.map_append, List.sum_append_int]; rfl
theorem hv_end (y : SurN) (st day : Int) (h : st ≠ 1) : hv (endS y st day) = 0 := by
  unfold hv endS; simp only [if_neg h]
def heldAt (S : List SurN) (i : Nat) : Prop := ∃ y, S[i]? = some y ∧ y.st = 1
theorem stepP_held {S : List SurN} {day : Int} {i : Nat} (h : heldAt S i) : heldS (stepP day S i) = heldS S - mOf S i := by
  obtain ⟨y, hy, hs⟩ := h
  have hi : i < S.length := (List.getElem?_eq_some_iff.1 hy).1
  have he : S[i] = y := (List.getElem?_eq_some_iff.1 hy).2
  have hm : mOf S i = y.m := by unfold mOf; rw [hy]
  have hst : stepP day S i = S.set i (endS y 3 day) := by unfold stepP; rw [hy]
  rw [hst, heldS_set hi, hv_end _ _ _ (by decide), hm, he]
  unfold hv; rw [if_pos hs]; omega
theorem stepP_other {S : List SurN} {day : Int} {i j : Nat} (h : heldAt S j) (hn : i ≠ j) : heldAt (stepP day S i) j := by
  obtain ⟨y, hy, hs⟩ := h
  refine ⟨y, ?_, hs⟩
  unfold stepP
  split
  · rw [List.getElem?_set_ne hn]; exact hy
  · exact hy
theorem passS_held (day : Int) : ∀ (is : List Nat) (S : List SurN), is.Pairwise (· < ·) → (∀ i ∈ is, heldAt S i) → heldS (passS S day is) + (is.map (mOf S)).sum = heldS S
  | [], S, _, _ => by simp [passS]
  | i :: is, S, hp, hh => by
    have hp' := List.pairwise_cons.1 hp
    have ih := passS_held day is (stepP day S i) hp'.2 fun j hj => stepP_other (hh j (List.mem_cons_of_mem _ hj)) (by have := hp'.1 j hj; omega)
    rw [stepP_held (hh i List.mem_cons_self)] at ih
    have hm : is.map (mOf (stepP day S i)) = is.map (mOf S) := List.map_congr_left fun j _ => stepP_m day S i j
    rw [hm] at ih
    rw [passS, List.foldl_cons, ← passS, List.map_cons, List.sum_cons]
    omega
theorem stepP_all {P : SurN → Prop} {day : Int} {S : List SurN} {i : Nat} (h : ∀ y ∈ S, P y) (he : ∀ y, P y → P (endS y 3 day)) : ∀ y ∈ stepP day S i, P y := by
  intro y hy
  unfold stepP at hy
  split at hy
  · rename_i z hz
    rcases List.mem_or_eq_of_mem_set hy with q | q
    · exact h y q
    · rw [q]; exact he z (h z (List.mem_of_getElem? hz))
  · exact h y hy
theorem passS_all {P : SurN → Prop} {day : Int} (he : ∀ y, P y → P (endS y 3 day)) : ∀ (is : List Nat) (S : List SurN), (∀ y ∈ S, P y) → ∀ y ∈ passS S day is, P y
  | [], S, h => h
  | i :: is, S, h => by
    rw [passS, List.foldl_cons, ← passS]; exact passS_all he is _ (stepP_all h he)
theorem lastDay_snoc (N : List NotN) (n : NotN) : lastDay (N ++ [n]) = n.d := by simp [lastDay]
structure PInv (x : PurN) : Prop where
  good : PGood x
  day : 0 ≤ lastDay x.N ∧ lastDay x.N ≤ 36500
theorem pass_good {x : PurN} (h : PGood x) (day : Int) (N : List NotN) : PGood { passX x day with N := N } := by
  refine ⟨h.t, ?_, ?_, by show (passS x.S day (passL x day)).length ≤ 256; rw [passS_len]; exact h.n⟩
  · have hh := passS_held day (passL x day) x.S (pick_order _ _) fun i hi => by
      have h1 := (pick_lt hi).1
      have h2 := (pick_lt hi).2
      rw [late_of h1, Bool.and_eq_true] at h2
      exact ⟨_, List.getElem?_eq_getElem h1, of_decide_eq_true h2.1⟩
    have hp := passM_good h day
    show 0 ≤ x.W + passM x day ∧ x.W + passM x day + heldS (passS x.S day (passL x day)) ≤ ((passS x.S day (passL x day)).length : Int) * 67108864
    rw [passS_len]
    have : ((passL x day).map (mOf x.S)).sum = passM x day := rfl
    have := h.w
    omega
  · exact passS_all (P := fun y => 0 ≤ y.d ∧ y.d ≤ 36500 ∧ 0 ≤ y.m ∧ y.m ≤ 67108864) (fun y q => q) _ _ h.s
theorem pay_good {x : PurN} (h : PGood x) (day : Int) (k : ByteArray) (N : List NotN) : PGood { payX x day k with N := N } := by
  unfold payX
  split
  · rename_i y hy
    have hi : plc (x.S.map SurN.s) k < x.S.length := (List.getElem?_eq_some_iff.1 hy).1
    have he : x.S[plc (x.S.map SurN.s) k] = y := (List.getElem?_eq_some_iff.1 hy).2
    refine ⟨h.t, ?_, ?_, by show (x.S.set _ _).length ≤ 256; rw [List.length_set]; exact h.n⟩
    · show 0 ≤ x.W ∧ x.W + heldS (x.S.set _ (endS y 2 day)) ≤ ((x.S.set _ (endS y 2 day)).length : Int) * 67108864
      rw [heldS_set hi, hv_end _ _ _ (by decide), List.length_set, he]
      have hm := (h.s y (List.mem_of_getElem? hy)).2.2.1
      have : 0 ≤ hv y := by unfold hv; split <;> omega
      have := h.w
      omega
    · intro z hz
      rcases List.mem_or_eq_of_mem_set hz with q | q
      · exact h.s z q
      · rw [q]; exact h.s y (List.mem_of_getElem? hy)
  · exact ⟨h.t, h.w, h.s, h.n⟩
theorem give_good {x : PurN} (h : PGood x) (N : List NotN) : PGood { x with W := 0, N := N } := by
  refine ⟨h.t, ?_, h.s, h.n⟩
  have := h.w
  show (0 : Int) ≤ 0 ∧ 0 + heldS x.S ≤ (x.S.length : Int) * 67108864
  omega
theorem sellE_in {x : PurN} {price : Int} {xs : List PartV} {Ds : List (List DueN)} (h : sellE x price xs Ds = 0) : portE price xs Ds = 0 ∧ (x.S.length : Int) + ((sellP price xs Ds).length : Int) ≤ 256 := by
  unfold sellE at h
  by_cases h1 : portE price xs Ds = 0
  · rw [if_neg (by rw [h1]; simp)] at h
    split at h
    · cases h
    · split at h
      · exact ⟨h1, by assumption⟩
      · cases h
  · rw [if_pos h1] at h; exact absurd h h1
theorem left_in {price : Int} {xs : List PartV} {Ds : List (List DueN)} (hI : PortIn price xs Ds) (hl : Ds.length = xs.length) {i : Nat} (hi : i < xs.length) : leftM price xs Ds i ≤ 67108864 := by
  have hp := hI.pr
  obtain ⟨hsh, hsum⟩ := share_is hI.wgt.nn hI.wgt.sum.1 hp.1
  have hle := W_le_sum hsh.nn i
  have hq0 := hsh.nn i
  have hd : Ds.getD i [] = Ds[i]'(by omega) := getD_at (by omega)
  have hD := (hI.dues _ (List.getElem_mem (show i < Ds.length by omega))).1
  have := leftN_le hD.nn hq0 (Nat.zero_le 10)
  unfold leftM
  rw [hd]
  have h0 : leftN (Ds[i]'(by omega)) (W (shareL (xs.map PartV.v) price) i) 0 = W (shareL (xs.map PartV.v) price) i := rfl
  omega
theorem sell_good {x : PurN} (h : PGood x) {price : Int} {xs : List PartV} {Ds : List (List DueN)} (hE : sellE x price xs Ds = 0) (hl : Ds.length = xs.length) {day : Int} (hd : 0 ≤ day ∧ day ≤ 36500) (N : List NotN) : PGood { sellX x price xs Ds day with N := N } := by
  obtain ⟨hp, hn⟩ := sellE_in hE
  have hI := portE_in hp
  have hL : (sellL price xs Ds day).length = (sellP price xs Ds).length := by unfold sellL; simp
  have hall : ∀ y ∈ sellL price xs Ds day, 0 ≤ y.d ∧ y.d ≤ 36500 ∧ 0 ≤ y.m ∧ y.m ≤ 67108864 := by
    intro y hy
    unfold sellL at hy
    obtain ⟨i, hi, rfl⟩ := List.mem_map.1 hy
    have h1 := pick_lt hi
    have := of_decide_eq_true h1.2
    have := left_in hI hl h1.1
    exact ⟨hd.1, hd.2, by show 0 ≤ leftM price xs Ds i; omega, by show leftM price xs Ds i ≤ _; omega⟩
  have hsum : ∀ L : List SurN, (∀ y ∈ L, 0 ≤ y.d ∧ y.d ≤ 36500 ∧ 0 ≤ y.m ∧ y.m ≤ 67108864) → heldS L ≤ (L.length : Int) * 67108864 := by
    intro L
    induction L with
    | nil => intro _; simp [heldS]
    | cons a L ih =>
      intro q
      have := ih fun y hy => q y (List.mem_cons_of_mem _ hy)
      have := q a List.mem_cons_self
      have hv1 : hv a ≤ 67108864 := by unfold hv; split <;> omega
      rw [heldS_def, List.map_cons, List.sum_cons, ← heldS_def, List.length_cons]
      omega
  have hs := hsum _ hall
  refine ⟨h.t, ?_, ?_, ?_⟩
  · show 0 ≤ x.W ∧ x.W + heldS (x.S ++ sellL price xs Ds day) ≤ ((x.S ++ sellL price xs Ds day).length : Int) * 67108864
    rw [heldS_app, List.length_append]
    have := h.w
    omega
  · intro y hy
    rcases List.mem_append.1 hy with q | q
    · exact h.s y q
    · exact hall y q
  · show (x.S ++ sellL price xs Ds day).length ≤ 256
    rw [List.length_append]; omega
theorem act_inv {x : PurN} (h : PInv x) (a : ActV) (hl : a.Ds.length = a.xs.length) : PInv (actX x a) ∧ (actX x a).N.length ≤ x.N.length + 1 := by
  unfold actX
  by_cases hE : actE x a = 0
  · rw [if_neg (by rw [hE]; simp)]
    have hr : inR (lastDay x.N) a.d 36500 = true := by
      cases hq : inR (lastDay x.N) a.d 36500 with
      | true => rfl
      | false => unfold actE at hE; rw [if_pos hq] at hE; cases hE
    have hd := (inR_iff _ _ _).1 hr
    have hd0 := h.day.1
    unfold actE at hE
    rw [if_neg (by rw [hr]; simp)] at hE
    by_cases h1 : a.k = 1
    · rw [if_pos h1] at hE ⊢
      exact ⟨⟨sell_good h.good hE hl ⟨by omega, hd.2⟩ _, by rw [lastDay_snoc]; show 0 ≤ a.d ∧ a.d ≤ 36500; omega⟩, by simp⟩
    · rw [if_neg h1] at hE ⊢
      by_cases h2 : a.k = 2
      · rw [if_pos h2] at hE ⊢
        exact ⟨⟨pay_good h.good _ _ _, by rw [lastDay_snoc]; show 0 ≤ a.d ∧ a.d ≤ 36500; omega⟩, by simp⟩
      · rw [if_neg h2] at hE ⊢
        by_cases h3 : a.k = 3
        · rw [if_pos h3]
          exact ⟨⟨pass_good h.good _ _, by rw [lastDay_snoc]; show 0 ≤ a.d ∧ a.d ≤ 36500; omega⟩, by simp⟩
        · rw [if_neg h3]
          exact ⟨⟨give_good h.good _, by rw [lastDay_snoc]; show 0 ≤ a.d ∧ a.d ≤ 36500; omega⟩, by simp⟩
  · rw [if_pos hE]; exact ⟨h, by omega⟩
end Go.Proofs
