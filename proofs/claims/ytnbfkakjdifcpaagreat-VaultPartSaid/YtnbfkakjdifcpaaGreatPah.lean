/- This program: its code, contracts, numbers, part 8. -/
import Derived.Test.YtnbfkakjdifcpaaGreatPag
import Derived.Test.YtnbfkakjdifcpaaGreatPad
import Derived.Test.YtnbfkakjdifcpaaGreatPaf
import Derived.Test.YtnbfkakjdifcpaaGreatCz
import Derived.Test.YtnbfkakjdifcpaaGreatPac
import Derived.Test.YtnbfkakjdifcpaaGreatPaa
import Derived.Test.YtnbfkakjdifcpaaGreatNa
import Derived.Test.YtnbfkakjdifcpaaGreatNc
import Derived.Test.YtnbfkakjdifcpaaGreatProg
set_option linter.unusedVariables false
set_option linter.unusedSimpArgs false
namespace Go.Proofs
open Go Go.RowKit Go.Sim
set_option maxRecDepth 100000
def doneN (N : LogN) (c : CarN) : LogN := (N.put c.bag 3 c.ca).put c.bag 4 c.cb
section
variable {pR pG pS : Option Addr} {cR cG cS : Nat} {s : StrN} {b r : Nat} {x : LogN}
set_option maxHeartbeats 32000000 in
theorem do_gen (c : CarN) (hc : CarOk s c) (fk E : Nat) (N : LogN) (hk : KindIs pR pG pS cR cG cS s b r x c fk E N) (hfk : kinds5.lookup (c.kind : Int) = some (fn0 fk)) (w : AW) (hL : LogAt w pR pG pS cR cG cS s b r x) (w0 : AW) (g0 : Grown w0 w) (hA : StrAt w0 pR pG pS cR cG cS s) (hN : NewLog w0 b r) :
    CallT Tryz.prog Tryz.T1 (.fn (.func 104) #[]) #[.pointer (some ⟨b, 0, none⟩), carV c] w (fun v w' => v = .int .i64 (E : Int) ∧ MutL b r w w' ∧ (E = 0 → LogAt w' pR pG pS cR cG cS s b r (doneN N c))) := by
  apply CallX.t
  have f := g0.2
  have g1 := (Grown.refl f).push (.cells (carC c) 62 w.next 0 0)
  have O1 := Own.new f 62 (carC c)
  have hn1 : (w.push (.cells (carC c) 62 w.next 0 0)).next = w.next + 1 := AW.next_push _ _
  obtain ⟨w1, hw1⟩ : ∃ w1, w.push (.cells (carC c) 62 w.next 0 0) = w1 := ⟨_, rfl⟩
  rw [hw1] at g1 O1 hn1
  have g2 := g1.push (.cells [.int .i64 0] 27 w1.next 0 0)
  have O2 := Own.new g1.2 27 [.int .i64 0]
  have O12 := O1.push (.cells [.int .i64 0] 27 w1.next 0 0)
  have hn2 : (w1.push (.cells [.int .i64 0] 27 w1.next 0 0)).next = w1.next + 1 := AW.next_push _ _
  obtain ⟨w2, hw2⟩ : ∃ w2, w1.push (.cells [.int .i64 0] 27 w1.next 0 0) = w2 := ⟨_, rfl⟩
  rw [hw2] at g2 O2 O12 hn2
  obtain ⟨u1, u2, u3, u4, w3, e1, e2, e3, e4, e5, hM, g3⟩ := kinds_made w2 g2.2
  have O13 := O12.keep g3.1
  have O23 := O2.keep g3.1
  have gg3 := g2.trans g3
  have c1 := O13.cell (o := 1) (v := .int .i64 (c.kind : Int)) rfl rfl
  have hld := loadAll O13 (n := 8) rfl (by simp [carC, oneCell])
  have hlk := hM.lookup (z := .nilFunc) hfk
  have hcall := hk w3 (hL.grown gg3) w0 (g0.trans gg3) hA hN
  have hbl := fun (o z : Nat) => indexA_eq (z := z) (len := 32) (b := b) (o := o) (k := .i64) hc.bag
  have hbn : b < w.next := hL.own.lt
  have hrn : r < w.next := hL.map.lt
  have f1 := g1.2
  have f2 := g2.2
  have harg : ∀ h : Operand → Value, ((#[] : Array Value) ++ Array.map h #[] ++ #[.pointer (some ⟨w1.next, 0, none⟩)]) = #[.pointer (some ⟨w1.next, 0, none⟩)] := fun h => by simp
  unfold carC carV fn0 at *
  refine callX_codeZ [4] rfl Tryz.func104 rfl Tryz.s104_eq rfl ?_
  unfold Tryz.s104
  simp -dsimp -implicitDefEqProofs (maxSteps := 2000000) (disch := first | assumption | omega | (simp only [nx]; omega) | ((repeat refine Fresh.push ?_ _); assumption) | (simp only [smA]; done) | (simp [oneCell, AW.next_push]; done) | fail) only [go_sem, Nat.reduceEqDiff, reduceIte, Nat.reduceAdd, Int.toNat_natCast, Nat.add_zero, Owes_true, Tryz.results104, hw1, hw2]
  rw [hw1, hw2]
  refine codeT_defer Tryz.hd104 Tryz.ld104 ?_
  simp only [AdS, wants_none]
  refine ⟨rfl, rfl, .func (.func 122) #[] #[.pointer (some ⟨w1.next, 0, none⟩)], ?_, trivial, 122, #[], #[.pointer (some ⟨w1.next, 0, none⟩)], ?_, ?_⟩
  · simp only [QV]
    simp -dsimp -implicitDefEqProofs (maxSteps := 2000000) (disch := first | assumption | omega | (simp only [nx]; omega) | ((repeat refine Fresh.push ?_ _); assumption) | (simp only [smA]; done) | (simp [oneCell, AW.next_push]; done) | fail) only [go_sem, Nat.reduceEqDiff, reduceIte, Nat.reduceAdd, Int.toNat_natCast, Nat.add_zero, Owes_true]
  · simp -dsimp -implicitDefEqProofs (maxSteps := 2000000) (disch := first | assumption | omega | (simp only [nx]; omega) | ((repeat refine Fresh.push ?_ _); assumption) | (simp only [smA]; done) | (simp [oneCell, AW.next_push]; done) | fail) only [go_sem, Nat.reduceEqDiff, reduceIte, Nat.reduceAdd, Int.toNat_natCast, Nat.add_zero, Owes_true]
  simp -dsimp -implicitDefEqProofs (maxSteps := 2000000) (disch := first | assumption | omega | (simp only [nx]; omega) | ((repeat refine Fresh.push ?_ _); assumption) | (simp only [smA]; done) | (simp [oneCell, AW.next_push]; done) | fail) only [go_sem, Nat.reduceEqDiff, reduceIte, Nat.reduceAdd, Int.toNat_natCast, Nat.add_zero, Owes_true, e1, e2, e3, e4, e5, c1, hld, hlk, Nat.zero_add]
  -- a panic, recovered
  have hrec : ∀ (e : Int) (v' : AW), MutL b r w3 v' → MutL b r w (v'.put w1.next (.cells [.int .i64 e] 27 w1.next 0 0)) ∧ Own v' w1.next 27 [.int .i64 0] ∧ Own (v'.put w1.next (.cells [.int .i64 e] 27 w1.next 0 0)) w1.next 27 [.int .i64 e] := by
    intro e v' m'
    have hE2 := m'.own O23 (fun q => by rcases q with q | q <;> omega)
    have mm : MutL b r w v' := mLt (mLg gg3) m'
    have hp : MutS (fun j => j = w1.next) v' (v'.put w1.next (.cells [.int .i64 e] 27 w1.next 0 0)) := MutS.put (S := fun j => j = w1.next) m'.fresh rfl hE2.lt _
    exact ⟨MutS.trans mm hp (fun j q => .inr (by have : j = w1.next := q; omega)), hE2, hE2.put _⟩
  apply callXV_of (e := rfl)
  · exact hcall
  rotate_left
  · rintro _ w4 ⟨hb, rfl, m4⟩
    obtain ⟨k1, k2, k3⟩ := hrec E w4 m4
    have c0 := k3.cell (o := 0) rfl rfl
    simp -dsimp -implicitDefEqProofs (maxSteps := 2000000) (disch := first | assumption | omega | (simp only [nx]; omega) | ((repeat refine Fresh.push ?_ _); assumption) | (simp only [smA]; done) | (simp [oneCell, AW.next_push]; done) | fail) only [go_sem, Nat.reduceEqDiff, reduceIte, Nat.reduceAdd, Int.toNat_natCast, Nat.add_zero, Owes_true]
    refine leftX_recovered ?_
    rw [harg]
    refine DefT.mono (defer_okV w1.next E _ w4 k2 (.inr rfl)) ?_
    rintro bb w' (⟨q, _⟩ | ⟨_, rfl, rfl⟩)
    · cases q
    refine ⟨rfl, [.int .i64 (E : Int)], ?_, rfl, k1, fun q => absurd q hb⟩
    show aresults (prg Tryz.prog) false _ _ Tryz.f104.results.toList = _
    rw [Tryz.results104]
    rw [resX_cell]
    simp -dsimp -implicitDefEqProofs (maxSteps := 2000000) (disch := first | assumption | omega | (simp only [nx]; omega) | ((repeat refine Fresh.push ?_ _); assumption) | (simp only [smA]; done) | (simp [oneCell, AW.next_push]; done) | fail) only [go_sem, Nat.reduceEqDiff, reduceIte, Nat.reduceAdd, Int.toNat_natCast, Nat.add_zero, Owes_true, resX_nil, c0]
  rintro _ w4 ⟨hb, m4, L4⟩
  have O14 := m4.own O13 (fun q => by rcases q with q | q <;> omega)
  have O24 := m4.own O23 (fun q => by rcases q with q | q <;> omega)
  have hcI : ∀ w', Own w' w.next 62 [.int .i64 (c.day : Int), .int .i64 (c.kind : Int), .int .i64 (c.bag : Int), .int .i64 (c.to : Int), .int .i64 (c.ca : Int), .int .i64 (c.cb : Int), .int .i64 (c.sl : Int), .int .i64 (c.suits : Int)] → w'.cell? ⟨w.next, 2, none⟩ = some (.int .i64 (c.bag : Int)) ∧ w'.cell? ⟨w.next, 4, none⟩ = some (.int .i64 (c.ca : Int)) ∧ w'.cell? ⟨w.next, 5, none⟩ = some (.int .i64 (c.cb : Int)) := fun w' O => ⟨O.cell (o := 2) rfl rfl, O.cell (o := 4) rfl rfl, O.cell (o := 5) rfl rfl⟩
  obtain ⟨a2, a4, a5⟩ := hcI w4 O14
  obtain ⟨w5, st5, L5, m5⟩ := L4.put m4.fresh hc.bag 3 (by omega) c.ca
  have O15 := m5.own O14 (fun q => by have : w.next = b := q; omega)
  have O25 := m5.own O24 (fun q => by have : w1.next = b := q; omega)
  obtain ⟨b2, b4, b5⟩ := hcI w5 O15
  obtain ⟨w6, st6, L6, m6⟩ := L5.put m5.fresh hc.bag 4 (by omega) c.cb
  have O26 := m6.own O25 (fun q => by have : w1.next = b := q; omega)
  have st7 := storeV_own1 (o := 0) (v := .int .i64 0) O26 (by simp) rfl
  simp only [setL] at st7
  have m7 : MutS (fun _ => False) w6 (w6.put w1.next (.cells [.int .i64 0] 27 w1.next 0 0)) := MutS.put_same m6.fresh O26
  obtain ⟨w7, hw7⟩ : ∃ w7, w6.put w1.next (.cells [.int .i64 0] 27 w1.next 0 0) = w7 := ⟨_, rfl⟩
  rw [hw7] at st7 m7
  have O27 := m7.own O26 (fun q => q)
  have L7 := L6.other m7 (fun q => q) (fun q => q)
  have mAll : MutL b r w w7 := MutS.trans (mLt (mLt (mLt (mLg gg3) m4) (mLb m5)) (mLb m6)) m7 (fun j q => q.elim)
  simp -dsimp -implicitDefEqProofs (maxSteps := 2000000) (disch := first | assumption | omega | (simp only [nx]; omega) | ((repeat refine Fresh.push ?_ _); assumption) | (simp only [smA]; done) | (simp [oneCell, AW.next_push]; done) | fail) only [go_sem, Nat.reduceEqDiff, reduceIte, Nat.reduceAdd, Int.toNat_natCast, Nat.add_zero, Owes_true]
  show CodeT _ _ _ _ _ _ _ _
  refine codeT_regX Tryz.x104r4_eq Tryz.x104r4_kinds ?_
  unfold Tryz.x104r4
  simp -dsimp -implicitDefEqProofs (maxSteps := 2000000) (disch := first | assumption | omega | (simp only [nx]; omega) | ((repeat refine Fresh.push ?_ _); assumption) | (simp only [smA]; done) | (simp [oneCell, AW.next_push]; done) | fail) only [go_sem, Nat.reduceEqDiff, reduceIte, Nat.reduceAdd, Int.toNat_natCast, Nat.add_zero, Owes_true, a2, a4, a5, hbl, st5, Nat.zero_add]
  refine ⟨⟨.inr ?_, .inl (show Nat.testBit 15559 7 = true by decide), .inr ?_, .inl (show Nat.testBit 15559 2 = true by decide), trivial⟩, ?_⟩
  · intro inf hi
    have hi' : some inf = (prg Tryz.prog).ty 3 := hi.symm
    rw [Tryz.ty3] at hi'
    cases hi'
    show w5.cell? ⟨w.next, 5, none⟩ = w4.cell? ⟨w.next, 5, none⟩
    rw [a5, b5]
  · intro inf hi
    have hi' : some inf = (prg Tryz.prog).ty 3 := hi.symm
    rw [Tryz.ty3] at hi'
    cases hi'
    show w5.cell? ⟨w.next, 2, none⟩ = w4.cell? ⟨w.next, 2, none⟩
    rw [a2, b2]
  simp -dsimp -implicitDefEqProofs (maxSteps := 2000000) (disch := first | assumption | omega | (simp only [nx]; omega) | ((repeat refine Fresh.push ?_ _); assumption) | (simp only [smA]; done) | (simp [oneCell, AW.next_push]; done) | fail) only [go_sem, Nat.reduceEqDiff, reduceIte, Nat.reduceAdd, Int.toNat_natCast, Nat.add_zero, Owes_true, b2, b4, b5, hbl, st6, Nat.zero_add]
  refine ⟨⟨.inl (show Nat.testBit 524287 9 = true by decide), .inl (show Nat.testBit 524287 7 = true by decide), .inl (show Nat.testBit 524287 5 = true by decide), .inl (show Nat.testBit 524287 2 = true by decide), trivial⟩, ?_⟩
  simp -dsimp -implicitDefEqProofs (maxSteps := 2000000) (disch := first | assumption | omega | (simp only [nx]; omega) | ((repeat refine Fresh.push ?_ _); assumption) | (simp only [smA]; done) | (simp [oneCell, AW.next_push]; done) | fail) only [go_sem, Nat.reduceEqDiff, reduceIte, Nat.reduceAdd, Int.toNat_natCast, Nat.add_zero, Owes_true, st7]
  refine leftX_done ?_
  rw [harg]
  refine DefT.mono (defer_okV w1.next 0 _ w7 O27 (.inl rfl)) ?_
  rintro bb w' (⟨_, rfl, rfl⟩ | ⟨q, _⟩)
  rotate_left
  · cases q
  have c0 := O27.cell (o := 0) rfl rfl
  refine ⟨rfl, [.int .i64 0], ?_, by rw [hb]; rfl, mAll, fun _ => L7⟩
  show aresults (prg Tryz.prog) true _ _ Tryz.f104.results.toList = _
  rw [Tryz.results104]
  simp -dsimp -implicitDefEqProofs (maxSteps := 2000000) (disch := first | assumption | omega | (simp only [nx]; omega) | ((repeat refine Fresh.push ?_ _); assumption) | (simp only [smA]; done) | (simp [oneCell, AW.next_push]; done) | fail) only [go_sem, Nat.reduceEqDiff, reduceIte, Nat.reduceAdd, Int.toNat_natCast, Nat.add_zero, Owes_true, c0]
end
end Go.Proofs

namespace Go.Proofs
open Go Go.RowKit Go.Sim
set_option maxRecDepth 100000
structure CarI where
  day : Int
  kind : Int
  bag : Int
  to : Int
  ca : Int
  cb : Int
  sl : Int
  suits : Int
def carIC (c : CarI) : List Value := [.int .i64 c.day, .int .i64 c.kind, .int .i64 c.bag, .int .i64 c.to, .int .i64 c.ca, .int .i64 c.cb, .int .i64 c.sl, .int .i64 c.suits]
theorem carIC_len (c : CarI) : (carIC c).length = 8 := rfl
def toB (k : Int) : Bool := decide (k = 1) || decide (k = 2)
def slB (k : Int) : Bool := decide (k = 1) || (decide (k = 3) || decide (k = 4))
def suB (k : Int) : Bool := decide (k = 1)
def fieldB (n : Int) (there : Bool) (most : Int) : Bool := bif there then inR 1 n most else decide (n = 0)
def carryB (s : StrN) (c : CarI) : Bool :=
  inR 1 c.kind 5 && (inR 0 c.bag 31 && (inR 0 c.ca ((s.staff.length : Int) - 1) && (inR 0 c.cb ((s.staff.length : Int) - 1) && (!decide (c.ca = c.cb) &&
    (fieldB c.to (toB c.kind) ((s.rooms.length : Int) - 1) && (fieldB c.sl (slB c.kind) 999999 && fieldB c.suits (suB c.kind) 15))))))
theorem isField_ok (n : Int) (t : Bool) (m : Int) (w : AW) : CallT Tryz.prog Tryz.T1 (.fn (.func 145) #[]) #[.int .i64 n, .bool t, .int .i64 m] w (Ret (.bool (fieldB n t m)) fun w' => w = w') := by
  refine callT_code rfl Tryz.func145 rfl Tryz.s145_eq rfl ?_
  unfold Tryz.s145
  cases t with
  | false =>
    simp -dsimp -implicitDefEqProofs (maxSteps := 2000000) (disch := first | assumption | omega | (simp only [nx]; omega) | ((repeat refine Fresh.push ?_ _); assumption) | (simp only [smA]; done) | (simp [oneCell, AW.next_push]; done) | fail) only [go_sem, Nat.reduceEqDiff, reduceIte, Nat.reduceAdd, Int.toNat_natCast, Nat.add_zero, Owes_true, Tryz.results145]
    exact ⟨rfl, rfl⟩
  | true =>
    simp -dsimp -implicitDefEqProofs (maxSteps := 2000000) (disch := first | assumption | omega | (simp only [nx]; omega) | ((repeat refine Fresh.push ?_ _); assumption) | (simp only [smA]; done) | (simp [oneCell, AW.next_push]; done) | fail) only [go_sem, Nat.reduceEqDiff, reduceIte, Nat.reduceAdd, Int.toNat_natCast, Nat.add_zero, Owes_true, Tryz.results145]
    apply callV_of (e := rfl)
    · exact within_okV _ _ _ w
    rintro _ _ ⟨rfl, rfl⟩
    simp -dsimp -implicitDefEqProofs (maxSteps := 2000000) (disch := first | assumption | omega | (simp only [nx]; omega) | ((repeat refine Fresh.push ?_ _); assumption) | (simp only [smA]; done) | (simp [oneCell, AW.next_push]; done) | fail) only [go_sem, Nat.reduceEqDiff, reduceIte, Nat.reduceAdd, Int.toNat_natCast, Nat.add_zero, Owes_true, Tryz.results145]
    exact ⟨rfl, rfl⟩
theorem bld171_1 : bldQ [(0, 1), (1, 1), (2, 1)] [.bool false, .bool false, .bool false] [(0, .bool true), (1, .bool true), (2, .bool true)] = some (.agg #[.bool true, .bool true, .bool true]) := by kernel_rfl
theorem bld171_2 : bldQ [(0, 1), (1, 1), (2, 1)] [.bool false, .bool false, .bool false] [(0, .bool true)] = some (.agg #[.bool true, .bool false, .bool false]) := by kernel_rfl
theorem bld171_3 : bldQ [(0, 1), (1, 1), (2, 1)] [.bool false, .bool false, .bool false] [(1, .bool true)] = some (.agg #[.bool false, .bool true, .bool false]) := by kernel_rfl
attribute [go_sem] bld171_1 bld171_2 bld171_3
set_option maxHeartbeats 8000000 in
theorem fieldsOf_ok (k : Int) (w : AW) (f : Fresh w) : CallT Tryz.prog Tryz.T1 (.fn (.func 144) #[]) #[.int .i64 k] w (Ret (.tuple #[.agg #[.bool (toB k), .bool (slB k), .bool (suB k)], .bool (inR 1 k 5)]) (Grown w)) := by
  have g1 := (Grown.refl f).push (.cells [.bool false, .bool false, .bool false] 171 w.next 0 0)
  have O1 := Own.new f 171 [.bool false, .bool false, .bool false]
  have go : ∀ a b c : Bool, ∃ w', storeV (w.push (.cells [.bool false, .bool false, .bool false] 171 w.next 0 0)) true 3 (.pointer (some ⟨w.next, 0, none⟩)) (.agg #[.bool a, .bool b, .bool c]) = some w' ∧ Own w' w.next 171 [.bool a, .bool b, .bool c] ∧ Grown w w' := by
    intro a b c
    obtain ⟨w', st, O, m, n⟩ := store_new (n := 3) (l := [.bool a, .bool b, .bool c]) g1.2 O1 rfl rfl (by omega) rfl
    exact ⟨w', st, O, ⟨g1.1.trans (m.keep (fun j q => by omega) g1.1.next), m.fresh⟩⟩
  have hin : ¬ (k = 1 ∨ k = 2 ∨ k = 3 ∨ k = 4 ∨ k = 5) → inR 1 k 5 = false := fun h => by
    rw [Bool.eq_false_iff]; intro q; rw [inR_iff] at q; omega
  obtain ⟨wa, sa, Oa, ga⟩ := go (toB k) (slB k) (suB k)
  have la := loadAll Oa (n := 3) rfl (by simp [oneCell])
  refine callT_code rfl Tryz.func144 rfl Tryz.s144_eq rfl ?_
  unfold Tryz.s144
  by_cases k1 : k = 1
  · subst k1
    have hl : inR 1 1 5 = true := rfl
    have e1 : toB 1 = true := rfl
    have e2 : slB 1 = true := rfl
    have e3 : suB 1 = true := rfl
    rw [e1, e2, e3] at sa la
    rw [e1, e2, e3, hl]
    simp -dsimp -implicitDefEqProofs (maxSteps := 2000000) (disch := first | assumption | omega | (simp only [nx]; omega) | ((repeat refine Fresh.push ?_ _); assumption) | (simp only [smA]; done) | (simp [oneCell, AW.next_push]; done) | fail) only [go_sem, Nat.reduceEqDiff, reduceIte, Nat.reduceAdd, Int.toNat_natCast, Nat.add_zero, Owes_true, Tryz.results144, sa, la]
    exact ⟨rfl, ga⟩
  by_cases k2 : k = 2
  · subst k2
    have e0 : ¬ (2 : Int) = 1 := by omega
    have hl : inR 1 2 5 = true := rfl
    have e1 : toB 2 = true := rfl
    have e2 : slB 2 = false := rfl
    have e3 : suB 2 = false := rfl
    rw [e1, e2, e3] at sa la
    rw [e1, e2, e3, hl]
    simp -dsimp -implicitDefEqProofs (maxSteps := 2000000) (disch := first | assumption | omega | (simp only [nx]; omega) | ((repeat refine Fresh.push ?_ _); assumption) | (simp only [smA]; done) | (simp [oneCell, AW.next_push]; done) | fail) only [go_sem, Nat.reduceEqDiff, reduceIte, Nat.reduceAdd, Int.toNat_natCast, Nat.add_zero, Owes_true, Tryz.results144, sa, la, e0]
    exact ⟨rfl, ga⟩
  by_cases k3 : k = 3
  · subst k3
    have e0 : ¬ (3 : Int) = 1 := by omega
    have e4 : ¬ (3 : Int) = 2 := by omega
    have hl : inR 1 3 5 = true := rfl
    have e1 : toB 3 = false := rfl
    have e2 : slB 3 = true := rfl
    have e3 : suB 3 = false := rfl
    rw [e1, e2, e3] at sa la
    rw [e1, e2, e3, hl]
    simp -dsimp -implicitDefEqProofs (maxSteps := 2000000) (disch := first | assumption | omega | (simp only [nx]; omega) | ((repeat refine Fresh.push ?_ _); assumption) | (simp only [smA]; done) | (simp [oneCell, AW.next_push]; done) | fail) only [go_sem, Nat.reduceEqDiff, reduceIte, Nat.reduceAdd, Int.toNat_natCast, Nat.add_zero, Owes_true, Tryz.results144, sa, la, e0, e4]
    exact ⟨rfl, ga⟩
  by_cases k4 : k = 4
  · subst k4
    have e0 : ¬ (4 : Int) = 1 := by omega
    have e4 : ¬ (4 : Int) = 2 := by omega
    have e5 : ¬ (4 : Int) = 3 := by omega
    have hl : inR 1 4 5 = true := rfl
    have e1 : toB 4 = false := rfl
    have e2 : slB 4 = true := rfl
    have e3 : suB 4 = false := rfl
    rw [e1, e2, e3] at sa la
    rw [e1, e2, e3, hl]
    simp -dsimp -implicitDefEqProofs (maxSteps := 2000000) (disch := first | assumption | omega | (simp only [nx]; omega) | ((repeat refine Fresh.push ?_ _); assumption) | (simp only [smA]; done) | (simp [oneCell, AW.next_push]; done) | fail) only [go_sem, Nat.reduceEqDiff, reduceIte, Nat.reduceAdd, Int.toNat_natCast, Nat.add_zero, Owes_true, Tryz.results144, sa, la, e0, e4, e5]
    exact ⟨rfl, ga⟩
  by_cases k5 : k = 5
  · subst k5
    have e0 : ¬ (5 : Int) = 1 := by omega
    have e4 : ¬ (5 : Int) = 2 := by omega
    have e5 : ¬ (5 : Int) = 3 := by omega
    have e6 : ¬ (5 : Int) = 4 := by omega
    have hl : inR 1 5 5 = true := rfl
    have e1 : toB 5 = false := rfl
    have e2 : slB 5 = false := rfl
    have e3 : suB 5 = false := rfl
    rw [e1, e2, e3] at sa la
    rw [e1, e2, e3, hl]
    simp -dsimp -implicitDefEqProofs (maxSteps := 2000000) (disch := first | assumption | omega | (simp only [nx]; omega) | ((repeat refine Fresh.push ?_ _); assumption) | (simp only [smA]; done) | (simp [oneCell, AW.next_push]; done) | fail) only [go_sem, Nat.reduceEqDiff, reduceIte, Nat.reduceAdd, Int.toNat_natCast, Nat.add_zero, Owes_true, Tryz.results144, sa, la, e0, e4, e5, e6]
    exact ⟨rfl, ga⟩
  have hl := hin (by omega)
  have e1 : toB k = false := by simp [toB, k1, k2]
  have e2 : slB k = false := by simp [slB, k1, k3, k4]
  have e3 : suB k = false := by simp [suB, k1]
  rw [e1, e2, e3] at sa la
  rw [e1, e2, e3, hl]
  simp -dsimp -implicitDefEqProofs (maxSteps := 2000000) (disch := first | assumption | omega | (simp only [nx]; omega) | ((repeat refine Fresh.push ?_ _); assumption) | (simp only [smA]; done) | (simp [oneCell, AW.next_push]; done) | fail) only [go_sem, Nat.reduceEqDiff, reduceIte, Nat.reduceAdd, Int.toNat_natCast, Nat.add_zero, Owes_true, Tryz.results144, sa, la, k1, k2, k3, k4, k5]
  exact ⟨rfl, ga⟩
end Go.Proofs

namespace Go.Proofs
open Go Go.RowKit Go.Sim
set_option maxRecDepth 100000
set_option maxHeartbeats 16000000 in
theorem isCarry_ok {s : StrN} (hs : strB s = true) (pR pG pS : Option Addr) (cR cG cS : Nat) (c : CarI) (w : AW) (f : Fresh w) : CallT Tryz.prog Tryz.T1 (.fn (.func 121) #[]) #[.agg (strC pR pG pS cR cG cS s).toArray, .agg (carIC c).toArray] w (Ret (.bool (carryB s c)) (Grown w)) := by
  have hsl := (str_staff hs).2.1
  have hrl := (str_rooms hs).2
  have g1 := (Grown.refl f).push (.cells (strC pR pG pS cR cG cS s) 26 w.next 0 0)
  have O1 := Own.new f 26 (strC pR pG pS cR cG cS s)
  have hn1 : (w.push (.cells (strC pR pG pS cR cG cS s) 26 w.next 0 0)).next = w.next + 1 := AW.next_push _ _
  obtain ⟨w1, hw1⟩ : ∃ w1, w.push (.cells (strC pR pG pS cR cG cS s) 26 w.next 0 0) = w1 := ⟨_, rfl⟩
  rw [hw1] at g1 O1 hn1
  have g2 := g1.push (.cells (carIC c) 62 w1.next 0 0)
  have O2 := Own.new g1.2 62 (carIC c)
  have O12 := O1.push (.cells (carIC c) 62 w1.next 0 0)
  have hn2 : (w1.push (.cells (carIC c) 62 w1.next 0 0)).next = w1.next + 1 := AW.next_push _ _
  obtain ⟨w2, hw2⟩ : ∃ w2, w1.push (.cells (carIC c) 62 w1.next 0 0) = w2 := ⟨_, rfl⟩
  rw [hw2] at g2 O2 O12 hn2
  have k1 := O2.cell (o := 1) (v := .int .i64 c.kind) rfl rfl
  have f1 := g1.2
  have hC : carryB s c = (inR 1 c.kind 5 && (inR 0 c.bag 31 && (inR 0 c.ca ((s.staff.length : Int) - 1) && (inR 0 c.cb ((s.staff.length : Int) - 1) && (!decide (c.ca = c.cb) && (fieldB c.to (toB c.kind) ((s.rooms.length : Int) - 1) && (fieldB c.sl (slB c.kind) 999999 && fieldB c.suits (suB c.kind) 15))))))) := rfl
  generalize carryB s c = C at *
  unfold strC carIC at *
  refine callT_code rfl Tryz.func121 rfl Tryz.s121_eq rfl ?_
  unfold Tryz.s121
  simp -dsimp -implicitDefEqProofs (maxSteps := 2000000) (disch := first | assumption | omega | (simp only [nx]; omega) | ((repeat refine Fresh.push ?_ _); assumption) | (simp only [smA]; done) | (simp [oneCell, AW.next_push]; done) | fail) only [go_sem, Nat.reduceEqDiff, reduceIte, Nat.reduceAdd, Int.toNat_natCast, Nat.add_zero, Owes_true, Tryz.results121, hw1, hw2, k1, Nat.zero_add]
  rw [hw1, hw2]
  apply callV_of (e := rfl)
  · exact fieldsOf_ok c.kind w2 g2.2
  rintro _ w3 ⟨rfl, g3⟩
  have O13 := O12.keep g3.1
  have O23 := O2.keep g3.1
  have gg3 := g2.trans g3
  have f3 := gg3.2
  have O3 := Own.new gg3.2 171 [.bool false, .bool false, .bool false]
  have g4 := gg3.push (.cells [.bool false, .bool false, .bool false] 171 w3.next 0 0)
  have O14 := O13.push (.cells [.bool false, .bool false, .bool false] 171 w3.next 0 0)
  have O24 := O23.push (.cells [.bool false, .bool false, .bool false] 171 w3.next 0 0)
  obtain ⟨w4, hw4⟩ : ∃ w4, w3.push (.cells [.bool false, .bool false, .bool false] 171 w3.next 0 0) = w4 := ⟨_, rfl⟩
  rw [hw4] at O3 g4 O14 O24
  have hle3 := gg3.1.next
  have hle33 := g3.1.next
  obtain ⟨w5, st5, O5, m5, hn5⟩ := store_new (n := 3) (l := [.bool (toB c.kind), .bool (slB c.kind), .bool (suB c.kind)]) g4.2 O3 rfl rfl (by omega) rfl
  have O15 := m5.own O14 (fun q => by omega)
  have O25 := m5.own O24 (fun q => by omega)
  have g5 : Grown w w5 := ⟨g4.1.trans (m5.keep (fun j q => by have : j = w3.next := q; omega) g4.1.next), m5.fresh⟩
  have f5 := g5.2
  have p0 := O15.cell (o := 0) (v := .slice pR s.rooms.length cR) rfl rfl
  have p2 := O15.cell (o := 2) (v := .slice pS s.staff.length cS) rfl rfl
  have a2 := O25.cell (o := 2) (v := .int .i64 c.bag) rfl rfl
  have a3 := O25.cell (o := 3) (v := .int .i64 c.to) rfl rfl
  have a4 := O25.cell (o := 4) (v := .int .i64 c.ca) rfl rfl
  have a5 := O25.cell (o := 5) (v := .int .i64 c.cb) rfl rfl
  have a6 := O25.cell (o := 6) (v := .int .i64 c.sl) rfl rfl
  have a7 := O25.cell (o := 7) (v := .int .i64 c.suits) rfl rfl
  have b0 := O5.cell (o := 0) (v := .bool (toB c.kind)) rfl rfl
  have b1 := O5.cell (o := 1) (v := .bool (slB c.kind)) rfl rfl
  have b2 := O5.cell (o := 2) (v := .bool (suB c.kind)) rfl rfl
  have hsr := same_s12V pR s.rooms.length cR
  have hleW : WLe w5 w5 := (Grown.refl f5).1.wle f5
  cases h1 : inR 1 c.kind 5 with
  | false =>
    rw [h1, Bool.false_and] at hC
    subst hC
    simp -dsimp -implicitDefEqProofs (maxSteps := 2000000) (disch := first | assumption | omega | (simp only [nx]; omega) | ((repeat refine Fresh.push ?_ _); assumption) | (simp only [smA]; done) | (simp [oneCell, AW.next_push]; done) | fail) only [go_sem, Nat.reduceEqDiff, reduceIte, Nat.reduceAdd, Int.toNat_natCast, Nat.add_zero, Owes_true, Tryz.results121, hw4, st5, p0, p2, a2, a3, a4, a5, a6, a7, b0, b1, b2, hsr, Nat.zero_add, hleW]
    exact ⟨rfl, g5⟩
  | true =>
  rw [h1, Bool.true_and] at hC
  have e32 : ((32 : Int) - 1) = 31 := rfl
  simp -dsimp -implicitDefEqProofs (maxSteps := 2000000) (disch := first | assumption | omega | (simp only [nx]; omega) | ((repeat refine Fresh.push ?_ _); assumption) | (simp only [smA]; done) | (simp [oneCell, AW.next_push]; done) | fail) only [go_sem, Nat.reduceEqDiff, reduceIte, Nat.reduceAdd, Int.toNat_natCast, Nat.add_zero, Owes_true, Tryz.results121, hw4, st5, p0, p2, a2, a3, a4, a5, a6, a7, b0, b1, b2, hsr, Nat.zero_add, hleW]
  apply callV_of (e := rfl)
  · exact isIndex_ok c.bag 32 (by omega) w5
  rintro _ _ ⟨rfl, rfl⟩
  rw [e32]
  cases h2 : inR 0 c.bag 31 with
  | false =>
    rw [h2, Bool.false_and] at hC
    subst hC
    simp -dsimp -implicitDefEqProofs (maxSteps := 2000000) (disch := first | assumption | omega | (simp only [nx]; omega) | ((repeat refine Fresh.push ?_ _); assumption) | (simp only [smA]; done) | (simp [oneCell, AW.next_push]; done) | fail) only [go_sem, Nat.reduceEqDiff, reduceIte, Nat.reduceAdd, Int.toNat_natCast, Nat.add_zero, Owes_true, Tryz.results121, hw4, st5, p0, p2, a2, a3, a4, a5, a6, a7, b0, b1, b2, hsr, Nat.zero_add, hleW]
    exact ⟨rfl, g5⟩
  | true =>
  rw [h2, Bool.true_and] at hC
  simp -dsimp -implicitDefEqProofs (maxSteps := 2000000) (disch := first | assumption | omega | (simp only [nx]; omega) | ((repeat refine Fresh.push ?_ _); assumption) | (simp only [smA]; done) | (simp [oneCell, AW.next_push]; done) | fail) only [go_sem, Nat.reduceEqDiff, reduceIte, Nat.reduceAdd, Int.toNat_natCast, Nat.add_zero, Owes_true, Tryz.results121, hw4, st5, p0, p2, a2, a3, a4, a5, a6, a7, b0, b1, b2, hsr, Nat.zero_add, hleW]
  apply callV_of (e := rfl)
  · exact isIndex_ok c.ca (s.staff.length : Int) (by omega) w5
  rintro _ _ ⟨rfl, rfl⟩
  cases h3 : inR 0 c.ca ((s.staff.length : Int) - 1) with
  | false =>
    rw [h3, Bool.false_and] at hC
    subst hC
    simp -dsimp -implicitDefEqProofs (maxSteps := 2000000) (disch := first | assumption | omega | (simp only [nx]; omega) | ((repeat refine Fresh.push ?_ _); assumption) | (simp only [smA]; done) | (simp [oneCell, AW.next_push]; done) | fail) only [go_sem, Nat.reduceEqDiff, reduceIte, Nat.reduceAdd, Int.toNat_natCast, Nat.add_zero, Owes_true, Tryz.results121, hw4, st5, p0, p2, a2, a3, a4, a5, a6, a7, b0, b1, b2, hsr, Nat.zero_add, hleW]
    exact ⟨rfl, g5⟩
  | true =>
  rw [h3, Bool.true_and] at hC
  simp -dsimp -implicitDefEqProofs (maxSteps := 2000000) (disch := first | assumption | omega | (simp only [nx]; omega) | ((repeat refine Fresh.push ?_ _); assumption) | (simp only [smA]; done) | (simp [oneCell, AW.next_push]; done) | fail) only [go_sem, Nat.reduceEqDiff, reduceIte, Nat.reduceAdd, Int.toNat_natCast, Nat.add_zero, Owes_true, Tryz.results121, hw4, st5, p0, p2, a2, a3, a4, a5, a6, a7, b0, b1, b2, hsr, Nat.zero_add, hleW]
  apply callV_of (e := rfl)
  · exact isIndex_ok c.cb (s.staff.length : Int) (by omega) w5
  rintro _ _ ⟨rfl, rfl⟩
  cases h4 : inR 0 c.cb ((s.staff.length : Int) - 1) with
  | false =>
    rw [h4, Bool.false_and] at hC
    subst hC
    simp -dsimp -implicitDefEqProofs (maxSteps := 2000000) (disch := first | assumption | omega | (simp only [nx]; omega) | ((repeat refine Fresh.push ?_ _); assumption) | (simp only [smA]; done) | (simp [oneCell, AW.next_push]; done) | fail) only [go_sem, Nat.reduceEqDiff, reduceIte, Nat.reduceAdd, Int.toNat_natCast, Nat.add_zero, Owes_true, Tryz.results121, hw4, st5, p0, p2, a2, a3, a4, a5, a6, a7, b0, b1, b2, hsr, Nat.zero_add, hleW]
    exact ⟨rfl, g5⟩
  | true =>
  rw [h4, Bool.true_and] at hC
  cases h5 : decide (c.ca = c.cb) with
  | true =>
    rw [h5] at hC
    simp only [Bool.not_true, Bool.false_and] at hC
    subst hC
    have hq := of_decide_eq_true h5
    simp -dsimp -implicitDefEqProofs (maxSteps := 2000000) (disch := first | assumption | omega | (simp only [nx]; omega) | ((repeat refine Fresh.push ?_ _); assumption) | (simp only [smA]; done) | (simp [oneCell, AW.next_push]; done) | fail) only [go_sem, Nat.reduceEqDiff, reduceIte, Nat.reduceAdd, Int.toNat_natCast, Nat.add_zero, Owes_true, Tryz.results121, hw4, st5, p0, p2, a2, a3, a4, a5, a6, a7, b0, b1, b2, hsr, Nat.zero_add, hleW, hq]
    exact ⟨rfl, g5⟩
  | false =>
  rw [h5] at hC
  simp only [Bool.not_false, Bool.true_and] at hC
  have hq := of_decide_eq_false h5
  simp -dsimp -implicitDefEqProofs (maxSteps := 2000000) (disch := first | assumption | omega | (simp only [nx]; omega) | ((repeat refine Fresh.push ?_ _); assumption) | (simp only [smA]; done) | (simp [oneCell, AW.next_push]; done) | fail) only [go_sem, Nat.reduceEqDiff, reduceIte, Nat.reduceAdd, Int.toNat_natCast, Nat.add_zero, Owes_true, Tryz.results121, hw4, st5, p0, p2, a2, a3, a4, a5, a6, a7, b0, b1, b2, hsr, Nat.zero_add, hleW, hq]
  apply callV_of (e := rfl)
  · exact isField_ok c.to (toB c.kind) ((s.rooms.length : Int) - 1) w5
  rintro _ _ ⟨rfl, rfl⟩
  cases h6 : fieldB c.to (toB c.kind) ((s.rooms.length : Int) - 1) with
  | false =>
    rw [h6, Bool.false_and] at hC
    subst hC
    simp -dsimp -implicitDefEqProofs (maxSteps := 2000000) (disch := first | assumption | omega | (simp only [nx]; omega) | ((repeat refine Fresh.push ?_ _); assumption) | (simp only [smA]; done) | (simp [oneCell, AW.next_push]; done) | fail) only [go_sem, Nat.reduceEqDiff, reduceIte, Nat.reduceAdd, Int.toNat_natCast, Nat.add_zero, Owes_true, Tryz.results121, hw4, st5, p0, p2, a2, a3, a4, a5, a6, a7, b0, b1, b2, hsr, Nat.zero_add, hleW, hq]
    exact ⟨rfl, g5⟩
  | true =>
  rw [h6, Bool.true_and] at hC
  simp -dsimp -implicitDefEqProofs (maxSteps := 2000000) (disch := first | assumption | omega | (simp only [nx]; omega) | ((repeat refine Fresh.push ?_ _); assumption) | (simp only [smA]; done) | (simp [oneCell, AW.next_push]; done) | fail) only [go_sem, Nat.reduceEqDiff, reduceIte, Nat.reduceAdd, Int.toNat_natCast, Nat.add_zero, Owes_true, Tryz.results121, hw4, st5, p0, p2, a2, a3, a4, a5, a6, a7, b0, b1, b2, hsr, Nat.zero_add, hleW, hq]
  apply callV_of (e := rfl)
  · exact isField_ok c.sl (slB c.kind) 999999 w5
  rintro _ _ ⟨rfl, rfl⟩
  cases h7 : fieldB c.sl (slB c.kind) 999999 with
  | false =>
    rw [h7, Bool.false_and] at hC
    subst hC
    simp -dsimp -implicitDefEqProofs (maxSteps := 2000000) (disch := first | assumption | omega | (simp only [nx]; omega) | ((repeat refine Fresh.push ?_ _); assumption) | (simp only [smA]; done) | (simp [oneCell, AW.next_push]; done) | fail) only [go_sem, Nat.reduceEqDiff, reduceIte, Nat.reduceAdd, Int.toNat_natCast, Nat.add_zero, Owes_true, Tryz.results121, hw4, st5, p0, p2, a2, a3, a4, a5, a6, a7, b0, b1, b2, hsr, Nat.zero_add, hleW, hq]
    exact ⟨rfl, g5⟩
  | true =>
  rw [h7, Bool.true_and] at hC
  simp -dsimp -implicitDefEqProofs (maxSteps := 2000000) (disch := first | assumption | omega | (simp only [nx]; omega) | ((repeat refine Fresh.push ?_ _); assumption) | (simp only [smA]; done) | (simp [oneCell, AW.next_push]; done) | fail) only [go_sem, Nat.reduceEqDiff, reduceIte, Nat.reduceAdd, Int.toNat_natCast, Nat.add_zero, Owes_true, Tryz.results121, hw4, st5, p0, p2, a2, a3, a4, a5, a6, a7, b0, b1, b2, hsr, Nat.zero_add, hleW, hq]
  apply callV_of (e := rfl)
  · exact full_ok (n := 4) (by omega) w5
  rintro _ _ ⟨rfl, rfl⟩
  have h15 : fullI 4 = 15 := rfl
  simp -dsimp -implicitDefEqProofs (maxSteps := 2000000) (disch := first | assumption | omega | (simp only [nx]; omega) | ((repeat refine Fresh.push ?_ _); assumption) | (simp only [smA]; done) | (simp [oneCell, AW.next_push]; done) | fail) only [go_sem, Nat.reduceEqDiff, reduceIte, Nat.reduceAdd, Int.toNat_natCast, Nat.add_zero, Owes_true, Tryz.results121, hw4, st5, p0, p2, a2, a3, a4, a5, a6, a7, b0, b1, b2, hsr, Nat.zero_add, hleW, hq, h15]
  apply callV_of (e := rfl)
  · exact isField_ok c.suits (suB c.kind) 15 w5
  rintro _ _ ⟨rfl, rfl⟩
  simp -dsimp -implicitDefEqProofs (maxSteps := 2000000) (disch := first | assumption | omega | (simp only [nx]; omega) | ((repeat refine Fresh.push ?_ _); assumption) | (simp only [smA]; done) | (simp [oneCell, AW.next_push]; done) | fail) only [go_sem, Nat.reduceEqDiff, reduceIte, Nat.reduceAdd, Int.toNat_natCast, Nat.add_zero, Owes_true, Tryz.results121, hw4, st5, p0, p2, a2, a3, a4, a5, a6, a7, b0, b1, b2, hsr, Nat.zero_add, hleW, hq]
  exact ⟨by rw [hC], g5⟩
end Go.Proofs

namespace Go.Proofs
open Go Go.RowKit Go.Sim
set_option maxRecDepth 100000
def daysB (s : StrN) (d : Int) : List CarI → Bool
  | [] => true
  | c :: L => inR d c.day 36500 && (carryB s c && daysB s c.day L)
def areB (s : StrN) (L : List CarI) : Bool := decide (L.length ≤ 64) && daysB s 0 L
def dayAt (L : List CarI) (i : Nat) : Int := (L.take i).getLast?.elim 0 CarI.day
theorem dayAt_succ {L : List CarI} {i : Nat} (h : i < L.length) : dayAt L (i + 1) = L[i].day := by
  unfold dayAt
  rw [List.take_add_one, List.getElem?_eq_getElem h, Option.toList_some, List.getLast?_append, List.getLast?_singleton]
  rfl
theorem arr_row {α : Type} {w : AW} {z : Nat} {enc : α → List Value} {p : Option Addr} {cap : Nat} {xs : List α} (h : ArrOf w z enc (.slice p xs.length cap) xs) (hz : ∀ x, (enc x).length = z) (h1 : ∀ x, ∀ v ∈ enc x, oneCell v = true) {i : Nat} (hi : i < xs.length) :
    ∃ b o, p = some ⟨b, o, none⟩ ∧ b < w.next ∧ ∀ w', Keep w.next w w' → loadV w' true z (.pointer (some ⟨b, o + i * z, none⟩)) = some (.agg (enc xs[i]).toArray) := by
  obtain ⟨p', cap', e, _, _, hat⟩ := h.open
  injection e with e1 e2 e3
  subst e1 e3
  obtain ⟨b, o, rfl, hb, hcell⟩ := hat i hi
  refine ⟨b, o, rfl, hb, fun w' k => ?_⟩
  rw [loadV_row, ← hz xs[i], aCells_of (enc xs[i]) (o + i * (enc xs[i]).length) fun j v hv => by
    have := hcell w' k j v hv
    rw [hz xs[i]]; exact this]
theorem carIC_one (c : CarI) : ∀ v ∈ carIC c, oneCell v = true := by intro v hv; simp [carIC] at hv; rcases hv with rfl | rfl | rfl | rfl | rfl | rfl | rfl | rfl <;> rfl
def car0 : CarI := ⟨0, 0, 0, 0, 0, 0, 0, 0⟩
set_option maxHeartbeats 16000000 in
theorem areCarries_ok {s : StrN} (hs : strB s = true) (pR pG pS : Option Addr) (cR cG cS : Nat) (pL : Option Addr) (cL : Nat) (L : List CarI) (w : AW) (f : Fresh w) (hL : ArrOf w 8 carIC (.slice pL L.length cL) L) :
    CallT Tryz.prog Tryz.T1 (.fn (.func 103) #[]) #[.agg (strC pR pG pS cR cG cS s).toArray, .slice pL L.length cL] w (Ret (.bool (areB s L)) (Grown w)) := by
  have g1 := (Grown.refl f).push (.cells (strC pR pG pS cR cG cS s) 26 w.next 0 0)
  have O1 := Own.new f 26 (strC pR pG pS cR cG cS s)
  obtain ⟨w1, hw1⟩ : ∃ w1, w.push (.cells (strC pR pG pS cR cG cS s) 26 w.next 0 0) = w1 := ⟨_, rfl⟩
  rw [hw1] at g1 O1
  have hL1 := hL.grown g1
  have hic := fun (c : CarI) w' f' => isCarry_ok hs pR pG pS cR cG cS c w' f'
  have hls := fun w' (O : Own w' w.next 26 (strC pR pG pS cR cG cS s)) => loadAll O (n := 3) rfl (by simp [strC, oneCell])
  have hss := same_str pR pG pS s.rooms.length s.gates.length s.staff.length cR cG cS
  unfold strC at *
  refine callT_code rfl Tryz.func103 rfl Tryz.s103_eq rfl ?_
  unfold Tryz.s103
  by_cases h64 : L.length ≤ 64
  case neg =>
    have hd : (64 : Int) < (L.length : Int) := by omega
    have hA : areB s L = false := by unfold areB; rw [decide_eq_false h64]; rfl
    rw [hA]
    simp -dsimp -implicitDefEqProofs (maxSteps := 2000000) (disch := first | assumption | omega | (simp only [nx]; omega) | ((repeat refine Fresh.push ?_ _); assumption) | (simp only [smA]; done) | (simp [oneCell, AW.next_push]; done) | fail) only [go_sem, Nat.reduceEqDiff, reduceIte, Nat.reduceAdd, Int.toNat_natCast, Nat.add_zero, Owes_true, Tryz.results103, hw1, hd]
    exact ⟨rfl, g1⟩
  have hd : ¬ (64 : Int) < (L.length : Int) := by omega
  have hA : areB s L = daysB s 0 L := by unfold areB; rw [decide_eq_true h64]; rfl
  simp -dsimp -implicitDefEqProofs (maxSteps := 2000000) (disch := first | assumption | omega | (simp only [nx]; omega) | ((repeat refine Fresh.push ?_ _); assumption) | (simp only [smA]; done) | (simp [oneCell, AW.next_push]; done) | fail) only [go_sem, Nat.reduceEqDiff, reduceIte, Nat.reduceAdd, Int.toNat_natCast, Nat.add_zero, Owes_true, Tryz.results103, hw1, hd]
  rw [hw1]
  have hst : daysB s 0 L = daysB s (dayAt L 0) (L.drop 0) := rfl
  refine loopR (fun k t ds w2 => ∃ i : Nat, i ≤ L.length ∧ k = L.length - i ∧ ds = [] ∧ ev t (.tmp 2) = .pointer (some ⟨w.next, 0, none⟩) ∧ ev t (.tmp 5) = .int .i64 (dayAt L i) ∧ ev t (.tmp 11) = .slice pL L.length cL ∧ ev t (.tmp 12) = .int .i64 (L.length : Int) ∧ ev t (.tmp 13) = .int .i64 (i : Int) ∧ daysB s 0 L = daysB s (dayAt L i) (L.drop i) ∧ Keep w1.next w1 w2 ∧ Fresh w2) (L.length) ?_ ?_
  · refine ⟨0, by omega, by omega, rfl, ?_, ?_, ?_, ?_, ?_, hst, .refl _ _, g1.2⟩ <;> simp -dsimp -implicitDefEqProofs (maxSteps := 2000000) (disch := first | assumption | omega | (simp only [nx]; omega) | ((repeat refine Fresh.push ?_ _); assumption) | (simp only [smA]; done) | (simp [oneCell, AW.next_push]; done) | fail) only [go_sem, Nat.reduceEqDiff, reduceIte, Nat.reduceAdd, Int.toNat_natCast, Nat.add_zero, Owes_true] <;> rfl
  rintro k t ds w2 ⟨i, hii, rfl, rfl, e2, e5, e11, e12, e13, hD, k2, f2⟩
  have gW : Grown w1 w2 := ⟨k2, f2⟩
  have gg := g1.trans gW
  by_cases hlt : (i : Int) < (L.length : Int)
  case neg =>
    obtain rfl : i = L.length := by omega
    rw [List.drop_length] at hD
    rw [hA, hD]
    simp -dsimp -implicitDefEqProofs (maxSteps := 2000000) (disch := first | assumption | omega | (simp only [nx]; omega) | ((repeat refine Fresh.push ?_ _); assumption) | (simp only [smA]; done) | (simp [oneCell, AW.next_push]; done) | fail) only [go_sem, Nat.reduceEqDiff, reduceIte, Nat.reduceAdd, Int.toNat_natCast, Nat.add_zero, Owes_true, Tryz.results103, e2, e5, e11, e12, e13, hlt]
    exact ⟨rfl, gg⟩
  have hi : i < L.length := by omega
  obtain ⟨b4, o4, rfl, hb4, hrow⟩ := arr_row hL1 carIC_len carIC_one hi
  have hld := hrow w2 k2
  rw [List.drop_eq_getElem_cons hi] at hD
  have hsucc := dayAt_succ hi
  have hic2 := fun w' f' => hic L[i] w' f'
  generalize L[i] = c at *
  simp only [daysB] at hD
  have O12 := O1.keep k2
  have O3 := Own.new f2 62 (carIC car0)
  have g3 := gW.push (.cells (carIC car0) 62 w2.next 0 0)
  have O13 := O12.push (.cells (carIC car0) 62 w2.next 0 0)
  have hn3 : (w2.push (.cells (carIC car0) 62 w2.next 0 0)).next = w2.next + 1 := AW.next_push _ _
  obtain ⟨w3, hw3⟩ : ∃ w3, w2.push (.cells (carIC car0) 62 w2.next 0 0) = w3 := ⟨_, rfl⟩
  rw [hw3] at O3 g3 O13 hn3
  have hk2 := k2.next
  have hwn := g1.1.next
  have hOl := O12.lt
  obtain ⟨w4, st4, O4, m4, hn4⟩ := store_new (n := 8) (l := carIC c) g3.2 O3 rfl rfl (by omega) rfl
  have O14 := m4.own O13 (fun q => by omega)
  have g4 : Grown w1 w4 := ⟨g3.1.trans (m4.keep (fun j q => by have : j = w2.next := q; omega) g3.1.next), m4.fresh⟩
  have d0 := O4.cell (o := 0) (v := .int .i64 c.day) rfl rfl
  have hl4 := hls w4 O14
  have hld4 := loadAll O4 (n := 8) rfl (carIC_one c)
  have f4 := g4.2
  have hle4 : WLe w4 w4 := (Grown.refl f4).1.wle f4
  unfold carIC car0 at *
  simp -dsimp -implicitDefEqProofs (maxSteps := 2000000) (disch := first | assumption | omega | (simp only [nx]; omega) | ((repeat refine Fresh.push ?_ _); assumption) | (simp only [smA]; done) | (simp [oneCell, AW.next_push]; done) | fail) only [go_sem, Nat.reduceEqDiff, reduceIte, Nat.reduceAdd, Int.toNat_natCast, Nat.add_zero, Owes_true, Tryz.results103, e2, e5, e11, e12, e13, hlt, indexV_eq, hld, hw3, st4, d0, Nat.zero_add]
  apply callV_of (e := rfl)
  · exact within_okV c.day (dayAt L i) 36500 w4
  rintro _ _ ⟨rfl, rfl⟩
  cases h1 : inR (dayAt L i) c.day 36500 with
  | false =>
    rw [h1, Bool.false_and] at hD
    rw [hA, hD]
    simp -dsimp -implicitDefEqProofs (maxSteps := 2000000) (disch := first | assumption | omega | (simp only [nx]; omega) | ((repeat refine Fresh.push ?_ _); assumption) | (simp only [smA]; done) | (simp [oneCell, AW.next_push]; done) | fail) only [go_sem, Nat.reduceEqDiff, reduceIte, Nat.reduceAdd, Int.toNat_natCast, Nat.add_zero, Owes_true, Tryz.results103, e2, e5, e11, e12, e13]
    exact ⟨rfl, g1.trans g4⟩
  | true =>
  rw [h1, Bool.true_and] at hD
  simp -dsimp -implicitDefEqProofs (maxSteps := 2000000) (disch := first | assumption | omega | (simp only [nx]; omega) | ((repeat refine Fresh.push ?_ _); assumption) | (simp only [smA]; done) | (simp [oneCell, AW.next_push]; done) | fail) only [go_sem, Nat.reduceEqDiff, reduceIte, Nat.reduceAdd, Int.toNat_natCast, Nat.add_zero, Owes_true, Tryz.results103, e2, e5, e11, e12, e13, hl4, hld4, hss]
  apply callV_of (e := rfl)
  · exact hic2 w4 f4
  rintro _ w5 ⟨rfl, g5⟩
  have g5' := g4.trans g5
  have O45 := O4.keep g5.1
  have d05 := O45.cell (o := 0) (v := .int .i64 c.day) rfl rfl
  cases h2 : carryB s c with
  | false =>
    rw [h2, Bool.false_and] at hD
    rw [hA, hD]
    simp -dsimp -implicitDefEqProofs (maxSteps := 2000000) (disch := first | assumption | omega | (simp only [nx]; omega) | ((repeat refine Fresh.push ?_ _); assumption) | (simp only [smA]; done) | (simp [oneCell, AW.next_push]; done) | fail) only [go_sem, Nat.reduceEqDiff, reduceIte, Nat.reduceAdd, Int.toNat_natCast, Nat.add_zero, Owes_true, Tryz.results103, e2, e5, e11, e12, e13]
    exact ⟨rfl, g1.trans g5'⟩
  | true =>
  rw [h2, Bool.true_and] at hD
  simp -dsimp -implicitDefEqProofs (maxSteps := 2000000) (disch := first | assumption | omega | (simp only [nx]; omega) | ((repeat refine Fresh.push ?_ _); assumption) | (simp only [smA]; done) | (simp [oneCell, AW.next_push]; done) | fail) only [go_sem, Nat.reduceEqDiff, reduceIte, Nat.reduceAdd, Int.toNat_natCast, Nat.add_zero, Owes_true, Tryz.results103, e2, e5, e11, e12, e13, d05, Nat.zero_add]
  refine ⟨_, by omega, i + 1, by omega, rfl, rfl, by (simp -dsimp -implicitDefEqProofs (maxSteps := 2000000) (disch := first | assumption | omega | (simp only [nx]; omega) | ((repeat refine Fresh.push ?_ _); assumption) | (simp only [smA]; done) | (simp [oneCell, AW.next_push]; done) | fail) only [go_sem, Nat.reduceEqDiff, reduceIte, Nat.reduceAdd, Int.toNat_natCast, Nat.add_zero, Owes_true, e2, hsucc]; try rfl), by (simp -dsimp -implicitDefEqProofs (maxSteps := 2000000) (disch := first | assumption | omega | (simp only [nx]; omega) | ((repeat refine Fresh.push ?_ _); assumption) | (simp only [smA]; done) | (simp [oneCell, AW.next_push]; done) | fail) only [go_sem, Nat.reduceEqDiff, reduceIte, Nat.reduceAdd, Int.toNat_natCast, Nat.add_zero, Owes_true, e5, hsucc]; try rfl), by (simp -dsimp -implicitDefEqProofs (maxSteps := 2000000) (disch := first | assumption | omega | (simp only [nx]; omega) | ((repeat refine Fresh.push ?_ _); assumption) | (simp only [smA]; done) | (simp [oneCell, AW.next_push]; done) | fail) only [go_sem, Nat.reduceEqDiff, reduceIte, Nat.reduceAdd, Int.toNat_natCast, Nat.add_zero, Owes_true, e11, hsucc]; try rfl), by (simp -dsimp -implicitDefEqProofs (maxSteps := 2000000) (disch := first | assumption | omega | (simp only [nx]; omega) | ((repeat refine Fresh.push ?_ _); assumption) | (simp only [smA]; done) | (simp [oneCell, AW.next_push]; done) | fail) only [go_sem, Nat.reduceEqDiff, reduceIte, Nat.reduceAdd, Int.toNat_natCast, Nat.add_zero, Owes_true, e12, hsucc]; try rfl), by (simp -dsimp -implicitDefEqProofs (maxSteps := 2000000) (disch := first | assumption | omega | (simp only [nx]; omega) | ((repeat refine Fresh.push ?_ _); assumption) | (simp only [smA]; done) | (simp [oneCell, AW.next_push]; done) | fail) only [go_sem, Nat.reduceEqDiff, reduceIte, Nat.reduceAdd, Int.toNat_natCast, Nat.add_zero, Owes_true, e13, hsucc]; try rfl), by rw [hD, hsucc], g5'.1, g5'.2⟩
def Pre (w : AW) (p : Option Addr) (n c : Nat) : Prop :=
  ((p = none ∨ p = some ⟨0, 0, some 0⟩) ∧ n = 0 ∧ c = 0) ∨ ∃ b o, p = some ⟨b, o, none⟩ ∧ n ≤ c ∧ b < w.next ∧ ((∃ cs, w.blk b = some (.given cs)) ∨ ∃ cells e r k z, w.blk b = some (.cells cells e r k z) ∧ (z = 8 ∨ z = 0))
theorem Pre.grown {w w' : AW} {p : Option Addr} {n c : Nat} (h : Pre w p n c) (g : Grown w w') : Pre w' p n c := by
  rcases h with q | ⟨b, o, e, hc, hb, hk⟩
  · exact .inl q
  · have := g.1.next
    exact .inr ⟨b, o, e, hc, by omega, by rw [g.1.blk b hb]; exact hk⟩
theorem Pre.cut {w : AW} {p : Option Addr} {n c m : Nat} (h : Pre w p n c) (hm : m ≤ n) : sliceV w 8 (.slice p n c) none (some (.int .i64 (m : Int))) = some (.slice p m c) ∧ Pre w p m c := by
  rcases h with ⟨rfl | rfl, rfl, rfl⟩ | ⟨b, o, rfl, hc, hb, hk⟩
  · obtain rfl : m = 0 := by omega
    exact ⟨rfl, .inl ⟨.inl rfl, rfl, rfl⟩⟩
  · obtain rfl : m = 0 := by omega
    exact ⟨rfl, .inl ⟨.inr rfl, rfl, rfl⟩⟩
  · refine ⟨?_, .inr ⟨b, o, rfl, by omega, hb, hk⟩⟩
    show sliceV w 8 (.slice (some ⟨b, o, none⟩) n c) none (some (.int .i64 (Int.ofNat m))) = _
    have b1 : Nat.ble 0 m = true := Nat.ble_eq_true_of_le (by omega)
    have b2 : Nat.ble m c = true := Nat.ble_eq_true_of_le (by omega)
    rcases hk with ⟨cs, hk⟩ | ⟨cells, e, r, k, z, hk, hz⟩
    · simp only [sliceV, natOr, b1, b2, hk, Bool.and_self, Nat.zero_mul, Nat.add_zero, Bool.cond_self, Nat.sub_zero]
    · have b3 : (Nat.beq z 8 || Nat.beq z 0 && (Nat.beq 0 0 || Nat.blt 0 c)) = true := by
        rcases hz with rfl | rfl <;> rfl
      simp only [sliceV, natOr, b1, b2, hk, Bool.and_self, b3, Nat.zero_mul, Nat.add_zero, Nat.sub_zero]
theorem arr_take {α : Type} {w : AW} {z : Nat} {enc : α → List Value} {p : Option Addr} {c : Nat} {L : List α} (h : ArrOf w z enc (.slice p L.length c) L) {m : Nat} (hm : m ≤ L.length) : ArrOf w z enc (.slice p m c) (L.take m) := by
  obtain ⟨p', n, cap, e, hn, hc', hmx, hat⟩ := h
  injection e with e1 e2 e3
  subst e1 e2 e3
  refine ⟨p, m, c, rfl, by rw [List.length_map, List.length_take]; omega, by omega, hmx, fun h0 => ?_⟩
  obtain ⟨b, o, e, hb, hcell⟩ := hat (by omega)
  refine ⟨b, o, e, hb, fun i j r x hi hx => hcell i j r x ?_ hx⟩
  rw [List.getElem?_map] at hi ⊢
  rcases Nat.lt_or_ge i m with q | q
  · rw [List.getElem?_take_of_lt q] at hi; exact hi
  · rw [List.getElem?_eq_none (by rw [List.length_take]; omega)] at hi; cases hi
theorem Tryz.sl44 (t : Tmps) (w : AW) (x hi : Operand) : fast (prg Tryz.prog) t w (.slice 44 x none (some hi) none) = sliceV w 8 (ev t x) none (some (ev t hi)) := by simp only [fast, Tryz.ty44, Tryz.ty62]; rfl
attribute [go_sem] Tryz.sl44
end Go.Proofs

namespace Go.Proofs
open Go Go.RowKit Go.Sim
set_option maxRecDepth 100000
def stepE (s : StrN) (x : LogN) (c : CarN) : Nat :=
  if c.kind = 1 then bringE s x c else if c.kind = 2 then moveE s x c else if c.kind = 3 then checkE s x c else if c.kind = 4 then openE s x c else needE s x c
def stepK (x : LogN) (c : CarN) : LogN :=
  if c.kind = 1 then bringN x c else if c.kind = 2 then moveN x c else if c.kind = 3 then x.settle c.bag else if c.kind = 4 then x.sealed c else takeN x c
def stepN (x : LogN) (c : CarN) : LogN := doneN (stepK x c) c
theorem LogIn.putv {s : StrN} {x : LogN} (h : LogIn s x) (hk : LogOk x) (i : Nat) (hi : i < 32) (k v : Nat) (hr : k = 0 → v < s.rooms.length) (hs : k ≠ 2) : LogIn s (x.put i k v) := by
  obtain ⟨h1, h2⟩ := h.bag hk i hi
  have hb : ((x.bag i).put k v).room < s.rooms.length ∧ ((x.bag i).put k v).suits < 16 := by
    unfold BagN.put
    split
    · exact ⟨hr rfl, h2⟩
    · exact ⟨h1, h2⟩
    · exact absurd rfl hs
    · exact ⟨h1, h2⟩
    · exact ⟨h1, h2⟩
  refine ⟨fun b hb' => ?_, fun b hb' => ?_, h.trail⟩
  · rcases List.mem_or_eq_of_mem_set hb' with q | rfl
    · exact h.room b q
    · exact hb.1
  · rcases List.mem_or_eq_of_mem_set hb' with q | rfl
    · exact h.suits b q
    · exact hb.2
theorem LogOk.placed {x : LogN} (h : LogOk x) (c : CarN) (y : BagN) : LogOk (x.placed c y) := ⟨by show (x.bags.set _ _).length = 32; rw [List.length_set]; exact h.bags, h.trails⟩
theorem LogOk.settle {x : LogN} (h : LogOk x) (i : Nat) : LogOk (x.settle i) := h.mark _ _
theorem LogOk.seals {x : LogN} (h : LogOk x) (l : List Nat) : LogOk { x with seals := l } := ⟨h.bags, h.trails⟩
theorem LogOk.sealed {x : LogN} (h : LogOk x) (c : CarN) : LogOk (x.sealed c) := ((h.seals _).put _ _ _).settle _
theorem LogOk.done {x : LogN} (h : LogOk x) (c : CarN) : LogOk (doneN x c) := (h.put _ _ _).put _ _ _
theorem LogOk.step {x : LogN} (h : LogOk x) (c : CarN) : LogOk (stepN x c) := by
  refine LogOk.done ?_ c
  unfold stepK
  split
  · exact (h.placed c _).sealed c
  split
  · exact (h.placed c _).mark _ _
  split
  · exact h.settle _
  split
  · exact h.sealed c
  · exact (h.put _ _ _).put _ _ _
theorem LogIn.seals {s : StrN} {x : LogN} (h : LogIn s x) (l : List Nat) : LogIn s { x with seals := l } := ⟨h.room, h.suits, h.trail⟩
theorem LogIn.sealed {s : StrN} {x : LogN} (hs : strB s = true) (h : LogIn s x) (hk : LogOk x) (c : CarN) (hc : c.bag < 32) : LogIn s (x.sealed c) :=
  LogIn.settle hs (((h.seals _).put1 (hk.seals _) _ _ hc)) ((hk.seals _).put _ _ _) _ hc
theorem LogIn.step {s : StrN} {x : LogN} (hs : strB s = true) (h : LogIn s x) (hk : LogOk x) (c : CarN) (hc : CarOk s c) : LogIn s (stepN x c) ∧ LogOk (stepN x c) := by
  refine ⟨?_, hk.step c⟩
  have hrl := str_rooms hs
  have key : LogIn s (stepK x c) ∧ LogOk (stepK x c) := by
    unfold stepK
    split
    · exact ⟨LogIn.sealed hs (h.placed c hc hc.suits) (hk.placed c _) c hc.bag, (hk.placed c _).sealed c⟩
    split
    · have h2 := h.placed c hc (y := x.bag c.bag) (h.bag hk c.bag hc.bag).2
      refine ⟨⟨h2.room, h2.suits, fun t ht => ?_⟩, (hk.placed c _).mark _ _⟩
      rcases List.mem_or_eq_of_mem_set ht with q | rfl
      · exact h2.trail t q
      · have hto := hc.to
        refine Nat.or_lt_two_pow (n := 6) ?_ (pow_lt6 (by omega))
        have hb : c.bag < x.trails.length := by rw [hk.trails]; exact hc.bag
        have : x.trails.getD c.bag 0 = x.trails[c.bag] := by simp [List.getD, hb]
        rw [this]
        exact h.trail _ (List.getElem_mem hb)
    split
    · exact ⟨LogIn.settle hs h hk _ hc.bag, hk.settle _⟩
    split
    · exact ⟨LogIn.sealed hs h hk c hc.bag, hk.sealed c⟩
    · exact ⟨(h.putv hk _ hc.bag 0 0 (fun _ => by omega) (by omega)).putv (hk.put _ _ _) _ hc.bag 1 0 (fun q => by omega) (by omega), (hk.put _ _ _).put _ _ _⟩
  exact (key.1.putv key.2 _ hc.bag 3 _ (fun q => by omega) (by omega)).putv (key.2.put _ _ _) _ hc.bag 4 _ (fun q => by omega) (by omega)
section
variable {pR pG pS : Option Addr} {cR cG cS : Nat} {s : StrN} {b r : Nat} {x : LogN}
theorem do_okV (hs : strB s = true) (c : CarN) (hc : CarOk s c) (hk : 1 ≤ c.kind ∧ c.kind ≤ 5) (hI : LogIn s x) (w : AW) (hL : LogAt w pR pG pS cR cG cS s b r x) (w0 : AW) (g0 : Grown w0 w) (hA : StrAt w0 pR pG pS cR cG cS s) (hN : NewLog w0 b r) :
    CallT Tryz.prog Tryz.T1 (.fn (.func 104) #[]) #[.pointer (some ⟨b, 0, none⟩), carV c] w (fun v w' => v = .int .i64 (stepE s x c : Int) ∧ MutL b r w w' ∧ (stepE s x c = 0 → LogAt w' pR pG pS cR cG cS s b r (stepN x c))) := by
  have h5 : c.kind = 1 ∨ c.kind = 2 ∨ c.kind = 3 ∨ c.kind = 4 ∨ c.kind = 5 := by omega
  unfold stepN
  rcases h5 with q | q | q | q | q
  · rw [show stepE s x c = bringE s x c by unfold stepE; rw [if_pos q], show stepK x c = bringN x c by unfold stepK; rw [if_pos q]]
    exact do_gen c hc 123 _ _ (bring_ok hs c hc hI) (by rw [q]; rfl) w hL w0 g0 hA hN
  · rw [show stepE s x c = moveE s x c by unfold stepE; rw [if_neg (show ¬ c.kind = 1 by omega), if_pos q], show stepK x c = moveN x c by unfold stepK; rw [if_neg (show ¬ c.kind = 1 by omega), if_pos q]]
    exact do_gen c hc 124 _ _ (move_ok hs c hc hI) (by rw [q]; rfl) w hL w0 g0 hA hN
  · rw [show stepE s x c = checkE s x c by unfold stepE; rw [if_neg (show ¬ c.kind = 1 by omega), if_neg (show ¬ c.kind = 2 by omega), if_pos q], show stepK x c = x.settle c.bag by unfold stepK; rw [if_neg (show ¬ c.kind = 1 by omega), if_neg (show ¬ c.kind = 2 by omega), if_pos q]]
    exact do_gen c hc 125 _ _ (check_ok125 hs c hc hI) (by rw [q]; rfl) w hL w0 g0 hA hN
  · rw [show stepE s x c = openE s x c by unfold stepE; rw [if_neg (show ¬ c.kind = 1 by omega), if_neg (show ¬ c.kind = 2 by omega), if_neg (show ¬ c.kind = 3 by omega), if_pos q], show stepK x c = x.sealed c by unfold stepK; rw [if_neg (show ¬ c.kind = 1 by omega), if_neg (show ¬ c.kind = 2 by omega), if_neg (show ¬ c.kind = 3 by omega), if_pos q]]
    exact do_gen c hc 126 _ _ (open_ok126 hs c hc hI) (by rw [q]; rfl) w hL w0 g0 hA hN
  · rw [show stepE s x c = needE s x c by unfold stepE; rw [if_neg (show ¬ c.kind = 1 by omega), if_neg (show ¬ c.kind = 2 by omega), if_neg (show ¬ c.kind = 3 by omega), if_neg (show ¬ c.kind = 4 by omega)], show stepK x c = takeN x c by unfold stepK; rw [if_neg (show ¬ c.kind = 1 by omega), if_neg (show ¬ c.kind = 2 by omega), if_neg (show ¬ c.kind = 3 by omega), if_neg (show ¬ c.kind = 4 by omega)]]
    exact do_gen c hc 127 _ _ (take_ok hs c hc hI) (by rw [q]; rfl) w hL w0 g0 hA hN
end
end Go.Proofs

namespace Go.Proofs
open Go Go.RowKit Go.Sim
set_option maxRecDepth 100000
def x0 : LogN := ⟨shelf0, List.replicate 32 0, []⟩
def zs111 : List Value := List.replicate 3 (.slice none 0 0) ++ (List.replicate 192 (.int .i64 0) ++ [.map none])
theorem Tryz.bd111z (t : Tmps) (w : AW) (l : List (Nat × Operand)) : fast (prg Tryz.prog) t w (.build 111 ⟨l⟩) = bldQ [(0, 3), (3, 160), (163, 32), (195, 1)] zs111 (l.map fun p => (p.1, ev t p.2)) := Tryz.bd111 t w l
theorem bld111 (a b c : Value) (r : Nat) : bldQ [(0, 3), (3, 160), (163, 32), (195, 1)] zs111 [(0, .agg #[a, b, c]), (3, .map (some r))] = some (.agg ([a, b, c] ++ (x0.bags.flatMap bagC ++ ((natsL x0.trails).flatMap icells ++ [Value.map (some r)]))).toArray) := by kernel_rfl
attribute [go_sem] Tryz.bd111 Tryz.ty111
attribute [-go_sem] Tryz.bd111 Tryz.ty111
attribute [go_sem] Tryz.bd111z
def CarI.toN (c : CarI) : CarN := ⟨c.day.toNat, c.kind.toNat, c.bag.toNat, c.to.toNat, c.ca.toNat, c.cb.toNat, c.sl.toNat, c.suits.toNat⟩
theorem carry_nat {s : StrN} (hs : strB s = true) {c : CarI} (h : carryB s c = true) (hd : 0 ≤ c.day) : carIC c = carC c.toN ∧ CarOk s c.toN ∧ 1 ≤ c.toN.kind ∧ c.toN.kind ≤ 5 := by
  have hr := str_rooms hs
  unfold carryB at h
  simp only [Bool.and_eq_true, inR_iff, Bool.not_eq_true', decide_eq_false_iff_not] at h
  obtain ⟨h1, h2, h3, h4, h5, h6, h7, h8⟩ := h
  have t1 : 0 ≤ c.to ∧ c.to < (s.rooms.length : Int) := by
    unfold fieldB at h6
    cases q : toB c.kind with
    | true => rw [q, cond_true, inR_iff] at h6; omega
    | false => rw [q, cond_false] at h6; have := of_decide_eq_true h6; omega
  have t2 : 0 ≤ c.sl := by
    unfold fieldB at h7
    cases q : slB c.kind with
    | true => rw [q, cond_true, inR_iff] at h7; omega
    | false => rw [q, cond_false] at h7; have := of_decide_eq_true h7; omega
  have t3 : 0 ≤ c.suits ∧ c.suits < 16 := by
    unfold fieldB at h8
    cases q : suB c.kind with
    | true => rw [q, cond_true, inR_iff] at h8; omega
    | false => rw [q, cond_false] at h8; have := of_decide_eq_true h8; omega
  have cast : ∀ n : Int, 0 ≤ n → ((n.toNat : Nat) : Int) = n := fun n h => by omega
  refine ⟨?_, ⟨?_, ?_, ?_, ?_, ?_⟩, ?_, ?_⟩
  · unfold carIC carC CarI.toN
    simp only [cast _ hd, cast c.kind (by omega), cast c.bag (by omega), cast c.to (by omega), cast c.ca (by omega), cast c.cb (by omega), cast c.sl (by omega), cast c.suits (by omega)]
  all_goals (simp only [CarI.toN]; omega)
theorem days_all {s : StrN} : ∀ (L : List CarI) (d : Int), 0 ≤ d → daysB s d L = true → ∀ c ∈ L, carryB s c = true ∧ 0 ≤ c.day
  | [], _, _, _, c, hc => by cases hc
  | a :: L, d, hd, h, c, hc => by
    simp only [daysB, Bool.and_eq_true, inR_iff] at h
    obtain ⟨h1, h2, h3⟩ := h
    rcases List.mem_cons.1 hc with rfl | q
    · exact ⟨h2, by omega⟩
    · exact days_all L a.day (by omega) h3 c q
def goC (s : StrN) : List CarI → Nat → LogN → Nat × Nat × LogN
  | [], i, x => (i, 0, x)
  | c :: L, i, x => if stepE s x c.toN = 0 then goC s L (i + 1) (stepN x c.toN) else (i, stepE s x c.toN, x)
def runI (s : StrN) (L : List CarI) : Nat × Nat × LogN :=
  if strB s = true then (if areB s L = true then goC s L 0 x0 else (0, 43, x0)) else (0, 40, x0)
theorem x0_ok : LogOk x0 := ⟨rfl, rfl⟩
theorem x0_in {s : StrN} (hs : strB s = true) : LogIn s x0 := by
  have hr := str_rooms hs
  refine ⟨fun b hb => ?_, fun b hb => ?_, fun t ht => ?_⟩
  · rw [(List.mem_replicate.1 hb).2]; show 0 < _; omega
  · rw [(List.mem_replicate.1 hb).2]; show 0 < _; omega
  · rw [(List.mem_replicate.1 ht).2]; omega
def RunIs (w : AW) (pR pG pS : Option Addr) (cR cG cS : Nat) (s : StrN) (L : List CarI) (v : Value) (w' : AW) : Prop :=
  Grown w w' ∧ (((runI s L).2.1 ≠ 0 ∧ v = .tuple #[.pointer none, .int .i64 ((runI s L).1 : Int), .int .i64 ((runI s L).2.1 : Int)]) ∨
    ((runI s L).2.1 = 0 ∧ (runI s L).1 = L.length ∧ strB s = true ∧ areB s L = true ∧ ∃ b r, NewLog w b r ∧ v = .tuple #[.pointer (some ⟨b, 0, none⟩), .int .i64 (L.length : Int), .int .i64 0] ∧ LogAt w' pR pG pS cR cG cS s b r (runI s L).2.2 ∧ LogIn s (runI s L).2.2))
set_option maxHeartbeats 32000000 in
theorem run_ok (s : StrN) (pR pG pS : Option Addr) (cR cG cS : Nat) (pL : Option Addr) (cL : Nat) (L : List CarI) (w : AW) (f : Fresh w) (hA : StrAt w pR pG pS cR cG cS s) (hL : ArrOf w 8 carIC (.slice pL L.length cL) L) :
    CallT Tryz.prog Tryz.T1 (.fn (.func 71) #[]) #[.agg (strC pR pG pS cR cG cS s).toArray, .slice pL L.length cL] w (RunIs w pR pG pS cR cG cS s L) := by
  have g1 := (Grown.refl f).push (.cells (strC pR pG pS cR cG cS s) 26 w.next 0 0)
  have O1 := Own.new f 26 (strC pR pG pS cR cG cS s)
  obtain ⟨w1, hw1⟩ : ∃ w1, w.push (.cells (strC pR pG pS cR cG cS s) 26 w.next 0 0) = w1 := ⟨_, rfl⟩
  rw [hw1] at g1 O1
  have hld := loadAll O1 (n := 3) rfl (by simp [strC, oneCell])
  have hls := fun w' (O : Own w' w.next 26 (strC pR pG pS cR cG cS s)) => loadAll O (n := 3) rfl (by simp [strC, oneCell])
  have hch := CheckV_ok s pR pG pS cR cG cS w1 g1.2 (hA.grown g1)
  have har := fun (hs : strB s = true) w' (g' : Grown w w') => areCarries_ok hs pR pG pS cR cG cS pL cL L w' g'.2 (hL.grown g')
  have hR : runI s L = if strB s = true then (if areB s L = true then goC s L 0 x0 else (0, 43, x0)) else (0, 40, x0) := rfl
  have hlog : ∀ r, logC pR pG pS cR cG cS s r x0 = [.slice pR s.rooms.length cR, .slice pG s.gates.length cG, .slice pS s.staff.length cS] ++ (x0.bags.flatMap bagC ++ ((natsL x0.trails).flatMap icells ++ [Value.map (some r)])) := fun r => rfl
  have hdo := fun (hs : strB s = true) (x : LogN) (c : CarN) (hc : CarOk s c) hk (hI : LogIn s x) b r w' (hL : LogAt w' pR pG pS cR cG cS s b r x) (g' : Grown w w') hN => do_okV hs c hc hk hI w' hL w g' hA hN
  unfold RunIs
  unfold strC at *
  refine callT_code rfl Tryz.func71 rfl Tryz.s71_eq rfl ?_
  unfold Tryz.s71
  simp -dsimp -implicitDefEqProofs (maxSteps := 2000000) (disch := first | assumption | omega | (simp only [nx]; omega) | ((repeat refine Fresh.push ?_ _); assumption) | (simp only [smA]; done) | (simp [oneCell, AW.next_push]; done) | fail) only [go_sem, Nat.reduceEqDiff, reduceIte, Nat.reduceAdd, Int.toNat_natCast, Nat.add_zero, Owes_true, Tryz.results71, hw1, hld]
  rw [hw1]
  apply callV_of (e := rfl)
  · exact hch
  rintro _ w2 ⟨rfl, g2⟩
  have O12 := O1.keep g2.1
  have gg2 := g1.trans g2
  have hl2 := hls w2 O12
  cases hs : strB s with
  | false =>
    rw [hs, if_neg (by intro z; cases z)] at hR
    have hE : strE s = 40 := by unfold strE; rw [hs]; rfl
    have h40 : ¬ (40 : Int) = 0 := by omega
    simp -dsimp -implicitDefEqProofs (maxSteps := 2000000) (disch := first | assumption | omega | (simp only [nx]; omega) | ((repeat refine Fresh.push ?_ _); assumption) | (simp only [smA]; done) | (simp [oneCell, AW.next_push]; done) | fail) only [go_sem, Nat.reduceEqDiff, reduceIte, Nat.reduceAdd, Int.toNat_natCast, Nat.add_zero, Owes_true, Tryz.results71, hE, h40]
    exact ⟨gg2, .inl ⟨by rw [hR]; show (40 : Nat) ≠ 0; omega, by rw [hR]; rfl⟩⟩
  | true =>
  rw [hs, if_pos rfl] at hR
  have hE : strE s = 0 := by unfold strE; rw [hs]; rfl
  simp -dsimp -implicitDefEqProofs (maxSteps := 2000000) (disch := first | assumption | omega | (simp only [nx]; omega) | ((repeat refine Fresh.push ?_ _); assumption) | (simp only [smA]; done) | (simp [oneCell, AW.next_push]; done) | fail) only [go_sem, Nat.reduceEqDiff, reduceIte, Nat.reduceAdd, Int.toNat_natCast, Nat.add_zero, Owes_true, Tryz.results71, hE, hl2]
  apply callV_of (e := rfl)
  · exact har hs w2 gg2
  rintro _ w3 ⟨rfl, g3⟩
  have O13 := O12.keep g3.1
  have gg3 := gg2.trans g3
  have hl3 := hls w3 O13
  cases ha : areB s L with
  | false =>
    rw [ha, if_neg (by intro z; cases z)] at hR
    simp -dsimp -implicitDefEqProofs (maxSteps := 2000000) (disch := first | assumption | omega | (simp only [nx]; omega) | ((repeat refine Fresh.push ?_ _); assumption) | (simp only [smA]; done) | (simp [oneCell, AW.next_push]; done) | fail) only [go_sem, Nat.reduceEqDiff, reduceIte, Nat.reduceAdd, Int.toNat_natCast, Nat.add_zero, Owes_true, Tryz.results71]
    exact ⟨gg3, .inl ⟨by rw [hR]; show (43 : Nat) ≠ 0; omega, by rw [hR]; rfl⟩⟩
  | true =>
  rw [ha, if_pos rfl] at hR
  have hall := days_all L 0 (by omega) (by unfold areB at ha; rw [Bool.and_eq_true] at ha; exact ha.2)
  have h64 : L.length ≤ 64 := by unfold areB at ha; rw [Bool.and_eq_true] at ha; exact of_decide_eq_true ha.1
  have g4 := gg3.push (.map #[] 0)
  have M4 : MapI (w3.push (.map #[] 0)) w3.next (natsL []) := ⟨⟨#[], 0, blk_push_top _ _, rfl, by simp⟩, by rw [AW.next_push]; omega⟩
  have O14 := O13.push (.map #[] 0)
  have hn4 : (w3.push (.map #[] 0)).next = w3.next + 1 := AW.next_push _ _
  have f3 := gg3.2
  obtain ⟨w4, hw4⟩ : ∃ w4, w3.push (.map #[] 0) = w4 := ⟨_, rfl⟩
  rw [hw4] at g4 M4 O14 hn4
  have f4 := g4.2
  have hbl := bld111 (.slice pR s.rooms.length cR) (.slice pG s.gates.length cG) (.slice pS s.staff.length cS) w3.next
  rw [← hlog] at hbl
  have g5 := g4.push (.cells (logC pR pG pS cR cG cS s w3.next x0) 111 w4.next 0 0)
  have O5 := Own.new g4.2 111 (logC pR pG pS cR cG cS s w3.next x0)
  have hn5 : (w4.push (.cells (logC pR pG pS cR cG cS s w3.next x0) 111 w4.next 0 0)).next = w4.next + 1 := AW.next_push _ _
  obtain ⟨w5, hw5⟩ : ∃ w5, w4.push (.cells (logC pR pG pS cR cG cS s w3.next x0) 111 w4.next 0 0) = w5 := ⟨_, rfl⟩
  have M5 : MapI w5 w3.next (natsL []) := by
    obtain ⟨⟨es, c, h1, h2⟩, h3⟩ := M4
    exact ⟨⟨es, c, by rw [← hw5, blk_push_ne h3]; exact h1, h2⟩, by rw [← hw5, AW.next_push]; omega⟩
  rw [hw5] at g5 O5 hn5
  have hge := gg3.1.next
  have hNL : NewLog w w4.next w3.next := ⟨by omega, hge⟩
  have L5 : LogAt w5 pR pG pS cR cG cS s w4.next w3.next x0 := ⟨O5, M5, by omega, x0_ok⟩
  generalize logC pR pG pS cR cG cS s w3.next x0 = LC at *
  simp -dsimp -implicitDefEqProofs (maxSteps := 2000000) (disch := first | assumption | omega | (simp only [nx]; omega) | ((repeat refine Fresh.push ?_ _); assumption) | (simp only [smA]; done) | (simp [oneCell, AW.next_push]; done) | fail) only [go_sem, Nat.reduceEqDiff, reduceIte, Nat.reduceAdd, Int.toNat_natCast, Nat.add_zero, Owes_true, Tryz.results71, hl3, hw4, hbl, hw5]
  rw [hw4, hw5]
  have hg0 : goC s L 0 x0 = goC s (L.drop 0) 0 x0 := rfl
  refine loopR (fun k t ds w6 => ∃ i : Nat, i ≤ L.length ∧ k = L.length - i ∧ ds = [] ∧ ev t (.tmp 1) = .slice pL L.length cL ∧ ev t (.tmp 4) = .pointer (some ⟨w4.next, 0, none⟩) ∧ ev t (.tmp 24) = .slice pL L.length cL ∧ ev t (.tmp 25) = .int .i64 (L.length : Int) ∧ ev t (.tmp 26) = .int .i64 (i : Int) ∧ (∃ x, goC s L 0 x0 = goC s (L.drop i) i x ∧ LogAt w6 pR pG pS cR cG cS s w4.next w3.next x ∧ LogIn s x) ∧ Grown w w6) (L.length) ?_ ?_
  · refine ⟨0, by omega, by omega, rfl, ?_, ?_, ?_, ?_, ?_, ⟨x0, hg0, L5, x0_in hs⟩, g5⟩ <;> simp -dsimp -implicitDefEqProofs (maxSteps := 2000000) (disch := first | assumption | omega | (simp only [nx]; omega) | ((repeat refine Fresh.push ?_ _); assumption) | (simp only [smA]; done) | (simp [oneCell, AW.next_push]; done) | fail) only [go_sem, Nat.reduceEqDiff, reduceIte, Nat.reduceAdd, Int.toNat_natCast, Nat.add_zero, Owes_true] <;> rfl
  rintro k t ds w6 ⟨i, hii, rfl, rfl, e1, e4, e24, e25, e26, ⟨x, hG, hLx, hIx⟩, g6⟩
  by_cases hlt : (i : Int) < (L.length : Int)
  case neg =>
    obtain rfl : i = L.length := by omega
    rw [List.drop_length] at hG
    rw [hG] at hR
    simp -dsimp -implicitDefEqProofs (maxSteps := 2000000) (disch := first | assumption | omega | (simp only [nx]; omega) | ((repeat refine Fresh.push ?_ _); assumption) | (simp only [smA]; done) | (simp [oneCell, AW.next_push]; done) | fail) only [go_sem, Nat.reduceEqDiff, reduceIte, Nat.reduceAdd, Int.toNat_natCast, Nat.add_zero, Owes_true, Tryz.results71, e1, e4, e24, e25, e26, hlt]
    exact ⟨g6, .inr ⟨by rw [hR]; rfl, by rw [hR]; rfl, trivial, trivial, w4.next, w3.next, hNL, rfl, by rw [hR]; exact hLx, by rw [hR]; exact hIx⟩⟩
  have hi : i < L.length := by omega
  obtain ⟨b4, o4, rfl, hb4, hrow⟩ := arr_row hL carIC_len carIC_one hi
  have hld6 := hrow w6 g6.1
  rw [List.drop_eq_getElem_cons hi] at hG
  obtain ⟨hcb, hcd⟩ := hall L[i] (List.getElem_mem hi)
  obtain ⟨hcc, hco, hck⟩ := carry_nat hs hcb hcd
  have hdo6 := hdo hs x L[i].toN hco hck hIx w4.next w3.next
  have hstp := hIx.step hs hLx.ok L[i].toN hco
  simp only [goC] at hG
  have f6 := g6.2
  have O7 := Own.new f6 62 (carIC car0)
  have g7 := g6.push (.cells (carIC car0) 62 w6.next 0 0)
  have g67 := (Grown.refl f6).push (.cells (carIC car0) 62 w6.next 0 0)
  obtain ⟨w7, hw7⟩ : ∃ w7, w6.push (.cells (carIC car0) 62 w6.next 0 0) = w7 := ⟨_, rfl⟩
  rw [hw7] at O7 g7 g67
  obtain ⟨w8, st8, O8, m8, hn8⟩ := store_new (n := 8) (l := carIC L[i]) g7.2 O7 rfl rfl (by omega) rfl
  have g68 : Grown w6 w8 := ⟨g67.1.trans (m8.keep (fun j q => by omega) g67.1.next), m8.fresh⟩
  have g8 := g6.trans g68
  have hld8 := loadAll O8 (n := 8) rfl (carIC_one _)
  rw [hcc] at hld6 st8 hld8
  have hdo8 := hdo6 w8 (hLx.grown g68) g8 hNL
  generalize L[i] = c at *
  generalize hse : stepE s x c.toN = SE at *
  generalize c.toN = cn at *
  have hcar : ∀ n : CarN, (carC n).toArray = #[.int .i64 (n.day : Int), .int .i64 (n.kind : Int), .int .i64 (n.bag : Int), .int .i64 (n.to : Int), .int .i64 (n.ca : Int), .int .i64 (n.cb : Int), .int .i64 (n.sl : Int), .int .i64 (n.suits : Int)] := fun _ => rfl
  rw [hcar] at hld6 st8 hld8
  unfold carIC car0 carV at *
  simp -dsimp -implicitDefEqProofs (maxSteps := 2000000) (disch := first | assumption | omega | (simp only [nx]; omega) | ((repeat refine Fresh.push ?_ _); assumption) | (simp only [smA]; done) | (simp [oneCell, AW.next_push]; done) | fail) only [go_sem, Nat.reduceEqDiff, reduceIte, Nat.reduceAdd, Int.toNat_natCast, Nat.add_zero, Owes_true, Tryz.results71, e1, e4, e24, e25, e26, hlt, indexV_eq, hld6, hw7, st8, hld8, Nat.zero_add]
  apply callV_of (e := rfl)
  · exact hdo8
  rintro _ w9 ⟨rfl, m9, hL9⟩
  have g9 := hNL.grown g8 m9
  by_cases h0 : SE = 0
  · rw [if_pos h0] at hG
    have h00 : (SE : Int) = 0 := by omega
    simp -dsimp -implicitDefEqProofs (maxSteps := 2000000) (disch := first | assumption | omega | (simp only [nx]; omega) | ((repeat refine Fresh.push ?_ _); assumption) | (simp only [smA]; done) | (simp [oneCell, AW.next_push]; done) | fail) only [go_sem, Nat.reduceEqDiff, reduceIte, Nat.reduceAdd, Int.toNat_natCast, Nat.add_zero, Owes_true, Tryz.results71, e1, e4, e24, e25, e26, h00]
    refine ⟨_, by omega, i + 1, by omega, rfl, rfl, by (simp -dsimp -implicitDefEqProofs (maxSteps := 2000000) (disch := first | assumption | omega | (simp only [nx]; omega) | ((repeat refine Fresh.push ?_ _); assumption) | (simp only [smA]; done) | (simp [oneCell, AW.next_push]; done) | fail) only [go_sem, Nat.reduceEqDiff, reduceIte, Nat.reduceAdd, Int.toNat_natCast, Nat.add_zero, Owes_true, e1]; try rfl), by (simp -dsimp -implicitDefEqProofs (maxSteps := 2000000) (disch := first | assumption | omega | (simp only [nx]; omega) | ((repeat refine Fresh.push ?_ _); assumption) | (simp only [smA]; done) | (simp [oneCell, AW.next_push]; done) | fail) only [go_sem, Nat.reduceEqDiff, reduceIte, Nat.reduceAdd, Int.toNat_natCast, Nat.add_zero, Owes_true, e4]; try rfl), by (simp -dsimp -implicitDefEqProofs (maxSteps := 2000000) (disch := first | assumption | omega | (simp only [nx]; omega) | ((repeat refine Fresh.push ?_ _); assumption) | (simp only [smA]; done) | (simp [oneCell, AW.next_push]; done) | fail) only [go_sem, Nat.reduceEqDiff, reduceIte, Nat.reduceAdd, Int.toNat_natCast, Nat.add_zero, Owes_true, e24]; try rfl), by (simp -dsimp -implicitDefEqProofs (maxSteps := 2000000) (disch := first | assumption | omega | (simp only [nx]; omega) | ((repeat refine Fresh.push ?_ _); assumption) | (simp only [smA]; done) | (simp [oneCell, AW.next_push]; done) | fail) only [go_sem, Nat.reduceEqDiff, reduceIte, Nat.reduceAdd, Int.toNat_natCast, Nat.add_zero, Owes_true, e25]; try rfl), by (simp -dsimp -implicitDefEqProofs (maxSteps := 2000000) (disch := first | assumption | omega | (simp only [nx]; omega) | ((repeat refine Fresh.push ?_ _); assumption) | (simp only [smA]; done) | (simp [oneCell, AW.next_push]; done) | fail) only [go_sem, Nat.reduceEqDiff, reduceIte, Nat.reduceAdd, Int.toNat_natCast, Nat.add_zero, Owes_true, e26]; try rfl), ⟨_, hG, hL9 h0, hstp.1⟩, g9⟩
  · rw [if_neg h0] at hG
    rw [hG] at hR
    have h00 : ¬ (SE : Int) = 0 := by omega
    simp -dsimp -implicitDefEqProofs (maxSteps := 2000000) (disch := first | assumption | omega | (simp only [nx]; omega) | ((repeat refine Fresh.push ?_ _); assumption) | (simp only [smA]; done) | (simp [oneCell, AW.next_push]; done) | fail) only [go_sem, Nat.reduceEqDiff, reduceIte, Nat.reduceAdd, Int.toNat_natCast, Nat.add_zero, Owes_true, Tryz.results71, e1, e4, e24, e25, e26, h00]
    exact ⟨g9, .inl ⟨by rw [hR]; exact h0, by rw [hR]⟩⟩
end Go.Proofs

namespace Go.Proofs
open Go Go.RowKit Go.Sim
set_option maxRecDepth 100000
theorem Tryz.ty48z : (prg Tryz.prog).ty 48 = some ⟨true, .array 32 47, 160, 1280, .agg (shelf0.flatMap bagC).toArray⟩ := Tryz.ty48
attribute [go_sem] Tryz.ty48
attribute [-go_sem] Tryz.ty48
attribute [go_sem] Tryz.ty48z
def playI (s : StrN) (L : List CarI) : List BagN × Nat × Nat := if (runI s L).2.1 = 0 then ((runI s L).2.2.bags, L.length, 0) else (shelf0, (runI s L).1, (runI s L).2.1)
theorem bags_one (L : List BagN) : ∀ v ∈ L.flatMap bagC, oneCell v = true := fun v hv => by obtain ⟨b, _, hb⟩ := List.mem_flatMap.1 hv; exact bagC_one b v hb
set_option maxHeartbeats 32000000 in
theorem Play_ok (s : StrN) (pR pG pS : Option Addr) (cR cG cS : Nat) (pL : Option Addr) (cL : Nat) (L : List CarI) (w : AW) (f : Fresh w) (hA : StrAt w pR pG pS cR cG cS s) (hL : ArrOf w 8 carIC (.slice pL L.length cL) L) :
    CallT Tryz.prog Tryz.T1 (.fn (.func 31) #[]) #[.agg (strC pR pG pS cR cG cS s).toArray, .slice pL L.length cL] w (Ret (.tuple #[.agg ((playI s L).1.flatMap bagC).toArray, .int .i64 ((playI s L).2.1 : Int), .int .i64 ((playI s L).2.2 : Int)]) (Grown w)) := by
  have g1 := (Grown.refl f).push (.cells (strC pR pG pS cR cG cS s) 26 w.next 0 0)
  have O1 := Own.new f 26 (strC pR pG pS cR cG cS s)
  have hn1 : (w.push (.cells (strC pR pG pS cR cG cS s) 26 w.next 0 0)).next = w.next + 1 := AW.next_push _ _
  obtain ⟨w1, hw1⟩ : ∃ w1, w.push (.cells (strC pR pG pS cR cG cS s) 26 w.next 0 0) = w1 := ⟨_, rfl⟩
  rw [hw1] at g1 O1 hn1
  have h0l : (shelf0.flatMap bagC).length = 160 := by rw [flat_len bagC_len]; rfl
  have g2 := g1.push (.cells (shelf0.flatMap bagC) 48 w1.next 0 0)
  have O2 := Own.new g1.2 48 (shelf0.flatMap bagC)
  have O12 := O1.push (.cells (shelf0.flatMap bagC) 48 w1.next 0 0)
  obtain ⟨w2, hw2⟩ : ∃ w2, w1.push (.cells (shelf0.flatMap bagC) 48 w1.next 0 0) = w2 := ⟨_, rfl⟩
  rw [hw2] at g2 O2 O12
  have f1 := g1.2
  have hld := loadAll O12 (n := 3) rfl (by simp [strC, oneCell])
  have hru := run_ok s pR pG pS cR cG cS pL cL L w2 g2.2 (hA.grown g2) (hL.grown g2)
  have hone : ∀ L : List BagN, (L.flatMap bagC).all oneCell = true := fun L => List.all_eq_true.2 (bags_one L)
  have hP : playI s L = if (runI s L).2.1 = 0 then ((runI s L).2.2.bags, L.length, 0) else (shelf0, (runI s L).1, (runI s L).2.1) := rfl
  unfold strC at *
  refine callT_code rfl Tryz.func31 rfl Tryz.s31_eq rfl ?_
  unfold Tryz.s31
  simp -dsimp -implicitDefEqProofs (maxSteps := 2000000) (disch := first | assumption | omega | (simp only [nx]; omega) | ((repeat refine Fresh.push ?_ _); assumption) | (simp only [smA]; done) | (simp [oneCell, AW.next_push]; done) | fail) only [go_sem, Nat.reduceEqDiff, reduceIte, Nat.reduceAdd, Int.toNat_natCast, Nat.add_zero, Owes_true, Tryz.results31, hw1, hw2, hld]
  try rw [hw1]
  try rw [hw2]
  apply callV_of (e := rfl)
  · exact hru
  rintro v w3 ⟨g3, hv⟩
  have gg3 := g2.trans g3
  have O23 := O2.keep g3.1
  have hl0 := loadAll O23 h0l (bags_one _)
  have hn23 := g3.1.next
  have hO2 := O2.lt
  rcases hv with ⟨he, rfl⟩ | ⟨he, hat, hs, ha, b, r, hN, rfl, hLog, hI⟩
  · rw [if_neg he] at hP
    rw [hP]
    obtain ⟨w4, st4, O4, m4, hn4⟩ := store_new (n := 160) g3.2 O23 h0l h0l (by omega) (hone _)
    have hl4 := loadAll O4 h0l (bags_one _)
    have g4 : Grown w w4 := ⟨gg3.1.trans (m4.keep (fun j q => by have := g1.1.next; have : j = w1.next := q; omega) gg3.1.next), m4.fresh⟩
    have h0 : ¬ ((runI s L).2.1 : Int) = 0 := by omega
    generalize (runI s L).2.1 = E at *
    generalize (runI s L).1 = A at *
    generalize hS : (shelf0.flatMap bagC).toArray = SA at *
    simp -dsimp -implicitDefEqProofs (maxSteps := 2000000) (disch := first | assumption | omega | (simp only [nx]; omega) | ((repeat refine Fresh.push ?_ _); assumption) | (simp only [smA]; done) | (simp [oneCell, AW.next_push]; done) | fail) only [go_sem, Nat.reduceEqDiff, reduceIte, Nat.reduceAdd, Int.toNat_natCast, Nat.add_zero, Owes_true, Tryz.results31, h0, hl0, st4, hl4]
    exact ⟨by first | rfl | (simp only [hS]), g4⟩
  · rw [if_pos he] at hP
    rw [hP]
    have hbl : ((runI s L).2.2.bags.flatMap bagC).length = 160 := bags_len hLog.ok
    obtain ⟨w4, st4, O4, m4, hn4⟩ := store_new (n := 160) g3.2 O23 h0l hbl (by omega) (hone _)
    have hl4 := loadAll O4 hbl (bags_one _)
    have g4 : Grown w w4 := ⟨gg3.1.trans (m4.keep (fun j q => by have := g1.1.next; have : j = w1.next := q; omega) gg3.1.next), m4.fresh⟩
    have hlb : loadV w3 true 160 (.pointer (some ⟨b, 3, none⟩)) = some (.agg ((runI s L).2.2.bags.flatMap bagC).toArray) := loadPart (A := strC pR pG pS cR cG cS s) hLog.own hbl (bags_one _)
    generalize (runI s L).2.2 = X at *
    generalize hS : (X.bags.flatMap bagC).toArray = SA at *
    simp -dsimp -implicitDefEqProofs (maxSteps := 2000000) (disch := first | assumption | omega | (simp only [nx]; omega) | ((repeat refine Fresh.push ?_ _); assumption) | (simp only [smA]; done) | (simp [oneCell, AW.next_push]; done) | fail) only [go_sem, Nat.reduceEqDiff, reduceIte, Nat.reduceAdd, Int.toNat_natCast, Nat.add_zero, Owes_true, Tryz.results31, hlb, st4, hl4, Nat.zero_add]
    exact ⟨by first | rfl | (simp only [hS]; rfl), g4⟩
theorem areB_take {s : StrN} {L : List CarI} (h : areB s L = true) (m : Nat) : areB s (L.take m) = true := by
  unfold areB at h ⊢
  rw [Bool.and_eq_true] at h ⊢
  refine ⟨decide_eq_true (by have := of_decide_eq_true h.1; rw [List.length_take]; omega), ?_⟩
  have key : ∀ (L : List CarI) (d : Int) (m : Nat), daysB s d L = true → daysB s d (L.take m) = true := by
    intro L
    induction L with
    | nil => intro d m h; simpa using h
    | cons a L ih =>
      intro d m h
      cases m with
      | zero => rfl
      | succ m =>
        simp only [List.take_succ_cons, daysB, Bool.and_eq_true] at h ⊢
        exact ⟨h.1, h.2.1, ih _ m h.2.2⟩
  exact key L 0 m h.2
theorem goC_take {s : StrN} : ∀ (L : List CarI) (i : Nat) (x : LogN) (m : Nat), (goC s L i x).2.1 = 0 → (goC s (L.take m) i x).2.1 = 0
  | [], i, x, m, h => by rw [List.take_nil]; exact h
  | c :: L, i, x, 0, h => rfl
  | c :: L, i, x, m + 1, h => by
    rw [List.take_succ_cons]
    unfold goC at h ⊢
    split at h
    · rename_i q
      rw [if_pos q]
      exact goC_take L (i + 1) _ m h
    · rename_i q
      exact absurd h q
theorem run_take {s : StrN} {L : List CarI} (h : (runI s L).2.1 = 0) (m : Nat) : (runI s (L.take m)).2.1 = 0 := by
  unfold runI at h ⊢
  by_cases hs : strB s = true
  · rw [if_pos hs] at h ⊢
    by_cases ha : areB s L = true
    · rw [if_pos ha] at h
      rw [if_pos (areB_take ha m)]
      exact goC_take L 0 x0 m h
    · rw [if_neg ha] at h; exact absurd h (by show (43 : Nat) ≠ 0; omega)
  · rw [if_neg hs] at h; exact absurd h (by show (40 : Nat) ≠ 0; omega)
end Go.Proofs

namespace Go.Proofs
open Go Go.RowKit Go.Sim
set_option maxRecDepth 100000
theorem Tryz.und44 : Tryz.prog.underlying 44 = some (.slice 62) := by kernel_rfl
theorem Tryz.cells62 : Tryz.prog.cellsOf 62 = 8 := by kernel_rfl
theorem Tryz.und62 : ∃ fs, Tryz.prog.underlying 62 = some (.struct fs) ∧ fs.size = 8 ∧ ∀ (i : Nat) f, fs[i]? = some f → f.type = 3 := by
  refine ⟨_, (by kernel_rfl : Tryz.prog.underlying 62 = some (.struct #[{ name := "Day", type := 3, offset := 0, embedded := false, tag := "", pkgPath := "", byteOffset := 0 }, { name := "Kind", type := 3, offset := 1, embedded := false, tag := "", pkgPath := "", byteOffset := 8 }, { name := "Bag", type := 3, offset := 2, embedded := false, tag := "", pkgPath := "", byteOffset := 16 }, { name := "To", type := 3, offset := 3, embedded := false, tag := "", pkgPath := "", byteOffset := 24 }, { name := "By", type := 3, offset := 4, embedded := false, tag := "", pkgPath := "", byteOffset := 32 }, { name := "With", type := 3, offset := 5, embedded := false, tag := "", pkgPath := "", byteOffset := 40 }, { name := "Seal", type := 3, offset := 6, embedded := false, tag := "", pkgPath := "", byteOffset := 48 }, { name := "Suits", type := 3, offset := 7, embedded := false, tag := "", pkgPath := "", byteOffset := 56 }])), rfl, ?_⟩
  intro i f h
  match i, h with
  | 0, h | 1, h | 2, h | 3, h | 4, h | 5, h | 6, h | 7, h => cases h; rfl
theorem given_car {w : AW} {n : Nat} {cs : List Value} (h : Hd Tryz.prog w n 62 cs) : ∃ c : CarI, cs = carIC c := by
  obtain ⟨fs, hu, hsz, hty⟩ := Tryz.und62
  cases n with
  | zero => exact h.elim
  | succ n =>
    simp only [Hd, hu] at h
    obtain ⟨parts, hc, hl, hp⟩ := h
    rw [hsz] at hl
    have hf : ∀ i, i < 8 → ∃ f, fs[i]? = some f ∧ f.type = 3 := fun i hi => ⟨fs[i]'(by omega), Array.getElem?_eq_getElem _, hty i _ (Array.getElem?_eq_getElem (by omega))⟩
    match parts, hl with
    | [p0, p1, p2, p3, p4, p5, p6, p7], _ =>
      have get : ∀ i p, i < 8 → [p0, p1, p2, p3, p4, p5, p6, p7][i]? = some p → ∃ x : Int, p = icells x := fun i p hi e => by
        obtain ⟨f, h1, h2⟩ := hf i hi
        have := hp i f p h1 e
        rw [h2] at this
        exact given_intV this
      obtain ⟨a, rfl⟩ := get 0 p0 (by omega) rfl
      obtain ⟨b, rfl⟩ := get 1 p1 (by omega) rfl
      obtain ⟨c, rfl⟩ := get 2 p2 (by omega) rfl
      obtain ⟨d, rfl⟩ := get 3 p3 (by omega) rfl
      obtain ⟨e, rfl⟩ := get 4 p4 (by omega) rfl
      obtain ⟨f, rfl⟩ := get 5 p5 (by omega) rfl
      obtain ⟨g, rfl⟩ := get 6 p6 (by omega) rfl
      obtain ⟨h', rfl⟩ := get 7 p7 (by omega) rfl
      exact ⟨⟨a, b, c, d, e, f, g, h'⟩, by rw [hc]; rfl⟩
theorem pre_of {w : AW} {p : Option Addr} {n c : Nat} (h : EndAt w (.slice p n c)) (hc : n ≤ c) : Pre w p n c := by
  match p, h with
  | none, h =>
    obtain ⟨h1, h2⟩ := h.1 n c rfl
    exact .inl ⟨.inl rfl, h1, h2⟩
  | some ⟨b, o, sp⟩, h =>
    obtain ⟨h1, h2⟩ := h.2 b o sp n c rfl
    rcases Nat.eq_zero_or_pos c with q | q
    · obtain ⟨rfl, rfl, rfl⟩ := h2 q
      exact .inl ⟨.inr rfl, by omega, q⟩
    · obtain ⟨rfl, hb, hk⟩ := h1 q
      exact .inr ⟨b, o, rfl, hc, hb, .inl hk⟩
theorem given_cars {w : AW} {n : Nat} {v : Value} (h : HdV Tryz.prog w n 44 v) : ∃ (pL : Option Addr) (cL : Nat) (L : List CarI), v = .slice pL L.length cL ∧ ArrOf w 8 carIC (.slice pL L.length cL) L ∧ Pre w pL L.length cL := by
  simp only [HdV, Tryz.und44] at h
  cases n with
  | zero => exact h.elim
  | succ n =>
    simp only [Hd, Tryz.und44, Tryz.cells62] at h
    obtain ⟨v', rows, e, ha, hr, hg, hrest⟩ := h
    injection e with e
    subst e
    obtain ⟨L, rfl⟩ := rows_ofV (enc := carIC) fun r hq => given_car (hr r hq)
    have hA : ArrOf w 8 carIC v L := ha
    obtain ⟨pL, cL, rfl, hc, _, hat⟩ := id hA.open
    refine ⟨pL, cL, L, rfl, hA, ?_⟩
    exact pre_of hrest.2 hc
theorem Ring_okV (a b : Int) (hb1 : b ≤ 4611686018427387904) (w : AW) :
    CallT Tryz.prog Tryz.T1 (.fn (.func 44) #[]) #[.int .i64 a, .int .i64 b] w (Ret (.int .i64 (if b ≤ 0 then 0 else a % b)) fun w' => w = w') := by
  refine callT_code rfl Tryz.func44 rfl Tryz.s44_eq rfl ?_
  unfold Tryz.s44
  by_cases hb : b ≤ 0
  · rw [if_pos hb]
    simp -dsimp -implicitDefEqProofs (maxSteps := 2000000) (disch := first | assumption | omega | (simp only [nx]; omega) | ((repeat refine Fresh.push ?_ _); assumption) | (simp only [smA]; done) | (simp [oneCell, AW.next_push]; done) | fail) only [go_sem, Nat.reduceEqDiff, reduceIte, Nat.reduceAdd, Int.toNat_natCast, Nat.add_zero, Owes_true, Tryz.results44, hb]
    exact ⟨rfl, rfl⟩
  · rw [if_neg hb]
    have h0 : ¬ b = 0 := by omega
    have h1 := Int.tmod_lt_of_pos a (b := b) (by omega)
    have h2 : -b < a.tmod b := by
      have := Int.lt_tmod_of_pos a (b := b) (by omega)
      omega
    have h3 : (a.tmod b + b).tmod b = a % b := by
      rw [Int.tmod_eq_emod_of_nonneg (by omega), Int.add_emod_right]
      have := Int.mul_tdiv_add_tmod a b
      conv => rhs; rw [← this]
      rw [Int.add_comm, Int.add_mul_emod_self_left]
    simp -dsimp -implicitDefEqProofs (maxSteps := 2000000) (disch := first | assumption | omega | (simp only [nx]; omega) | ((repeat refine Fresh.push ?_ _); assumption) | (simp only [smA]; done) | (simp [oneCell, AW.next_push]; done) | fail) only [go_sem, Nat.reduceEqDiff, reduceIte, Nat.reduceAdd, Int.toNat_natCast, Nat.add_zero, Owes_true, Tryz.results44, hb, h0, h3]
    exact ⟨rfl, rfl⟩
def logOf (L : List CarI) : LogN := L.foldl (fun x c => stepN x c.toN) x0
theorem goC_log {s : StrN} : ∀ (L : List CarI) (i : Nat) (x : LogN), (goC s L i x).2.1 = 0 → (goC s L i x).2.2 = L.foldl (fun x c => stepN x c.toN) x
  | [], i, x, _ => rfl
  | c :: L, i, x, h => by
    unfold goC at h ⊢
    split at h
    · rename_i q
      rw [if_pos q]
      exact goC_log L (i + 1) _ h
    · rename_i q
      exact absurd h q
theorem run_log {s : StrN} {L : List CarI} (h : (runI s L).2.1 = 0) : strB s = true ∧ areB s L = true ∧ (runI s L).2.2 = logOf L := by
  unfold runI at h ⊢
  by_cases hs : strB s = true
  · rw [if_pos hs] at h ⊢
    by_cases ha : areB s L = true
    · rw [if_pos ha] at h ⊢
      exact ⟨hs, ha, goC_log L 0 x0 h⟩
    · rw [if_neg ha] at h; exact absurd h (by show (43 : Nat) ≠ 0; omega)
  · rw [if_neg hs] at h; exact absurd h (by show (40 : Nat) ≠ 0; omega)
theorem bags_done (N : LogN) (c : CarN) (B : List BagN) (y : BagN) (h : N.bags = B.set c.bag y) : ∃ y, (doneN N c).bags = B.set c.bag y := by
  unfold doneN LogN.put
  rw [h]
  simp only [List.set_set]
  exact ⟨_, rfl⟩
theorem bags_step (x : LogN) (c : CarN) : ∃ y, (stepN x c).bags = x.bags.set c.bag y := by
  unfold stepN stepK
  have hz : x.bags = x.bags.set c.bag (x.bag c.bag) := by
    rcases Nat.lt_or_ge c.bag x.bags.length with q | q
    · have : x.bag c.bag = x.bags[c.bag] := by simp [LogN.bag, List.getD, q]
      rw [this, List.set_getElem_self]
    · rw [List.set_eq_of_length_le q]
  split
  · exact bags_done _ c _ _ (by unfold bringN LogN.sealed LogN.settle LogN.mark LogN.put LogN.placed; simp only [List.set_set]; rfl)
  split
  · exact bags_done _ c _ _ (by unfold moveN LogN.mark LogN.placed; rfl)
  split
  · exact bags_done _ c _ _ hz
  split
  · exact bags_done _ c _ _ (by unfold LogN.sealed LogN.settle LogN.mark LogN.put; rfl)
  · exact bags_done _ c _ _ (by unfold takeN LogN.put; simp only [List.set_set]; rfl)
theorem bags_back (x : LogN) (c : CarN) (h : c.bag < x.bags.length) : (stepN x c).bags.set c.bag (x.bag c.bag) = x.bags := by
  obtain ⟨y, e⟩ := bags_step x c
  rw [e, List.set_set]
  have : x.bag c.bag = x.bags[c.bag] := by simp [LogN.bag, List.getD, h]
  rw [this, List.set_getElem_self]
theorem logOf_ok : ∀ (L : List CarI) (x : LogN), LogOk x → LogOk (L.foldl (fun x c => stepN x c.toN) x)
  | [], x, h => h
  | c :: L, x, h => logOf_ok L _ (h.step c.toN)
theorem play_take {s : StrN} {L : List CarI} (h : (playI s L).2.2 = 0) (m : Nat) (hm : m ≤ L.length) : playI s (L.take m) = ((logOf (L.take m)).bags, m, 0) := by
  have h0 : (runI s L).2.1 = 0 := by
    unfold playI at h
    by_cases q : (runI s L).2.1 = 0
    · exact q
    · rw [if_neg q] at h; exact absurd h q
  have h1 := run_take h0 m
  obtain ⟨_, _, h2⟩ := run_log h1
  unfold playI
  rw [if_pos h1, h2, List.length_take]
  congr 2; omega
theorem play_zero {s : StrN} {L : List CarI} (h : (playI s L).2.2 = 0) : strB s = true ∧ areB s L = true := by
  have h0 : (runI s L).2.1 = 0 := by
    unfold playI at h
    by_cases q : (runI s L).2.1 = 0
    · exact q
    · rw [if_neg q] at h; exact absurd h q
  obtain ⟨h1, h2, _⟩ := run_log h0
  exact ⟨h1, h2⟩
end Go.Proofs

namespace Go.Proofs
open Go Go.RowKit Go.Sim
set_option maxRecDepth 100000
noncomputable def Tryz.s13r5 : Array Oper := match Tryz.f13.body with
  | some c => regionAt 5 c
  | none => #[]
noncomputable def Tryz.s13r11 : Array Oper := match Tryz.f13.body with
  | some c => regionAt 11 c
  | none => #[]
noncomputable def Tryz.s13 : SC :=
 (.seq
  (.ops false [
    ⟨⟨(some 3), .box 26 (.tmp 0), 0, "", ⟨[]⟩, none⟩, none, false⟩,
    ⟨⟨(some 6), .assign (.const (.bool false)), 4, "", ⟨[]⟩, none⟩, none, false⟩])
  (.seq
   (.seq
    (.ops false [
      ⟨⟨(some 18), .load 26 (.tmp 3), 26, "", ⟨[]⟩, none⟩, none, false⟩,
      ⟨⟨(some 19), .move (.tmp 1), 44, "", ⟨[]⟩, none⟩, none, false⟩,
      ⟨⟨(some 20), .call ⟨.value (.func 31), ⟨[(.tmp 18), (.tmp 19)]⟩, ⟨[26, 44]⟩⟩, 49, "", ⟨[]⟩, none⟩, none, false⟩,
      ⟨⟨(some 17), .move (.tmp 20), 49, "", ⟨[]⟩, none⟩, none, false⟩,
      ⟨⟨(some 21), .extract (.tmp 17) 0, 48, "", ⟨[]⟩, none⟩, none, false⟩,
      ⟨⟨(some 22), .extract (.tmp 17) 1, 3, "", ⟨[]⟩, none⟩, none, false⟩,
      ⟨⟨(some 23), .extract (.tmp 17) 2, 27, "", ⟨[]⟩, none⟩, none, false⟩,
      ⟨⟨(some 7), .alloc 48, 0, "", ⟨[]⟩, none⟩, none, false⟩,
      ⟨⟨none, .store 48 (.tmp 7) (.tmp 21), 0, "", ⟨[]⟩, none⟩, none, false⟩,
      ⟨⟨(some 8), .assign (.tmp 22), 3, "", ⟨[]⟩, none⟩, none, false⟩,
      ⟨⟨(some 9), .assign (.tmp 23), 27, "", ⟨[]⟩, none⟩, none, false⟩])
    (.seq
     (.ops false [
       ⟨⟨(some 24), .move (.tmp 9), 27, "", ⟨[]⟩, none⟩, none, false⟩,
       ⟨⟨(some 25), .binOp .neq 27 (.tmp 24) (.const (.int .i64 0)) 27, 4, "", ⟨[]⟩, none⟩, none, false⟩])
     (.cond (.tmp 25)
      (.seq
       (.ops false [
         ⟨⟨(some 26), .call ⟨.value (.func 21), ⟨[]⟩, ⟨[]⟩⟩, 4, "", ⟨[]⟩, none⟩, none, false⟩,
         ⟨⟨(some 6), .assign (.tmp 26), 4, "", ⟨[]⟩, none⟩, none, false⟩])
       .ret)
      .skip)))
   (.seq
    (.ops false [
      ⟨⟨(some 27), .move (.tmp 2), 3, "", ⟨[]⟩, none⟩, none, false⟩,
      ⟨⟨(some 28), .move (.tmp 1), 44, "", ⟨[]⟩, none⟩, none, false⟩,
      ⟨⟨(some 29), .call ⟨.builtin .len, ⟨[(.tmp 28)]⟩, ⟨[44]⟩⟩, 3, "", ⟨[]⟩, none⟩, none, false⟩,
      ⟨⟨(some 30), .binOp .add 3 (.tmp 29) (.const (.int .i64 1)) 3, 3, "", ⟨[]⟩, none⟩, none, false⟩,
      ⟨⟨(some 31), .call ⟨.value (.func 44), ⟨[(.tmp 27), (.tmp 30)]⟩, ⟨[3, 3]⟩⟩, 3, "", ⟨[]⟩, none⟩, none, false⟩,
      ⟨⟨(some 10), .assign (.tmp 31), 3, "", ⟨[]⟩, none⟩, none, false⟩])
    (.seq
     (.raw (.region 5 Tryz.s13r5 true))
     (.seq
      (.seq
       (.ops false [
         ⟨⟨(some 41), .move (.tmp 13), 27, "", ⟨[]⟩, none⟩, none, false⟩,
         ⟨⟨(some 42), .binOp .neq 27 (.tmp 41) (.const (.int .i64 0)) 27, 4, "", ⟨[]⟩, none⟩, none, false⟩,
         ⟨⟨(some 43), .move (.tmp 42), 4, "", ⟨[]⟩, none⟩, none, false⟩,
         ⟨⟨(some 44), .move (.tmp 12), 3, "", ⟨[]⟩, none⟩, some ((some 43), false), false⟩,
         ⟨⟨(some 45), .move (.tmp 10), 3, "", ⟨[]⟩, none⟩, some ((some 43), false), false⟩,
         ⟨⟨(some 46), .binOp .neq 3 (.tmp 44) (.tmp 45) 3, 4, "", ⟨[]⟩, none⟩, some ((some 43), false), false⟩,
         ⟨⟨(some 47), .pick (.tmp 43) (.const (.bool true)) (.tmp 46), 4, "", ⟨[]⟩, none⟩, none, false⟩])
       (.cond (.tmp 47)
        (.seq
         (.ops false [
           ⟨⟨(some 6), .assign (.const (.bool false)), 4, "", ⟨[]⟩, none⟩, none, false⟩])
         .ret)
        .skip))
      (.seq
       (.seq
        (.ops false [
          ⟨⟨(some 48), .move (.tmp 10), 3, "", ⟨[]⟩, none⟩, none, false⟩,
          ⟨⟨(some 49), .move (.tmp 1), 44, "", ⟨[]⟩, none⟩, none, false⟩,
          ⟨⟨(some 50), .call ⟨.builtin .len, ⟨[(.tmp 49)]⟩, ⟨[44]⟩⟩, 3, "", ⟨[]⟩, none⟩, none, false⟩,
          ⟨⟨(some 51), .binOp .eql 3 (.tmp 48) (.tmp 50) 3, 4, "", ⟨[]⟩, none⟩, none, false⟩])
        (.cond (.tmp 51)
         (.seq
          (.ops false [
            ⟨⟨(some 52), .call ⟨.value (.func 21), ⟨[]⟩, ⟨[]⟩⟩, 4, "", ⟨[]⟩, none⟩, none, false⟩,
            ⟨⟨(some 6), .assign (.tmp 52), 4, "", ⟨[]⟩, none⟩, none, false⟩])
          .ret)
         .skip))
       (.seq
        (.ops false [
          ⟨⟨(some 53), .move (.tmp 1), 44, "", ⟨[]⟩, none⟩, none, false⟩,
          ⟨⟨(some 54), .move (.tmp 10), 3, "", ⟨[]⟩, none⟩, none, false⟩,
          ⟨⟨(some 55), .indexAddr 44 (.tmp 53) (.tmp 54), 0, "", ⟨[]⟩, none⟩, none, false⟩,
          ⟨⟨(some 56), .load 62 (.tmp 55), 62, "", ⟨[]⟩, none⟩, none, false⟩,
          ⟨⟨(some 14), .alloc 62, 0, "", ⟨[]⟩, none⟩, none, false⟩,
          ⟨⟨none, .store 62 (.tmp 14) (.tmp 56), 0, "", ⟨[]⟩, none⟩, none, false⟩])
        (.seq
         (.raw (.region 11 Tryz.s13r11 true))
         (.seq
          (.seq
           (.ops false [
             ⟨⟨(some 67), .move (.tmp 13), 27, "", ⟨[]⟩, none⟩, none, false⟩,
             ⟨⟨(some 68), .binOp .neq 27 (.tmp 67) (.const (.int .i64 0)) 27, 4, "", ⟨[]⟩, none⟩, none, false⟩,
             ⟨⟨(some 69), .move (.tmp 68), 4, "", ⟨[]⟩, none⟩, none, false⟩,
             ⟨⟨(some 70), .fieldAddr 62 (.tmp 14) 2, 0, "", ⟨[]⟩, none⟩, some ((some 69), false), false⟩,
             ⟨⟨(some 71), .load 3 (.tmp 70), 3, "", ⟨[]⟩, none⟩, some ((some 69), false), false⟩,
             ⟨⟨(some 72), .call ⟨.value (.func 39), ⟨[(.const (.int .i64 0)), (.tmp 71), (.const (.int .i64 31))]⟩, ⟨[3, 3, 3]⟩⟩, 4, "", ⟨[]⟩, none⟩, some ((some 69), false), false⟩,
             ⟨⟨(some 73), .unOp .not 4 (.tmp 72), 4, "", ⟨[]⟩, none⟩, some ((some 69), false), false⟩,
             ⟨⟨(some 74), .pick (.tmp 69) (.const (.bool true)) (.tmp 73), 4, "", ⟨[]⟩, none⟩, none, false⟩])
           (.cond (.tmp 74)
            (.seq
             (.ops false [
               ⟨⟨(some 6), .assign (.const (.bool false)), 4, "", ⟨[]⟩, none⟩, none, false⟩])
             .ret)
            .skip))
          (.seq
           (.ops true [
             ⟨⟨(some 75), .fieldAddr 62 (.tmp 14) 2, 0, "", ⟨[]⟩, none⟩, none, true⟩,
             ⟨⟨(some 76), .load 3 (.tmp 75), 3, "", ⟨[]⟩, none⟩, none, true⟩,
             ⟨⟨(some 77), .fieldAddr 62 (.tmp 14) 2, 0, "", ⟨[]⟩, none⟩, none, true⟩,
             ⟨⟨(some 78), .load 3 (.tmp 77), 3, "", ⟨[]⟩, none⟩, none, true⟩,
             ⟨⟨(some 79), .indexAddr 48 (.tmp 11) (.tmp 78), 0, "", ⟨[]⟩, none⟩, none, true⟩,
             ⟨⟨(some 80), .load 47 (.tmp 79), 47, "", ⟨[]⟩, none⟩, none, true⟩,
             ⟨⟨(some 81), .indexAddr 48 (.tmp 15) (.tmp 76), 0, "", ⟨[]⟩, none⟩, none, true⟩,
             ⟨⟨none, .store 47 (.tmp 81) (.tmp 80), 0, "", ⟨[]⟩, none⟩, none, false⟩])
           (.seq
            (.ops false [
              ⟨⟨(some 82), .load 48 (.tmp 11), 48, "", ⟨[]⟩, none⟩, none, false⟩,
              ⟨⟨(some 83), .load 48 (.tmp 15), 48, "", ⟨[]⟩, none⟩, none, false⟩,
              ⟨⟨(some 84), .binOp .eql 48 (.tmp 82) (.tmp 83) 48, 4, "", ⟨[]⟩, none⟩, none, false⟩,
              ⟨⟨(some 85), .move (.tmp 84), 4, "", ⟨[]⟩, none⟩, none, false⟩,
              ⟨⟨(some 86), .call ⟨.value (.func 21), ⟨[]⟩, ⟨[]⟩⟩, 4, "", ⟨[]⟩, none⟩, some ((some 85), true), false⟩,
              ⟨⟨(some 87), .pick (.tmp 85) (.tmp 86) (.const (.bool false)), 4, "", ⟨[]⟩, none⟩, none, false⟩,
              ⟨⟨(some 6), .assign (.tmp 87), 4, "", ⟨[]⟩, none⟩, none, false⟩])
            .ret)))))))))))
def Tryz.x13r5 : List XOp := [
  ⟨⟨⟨(some 33), .load 26 (.tmp 3), 26, "", ⟨[]⟩, none⟩, none, false⟩, 0, 0, false, some (26, (.tmp 3))⟩,
  ⟨⟨⟨(some 34), .move (.tmp 1), 44, "", ⟨[]⟩, none⟩, none, false⟩, 1, 0, false, none⟩,
  ⟨⟨⟨(some 35), .move (.tmp 10), 3, "", ⟨[]⟩, none⟩, none, false⟩, 2, 0, false, none⟩,
  ⟨⟨⟨(some 36), .slice 44 (.tmp 34) none (some (.tmp 35)) none, 44, "", ⟨[]⟩, none⟩, none, false⟩, 3, 1, false, none⟩,
  ⟨⟨⟨(some 11), .alloc 48, 0, "", ⟨[]⟩, none⟩, none, false⟩, 9, 0, false, none⟩,
  ⟨⟨⟨(some 37), .call ⟨.value (.func 31), ⟨[(.tmp 33), (.tmp 36)]⟩, ⟨[26, 44]⟩⟩, 49, "", ⟨[]⟩, none⟩, none, false⟩, 4, 15, true, none⟩,
  ⟨⟨⟨(some 32), .move (.tmp 37), 49, "", ⟨[]⟩, none⟩, none, false⟩, 5, 0, false, none⟩,
  ⟨⟨⟨(some 38), .extract (.tmp 32) 0, 48, "", ⟨[]⟩, none⟩, none, false⟩, 6, 0, false, none⟩,
  ⟨⟨⟨(some 39), .extract (.tmp 32) 1, 3, "", ⟨[]⟩, none⟩, none, false⟩, 7, 0, false, none⟩,
  ⟨⟨⟨(some 40), .extract (.tmp 32) 2, 27, "", ⟨[]⟩, none⟩, none, false⟩, 8, 0, false, none⟩,
  ⟨⟨⟨none, .store 48 (.tmp 11) (.tmp 38), 0, "", ⟨[]⟩, none⟩, none, false⟩, 10, 639, true, none⟩,
  ⟨⟨⟨(some 12), .assign (.tmp 39), 3, "", ⟨[]⟩, none⟩, none, false⟩, 11, 0, false, none⟩,
  ⟨⟨⟨(some 13), .assign (.tmp 40), 27, "", ⟨[]⟩, none⟩, none, false⟩, 12, 0, false, none⟩]
def Tryz.x13r11 : List XOp := [
  ⟨⟨⟨(some 58), .load 26 (.tmp 3), 26, "", ⟨[]⟩, none⟩, none, false⟩, 0, 0, false, some (26, (.tmp 3))⟩,
  ⟨⟨⟨(some 59), .move (.tmp 1), 44, "", ⟨[]⟩, none⟩, none, false⟩, 1, 0, false, none⟩,
  ⟨⟨⟨(some 60), .move (.tmp 10), 3, "", ⟨[]⟩, none⟩, none, false⟩, 2, 0, false, none⟩,
  ⟨⟨⟨(some 61), .binOp .add 3 (.tmp 60) (.const (.int .i64 1)) 3, 3, "", ⟨[]⟩, none⟩, none, false⟩, 3, 0, false, none⟩,
  ⟨⟨⟨(some 62), .slice 44 (.tmp 59) none (some (.tmp 61)) none, 44, "", ⟨[]⟩, none⟩, none, false⟩, 4, 1, false, none⟩,
  ⟨⟨⟨(some 15), .alloc 48, 0, "", ⟨[]⟩, none⟩, none, false⟩, 10, 0, false, none⟩,
  ⟨⟨⟨(some 63), .call ⟨.value (.func 31), ⟨[(.tmp 58), (.tmp 62)]⟩, ⟨[26, 44]⟩⟩, 49, "", ⟨[]⟩, none⟩, none, false⟩, 5, 31, true, none⟩,
  ⟨⟨⟨(some 57), .move (.tmp 63), 49, "", ⟨[]⟩, none⟩, none, false⟩, 6, 0, false, none⟩,
  ⟨⟨⟨(some 64), .extract (.tmp 57) 0, 48, "", ⟨[]⟩, none⟩, none, false⟩, 7, 0, false, none⟩,
  ⟨⟨⟨(some 65), .extract (.tmp 57) 1, 3, "", ⟨[]⟩, none⟩, none, false⟩, 8, 0, false, none⟩,
  ⟨⟨⟨(some 66), .extract (.tmp 57) 2, 27, "", ⟨[]⟩, none⟩, none, false⟩, 9, 0, false, none⟩,
  ⟨⟨⟨none, .store 48 (.tmp 15) (.tmp 64), 0, "", ⟨[]⟩, none⟩, none, false⟩, 11, 1279, true, none⟩,
  ⟨⟨⟨(some 16), .assign (.tmp 65), 3, "", ⟨[]⟩, none⟩, none, false⟩, 12, 0, false, none⟩,
  ⟨⟨⟨(some 13), .assign (.tmp 66), 27, "", ⟨[]⟩, none⟩, none, false⟩, 13, 0, false, none⟩]
theorem Tryz.s13_eq : Tryz.f13.body.map (sOfX [5, 11]) = some Tryz.s13 := by kernel_rfl
theorem Tryz.x13r5_eq : xRegion Tryz.s13r5 = some Tryz.x13r5 := by kernel_rfl
theorem Tryz.x13r5_kinds : xkinds Tryz.x13r5 = true := by kernel_rfl
theorem Tryz.x13r11_eq : xRegion Tryz.s13r11 = some Tryz.x13r11 := by kernel_rfl
theorem Tryz.x13r11_kinds : xkinds Tryz.x13r11 = true := by kernel_rfl
end Go.Proofs

namespace Go.Proofs
open Go Go.RowKit Go.Sim
set_option maxRecDepth 100000
theorem Tryz.ia48 (t : Tmps) (w : AW) (x y : Operand) : fast (prg Tryz.prog) t w (.indexAddr 48 x y) = indexA 5 32 (ev t x) (ev t y) := fast_indexAddrA Tryz.ty48 Tryz.ty47
attribute [go_sem] Tryz.ty48 Tryz.ty107 Tryz.ty111
attribute [-go_sem] Tryz.ty48 Tryz.ty107 Tryz.ty111
attribute [go_sem] Tryz.ia48
theorem same_ints10 : ∀ l : List Value, (∀ v ∈ l, ∃ n, v = .int .i64 n) → same.all 10 l l = true
  | [], _ => rfl
  | v :: l, h => by
    obtain ⟨n, rfl⟩ := h v List.mem_cons_self
    rw [same.all, same_ints10 l fun v hv => h v (List.mem_cons_of_mem _ hv)]
    simp [same, intEq_eq]
theorem shelf48_in (n : Nat) (xs ys : List BagN) (hx : xs.length = 32) (hy : ys.length = 32) : prun Tryz.prog (Op.equalIn (n + 3) 48 (.agg (xs.flatMap bagC).toArray) (.agg (ys.flatMap bagC).toArray)) = some (decide (xs = ys)) := by
  rw [← shelf_in n xs ys hx hy]
  rw [Op.equalIn, Op.equalIn]
  rw [prun_bindS _ _ (prun_underlying (show Tryz.prog.underlying 107 = some (.array 32 47) from by kernel_rfl)), prun_bindS _ _ (prun_underlying (show Tryz.prog.underlying 48 = some (.array 32 47) from by kernel_rfl))]
theorem guard48 (A B : Array Value) : prun Tryz.prog (eqGuard .eql 48 (.const undef) (.const undef) (.agg A) (.agg B)) = some () := by kernel_rfl
theorem shelf48_eql (xs ys : List BagN) (hx : xs.length = 32) (hy : ys.length = 32) : eqQ Tryz.prog .eql 48 (.agg (xs.flatMap bagC).toArray) (.agg (ys.flatMap bagC).toArray) = some (.bool (decide (xs = ys))) := by
  exact eqQ_eql (guard48 _ _) (by rw [flat_one _ (bags_ints xs), flat_one _ (bags_ints ys)]; rfl) (shelf48_in 9997 xs ys hx hy)
set_option maxHeartbeats 64000000 in
theorem part_law (w : AW) (xs : List Value) (f : Fresh w) (h : HdAll Tryz.prog w [26, 44, 3] xs) : CallT Tryz.prog Tryz.T1 (.fn (.func 13) #[]) xs.toArray w fun v _ => v = .bool true := by
  cases h with
  | cons n1 h1 h =>
  cases h with
  | cons n2 h2 h =>
  cases h with
  | cons n3 h3 h =>
  cases h
  rename_i v1 v2 v3
  obtain ⟨s, pR, pG, pS, cR, cG, cS, rfl, hA⟩ := given_strong h1
  obtain ⟨pL, cL, L, rfl, hL, hPr⟩ := given_cars h2
  obtain ⟨nn, rfl⟩ := given_intX h3
  clear h1 h2 h3
  show CallT Tryz.prog Tryz.T1 (.fn (.func 13) #[]) #[.agg (strC pR pG pS cR cG cS s).toArray, .slice pL L.length cL, .int .i64 nn] w _
  have hcap : L.length ≤ cL ∧ (cL : Int) ≤ 140737488355328 := by
    obtain ⟨_, _, e, h1, h2, _⟩ := hL.open
    injection e with e1 e2 e3
    subst e3
    exact ⟨h1, h2⟩
  have g1 := (Grown.refl f).push (.cells (strC pR pG pS cR cG cS s) 26 w.next 0 0)
  have O1 := Own.new f 26 (strC pR pG pS cR cG cS s)
  obtain ⟨w1, hw1⟩ : ∃ w1, w.push (.cells (strC pR pG pS cR cG cS s) 26 w.next 0 0) = w1 := ⟨_, rfl⟩
  rw [hw1] at g1 O1
  have hls := fun w' (O : Own w' w.next 26 (strC pR pG pS cR cG cS s)) => loadAll O (n := 3) rfl (by simp [strC, oneCell])
  have hl1 := hls w1 O1
  have h0l : (shelf0.flatMap bagC).length = 160 := by rw [flat_len bagC_len]; rfl
  have hone : ∀ L : List BagN, (L.flatMap bagC).all oneCell = true := fun L => List.all_eq_true.2 (bags_one L)
  have hPl := fun (m : Nat) (hm : m ≤ L.length) w' (g' : Grown w w') => Play_ok s pR pG pS cR cG cS pL cL (L.take m) w' g'.2 (hA.grown g') (by rw [List.length_take, Nat.min_eq_left hm]; exact arr_take (hL.grown g') hm)
  have hP0 := Play_ok s pR pG pS cR cG cS pL cL L w1 g1.2 (hA.grown g1) (hL.grown g1)
  have hss := same_str pR pG pS s.rooms.length s.gates.length s.staff.length cR cG cS
  unfold strC at *
  refine callT_codeX [5, 11] rfl Tryz.func13 rfl Tryz.s13_eq rfl ?_
  unfold Tryz.s13
  simp -dsimp -implicitDefEqProofs (maxSteps := 2000000) (disch := first | assumption | omega | (simp only [nx]; omega) | ((repeat refine Fresh.push ?_ _); assumption) | (simp only [smA]; done) | (simp [oneCell, AW.next_push]; done) | fail) only [go_sem, Nat.reduceEqDiff, reduceIte, Nat.reduceAdd, Int.toNat_natCast, Nat.add_zero, Owes_true, Tryz.results13, hw1, hl1]
  try rw [hw1]
  apply callV_of (e := rfl)
  · exact hP0
  rintro _ w2 ⟨rfl, g2⟩
  have gg2 := g1.trans g2
  have O12 := O1.keep g2.1
  have f2 := gg2.2
  have hbl0 : ((playI s L).1.flatMap bagC).length = 160 := by
    rw [flat_len bagC_len]
    unfold playI
    split
    · rename_i q
      rw [(run_log q).2.2]
      have := (logOf_ok L x0 x0_ok).bags
      show (logOf L).bags.length * 5 = 160
      unfold logOf; rw [this]
    · rfl
  have O3 := Own.new f2 48 (shelf0.flatMap bagC)
  have g3 := gg2.push (.cells (shelf0.flatMap bagC) 48 w2.next 0 0)
  have O13 := O12.push (.cells (shelf0.flatMap bagC) 48 w2.next 0 0)
  have hn3 : (w2.push (.cells (shelf0.flatMap bagC) 48 w2.next 0 0)).next = w2.next + 1 := AW.next_push _ _
  obtain ⟨w3, hw3⟩ : ∃ w3, w2.push (.cells (shelf0.flatMap bagC) 48 w2.next 0 0) = w3 := ⟨_, rfl⟩
  rw [hw3] at O3 g3 O13 hn3
  have hge1 := g1.1.next
  have hge2 := gg2.1.next
  have hO1l := O12.lt
  obtain ⟨w4, st4, O4, m4, hn4⟩ := store_new (n := 160) g3.2 O3 h0l hbl0 (by omega) (hone _)
  have O14 := m4.own O13 (fun q => by omega)
  have g4 : Grown w w4 := ⟨g3.1.trans (m4.keep (fun j q => by have : j = w2.next := q; omega) g3.1.next), m4.fresh⟩
  have hl4 := hls w4 O14
  by_cases he : (playI s L).2.2 = 0
  case neg =>
    have he' : ¬ ((playI s L).2.2 : Int) = 0 := by omega
    generalize (playI s L).2.2 = E at *
    generalize (playI s L).2.1 = A at *
    generalize ((playI s L).1.flatMap bagC).toArray = SA at *
    simp -dsimp -implicitDefEqProofs (maxSteps := 2000000) (disch := first | assumption | omega | (simp only [nx]; omega) | ((repeat refine Fresh.push ?_ _); assumption) | (simp only [smA]; done) | (simp [oneCell, AW.next_push]; done) | fail) only [go_sem, Nat.reduceEqDiff, reduceIte, Nat.reduceAdd, Int.toNat_natCast, Nat.add_zero, Owes_true, Tryz.results13, hw3, st4, he']
    try rw [hw3]
    apply callV_of (e := rfl)
    · exact callT_told (Q := fun v w' => v = .bool true ∧ w4 = w') (v := .bool true) (w' := w4) rfl ⟨rfl, rfl⟩
    rintro _ _ ⟨rfl, rfl⟩
    simp -dsimp -implicitDefEqProofs (maxSteps := 2000000) (disch := first | assumption | omega | (simp only [nx]; omega) | ((repeat refine Fresh.push ?_ _); assumption) | (simp only [smA]; done) | (simp [oneCell, AW.next_push]; done) | fail) only [go_sem, Nat.reduceEqDiff, reduceIte, Nat.reduceAdd, Int.toNat_natCast, Nat.add_zero, Owes_true, Tryz.results13]
  have he' : ((playI s L).2.2 : Int) = 0 := by omega
  obtain ⟨hs, ha⟩ := play_zero he
  have h64 : L.length ≤ 64 := by unfold areB at ha; rw [Bool.and_eq_true] at ha; exact of_decide_eq_true ha.1
  have hPT := play_take he
  generalize (playI s L).2.2 = E at *
  generalize (playI s L).2.1 = A at *
  generalize ((playI s L).1.flatMap bagC).toArray = SA at *
  simp -dsimp -implicitDefEqProofs (maxSteps := 2000000) (disch := first | assumption | omega | (simp only [nx]; omega) | ((repeat refine Fresh.push ?_ _); assumption) | (simp only [smA]; done) | (simp [oneCell, AW.next_push]; done) | fail) only [go_sem, Nat.reduceEqDiff, reduceIte, Nat.reduceAdd, Int.toNat_natCast, Nat.add_zero, Owes_true, Tryz.results13, hw3, st4, he']
  apply callV_of (e := rfl)
  · exact Ring_okV nn ((L.length : Int) + 1) (by omega) w4
  rintro _ _ ⟨rfl, rfl⟩
  rw [if_neg (by omega)]
  obtain ⟨m, hm⟩ : ∃ m : Nat, nn % ((L.length : Int) + 1) = m := ⟨(nn % ((L.length : Int) + 1)).toNat, by have := Int.emod_nonneg nn (b := (L.length : Int) + 1) (by omega); omega⟩
  have hmL : m ≤ L.length := by have := Int.emod_lt_of_pos nn (b := (L.length : Int) + 1) (by omega); omega
  rw [hm]
  have hcu := ((hPr.grown g4).cut hmL).1
  have hPm := hPl m hmL
  rw [show (L.take m).length = m from by rw [List.length_take]; omega] at hPm
  have hpm := hPT m hmL
  rw [hpm] at hPm
  simp only [Int.natCast_zero] at hPm
  have hsl := same_s12V pL m cL
  have hbm : ((logOf (L.take m)).bags.flatMap bagC).length = 160 := by
    have := (logOf_ok (L.take m) x0 x0_ok).bags
    rw [flat_len bagC_len]; unfold logOf; rw [this]
  have f4 := g4.2
  have O5 := Own.new f4 48 (shelf0.flatMap bagC)
  have g5 := g4.push (.cells (shelf0.flatMap bagC) 48 w4.next 0 0)
  have O15 := O14.push (.cells (shelf0.flatMap bagC) 48 w4.next 0 0)
  have hn5 : (w4.push (.cells (shelf0.flatMap bagC) 48 w4.next 0 0)).next = w4.next + 1 := AW.next_push _ _
  obtain ⟨w5, hw5⟩ : ∃ w5, w4.push (.cells (shelf0.flatMap bagC) 48 w4.next 0 0) = w5 := ⟨_, rfl⟩
  rw [hw5] at O5 g5 O15 hn5
  simp -dsimp -implicitDefEqProofs (maxSteps := 2000000) (disch := first | assumption | omega | (simp only [nx]; omega) | ((repeat refine Fresh.push ?_ _); assumption) | (simp only [smA]; done) | (simp [oneCell, AW.next_push]; done) | fail) only [go_sem, Nat.reduceEqDiff, reduceIte, Nat.reduceAdd, Int.toNat_natCast, Nat.add_zero, Owes_true, Tryz.results13]
  show CodeT _ _ _ _ _ _ _ _
  refine codeT_regX Tryz.x13r5_eq Tryz.x13r5_kinds ?_
  unfold Tryz.x13r5
  simp -dsimp -implicitDefEqProofs (maxSteps := 2000000) (disch := first | assumption | omega | (simp only [nx]; omega) | ((repeat refine Fresh.push ?_ _); assumption) | (simp only [smA]; done) | (simp [oneCell, AW.next_push]; done) | fail) only [go_sem, Nat.reduceEqDiff, reduceIte, Nat.reduceAdd, Int.toNat_natCast, Nat.add_zero, Owes_true, Tryz.results13, hl4, hcu, hss, hsl, hw5]
  try rw [hw5]
  apply callV_of (e := rfl)
  · exact hPm w5 g5
  rintro _ w6 ⟨rfl, g6⟩
  simp -dsimp -implicitDefEqProofs (maxSteps := 2000000) (disch := first | assumption | omega | (simp only [nx]; omega) | ((repeat refine Fresh.push ?_ _); assumption) | (simp only [smA]; done) | (simp [oneCell, AW.next_push]; done) | fail) only [go_sem, Nat.reduceEqDiff, reduceIte, Nat.reduceAdd, Int.toNat_natCast, Nat.add_zero, Owes_true, Tryz.results13]
  refine ⟨⟨.inl (show Nat.testBit 15 3 = true by decide), .inl (show Nat.testBit 15 0 = true by decide), trivial⟩, ?_⟩
  have gg6 := g5.trans g6
  have f6 := gg6.2
  have hle6 : WLe w5 w6 := g6.1.wle g5.2
  have O56 := O5.keep g6.1
  have O16 := O15.keep g6.1
  have hge5 := g5.1.next
  have hge6 := g6.1.next
  have hge4 := g4.1.next
  obtain ⟨w7, st7, O7, m7, hn7⟩ := store_new (n := 160) f6 O56 h0l hbm (by omega) (hone _)
  have O17 := m7.own O16 (fun q => by have := O14.lt; omega)
  have g7 : Grown w w7 := ⟨gg6.1.trans (m7.keep (fun j q => by have : j = w4.next := q; omega) gg6.1.next), m7.fresh⟩
  have hl7 := hls w7 O17
  have hbo := same_bags (logOf (L.take m)).bags
  have htu : same 12 (.tuple #[.agg ((logOf (L.take m)).bags.flatMap bagC).toArray, .int .i64 (m : Int), .int .i64 0]) (.tuple #[.agg ((logOf (L.take m)).bags.flatMap bagC).toArray, .int .i64 (m : Int), .int .i64 0]) = true := by
    have hq := same_ints _ (bags_ints (logOf (L.take m)).bags)
    have hq10 : same.all 10 ((logOf (L.take m)).bags.flatMap bagC) ((logOf (L.take m)).bags.flatMap bagC) = true := same_ints10 _ (bags_ints _)
    simp [same, same.all, intEq_eq, hq10]
  have hld7 := loadAll O7 hbm (bags_one _)
  have hOm : ∀ w', Own w' w4.next 48 ((logOf (L.take m)).bags.flatMap bagC) → Own w' w4.next 48 ((logOf (L.take m)).bags.flatMap bagC) := fun _ h => h
  generalize hSM : ((logOf (L.take m)).bags.flatMap bagC).toArray = SM at *
  simp -dsimp -implicitDefEqProofs (maxSteps := 2000000) (disch := first | assumption | omega | (simp only [nx]; omega) | ((repeat refine Fresh.push ?_ _); assumption) | (simp only [smA]; done) | (simp [oneCell, AW.next_push]; done) | fail) only [go_sem, Nat.reduceEqDiff, reduceIte, Nat.reduceAdd, Int.toNat_natCast, Nat.add_zero, Owes_true, Tryz.results13, htu, hbo, st7]
  refine ⟨⟨.inl (show Nat.testBit 639 3 = true by decide), .inl (show Nat.testBit 639 0 = true by decide), trivial⟩, ?_⟩
  by_cases hml : m = L.length
  · have hmI : (m : Int) = (L.length : Int) := by omega
    simp -dsimp -implicitDefEqProofs (maxSteps := 2000000) (disch := first | assumption | omega | (simp only [nx]; omega) | ((repeat refine Fresh.push ?_ _); assumption) | (simp only [smA]; done) | (simp [oneCell, AW.next_push]; done) | fail) only [go_sem, Nat.reduceEqDiff, reduceIte, Nat.reduceAdd, Int.toNat_natCast, Nat.add_zero, Owes_true, Tryz.results13, hmI]
    apply callV_of (e := rfl)
    · exact callT_told (Q := fun v w' => v = .bool true ∧ w7 = w') (v := .bool true) (w' := w7) rfl ⟨rfl, rfl⟩
    rintro _ _ ⟨rfl, rfl⟩
    simp -dsimp -implicitDefEqProofs (maxSteps := 2000000) (disch := first | assumption | omega | (simp only [nx]; omega) | ((repeat refine Fresh.push ?_ _); assumption) | (simp only [smA]; done) | (simp [oneCell, AW.next_push]; done) | fail) only [go_sem, Nat.reduceEqDiff, reduceIte, Nat.reduceAdd, Int.toNat_natCast, Nat.add_zero, Owes_true, Tryz.results13]
  have hmI : ¬ (m : Int) = (L.length : Int) := by omega
  have hlt : m < L.length := by omega
  have hltI : (m : Int) < (L.length : Int) := by omega
  -- the carry
  obtain ⟨b8, o8, rfl, hb8, hrow⟩ := arr_row hL carIC_len carIC_one hlt
  have hld8 := hrow w7 g7.1
  have hall := days_all L 0 (by omega) (by unfold areB at ha; rw [Bool.and_eq_true] at ha; exact ha.2) L[m] (List.getElem_mem hlt)
  have hcb : inR 0 L[m].bag 31 = true := by
    have := hall.1
    unfold carryB at this
    simp only [Bool.and_eq_true] at this
    exact this.2.1
  obtain ⟨hcc, hco, _⟩ := carry_nat hs hall.1 hall.2
  have hbk := bags_back (logOf (L.take m)) L[m].toN (by have := (logOf_ok (L.take m) x0 x0_ok).bags; unfold logOf; rw [this]; exact hco.bag)
  have hnx : logOf (L.take (m + 1)) = stepN (logOf (L.take m)) L[m].toN := by
    unfold logOf
    rw [List.take_succ_eq_append_getElem hlt, List.foldl_append]; rfl
  have hcn : L[m].bag = (L[m].toN.bag : Int) := by
    show L[m].bag = ((L[m].bag.toNat : Nat) : Int)
    rw [inR_iff] at hcb; omega
  have f7 := g7.2
  have O8 := Own.new f7 62 (carIC car0)
  have g8 := g7.push (.cells (carIC car0) 62 w7.next 0 0)
  have O18 := O17.push (.cells (carIC car0) 62 w7.next 0 0)
  have O58 := O7.push (.cells (carIC car0) 62 w7.next 0 0)
  have hn8 : (w7.push (.cells (carIC car0) 62 w7.next 0 0)).next = w7.next + 1 := AW.next_push _ _
  obtain ⟨w8, hw8⟩ : ∃ w8, w7.push (.cells (carIC car0) 62 w7.next 0 0) = w8 := ⟨_, rfl⟩
  rw [hw8] at O8 g8 O18 O58 hn8
  have hge7 := g7.1.next
  obtain ⟨w9, st9, O9, m9, hn9⟩ := store_new (n := 8) (l := carIC L[m]) g8.2 O8 rfl rfl (by omega) rfl
  have O19 := m9.own O18 (fun q => by have := O17.lt; omega)
  have O59 := m9.own O58 (fun q => by have := O7.lt; omega)
  have g9 : Grown w w9 := ⟨g8.1.trans (m9.keep (fun j q => by have : j = w7.next := q; omega) g8.1.next), m9.fresh⟩
  have hl9 := hls w9 O19
  have hcu9 := ((hPr.grown g9).cut (m := m + 1) (by omega)).1
  have hPm9 := hPl (m + 1) (by omega)
  rw [show (L.take (m + 1)).length = m + 1 from by rw [List.length_take]; omega] at hPm9
  rw [hPT (m + 1) (by omega), hnx] at hPm9
  simp only [Int.natCast_zero] at hPm9
  generalize L[m] = c at *
  have hcn32 := hco.bag
  generalize c.toN.bag = kb at *
  generalize hB2 : (stepN (logOf (L.take m)) c.toN).bags = B2 at *
  generalize hB1 : logOf (L.take m) = X1 at *
  have hX1o : LogOk X1 := by rw [← hB1]; exact logOf_ok _ x0 x0_ok
  have hX1l := hX1o.bags
  have hB2l : B2.length = 32 := by rw [← hB2]; exact (hX1o.step _).bags
  have hz8 : carIC car0 = [.int .i64 0, .int .i64 0, .int .i64 0, .int .i64 0, .int .i64 0, .int .i64 0, .int .i64 0, .int .i64 0] := rfl
  rw [hz8] at hw8
  have hb2l : (B2.flatMap bagC).length = 160 := by rw [flat_len bagC_len, hB2l]
  have f9 := g9.2
  have O10 := Own.new f9 48 (shelf0.flatMap bagC)
  have g10 := g9.push (.cells (shelf0.flatMap bagC) 48 w9.next 0 0)
  have O110 := O19.push (.cells (shelf0.flatMap bagC) 48 w9.next 0 0)
  have O510 := O59.push (.cells (shelf0.flatMap bagC) 48 w9.next 0 0)
  have O910 := O9.push (.cells (shelf0.flatMap bagC) 48 w9.next 0 0)
  have hn10 : (w9.push (.cells (shelf0.flatMap bagC) 48 w9.next 0 0)).next = w9.next + 1 := AW.next_push _ _
  obtain ⟨w10, hw10⟩ : ∃ w10, w9.push (.cells (shelf0.flatMap bagC) 48 w9.next 0 0) = w10 := ⟨_, rfl⟩
  rw [hw10] at O10 g10 O110 O510 O910 hn10
  have hge9 := g9.1.next
  have hsl9 := same_s12V (some ⟨b8, o8, none⟩) (m + 1) cL
  have hm1 : ((m + 1 : Nat) : Int) = (m : Int) + 1 := by omega
  rw [hm1] at hcu9
  simp -dsimp -implicitDefEqProofs (maxSteps := 2000000) (disch := first | assumption | omega | (simp only [nx]; omega) | ((repeat refine Fresh.push ?_ _); assumption) | (simp only [smA]; done) | (simp [oneCell, AW.next_push]; done) | fail) only [go_sem, Nat.reduceEqDiff, reduceIte, Nat.reduceAdd, Int.toNat_natCast, Nat.add_zero, Owes_true, Tryz.results13, hmI, hltI, indexV_eq, hld8, hw8, st9]
  show CodeT _ _ _ _ _ _ _ _
  refine codeT_regX Tryz.x13r11_eq Tryz.x13r11_kinds ?_
  unfold Tryz.x13r11
  simp -dsimp -implicitDefEqProofs (maxSteps := 2000000) (disch := first | assumption | omega | (simp only [nx]; omega) | ((repeat refine Fresh.push ?_ _); assumption) | (simp only [smA]; done) | (simp [oneCell, AW.next_push]; done) | fail) only [go_sem, Nat.reduceEqDiff, reduceIte, Nat.reduceAdd, Int.toNat_natCast, Nat.add_zero, Owes_true, Tryz.results13, hl9, hcu9, hss, hsl9, hw10]
  try rw [hw10]
  apply callV_of (e := rfl)
  · exact hPm9 w10 g10
  rintro _ w11 ⟨rfl, g11⟩
  simp -dsimp -implicitDefEqProofs (maxSteps := 2000000) (disch := first | assumption | omega | (simp only [nx]; omega) | ((repeat refine Fresh.push ?_ _); assumption) | (simp only [smA]; done) | (simp [oneCell, AW.next_push]; done) | fail) only [go_sem, Nat.reduceEqDiff, reduceIte, Nat.reduceAdd, Int.toNat_natCast, Nat.add_zero, Owes_true, Tryz.results13]
  refine ⟨⟨.inl (show Nat.testBit 31 4 = true by decide), .inl (show Nat.testBit 31 0 = true by decide), trivial⟩, ?_⟩
  have gg11 := g10.trans g11
  have O1011 := O10.keep g11.1
  have O511 := O510.keep g11.1
  have O911 := O910.keep g11.1
  have hge10 := g10.1.next
  have hge11 := g11.1.next
  obtain ⟨w12, st12, O12b, m12, hn12⟩ := store_new (n := 160) gg11.2 O1011 h0l hb2l (by omega) (hone _)
  have O512 := m12.own O511 (fun q => by have := O59.lt; omega)
  have O912 := m12.own O911 (fun q => by have := O9.lt; omega)
  have hb2o := same_bags B2
  have htu2 : same 12 (.tuple #[.agg (B2.flatMap bagC).toArray, .int .i64 ((m + 1 : Nat) : Int), .int .i64 0]) (.tuple #[.agg (B2.flatMap bagC).toArray, .int .i64 ((m + 1 : Nat) : Int), .int .i64 0]) = true := by
    have hq10 : same.all 10 (B2.flatMap bagC) (B2.flatMap bagC) = true := same_ints10 _ (bags_ints _)
    simp [same, same.all, intEq_eq, hq10]
  have k2 := O912.cell (o := 2) (v := .int .i64 c.bag) rfl rfl
  simp -dsimp -implicitDefEqProofs (maxSteps := 2000000) (disch := first | assumption | omega | (simp only [nx]; omega) | ((repeat refine Fresh.push ?_ _); assumption) | (simp only [smA]; done) | (simp [oneCell, AW.next_push]; done) | fail) only [go_sem, Nat.reduceEqDiff, reduceIte, Nat.reduceAdd, Int.toNat_natCast, Nat.add_zero, Owes_true, Tryz.results13, htu2, hb2o, st12]
  refine ⟨⟨.inl (show Nat.testBit 1279 4 = true by decide), .inl (show Nat.testBit 1279 0 = true by decide), trivial⟩, ?_⟩
  simp -dsimp -implicitDefEqProofs (maxSteps := 2000000) (disch := first | assumption | omega | (simp only [nx]; omega) | ((repeat refine Fresh.push ?_ _); assumption) | (simp only [smA]; done) | (simp [oneCell, AW.next_push]; done) | fail) only [go_sem, Nat.reduceEqDiff, reduceIte, Nat.reduceAdd, Int.toNat_natCast, Nat.add_zero, Owes_true, Tryz.results13, k2, Nat.zero_add]
  apply callV_of (e := rfl)
  · exact From_ok 0 c.bag 31 w12
  rintro _ _ ⟨rfl, rfl⟩
  rw [hcb]
  have hlr : loadV w12 true 5 (.pointer (some ⟨w4.next, kb * 5, none⟩)) = some (.agg (bagC (X1.bag kb)).toArray) := by
    refine loadRow O512 (bagC_len _) (fun j v hv => ?_) (bagC_one _)
    have hj : j < 5 := by
      rcases Nat.lt_or_ge j 5 with q | q
      · exact q
      · rw [List.getElem?_eq_none (by rw [bagC_len]; exact q)] at hv; cases hv
    rw [flatMap_get bagC_len X1.bags kb j _ (List.getElem?_eq_getElem (by omega)) hj, ← LogN.bag_get hX1o hcn32]; exact hv
  have hbl := fun (b o z : Nat) => indexA_eq (z := z) (len := 32) (b := b) (o := o) (k := .i64) hcn32
  obtain ⟨w13, st13, O13b, m13, hn13⟩ := store_row m12.fresh O12b hB2l hcn32 (X1.bag kb)
  have O513 := m13.own O512 (fun q => by have := O59.lt; omega)
  rw [hbk] at O13b
  have hla := loadAll O513 hbm (bags_one _)
  have hlb := loadAll O13b hbm (bags_one _)
  have heq := shelf48_eql X1.bags X1.bags hX1l hX1l
  rw [decide_eq_true rfl] at heq
  have hsb := same_bag (X1.bag kb)
  rw [hcn] at k2
  simp -dsimp -implicitDefEqProofs (maxSteps := 2000000) (disch := first | assumption | omega | (simp only [nx]; omega) | ((repeat refine Fresh.push ?_ _); assumption) | (simp only [smA]; done) | (simp [oneCell, AW.next_push]; done) | fail) only [go_sem, Nat.reduceEqDiff, reduceIte, Nat.reduceAdd, Int.toNat_natCast, Nat.add_zero, Owes_true, Tryz.results13, k2, hbl, hlr, hsb, st13, hla, hlb, binQ_aggsV, heq, Nat.zero_add]
  apply callV_of (e := rfl)
  · exact callT_told (Q := fun v w' => v = .bool true ∧ w13 = w') (v := .bool true) (w' := w13) rfl ⟨rfl, rfl⟩
  rintro _ _ ⟨rfl, rfl⟩
  simp -dsimp -implicitDefEqProofs (maxSteps := 2000000) (disch := first | assumption | omega | (simp only [nx]; omega) | ((repeat refine Fresh.push ?_ _); assumption) | (simp only [smA]; done) | (simp [oneCell, AW.next_push]; done) | fail) only [go_sem, Nat.reduceEqDiff, reduceIte, Nat.reduceAdd, Int.toNat_natCast, Nat.add_zero, Owes_true, Tryz.results13]
end Go.Proofs

namespace Go.Proofs
open Go Go.RowKit Go.Sim
set_option maxRecDepth 100000
def Tryz.s95 : SC := (.seq (.ops false [⟨⟨(some 4),.assign (.const (.int .i64 0)),3,"",⟨[]⟩,none⟩,none,false⟩]) (.seq (.ops false [⟨⟨(some 5),.move (.tmp 0),77,"",⟨[]⟩,none⟩,none,false⟩,⟨⟨(some 6),.call ⟨.value (.func 98),⟨[(.tmp 5)]⟩,⟨[77]⟩⟩,3,"",⟨[]⟩,none⟩,none,false⟩,⟨⟨(some 7),.move (.tmp 1),77,"",⟨[]⟩,none⟩,none,false⟩,⟨⟨(some 8),.call ⟨.value (.func 98),⟨[(.tmp 7)]⟩,⟨[77]⟩⟩,3,"",⟨[]⟩,none⟩,none,false⟩,⟨⟨(some 9),.call ⟨.value (.func 97),⟨[(.tmp 6),(.tmp 8)]⟩,⟨[3,3]⟩⟩,3,"",⟨[]⟩,none⟩,none,false⟩,⟨⟨(some 10),.move (.tmp 0),77,"",⟨[]⟩,none⟩,none,false⟩,⟨⟨(some 11),.move (.tmp 1),77,"",⟨[]⟩,none⟩,none,false⟩,⟨⟨(some 12),.call ⟨.value (.func 99),⟨[(.tmp 10),(.tmp 11)]⟩,⟨[77,77]⟩⟩,3,"",⟨[]⟩,none⟩,none,false⟩,⟨⟨(some 13),.buildSlice 24 2 ⟨[(0,(.tmp 9)),(1,(.tmp 12))]⟩,24,"",⟨[]⟩,none⟩,none,false⟩,⟨⟨(some 14),.call ⟨.value (.func 96),⟨[(.tmp 13)]⟩,⟨[24]⟩⟩,3,"",⟨[]⟩,none⟩,none,false⟩,⟨⟨(some 4),.assign (.tmp 14),3,"",⟨[]⟩,none⟩,none,false⟩]) .ret))
def Tryz.s96 : SC := (.seq (.ops false [⟨⟨(some 2),.assign (.const (.int .i64 0)),3,"",⟨[]⟩,none⟩,none,false⟩]) (.seq (.ops false [⟨⟨(some 3),.assign (.const (.int .i64 0)),3,"",⟨[]⟩,none⟩,none,false⟩]) (.seq (.seq (.ops false [⟨⟨(some 6),.move (.tmp 0),24,"",⟨[]⟩,none⟩,none,false⟩,⟨⟨(some 7),.call ⟨.builtin .len,⟨[(.tmp 6)]⟩,⟨[24]⟩⟩,3,"",⟨[]⟩,none⟩,none,false⟩,⟨⟨(some 8),.move (.const (.int .i64 0)),3,"",⟨[]⟩,none⟩,none,false⟩]) (.block 0 (.loop (.seq (.ops false [⟨⟨(some 9),.binOp .lss 3 (.tmp 8) (.tmp 7) 3,0,"",⟨[]⟩,none⟩,none,false⟩]) (.seq (.cond (.tmp 9) .skip (.exit 0)) (.seq (.block 1 (.seq (.ops false [⟨⟨(some 10),.indexAddr 24 (.tmp 6) (.tmp 8),0,"",⟨[]⟩,none⟩,none,false⟩,⟨⟨(some 11),.load 3 (.tmp 10),3,"",⟨[]⟩,none⟩,none,false⟩,⟨⟨(some 5),.assign (.tmp 11),3,"",⟨[]⟩,none⟩,none,false⟩]) (.seq (.ops false [⟨⟨(some 12),.move (.tmp 5),3,"",⟨[]⟩,none⟩,none,false⟩,⟨⟨(some 13),.move (.tmp 3),3,"",⟨[]⟩,none⟩,none,false⟩,⟨⟨(some 14),.binOp .neq 3 (.tmp 12) (.tmp 13) 3,4,"",⟨[]⟩,none⟩,none,false⟩]) (.cond (.tmp 14) (.seq (.ops false [⟨⟨(some 15),.move (.tmp 5),3,"",⟨[]⟩,none⟩,none,false⟩,⟨⟨(some 2),.assign (.tmp 15),3,"",⟨[]⟩,none⟩,none,false⟩]) .ret) .skip)))) (.ops false [⟨⟨(some 16),.binOp .add 3 (.tmp 8) (.const (.int .i64 1)) 3,3,"",⟨[]⟩,none⟩,none,false⟩,⟨⟨(some 8),.move (.tmp 16),3,"",⟨[]⟩,none⟩,none,false⟩]))))))) (.seq (.ops false [⟨⟨(some 17),.move (.tmp 3),3,"",⟨[]⟩,none⟩,none,false⟩,⟨⟨(some 2),.assign (.tmp 17),3,"",⟨[]⟩,none⟩,none,false⟩]) .ret))))
def Tryz.s97 : SC := (.seq (.ops false [⟨⟨(some 4),.assign (.const (.int .i64 0)),3,"",⟨[]⟩,none⟩,none,false⟩]) (.seq (.ops false [⟨⟨(some 7),.move (.tmp 0),3,"",⟨[]⟩,none⟩,none,false⟩,⟨⟨(some 8),.call ⟨.value (.func 117),⟨[(.tmp 7)]⟩,⟨[3]⟩⟩,4,"",⟨[]⟩,none⟩,none,false⟩,⟨⟨(some 5),.assign (.tmp 8),4,"",⟨[]⟩,none⟩,none,false⟩]) (.seq (.ops false [⟨⟨(some 9),.move (.tmp 1),3,"",⟨[]⟩,none⟩,none,false⟩,⟨⟨(some 10),.call ⟨.value (.func 117),⟨[(.tmp 9)]⟩,⟨[3]⟩⟩,4,"",⟨[]⟩,none⟩,none,false⟩,⟨⟨(some 6),.assign (.tmp 10),4,"",⟨[]⟩,none⟩,none,false⟩]) (.seq (.seq (.ops false [⟨⟨(some 11),.move (.tmp 5),4,"",⟨[]⟩,none⟩,none,false⟩]) (.cond (.tmp 11) (.seq (.seq (.ops false [⟨⟨(some 12),.move (.tmp 6),4,"",⟨[]⟩,none⟩,none,false⟩]) (.cond (.tmp 12) (.seq (.ops false [⟨⟨(some 4),.assign (.const (.int .i64 0)),3,"",⟨[]⟩,none⟩,none,false⟩]) .ret) .skip)) (.seq (.ops false [⟨⟨(some 4),.assign (.const (.int .i64 (-1))),3,"",⟨[]⟩,none⟩,none,false⟩]) .ret)) .skip)) (.seq (.seq (.ops false [⟨⟨(some 13),.move (.tmp 6),4,"",⟨[]⟩,none⟩,none,false⟩]) (.cond (.tmp 13) (.seq (.ops false [⟨⟨(some 4),.assign (.const (.int .i64 1)),3,"",⟨[]⟩,none⟩,none,false⟩]) .ret) .skip)) (.seq (.seq (.ops false [⟨⟨(some 14),.move (.tmp 0),3,"",⟨[]⟩,none⟩,none,false⟩,⟨⟨(some 15),.move (.tmp 1),3,"",⟨[]⟩,none⟩,none,false⟩,⟨⟨(some 16),.binOp .lss 3 (.tmp 14) (.tmp 15) 3,4,"",⟨[]⟩,none⟩,none,false⟩]) (.cond (.tmp 16) (.seq (.ops false [⟨⟨(some 4),.assign (.const (.int .i64 (-1))),3,"",⟨[]⟩,none⟩,none,false⟩]) .ret) .skip)) (.seq (.seq (.ops false [⟨⟨(some 17),.move (.tmp 0),3,"",⟨[]⟩,none⟩,none,false⟩,⟨⟨(some 18),.move (.tmp 1),3,"",⟨[]⟩,none⟩,none,false⟩,⟨⟨(some 19),.binOp .gtr 3 (.tmp 17) (.tmp 18) 3,4,"",⟨[]⟩,none⟩,none,false⟩]) (.cond (.tmp 19) (.seq (.ops false [⟨⟨(some 4),.assign (.const (.int .i64 1)),3,"",⟨[]⟩,none⟩,none,false⟩]) .ret) .skip)) (.seq (.ops false [⟨⟨(some 4),.assign (.const (.int .i64 0)),3,"",⟨[]⟩,none⟩,none,false⟩]) .ret))))))))
def Tryz.s99 : SC := (.seq (.ops false [⟨⟨(some 4),.assign (.const (.int .i64 0)),3,"",⟨[]⟩,none⟩,none,false⟩]) (.seq (.ops false [⟨⟨(some 7),.move (.tmp 0),77,"",⟨[]⟩,none⟩,none,false⟩,⟨⟨(some 8),.call ⟨.value (.func 119),⟨[(.tmp 7)]⟩,⟨[77]⟩⟩,4,"",⟨[]⟩,none⟩,none,false⟩,⟨⟨(some 5),.assign (.tmp 8),4,"",⟨[]⟩,none⟩,none,false⟩]) (.seq (.ops false [⟨⟨(some 9),.move (.tmp 1),77,"",⟨[]⟩,none⟩,none,false⟩,⟨⟨(some 10),.call ⟨.value (.func 119),⟨[(.tmp 9)]⟩,⟨[77]⟩⟩,4,"",⟨[]⟩,none⟩,none,false⟩,⟨⟨(some 6),.assign (.tmp 10),4,"",⟨[]⟩,none⟩,none,false⟩]) (.seq (.seq (.ops false [⟨⟨(some 11),.move (.tmp 5),4,"",⟨[]⟩,none⟩,none,false⟩]) (.cond (.tmp 11) (.seq (.seq (.ops false [⟨⟨(some 12),.move (.tmp 6),4,"",⟨[]⟩,none⟩,none,false⟩]) (.cond (.tmp 12) (.seq (.ops false [⟨⟨(some 4),.assign (.const (.int .i64 0)),3,"",⟨[]⟩,none⟩,none,false⟩]) .ret) .skip)) (.seq (.ops false [⟨⟨(some 4),.assign (.const (.int .i64 (-1))),3,"",⟨[]⟩,none⟩,none,false⟩]) .ret)) .skip)) (.seq (.seq (.ops false [⟨⟨(some 13),.move (.tmp 6),4,"",⟨[]⟩,none⟩,none,false⟩]) (.cond (.tmp 13) (.seq (.ops false [⟨⟨(some 4),.assign (.const (.int .i64 1)),3,"",⟨[]⟩,none⟩,none,false⟩]) .ret) .skip)) (.seq (.seq (.ops false [⟨⟨(some 14),.move (.tmp 0),77,"",⟨[]⟩,none⟩,none,false⟩,⟨⟨(some 15),.move (.tmp 1),77,"",⟨[]⟩,none⟩,none,false⟩,⟨⟨(some 16),.binOp .lss 77 (.tmp 14) (.tmp 15) 77,4,"",⟨[]⟩,none⟩,none,false⟩]) (.cond (.tmp 16) (.seq (.ops false [⟨⟨(some 4),.assign (.const (.int .i64 (-1))),3,"",⟨[]⟩,none⟩,none,false⟩]) .ret) .skip)) (.seq (.seq (.ops false [⟨⟨(some 17),.move (.tmp 0),77,"",⟨[]⟩,none⟩,none,false⟩,⟨⟨(some 18),.move (.tmp 1),77,"",⟨[]⟩,none⟩,none,false⟩,⟨⟨(some 19),.binOp .gtr 77 (.tmp 17) (.tmp 18) 77,4,"",⟨[]⟩,none⟩,none,false⟩]) (.cond (.tmp 19) (.seq (.ops false [⟨⟨(some 4),.assign (.const (.int .i64 1)),3,"",⟨[]⟩,none⟩,none,false⟩]) .ret) .skip)) (.seq (.ops false [⟨⟨(some 4),.assign (.const (.int .i64 0)),3,"",⟨[]⟩,none⟩,none,false⟩]) .ret))))))))
def Tryz.s117 : SC := (.seq (.ops false [⟨⟨(some 2),.assign (.const (.bool false)),4,"",⟨[]⟩,none⟩,none,false⟩]) (.seq (.ops false [⟨⟨(some 3),.move (.tmp 0),3,"",⟨[]⟩,none⟩,none,false⟩,⟨⟨(some 4),.move (.tmp 0),3,"",⟨[]⟩,none⟩,none,false⟩,⟨⟨(some 5),.binOp .neq 3 (.tmp 3) (.tmp 4) 3,4,"",⟨[]⟩,none⟩,none,false⟩,⟨⟨(some 2),.assign (.tmp 5),4,"",⟨[]⟩,none⟩,none,false⟩]) .ret))
def Tryz.s119 : SC := (.seq (.ops false [⟨⟨(some 2),.assign (.const (.bool false)),4,"",⟨[]⟩,none⟩,none,false⟩]) (.seq (.ops false [⟨⟨(some 3),.move (.tmp 0),77,"",⟨[]⟩,none⟩,none,false⟩,⟨⟨(some 4),.move (.tmp 0),77,"",⟨[]⟩,none⟩,none,false⟩,⟨⟨(some 5),.binOp .neq 77 (.tmp 3) (.tmp 4) 77,4,"",⟨[]⟩,none⟩,none,false⟩,⟨⟨(some 2),.assign (.tmp 5),4,"",⟨[]⟩,none⟩,none,false⟩]) .ret))
theorem Tryz.s95_eq : Tryz.f95.body.map sOf = some Tryz.s95 := by kernel_rfl
theorem Tryz.s96_eq : Tryz.f96.body.map sOf = some Tryz.s96 := by kernel_rfl
theorem Tryz.s97_eq : Tryz.f97.body.map sOf = some Tryz.s97 := by kernel_rfl
theorem Tryz.s99_eq : Tryz.f99.body.map sOf = some Tryz.s99 := by kernel_rfl
theorem Tryz.s117_eq : Tryz.f117.body.map sOf = some Tryz.s117 := by kernel_rfl
theorem Tryz.s119_eq : Tryz.f119.body.map sOf = some Tryz.s119 := by kernel_rfl
end Go.Proofs

namespace Go.Sim
open Go Go.RowKit
theorem calls_flat {P : Program} (hP : Fit P) (hfol : P.follows .mixedOrders = true) {told : ToldF} (ht : ∀ N, ToldOk P N told) {f : FuncId} {l : List Value} {v : Value} (hno : told f (l.toArray ++ #[]) .empty = none) (hl : flat.flats 6 l = true) (hv : flat 6 v = true)
    (h : CallT P told (.fn (.func f) #[]) l.toArray .empty fun u _ => u = v) (W : World) : Calls P f l.toArray W fun e W' => e = .returned v ∧ BelowD W.heap.size W W' := by
  obtain ⟨N, u, w1, hh, rfl⟩ := h
  have h1 := hh N (N + 1) (Nat.le_refl _) (by omega)
  have hno' : told f l.toArray .empty = none := by simpa using hno
  simp only [acall, Array.append_empty, hno'] at h1
  intro cs
  have ha : ARel (fun _ => none) l.toArray l.toArray := ARel.iff.2 (by simpa using flats_self (flat_self 6) hl _)
  obtain ⟨σ', v', W', fr, s, hf, hlv, e, r⟩ := enter_leaves hP hfol (call_ok hP hfol (ht W.heap.size) N) (call_pan hP hfol (ht W.heap.size) N) h1 cs (WRel.empty W) (args' := l.toArray) ha
  have := flat_eq 6 u hv σ' v' r
  subst this
  exact ⟨.returned v', W', fr, ⟨rfl, e.below⟩, s, hf, hlv⟩
theorem grown_of {W W' : World} (h : BelowD W.heap.size W W') : ∃ q os, W' = Go.Sort.grow (W.drewN q) os := by
  obtain ⟨⟨h1, h2, h3, h4, h5⟩, h6⟩ := h
  refine ⟨W'.drawn - W.drawn, W'.heap.extract W.heap.size W'.heap.size, ?_⟩
  obtain ⟨hp, tp, dr, os, out⟩ := W
  obtain ⟨hp', tp', dr', os', out'⟩ := W'
  simp only at *
  subst h1 h2 h3
  have e1 : hp' = hp ++ hp'.extract hp.size hp'.size := by
    apply Array.ext_getElem?
    intro k
    rw [Array.getElem?_append]
    split
    · rename_i hk
      exact h5 k hk
    · rename_i hk
      rw [Array.getElem?_extract]
      split
      · congr 1; omega
      · rename_i hk2
        rw [Array.getElem?_eq_none (by omega)]
  have e2 : dr + (dr' - dr) = dr' := by omega
  simp only [Go.Sort.grow, World.drewN, ← e1, e2]
end Go.Sim

namespace Go.Proofs
open Go Go.RowKit Go.Sim
set_option maxRecDepth 100000
def Tryz.T0c : ToldF := toldTab Tryz.lenTab (toldTab Tryz.popTab (toldTrue 21 fun _ _ _ => none))
def cmpI (a b : Int) : Int := if a < b then -1 else if b < a then 1 else 0
theorem isNaN_ok (x : Int) (w : AW) : CallT Tryz.prog Tryz.T0c (.fn (.func 117) #[]) #[.int .i64 x] w (Ret (.bool false) fun w' => w = w') := by
  have d1 : decide (x = x) = true := decide_eq_true rfl
  refine callT_code rfl Tryz.func117 rfl Tryz.s117_eq rfl ?_
  unfold Tryz.s117
  simp -dsimp -implicitDefEqProofs (maxSteps := 2000000) (disch := first | assumption | omega | (simp only [nx]; omega) | ((repeat refine Fresh.push ?_ _); assumption) | (simp only [smA]; done) | (simp [oneCell, AW.next_push]; done) | fail) only [go_sem, Nat.reduceEqDiff, reduceIte, Nat.reduceAdd, Int.toNat_natCast, Nat.add_zero, Owes_true, Tryz.results117, d1]
  exact ⟨rfl, rfl⟩
theorem isNaNP_ok (x : Int) (w : AW) : CallT Tryz.prog Tryz.T0c (.fn (.func 119) #[]) #[.int .i64 x] w (Ret (.bool false) fun w' => w = w') := by
  have d1 : decide (x = x) = true := decide_eq_true rfl
  refine callT_code rfl Tryz.func119 rfl Tryz.s119_eq rfl ?_
  unfold Tryz.s119
  simp -dsimp -implicitDefEqProofs (maxSteps := 2000000) (disch := first | assumption | omega | (simp only [nx]; omega) | ((repeat refine Fresh.push ?_ _); assumption) | (simp only [smA]; done) | (simp [oneCell, AW.next_push]; done) | fail) only [go_sem, Nat.reduceEqDiff, reduceIte, Nat.reduceAdd, Int.toNat_natCast, Nat.add_zero, Owes_true, Tryz.results119, d1]
  exact ⟨rfl, rfl⟩
theorem compare_ok (a b : Int) (w : AW) : CallT Tryz.prog Tryz.T0c (.fn (.func 97) #[]) #[.int .i64 a, .int .i64 b] w (Ret (.int .i64 (cmpI a b)) fun w' => w = w') := by
  refine callT_code rfl Tryz.func97 rfl Tryz.s97_eq rfl ?_
  unfold Tryz.s97
  simp -dsimp -implicitDefEqProofs (maxSteps := 2000000) (disch := first | assumption | omega | (simp only [nx]; omega) | ((repeat refine Fresh.push ?_ _); assumption) | (simp only [smA]; done) | (simp [oneCell, AW.next_push]; done) | fail) only [go_sem, Nat.reduceEqDiff, reduceIte, Nat.reduceAdd, Int.toNat_natCast, Nat.add_zero, Owes_true, Tryz.results97]
  apply callV_of (e := rfl)
  · exact isNaN_ok _ w
  rintro _ _ ⟨rfl, rfl⟩
  simp -dsimp -implicitDefEqProofs (maxSteps := 2000000) (disch := first | assumption | omega | (simp only [nx]; omega) | ((repeat refine Fresh.push ?_ _); assumption) | (simp only [smA]; done) | (simp [oneCell, AW.next_push]; done) | fail) only [go_sem, Nat.reduceEqDiff, reduceIte, Nat.reduceAdd, Int.toNat_natCast, Nat.add_zero, Owes_true, Tryz.results97]
  apply callV_of (e := rfl)
  · exact isNaN_ok _ w
  rintro _ _ ⟨rfl, rfl⟩
  by_cases h1 : a < b
  · simp -dsimp -implicitDefEqProofs (maxSteps := 2000000) (disch := first | assumption | omega | (simp only [nx]; omega) | ((repeat refine Fresh.push ?_ _); assumption) | (simp only [smA]; done) | (simp [oneCell, AW.next_push]; done) | fail) only [go_sem, Nat.reduceEqDiff, reduceIte, Nat.reduceAdd, Int.toNat_natCast, Nat.add_zero, Owes_true, Tryz.results97, h1]
    exact ⟨by unfold cmpI; rw [if_pos h1], rfl⟩
  by_cases h2 : b < a
  · have h2' : a > b := h2
    simp -dsimp -implicitDefEqProofs (maxSteps := 2000000) (disch := first | assumption | omega | (simp only [nx]; omega) | ((repeat refine Fresh.push ?_ _); assumption) | (simp only [smA]; done) | (simp [oneCell, AW.next_push]; done) | fail) only [go_sem, Nat.reduceEqDiff, reduceIte, Nat.reduceAdd, Int.toNat_natCast, Nat.add_zero, Owes_true, Tryz.results97, h1, h2, h2']
    exact ⟨by unfold cmpI; rw [if_neg h1, if_pos h2], rfl⟩
  · have h2' : ¬ a > b := h2
    simp -dsimp -implicitDefEqProofs (maxSteps := 2000000) (disch := first | assumption | omega | (simp only [nx]; omega) | ((repeat refine Fresh.push ?_ _); assumption) | (simp only [smA]; done) | (simp [oneCell, AW.next_push]; done) | fail) only [go_sem, Nat.reduceEqDiff, reduceIte, Nat.reduceAdd, Int.toNat_natCast, Nat.add_zero, Owes_true, Tryz.results97, h1, h2, h2']
    exact ⟨by unfold cmpI; rw [if_neg h1, if_neg h2], rfl⟩
theorem compareP_ok (a b : Int) (w : AW) : CallT Tryz.prog Tryz.T0c (.fn (.func 99) #[]) #[.int .i64 a, .int .i64 b] w (Ret (.int .i64 (cmpI a b)) fun w' => w = w') := by
  refine callT_code rfl Tryz.func99 rfl Tryz.s99_eq rfl ?_
  unfold Tryz.s99
  simp -dsimp -implicitDefEqProofs (maxSteps := 2000000) (disch := first | assumption | omega | (simp only [nx]; omega) | ((repeat refine Fresh.push ?_ _); assumption) | (simp only [smA]; done) | (simp [oneCell, AW.next_push]; done) | fail) only [go_sem, Nat.reduceEqDiff, reduceIte, Nat.reduceAdd, Int.toNat_natCast, Nat.add_zero, Owes_true, Tryz.results99]
  apply callV_of (e := rfl)
  · exact isNaNP_ok _ w
  rintro _ _ ⟨rfl, rfl⟩
  simp -dsimp -implicitDefEqProofs (maxSteps := 2000000) (disch := first | assumption | omega | (simp only [nx]; omega) | ((repeat refine Fresh.push ?_ _); assumption) | (simp only [smA]; done) | (simp [oneCell, AW.next_push]; done) | fail) only [go_sem, Nat.reduceEqDiff, reduceIte, Nat.reduceAdd, Int.toNat_natCast, Nat.add_zero, Owes_true, Tryz.results99]
  apply callV_of (e := rfl)
  · exact isNaNP_ok _ w
  rintro _ _ ⟨rfl, rfl⟩
  by_cases h1 : a < b
  · simp -dsimp -implicitDefEqProofs (maxSteps := 2000000) (disch := first | assumption | omega | (simp only [nx]; omega) | ((repeat refine Fresh.push ?_ _); assumption) | (simp only [smA]; done) | (simp [oneCell, AW.next_push]; done) | fail) only [go_sem, Nat.reduceEqDiff, reduceIte, Nat.reduceAdd, Int.toNat_natCast, Nat.add_zero, Owes_true, Tryz.results99, h1]
    exact ⟨by unfold cmpI; rw [if_pos h1], rfl⟩
  by_cases h2 : b < a
  · have h2' : a > b := h2
    simp -dsimp -implicitDefEqProofs (maxSteps := 2000000) (disch := first | assumption | omega | (simp only [nx]; omega) | ((repeat refine Fresh.push ?_ _); assumption) | (simp only [smA]; done) | (simp [oneCell, AW.next_push]; done) | fail) only [go_sem, Nat.reduceEqDiff, reduceIte, Nat.reduceAdd, Int.toNat_natCast, Nat.add_zero, Owes_true, Tryz.results99, h1, h2, h2']
    exact ⟨by unfold cmpI; rw [if_neg h1, if_pos h2], rfl⟩
  · have h2' : ¬ a > b := h2
    simp -dsimp -implicitDefEqProofs (maxSteps := 2000000) (disch := first | assumption | omega | (simp only [nx]; omega) | ((repeat refine Fresh.push ?_ _); assumption) | (simp only [smA]; done) | (simp [oneCell, AW.next_push]; done) | fail) only [go_sem, Nat.reduceEqDiff, reduceIte, Nat.reduceAdd, Int.toNat_natCast, Nat.add_zero, Owes_true, Tryz.results99, h1, h2, h2']
    exact ⟨by unfold cmpI; rw [if_neg h1, if_neg h2], rfl⟩
theorem sizeT_ok (x : Nat) (h : x < 64) (w : AW) : CallT Tryz.prog Tryz.T0c (.fn (.func 98) #[]) #[.int .i64 (x : Int)] w (Ret (.int .i64 (popN x : Int)) fun w' => w = w') := by
  refine callT_told (v := .int .i64 (popN x : Int)) (w' := w) ?_ ⟨rfl, rfl⟩
  show (match tabArg Tryz.popTab [.int Tryz.popTab.k (x : Int)] with | some x => some (Tryz.popTab.g x, w) | none => none) = _
  rw [tabArg_at (s := Tryz.popTab) (.inl rfl) h]
  rfl
def orI (a b : Int) : Int := if a = 0 then b else a
theorem or_ok (a b : Int) (bk : Nat) (w : AW) (h : Own w bk 3 [.int .i64 a, .int .i64 b]) : CallT Tryz.prog Tryz.T0c (.fn (.func 96) #[]) #[.slice (some ⟨bk, 0, none⟩) 2 2] w (Ret (.int .i64 (orI a b)) fun w' => w = w') := by
  have c0 := h.cell (o := 0) rfl rfl
  have c1 := h.cell (o := 1) rfl rfl
  refine callT_code rfl Tryz.func96 rfl Tryz.s96_eq rfl ?_
  unfold Tryz.s96
  simp -dsimp -implicitDefEqProofs (maxSteps := 2000000) (disch := first | assumption | omega | (simp only [nx]; omega) | ((repeat refine Fresh.push ?_ _); assumption) | (simp only [smA]; done) | (simp [oneCell, AW.next_push]; done) | fail) only [go_sem, Nat.reduceEqDiff, reduceIte, Nat.reduceAdd, Int.toNat_natCast, Nat.add_zero, Owes_true, Tryz.results96]
  refine loopR (fun k t ds w1 => ∃ i : Nat, i ≤ 2 ∧ k = 2 - i ∧ ds = [] ∧ ev t (.tmp 3) = .int .i64 0 ∧ ev t (.tmp 6) = .slice (some ⟨bk, 0, none⟩) 2 2 ∧ ev t (.tmp 7) = .int .i64 2 ∧ ev t (.tmp 8) = .int .i64 (i : Int) ∧ (1 ≤ i → a = 0) ∧ (2 ≤ i → b = 0) ∧ w = w1) (2) ?_ ?_
  · refine ⟨0, by omega, by omega, rfl, ?_, ?_, ?_, ?_, fun h => by omega, fun h => by omega, rfl⟩ <;> simp -dsimp -implicitDefEqProofs (maxSteps := 2000000) (disch := first | assumption | omega | (simp only [nx]; omega) | ((repeat refine Fresh.push ?_ _); assumption) | (simp only [smA]; done) | (simp [oneCell, AW.next_push]; done) | fail) only [go_sem, Nat.reduceEqDiff, reduceIte, Nat.reduceAdd, Int.toNat_natCast, Nat.add_zero, Owes_true] <;> rfl
  rintro k t ds w1 ⟨i, hii, rfl, rfl, e3, e6, e7, e8, hz, hw⟩
  obtain ⟨hz2, rfl⟩ := hw
  rcases Nat.lt_or_ge i 2 with hlt | hge
  case inr =>
    obtain rfl : i = 2 := by omega
    have hlI : ¬ ((2 : Nat) : Int) < 2 := by omega
    have ha := hz (by omega)
    have hb := hz2 (by omega)
    simp -dsimp -implicitDefEqProofs (maxSteps := 2000000) (disch := first | assumption | omega | (simp only [nx]; omega) | ((repeat refine Fresh.push ?_ _); assumption) | (simp only [smA]; done) | (simp [oneCell, AW.next_push]; done) | fail) only [go_sem, Nat.reduceEqDiff, reduceIte, Nat.reduceAdd, Int.toNat_natCast, Nat.add_zero, Owes_true, Tryz.results96, e3, e6, e7, e8, hlI]
    exact ⟨by rw [ha, hb]; rfl, rfl⟩
  have hlI : (i : Int) < 2 := by omega
  have hl0 : (i : Int) < ((2 : Nat) : Int) := by omega
  obtain ⟨v, hv⟩ : ∃ v, v = if i = 0 then a else b := ⟨_, rfl⟩
  have ci : w.cell? ⟨bk, i, none⟩ = some (.int .i64 v) := by
    rw [hv]
    rcases Nat.eq_zero_or_pos i with h0 | h0
    · rw [if_pos h0, h0]; exact c0
    · obtain h1 : i = 1 := by omega
      rw [if_neg (by omega), h1]; exact c1
  by_cases h0 : v = 0
  · have hd : decide (v = 0) = true := decide_eq_true h0
    simp -dsimp -implicitDefEqProofs (maxSteps := 2000000) (disch := first | assumption | omega | (simp only [nx]; omega) | ((repeat refine Fresh.push ?_ _); assumption) | (simp only [smA]; done) | (simp [oneCell, AW.next_push]; done) | fail) only [go_sem, Nat.reduceEqDiff, reduceIte, Nat.reduceAdd, Int.toNat_natCast, Nat.add_zero, Owes_true, Tryz.results96, e3, e6, e7, e8, hlI, hl0, indexV_eq, Nat.zero_add, Nat.mul_one, ci, hd]
    have n1 : 1 ≤ i + 1 → a = 0 := fun _ => by
      rcases Nat.eq_zero_or_pos i with q | q
      · rw [if_pos q] at hv; omega
      · exact hz q
    have n2 : 2 ≤ i + 1 → b = 0 := fun _ => by
      rw [if_neg (by omega)] at hv; omega
    refine ⟨_, by omega, i + 1, by omega, rfl, rfl, by (simp -dsimp -implicitDefEqProofs (maxSteps := 2000000) (disch := first | assumption | omega | (simp only [nx]; omega) | ((repeat refine Fresh.push ?_ _); assumption) | (simp only [smA]; done) | (simp [oneCell, AW.next_push]; done) | fail) only [go_sem, Nat.reduceEqDiff, reduceIte, Nat.reduceAdd, Int.toNat_natCast, Nat.add_zero, Owes_true, e3]; try rfl), by (simp -dsimp -implicitDefEqProofs (maxSteps := 2000000) (disch := first | assumption | omega | (simp only [nx]; omega) | ((repeat refine Fresh.push ?_ _); assumption) | (simp only [smA]; done) | (simp [oneCell, AW.next_push]; done) | fail) only [go_sem, Nat.reduceEqDiff, reduceIte, Nat.reduceAdd, Int.toNat_natCast, Nat.add_zero, Owes_true, e6]; try rfl), by (simp -dsimp -implicitDefEqProofs (maxSteps := 2000000) (disch := first | assumption | omega | (simp only [nx]; omega) | ((repeat refine Fresh.push ?_ _); assumption) | (simp only [smA]; done) | (simp [oneCell, AW.next_push]; done) | fail) only [go_sem, Nat.reduceEqDiff, reduceIte, Nat.reduceAdd, Int.toNat_natCast, Nat.add_zero, Owes_true, e7]; try rfl), by (simp -dsimp -implicitDefEqProofs (maxSteps := 2000000) (disch := first | assumption | omega | (simp only [nx]; omega) | ((repeat refine Fresh.push ?_ _); assumption) | (simp only [smA]; done) | (simp [oneCell, AW.next_push]; done) | fail) only [go_sem, Nat.reduceEqDiff, reduceIte, Nat.reduceAdd, Int.toNat_natCast, Nat.add_zero, Owes_true, e8]; try rfl), n1, n2, rfl⟩
  · have hd : decide (v = 0) = false := decide_eq_false h0
    simp -dsimp -implicitDefEqProofs (maxSteps := 2000000) (disch := first | assumption | omega | (simp only [nx]; omega) | ((repeat refine Fresh.push ?_ _); assumption) | (simp only [smA]; done) | (simp [oneCell, AW.next_push]; done) | fail) only [go_sem, Nat.reduceEqDiff, reduceIte, Nat.reduceAdd, Int.toNat_natCast, Nat.add_zero, Owes_true, Tryz.results96, e3, e6, e7, e8, hlI, hl0, indexV_eq, Nat.zero_add, Nat.mul_one, ci, hd]
    refine ⟨?_, rfl⟩
    unfold orI
    rcases Nat.eq_zero_or_pos i with q | q
    · rw [if_pos q] at hv; rw [if_neg (by omega), hv]
    · rw [if_neg (by omega)] at hv; rw [if_pos (hz q), hv]
theorem Tryz.bs24x2 (t : Tmps) (l : List (Nat × Operand)) : makes (prg Tryz.prog) t (.buildSlice 24 2 ⟨l⟩) = bsQ 3 2 1 [.int .i64 0, .int .i64 0] (l.map fun p => (p.1, ev t p.2)) := makes_bs Tryz.ty24 Tryz.ty3 rfl (by kernel_rfl)
theorem cmpN_is (x y : Nat) : orI (cmpI (popN x : Int) (popN y : Int)) (cmpI (x : Int) (y : Int)) = cmpN x y := by
  unfold orI cmpI cmpN
  repeat' split
  all_goals omega
theorem cmpSets_ok (x y : Nat) (hx : x < 64) (hy : y < 64) (w : AW) (f : Fresh w) : CallT Tryz.prog Tryz.T0c (.fn (.func 95) #[]) #[.int .i64 (x : Int), .int .i64 (y : Int)] w fun v _ => v = .int .i64 (cmpN x y) := by
  refine callT_code rfl Tryz.func95 rfl Tryz.s95_eq rfl ?_
  unfold Tryz.s95
  simp -dsimp -implicitDefEqProofs (maxSteps := 2000000) (disch := first | assumption | omega | (simp only [nx]; omega) | ((repeat refine Fresh.push ?_ _); assumption) | (simp only [smA]; done) | (simp [oneCell, AW.next_push]; done) | fail) only [go_sem, Nat.reduceEqDiff, reduceIte, Nat.reduceAdd, Int.toNat_natCast, Nat.add_zero, Owes_true, Tryz.results95]
  apply callV_of (e := rfl)
  · exact sizeT_ok x hx w
  rintro _ _ ⟨rfl, rfl⟩
  simp -dsimp -implicitDefEqProofs (maxSteps := 2000000) (disch := first | assumption | omega | (simp only [nx]; omega) | ((repeat refine Fresh.push ?_ _); assumption) | (simp only [smA]; done) | (simp [oneCell, AW.next_push]; done) | fail) only [go_sem, Nat.reduceEqDiff, reduceIte, Nat.reduceAdd, Int.toNat_natCast, Nat.add_zero, Owes_true, Tryz.results95]
  apply callV_of (e := rfl)
  · exact sizeT_ok y hy w
  rintro _ _ ⟨rfl, rfl⟩
  simp -dsimp -implicitDefEqProofs (maxSteps := 2000000) (disch := first | assumption | omega | (simp only [nx]; omega) | ((repeat refine Fresh.push ?_ _); assumption) | (simp only [smA]; done) | (simp [oneCell, AW.next_push]; done) | fail) only [go_sem, Nat.reduceEqDiff, reduceIte, Nat.reduceAdd, Int.toNat_natCast, Nat.add_zero, Owes_true, Tryz.results95]
  apply callV_of (e := rfl)
  · exact compare_ok _ _ w
  rintro _ _ ⟨rfl, rfl⟩
  simp -dsimp -implicitDefEqProofs (maxSteps := 2000000) (disch := first | assumption | omega | (simp only [nx]; omega) | ((repeat refine Fresh.push ?_ _); assumption) | (simp only [smA]; done) | (simp [oneCell, AW.next_push]; done) | fail) only [go_sem, Nat.reduceEqDiff, reduceIte, Nat.reduceAdd, Int.toNat_natCast, Nat.add_zero, Owes_true, Tryz.results95]
  apply callV_of (e := rfl)
  · exact compareP_ok _ _ w
  rintro _ _ ⟨rfl, rfl⟩
  simp -dsimp -implicitDefEqProofs (maxSteps := 2000000) (disch := first | assumption | omega | (simp only [nx]; omega) | ((repeat refine Fresh.push ?_ _); assumption) | (simp only [smA]; done) | (simp [oneCell, AW.next_push]; done) | fail) only [go_sem, Nat.reduceEqDiff, reduceIte, Nat.reduceAdd, Int.toNat_natCast, Nat.add_zero, Owes_true, Tryz.results95, Tryz.bs24x2, bsQ_21]
  apply callV_of (e := rfl)
  · exact or_ok _ _ w.next _ (Own.new f 3 [.int .i64 (cmpI (popN x : Int) (popN y : Int)), .int .i64 (cmpI (x : Int) (y : Int))])
  rintro _ _ ⟨rfl, rfl⟩
  simp -dsimp -implicitDefEqProofs (maxSteps := 2000000) (disch := first | assumption | omega | (simp only [nx]; omega) | ((repeat refine Fresh.push ?_ _); assumption) | (simp only [smA]; done) | (simp [oneCell, AW.next_push]; done) | fail) only [go_sem, Nat.reduceEqDiff, reduceIte, Nat.reduceAdd, Int.toNat_natCast, Nat.add_zero, Owes_true, Tryz.results95]
  rw [cmpN_is]
end Go.Proofs

namespace Go.Sim
open Go Go.RowKit
variable {P : Program} {N F : Nat}
inductive GDat where
  | flat (v : Value)
  | sl (n c : Nat) (cells : List GDat)
  | agg (ds : List GDat)
def matchCells (m : GDat → Value → Bool) (w : AW) (b : Nat) : List GDat → Nat → Bool
  | [], _ => true
  | d :: l, o => match w.cell? ⟨b, o, none⟩ with
    | some u => m d u && matchCells m w b l (o + 1)
    | none => false
def matchAll (m : GDat → Value → Bool) : List GDat → List Value → Bool
  | [], [] => true
  | d :: l, v :: r => m d v && matchAll m l r
  | _, _ => false
def zeroZ (w : AW) (b : Nat) : Bool :=
  match w.blk b with
  | some (.cells _ _ _ _ 0) | some (.given _) => true
  | _ => false
def matchV (w : AW) : Nat → GDat → Value → Bool
  | 0, _, _ => false
  | k + 1, d, v => match d, v with
    | .flat u, v => flat 6 u && same 12 u v
    | .sl n c cells, .slice (some ⟨b, o, none⟩) n' c' => Nat.beq n n' && Nat.beq c c' && Nat.blt 0 c && zeroZ w b && matchCells (matchV w k) w b cells o
    | .agg ds, .agg cs => matchAll (matchV w k) ds cs.toList
    | _, _ => false
def giveAll (g : GDat → AW → Value × AW) : List GDat → AW → List Value × AW
  | [], w => ([], w)
  | d :: l, w => match g d w with
    | (u, w1) => match giveAll g l w1 with
      | (us, w2) => (u :: us, w2)
def giveV : Nat → GDat → AW → Value × AW
  | 0, _, w => (undef, w)
  | k + 1, d, w => match d with
    | .flat u => (u, w)
    | .sl n c cells => match giveAll (giveV k) cells w with
      | (us, w1) => (.slice (some ⟨w1.next, 0, none⟩) n c, w1.push (.given us))
    | .agg ds => match giveAll (giveV k) ds w with
      | (us, w1) => (.agg us.toArray, w1)
def GiveOk (W : World) (m : GDat → Value → Bool) (g : GDat → AW → Value × AW) (σ : Emb) : Prop :=
  ∀ d v v', m d v = true → VRel σ v v' → ∀ (σ0 : Emb) (w0 : AW), WRel W.heap.size σ0 w0 W → ∃ σ1 : Emb, σ0.le σ1 ∧ WRel W.heap.size σ1 (g d w0).2 W ∧ VRel σ1 (g d w0).1 v'
theorem giveAll_ok {W : World} {m : GDat → Value → Bool} {g : GDat → AW → Value × AW} {σ : Emb} (h : GiveOk W m g σ) : ∀ (ds : List GDat) (vs vs' : List Value), matchAll m ds vs = true → LRel σ vs vs' → ∀ (σ0 : Emb) (w0 : AW), WRel W.heap.size σ0 w0 W →
    ∃ σ1 : Emb, σ0.le σ1 ∧ WRel W.heap.size σ1 (giveAll g ds w0).2 W ∧ LRel σ1 (giveAll g ds w0).1 vs'
  | [], [], vs', _, hr, σ0, w0, hw => by
    cases hr
    exact ⟨σ0, .refl _, hw, .nil⟩
  | d :: l, v :: r, vs', hm, hr, σ0, w0, hw => by
    cases hr with
    | cons h1 h2 =>
      simp only [matchAll, Bool.and_eq_true] at hm
      obtain ⟨σ1, a1, a2, a3⟩ := h d v _ hm.1 h1 σ0 w0 hw
      obtain ⟨σ2, b1, b2, b3⟩ := giveAll_ok h l r _ hm.2 h2 σ1 _ a2
      exact ⟨σ2, a1.trans b1, b2, .cons (a3.mono b1) b3⟩
  | [], _ :: _, _, h, _, _, _, _ => by simp [matchAll] at h
  | _ :: _, [], _, h, _, _, _, _ => by simp [matchAll] at h
theorem cells_list {W : World} {w : AW} {σ : Emb} {N : Nat} (hw : WRel N σ w W) {m : GDat → Value → Bool} {b : Nat} {x : Loc} (hb : σ b = some x) : ∀ (ds : List GDat) (o : Nat), matchCells m w b ds o = true →
    ∃ vs vs' : List Value, matchAll m ds vs = true ∧ LRel σ vs vs' ∧ vs'.length = ds.length ∧ ∀ (i : Nat) u, vs'[i]? = some u → W.cell? ⟨x.c, x.s + (o + i), none⟩ = some u
  | [], o, _ => ⟨[], [], rfl, .nil, rfl, fun i u h => by simp at h⟩
  | d :: l, o, h => by
    simp only [matchCells] at h
    split at h
    case h_2 => cases h
    rename_i u hu
    simp only [Bool.and_eq_true] at h
    obtain ⟨u', h1, h2, _⟩ := hw.cell hb hu
    obtain ⟨vs, vs', a1, a2, a3, a4⟩ := cells_list hw hb l (o + 1) h.2
    refine ⟨u :: vs, u' :: vs', by simp only [matchAll, Bool.and_eq_true]; exact ⟨h.1, a1⟩, .cons h2 a2, by simp [a3], fun i q hq => ?_⟩
    cases i with
    | zero => simp at hq; subst hq; exact h1
    | succ i => simp at hq; have := a4 i q hq; rw [show o + (i + 1) = o + 1 + i by omega]; exact this
theorem give_ok {W : World} {w : AW} {σ : Emb} (hw : WRel N σ w W) : ∀ k, GiveOk W (matchV w k) (giveV k) σ
  | 0 => fun d v v' h => by simp [matchV] at h
  | k + 1 => by
    have ih := give_ok hw k
    intro d v v' hm hr σ0 w0 h0
    unfold matchV at hm
    split at hm
    · rename_i u
      simp only [Bool.and_eq_true] at hm
      have := same_eq 12 _ _ hm.2
      subst this
      have e := flat_eq 6 _ hm.1 σ v' hr
      subst e
      exact ⟨σ0, .refl _, h0, flat_self 6 _ hm.1 σ0⟩
    · rename_i n c cells b o n' c'
      simp only [Bool.and_eq_true] at hm
      obtain ⟨⟨⟨⟨h1, h2⟩, h5⟩, h3⟩, h4⟩ := hm
      obtain rfl := Nat.eq_of_beq_eq_true h1
      obtain rfl := Nat.eq_of_beq_eq_true h2
      have hzx : ∀ x, σ b = some x → x.z = 0 := by
        intro x hx
        obtain ⟨_, q, hq, hl, hb⟩ := hw.dom b x hx
        unfold zeroZ at h3
        rw [hq] at h3
        cases q with
        | cells c0 e0 r0 b0 z0 =>
          split at h3
          · rename_i e; injection e with e; injection e with _ _ _ _ e; subst e; exact hb.1
          · rename_i e; injection e with e; cases e
          · cases h3
        | given c0 => exact hl.1
        | _ => simp at h3
      cases hr with
      | slice hx hk hcap =>
        rename_i k' x
        have hz := hzx x hx
        have hkk : k' = c := by rcases hcap with q | q; exact q; omega
        subst hkk
        obtain ⟨vs, vs', b1, b2, b3, b4⟩ := cells_list hw hx cells o h4
        obtain ⟨σ1, a1, a2, a3⟩ := giveAll_ok ih cells vs vs' b1 b2 σ0 w0 h0
        simp only [giveV]
        have hlen := a3.length
        refine ⟨σ1.with (giveAll (giveV k) cells w0).2.next ⟨x.c, x.s + o, 0, 0⟩, a1.trans (Emb.le_with a2.fresh _), WRel.give a2 _ _ rfl ?_ ?_, ?_⟩
        · cases hv : (giveAll (giveV k) cells w0).1 with
          | nil => exact .inl rfl
          | cons y ys =>
            right
            rw [hv] at hlen
            have h1 := b4 0 (vs'[0]'(by rw [← hlen]; simp)) (by simp)
            obtain ⟨cc, ce, fr, q, _⟩ := cell_at h1
            rcases Nat.lt_or_ge x.c W.heap.size with q' | q'
            · exact q'
            · rw [Array.getElem?_eq_none q'] at q; cases q
        · intro i u hi hone
          obtain ⟨u', hu', r⟩ := a3.getSome hi
          obtain ⟨cc, ce, fr, q, q2⟩ := cell_at (b4 i u' hu')
          exact ⟨cc, ce, fr, u', q, by rw [show x.s + o + i = x.s + (o + i) by omega]; exact q2, r⟩
        · exact VRel.slice (x := ⟨x.c, x.s + o, 0, 0⟩) (o := 0) (Emb.with_self _ _ _) (Nat.le_refl _) (.inl rfl)
      | tail hx a => exact absurd (Nat.blt_eq.mp h5) (by omega)
    · rename_i ds cs
      cases hr with
      | agg ha hav =>
        rename_i cs'
        have hl : LRel σ cs.toList cs'.toList := ARel.iff.1 (by exact ⟨ha, hav⟩)
        obtain ⟨σ1, a1, a2, a3⟩ := giveAll_ok ih ds cs.toList cs'.toList hm hl σ0 w0 h0
        exact ⟨σ1, a1, a2, VRel.agg_of (ARel.iff.2 (by simpa [giveV] using a3))⟩
    · cases hm
theorem calls_give (hP : Fit P) (hfol : P.follows .mixedOrders = true) {told : ToldF} (ht : ∀ N, ToldOk P N told) {n k : Nat} {f : FuncId} {ds : List GDat} {v : Value} (hno : (told f ((giveAll (giveV k) ds .empty).1.toArray ++ #[]) (giveAll (giveV k) ds .empty).2).isNone = true) (hv : flat 6 v = true)
    (h : isVal (xcall (prg P) (xsOf (prg P)) told F (n + 1) (.fn (.func f) #[]) (giveAll (giveV k) ds .empty).1 (giveAll (giveV k) ds .empty).2) v = true) {N : Nat} {σ : Emb} {w : AW} {W : World} (hw : WRel N σ w W) {args args' : List Value} (hm : matchAll (matchV w k) ds args = true) (hr : LRel σ args args') :
    Calls P f args'.toArray W fun e W' => e = .returned v ∧ BelowD W.heap.size W W' := by
  obtain ⟨σ0, _, g2, g3⟩ := giveAll_ok (give_ok hw k) ds args args' hm hr (fun _ => none) .empty (WRel.empty W)
  generalize (giveAll (giveV k) ds .empty).1 = us at *
  generalize (giveAll (giveV k) ds .empty).2 = w0 at *
  rw [xcall_eq hP.funcs] at h
  unfold isVal at h
  split at h
  case h_2 => cases h
  rename_i u w1 hr'
  have hu := same_eq 12 _ _ h
  subst hu
  simp only [acall] at hr'
  rw [Option.isNone_iff_eq_none.mp hno] at hr'
  simp only [Array.append_empty] at hr'
  intro cs
  have ha : ARel σ0 us.toArray args'.toArray := ARel.iff.2 (by simpa using g3)
  obtain ⟨σ', v', W', fr, s, hf, hlv, e, r⟩ := enter_leaves hP hfol (call_ok hP hfol (ht W.heap.size) n) (call_pan hP hfol (ht W.heap.size) n) hr' cs g2 (args' := args'.toArray) ha
  have := flat_eq 6 v hv σ' v' r
  subst this
  exact ⟨.returned v', W', fr, ⟨rfl, e.below⟩, s, hf, hlv⟩
structure GMemo where
  f : FuncId
  k : Nat
  ds : List GDat
  val : Value
def findG (f : FuncId) (args : List Value) (w : AW) : List GMemo → Option Value
  | [] => none
  | m :: l => match Nat.beq f m.f with
    | true => match matchAll (matchV w m.k) m.ds args with
      | true => some m.val
      | false => findG f args w l
    | false => findG f args w l
def toldGive (tab : List GMemo) (told : ToldF) : ToldF := fun f args w =>
  match findG f args.toList w tab with
  | some v => some (v, w)
  | none => told f args w
structure GMemoOk (P : Program) (m : GMemo) : Prop where
  enters : ∀ args w, (callFunc m.f args).run P w = .ok (.enter m.f args) w
  flatVal : flat 6 m.val = true
  calls : ∀ (N : Nat) (σ : Emb) (w : AW) (W : World), WRel N σ w W → ∀ args args', matchAll (matchV w m.k) m.ds args = true → LRel σ args args' → Calls P m.f args'.toArray W fun e W' => e = .returned m.val ∧ BelowD W.heap.size W W'
inductive GMemosOk (P : Program) : List GMemo → Prop where
  | nil : GMemosOk P []
  | cons {m : GMemo} {l : List GMemo} (h : GMemoOk P m) (t : GMemosOk P l) : GMemosOk P (m :: l)
theorem findG_ok {f : FuncId} {args : List Value} {w : AW} {v : Value} : ∀ {tab : List GMemo}, GMemosOk P tab → findG f args w tab = some v → ∃ m, GMemoOk P m ∧ m.f = f ∧ matchAll (matchV w m.k) m.ds args = true ∧ m.val = v
  | _, .nil, h => by cases h
  | _, .cons hm ht, h => by
    simp only [findG] at h
    split at h
    · rename_i hf
      split at h
      · rename_i hs
        injection h with h
        exact ⟨_, hm, (Nat.eq_of_beq_eq_true hf).symm, hs, h⟩
      · exact findG_ok ht h
    · exact findG_ok ht h
theorem toldGive_ok {tab : List GMemo} (hm : GMemosOk P tab) {told : ToldF} (ht : ∀ N, ToldOk P N told) (N : Nat) : ToldOk P N (toldGive tab told) := by
  intro f args w w1 v h σ W args0 cap c cs hw ha
  unfold toldGive at h
  split at h
  · rename_i u hu
    injection h with h; injection h with h1 h2
    subst h1 h2
    obtain ⟨m, hok, rfl, hargs, rfl⟩ := findG_ok hm hu
    have hc := hok.calls N σ w W hw args.toList (args0 ++ cap).toList hargs (ARel.iff.1 ha)
    rw [show (args0 ++ cap).toList.toArray = args0 ++ cap from rfl] at hc
    obtain ⟨W', d1, d2⟩ := delivers_calls hok.enters hc c cs
    exact ⟨σ, _, W', d1, hw.aside d2, flat_self 6 _ hok.flatVal σ⟩
  · exact ht N f args w w1 v h σ W args0 cap c cs hw ha
end Go.Sim

namespace Go.Proofs
open Go Go.Shelf Go.RowKit Go.Sim
set_option maxRecDepth 1000000
theorem Tryz.fits : Fit Tryz.prog := fit_of (by decide +kernel)
theorem Tryz.mixed : Tryz.prog.follows .mixedOrders = true := by decide +kernel
theorem Tryz.told0 (N : Nat) : ToldOk Tryz.prog N (fun _ _ _ => none) := fun f args w w1 v h => by cases h
end Go.Proofs
