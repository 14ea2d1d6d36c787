/- This program: its code, contracts, numbers, part 4. -/
import Derived.Test.YtnbfkakjdifcpaaGreatPac
import Derived.Test.YtnbfkakjdifcpaaGreatPaa
import Derived.Test.YtnbfkakjdifcpaaGreatPab
import Derived.Test.YtnbfkakjdifcpaaGreatNc
import Derived.Test.YtnbfkakjdifcpaaGreatNa
import Derived.Test.YtnbfkakjdifcpaaGreatProg
set_option linter.unusedVariables false
set_option linter.unusedSimpArgs false
namespace Go.Proofs
open Go Go.RowKit Go.Sim
set_option maxRecDepth 100000
def allTo {α : Type} (b : α → Bool) (L : List α) (i : Nat) : Bool := (L.take i).all b
theorem allTo_succ {α : Type} {b : α → Bool} {L : List α} {i : Nat} (h : i < L.length) : allTo b L (i + 1) = (allTo b L i && b L[i]) := by
  unfold allTo
  rw [List.take_add_one, List.getElem?_eq_getElem h, List.all_append]; simp
theorem allTo_all {α : Type} (b : α → Bool) (L : List α) : allTo b L L.length = L.all b := by unfold allTo; rw [List.take_length]
theorem allTo_zero {α : Type} (b : α → Bool) (L : List α) : allTo b L 0 = true := by unfold allTo; simp
theorem setB_8 (x : Int) : setB 8 x = inR 0 x 255 := by unfold setB; rw [show fullI 8 = 255 from by decide]
theorem room_cells {w : AW} {L : List RoomN} {p : Option Addr} {c : Nat} (h : ArrOf w 3 rcells (.slice p L.length c) L) {i : Nat} (hi : i < L.length) :
    ∃ b o, p = some ⟨b, o, none⟩ ∧ ∀ w', Keep w.next w w' → loadV w' true 3 (.pointer (some ⟨b, o + i * 3, none⟩)) = some (.agg #[.int .i64 L[i].hold, .int .i64 L[i].climate, .int .i64 L[i].keys]) := by
  obtain ⟨p', c', ex, hc1, hc2, hat⟩ := h.open
  injection ex with ex1 ex2 ex3
  obtain ⟨b4, o4, hp, _, hcell⟩ := hat i hi
  refine ⟨b4, o4, by rw [ex1, hp], fun w' k => ?_⟩
  have a0 := hcell w' k 0 _ rfl
  have a1 := hcell w' k 1 _ rfl
  have a2 := hcell w' k 2 _ rfl
  rw [Nat.add_zero] at a0
  simp only [loadV, aCells, a0, a1, a2]
def chk1 (s : StrN) : Bool := (inR 1 s.rooms.length 6 && decide ((s.gates.length : Int) ≤ 10)) && inR 2 s.staff.length 6
def chk2 (s : StrN) : Bool := chk1 s && s.rooms.all roomB
def chk3 (s : StrN) : Bool := chk2 s && s.gates.all (gateB s.rooms.length)
theorem chk_all (s : StrN) : (chk3 s && s.staff.all (setB 8)) = strB s := by
  unfold chk3 chk2 chk1 strB roomsB gatesB staffB
  cases inR 1 s.rooms.length 6 <;> cases decide ((s.gates.length : Int) ≤ 10) <;> cases inR 2 s.staff.length 6 <;> cases s.rooms.all roomB <;> simp
def gateA (n : Nat) (g : GateN) : Bool := inR 0 g.A ((n : Int) - 1) && (inR 0 g.B ((n : Int) - 1) && (!decide (g.A = g.B) && (inR 1 g.need 3 && inR 1 g.ways.length 3)))
theorem gateA_is (n : Nat) (g : GateN) : gateB n g = (gateA n g && g.ways.all (setB 8)) := by
  unfold gateA gateB waysB
  simp only [Bool.and_assoc]
set_option maxHeartbeats 64000000 in
theorem CheckR_ok (s : StrN) (pR pG pS : Option Addr) (cR cG cS : Nat) (w : AW) (f : Fresh w) (hA : StrAt w pR pG pS cR cG cS s) (hb : (s.rooms.length : Int) ≤ 140737488355328) :
    CallT Tryz.prog Tryz.T1 (.fn (.func 18) #[]) #[.agg (strC pR pG pS cR cG cS s).toArray] w (Ret (.int .i64 (strE s)) (Grown w)) := by
  have g1 := (Grown.refl f).push (.cells (strC pR pG pS cR cG cS s) 26 w.next 0 0)
  have O1 := Own.new f 26 (strC pR pG pS cR cG cS s)
  have c0 := O1.cell (o := 0) rfl rfl
  have c1 := O1.cell (o := 1) rfl rfl
  have c2 := O1.cell (o := 2) rfl rfl
  have hA1 := hA.grown g1
  unfold strC at *
  refine callT_code rfl Tryz.func18 rfl Tryz.s18_eq rfl ?_
  unfold Tryz.s18
  simp -dsimp -implicitDefEqProofs (maxSteps := 2000000) (disch := first | assumption | omega | (simp only [nx]; omega) | ((repeat refine Fresh.push ?_ _); assumption) | (simp only [smA]; done) | (simp [oneCell, AW.next_push]; done) | fail) only [go_sem, Nat.reduceEqDiff, reduceIte, Nat.reduceAdd, Int.toNat_natCast, Nat.add_zero, Owes_true, Tryz.results18, c0, Nat.zero_add]
  generalize w.push (.cells [.slice pR s.rooms.length cR, .slice pG s.gates.length cG, .slice pS s.staff.length cS] 26 w.next 0 0) = w1 at *
  apply callV_of (e := rfl)
  · exact From_ok _ _ _ w1
  rintro _ _ ⟨rfl, rfl⟩
  apply joinC (F := fun t => ev t (.tmp 1) = .pointer (some ⟨w.next, 0, none⟩) ∧ ev t (.tmp 3) = .bool (chk1 s)) (w := w1)
  case mainC =>
    intro go
    have hc : chk1 s = ((inR 1 s.rooms.length 6 && decide ((s.gates.length : Int) ≤ 10)) && inR 2 s.staff.length 6) := rfl
    cases h1 : inR 1 s.rooms.length 6 with
    | false =>
      have hF : chk1 s = false := by rw [hc, h1]; rfl
      simp -dsimp -implicitDefEqProofs (maxSteps := 2000000) (disch := first | assumption | omega | (simp only [nx]; omega) | ((repeat refine Fresh.push ?_ _); assumption) | (simp only [smA]; done) | (simp [oneCell, AW.next_push]; done) | fail) only [go_sem, Nat.reduceEqDiff, reduceIte, Nat.reduceAdd, Int.toNat_natCast, Nat.add_zero, Owes_true, Tryz.results18, h1, c1, c2, Nat.zero_add]
      exact joinC_use go ⟨by (simp -dsimp -implicitDefEqProofs (maxSteps := 2000000) (disch := first | assumption | omega | (simp only [nx]; omega) | ((repeat refine Fresh.push ?_ _); assumption) | (simp only [smA]; done) | (simp [oneCell, AW.next_push]; done) | fail) only [go_sem, Nat.reduceEqDiff, reduceIte, Nat.reduceAdd, Int.toNat_natCast, Nat.add_zero, Owes_true]; try rfl), by (simp -dsimp -implicitDefEqProofs (maxSteps := 2000000) (disch := first | assumption | omega | (simp only [nx]; omega) | ((repeat refine Fresh.push ?_ _); assumption) | (simp only [smA]; done) | (simp [oneCell, AW.next_push]; done) | fail) only [go_sem, Nat.reduceEqDiff, reduceIte, Nat.reduceAdd, Int.toNat_natCast, Nat.add_zero, Owes_true, hF]; try rfl)⟩
    | true =>
    by_cases h2 : (s.gates.length : Int) ≤ 10
    case neg =>
      have hd : decide ((s.gates.length : Int) ≤ 10) = false := decide_eq_false h2
      have hF : chk1 s = false := by rw [hc, h1, hd]; rfl
      simp -dsimp -implicitDefEqProofs (maxSteps := 2000000) (disch := first | assumption | omega | (simp only [nx]; omega) | ((repeat refine Fresh.push ?_ _); assumption) | (simp only [smA]; done) | (simp [oneCell, AW.next_push]; done) | fail) only [go_sem, Nat.reduceEqDiff, reduceIte, Nat.reduceAdd, Int.toNat_natCast, Nat.add_zero, Owes_true, Tryz.results18, h1, c1, c2, hd, Nat.zero_add]
      exact joinC_use go ⟨by (simp -dsimp -implicitDefEqProofs (maxSteps := 2000000) (disch := first | assumption | omega | (simp only [nx]; omega) | ((repeat refine Fresh.push ?_ _); assumption) | (simp only [smA]; done) | (simp [oneCell, AW.next_push]; done) | fail) only [go_sem, Nat.reduceEqDiff, reduceIte, Nat.reduceAdd, Int.toNat_natCast, Nat.add_zero, Owes_true]; try rfl), by (simp -dsimp -implicitDefEqProofs (maxSteps := 2000000) (disch := first | assumption | omega | (simp only [nx]; omega) | ((repeat refine Fresh.push ?_ _); assumption) | (simp only [smA]; done) | (simp [oneCell, AW.next_push]; done) | fail) only [go_sem, Nat.reduceEqDiff, reduceIte, Nat.reduceAdd, Int.toNat_natCast, Nat.add_zero, Owes_true, hF]; try rfl)⟩
    have hd : decide ((s.gates.length : Int) ≤ 10) = true := decide_eq_true h2
    simp -dsimp -implicitDefEqProofs (maxSteps := 2000000) (disch := first | assumption | omega | (simp only [nx]; omega) | ((repeat refine Fresh.push ?_ _); assumption) | (simp only [smA]; done) | (simp [oneCell, AW.next_push]; done) | fail) only [go_sem, Nat.reduceEqDiff, reduceIte, Nat.reduceAdd, Int.toNat_natCast, Nat.add_zero, Owes_true, Tryz.results18, h1, c1, c2, hd, Nat.zero_add]
    apply callV_of (e := rfl)
    · exact From_ok _ _ _ w1
    rintro _ _ ⟨rfl, rfl⟩
    have hF : chk1 s = inR 2 s.staff.length 6 := by rw [hc, h1, hd]; rfl
    simp -dsimp -implicitDefEqProofs (maxSteps := 2000000) (disch := first | assumption | omega | (simp only [nx]; omega) | ((repeat refine Fresh.push ?_ _); assumption) | (simp only [smA]; done) | (simp [oneCell, AW.next_push]; done) | fail) only [go_sem, Nat.reduceEqDiff, reduceIte, Nat.reduceAdd, Int.toNat_natCast, Nat.add_zero, Owes_true, Tryz.results18]
    exact joinC_use go ⟨by (simp -dsimp -implicitDefEqProofs (maxSteps := 2000000) (disch := first | assumption | omega | (simp only [nx]; omega) | ((repeat refine Fresh.push ?_ _); assumption) | (simp only [smA]; done) | (simp [oneCell, AW.next_push]; done) | fail) only [go_sem, Nat.reduceEqDiff, reduceIte, Nat.reduceAdd, Int.toNat_natCast, Nat.add_zero, Owes_true]; try rfl), by (simp -dsimp -implicitDefEqProofs (maxSteps := 2000000) (disch := first | assumption | omega | (simp only [nx]; omega) | ((repeat refine Fresh.push ?_ _); assumption) | (simp only [smA]; done) | (simp [oneCell, AW.next_push]; done) | fail) only [go_sem, Nat.reduceEqDiff, reduceIte, Nat.reduceAdd, Int.toNat_natCast, Nat.add_zero, Owes_true, hF]; try rfl)⟩
  case restC =>
  rintro t ⟨e1, e3⟩
  unfold Tryz.s18_c4
  have hz := allTo_zero roomB s.rooms
  have hz2 := allTo_zero (gateB s.rooms.length) s.gates
  have hz3 := allTo_zero (setB 8) s.staff
  simp -dsimp -implicitDefEqProofs (maxSteps := 2000000) (disch := first | assumption | omega | (simp only [nx]; omega) | ((repeat refine Fresh.push ?_ _); assumption) | (simp only [smA]; done) | (simp [oneCell, AW.next_push]; done) | fail) only [go_sem, Nat.reduceEqDiff, reduceIte, Nat.reduceAdd, Int.toNat_natCast, Nat.add_zero, Owes_true, e1, e3]
  refine loopR (fun k t ds w2 => ∃ i : Nat, i ≤ s.rooms.length ∧ k = s.rooms.length - i ∧ ds = [] ∧ ev t (.tmp 1) = .pointer (some ⟨w.next, 0, none⟩) ∧ ev t (.tmp 3) = .bool (chk1 s && allTo roomB s.rooms i) ∧ ev t (.tmp 4) = .int .i64 (i : Int) ∧ Keep w1.next w1 w2 ∧ Fresh w2) (s.rooms.length) ?_ ?_
  · refine ⟨0, by omega, by omega, rfl, ?_, ?_, ?_, .refl _ _, g1.2⟩ <;> simp -dsimp -implicitDefEqProofs (maxSteps := 2000000) (disch := first | assumption | omega | (simp only [nx]; omega) | ((repeat refine Fresh.push ?_ _); assumption) | (simp only [smA]; done) | (simp [oneCell, AW.next_push]; done) | fail) only [go_sem, Nat.reduceEqDiff, reduceIte, Nat.reduceAdd, Int.toNat_natCast, Nat.add_zero, Owes_true, e1, e3, hz, Bool.and_true] <;> rfl
  rintro k t ds w2 ⟨i, hii, rfl, rfl, e1, e3, e4, k2, f2⟩
  have gW : Grown w1 w2 := ⟨k2, f2⟩
  have O2 := O1.keep k2
  have c0 := O2.cell (o := 0) rfl rfl
  have c1 := O2.cell (o := 1) rfl rfl
  have c2 := O2.cell (o := 2) rfl rfl
  by_cases hlt : (i : Int) < (s.rooms.length : Int)
  case pos =>
    have hlt' : i < s.rooms.length := by omega
    have hs := allTo_succ (b := roomB) hlt'
    have hrb : roomB s.rooms[i] = (inR 0 s.rooms[i].hold 16 && (inR 0 s.rooms[i].climate 3 && inR 0 s.rooms[i].keys 255)) := by rw [← setB_8]; rfl
    obtain ⟨b4, o4, rfl, hld⟩ := room_cells hA1.rooms hlt'
    have hlo := hld w2 k2
    generalize s.rooms[i] = R at *
    have g3 := (Grown.refl f2).push (.cells [.int .i64 0, .int .i64 0, .int .i64 0] 73 w2.next 0 0)
    have O3 := Own.new f2 73 [.int .i64 0, .int .i64 0, .int .i64 0]
    have st := storeV_own (o := 0) (l := [.int .i64 R.hold, .int .i64 R.climate, .int .i64 R.keys]) (size := 3) O3 rfl (by omega) (by simp) rfl
    have hcut : setsL [.int .i64 0, .int .i64 0, .int .i64 0] 0 [.int .i64 R.hold, .int .i64 R.climate, .int .i64 R.keys] = [.int .i64 R.hold, .int .i64 R.climate, .int .i64 R.keys] := rfl
    rw [hcut] at st
    have m4 := MutS.put (S := fun j => j = w2.next) g3.2 rfl O3.lt (.cells [.int .i64 R.hold, .int .i64 R.climate, .int .i64 R.keys] 73 w2.next 0 0)
    have O4 := O3.put [.int .i64 R.hold, .int .i64 R.climate, .int .i64 R.keys]
    have g4 : Grown w2 _ := ⟨g3.1.trans (m4.keep (B := w2.next) (fun j q => by omega) g3.1.next), m4.fresh⟩
    have d0 := O4.cell (o := 0) rfl rfl
    have d1 := O4.cell (o := 1) rfl rfl
    have d2 := O4.cell (o := 2) rfl rfl
    have hfl : ∀ b, b = (chk1 s && allTo roomB s.rooms i) → (chk1 s && allTo roomB s.rooms (i + 1)) = (b && roomB R) := fun b h => by rw [hs, h, Bool.and_assoc]
    cases hF : (chk1 s && allTo roomB s.rooms i) with
    | false =>
      have hN := hfl false hF.symm
      rw [Bool.false_and] at hN
      simp -dsimp -implicitDefEqProofs (maxSteps := 2000000) (disch := first | assumption | omega | (simp only [nx]; omega) | ((repeat refine Fresh.push ?_ _); assumption) | (simp only [smA]; done) | (simp [oneCell, AW.next_push]; done) | fail) only [go_sem, Nat.reduceEqDiff, reduceIte, Nat.reduceAdd, Int.toNat_natCast, Nat.add_zero, Owes_true, Tryz.results18, e1, e3, e4, hF, hlt, c0, indexV_eq, hlo, st, Nat.zero_add]
      refine ⟨_, by omega, i + 1, by omega, rfl, rfl, by (simp -dsimp -implicitDefEqProofs (maxSteps := 2000000) (disch := first | assumption | omega | (simp only [nx]; omega) | ((repeat refine Fresh.push ?_ _); assumption) | (simp only [smA]; done) | (simp [oneCell, AW.next_push]; done) | fail) only [go_sem, Nat.reduceEqDiff, reduceIte, Nat.reduceAdd, Int.toNat_natCast, Nat.add_zero, Owes_true, e1, hN]; try rfl), by (simp -dsimp -implicitDefEqProofs (maxSteps := 2000000) (disch := first | assumption | omega | (simp only [nx]; omega) | ((repeat refine Fresh.push ?_ _); assumption) | (simp only [smA]; done) | (simp [oneCell, AW.next_push]; done) | fail) only [go_sem, Nat.reduceEqDiff, reduceIte, Nat.reduceAdd, Int.toNat_natCast, Nat.add_zero, Owes_true, e3, hN]; try rfl), by (simp -dsimp -implicitDefEqProofs (maxSteps := 2000000) (disch := first | assumption | omega | (simp only [nx]; omega) | ((repeat refine Fresh.push ?_ _); assumption) | (simp only [smA]; done) | (simp [oneCell, AW.next_push]; done) | fail) only [go_sem, Nat.reduceEqDiff, reduceIte, Nat.reduceAdd, Int.toNat_natCast, Nat.add_zero, Owes_true, e4, hN]; try rfl), k2.trans (g4.1.mono k2.next), g4.2⟩
    | true =>
    have hN := hfl true hF.symm
    rw [Bool.true_and, hrb] at hN
    simp -dsimp -implicitDefEqProofs (maxSteps := 2000000) (disch := first | assumption | omega | (simp only [nx]; omega) | ((repeat refine Fresh.push ?_ _); assumption) | (simp only [smA]; done) | (simp [oneCell, AW.next_push]; done) | fail) only [go_sem, Nat.reduceEqDiff, reduceIte, Nat.reduceAdd, Int.toNat_natCast, Nat.add_zero, Owes_true, Tryz.results18, e1, e3, e4, hF, hlt, c0, indexV_eq, hlo, st, d0, d1, d2, Nat.zero_add]
    generalize (w2.push (.cells [.int .i64 0, .int .i64 0, .int .i64 0] 73 w2.next 0 0)).put w2.next (.cells [.int .i64 R.hold, .int .i64 R.climate, .int .i64 R.keys] 73 w2.next 0 0) = w4 at *
    apply callV_of (e := rfl)
    · exact From_ok _ _ _ w4
    rintro _ _ ⟨rfl, rfl⟩
    cases h1 : inR 0 R.hold 16 with
    | false =>
      rw [h1, Bool.false_and] at hN
      simp -dsimp -implicitDefEqProofs (maxSteps := 2000000) (disch := first | assumption | omega | (simp only [nx]; omega) | ((repeat refine Fresh.push ?_ _); assumption) | (simp only [smA]; done) | (simp [oneCell, AW.next_push]; done) | fail) only [go_sem, Nat.reduceEqDiff, reduceIte, Nat.reduceAdd, Int.toNat_natCast, Nat.add_zero, Owes_true, Tryz.results18, e1, e3, e4, h1]
      refine ⟨_, by omega, i + 1, by omega, rfl, rfl, by (simp -dsimp -implicitDefEqProofs (maxSteps := 2000000) (disch := first | assumption | omega | (simp only [nx]; omega) | ((repeat refine Fresh.push ?_ _); assumption) | (simp only [smA]; done) | (simp [oneCell, AW.next_push]; done) | fail) only [go_sem, Nat.reduceEqDiff, reduceIte, Nat.reduceAdd, Int.toNat_natCast, Nat.add_zero, Owes_true, e1, hN]; try rfl), by (simp -dsimp -implicitDefEqProofs (maxSteps := 2000000) (disch := first | assumption | omega | (simp only [nx]; omega) | ((repeat refine Fresh.push ?_ _); assumption) | (simp only [smA]; done) | (simp [oneCell, AW.next_push]; done) | fail) only [go_sem, Nat.reduceEqDiff, reduceIte, Nat.reduceAdd, Int.toNat_natCast, Nat.add_zero, Owes_true, e3, hN]; try rfl), by (simp -dsimp -implicitDefEqProofs (maxSteps := 2000000) (disch := first | assumption | omega | (simp only [nx]; omega) | ((repeat refine Fresh.push ?_ _); assumption) | (simp only [smA]; done) | (simp [oneCell, AW.next_push]; done) | fail) only [go_sem, Nat.reduceEqDiff, reduceIte, Nat.reduceAdd, Int.toNat_natCast, Nat.add_zero, Owes_true, e4, hN]; try rfl), k2.trans (g4.1.mono k2.next), g4.2⟩
    | true =>
    simp -dsimp -implicitDefEqProofs (maxSteps := 2000000) (disch := first | assumption | omega | (simp only [nx]; omega) | ((repeat refine Fresh.push ?_ _); assumption) | (simp only [smA]; done) | (simp [oneCell, AW.next_push]; done) | fail) only [go_sem, Nat.reduceEqDiff, reduceIte, Nat.reduceAdd, Int.toNat_natCast, Nat.add_zero, Owes_true, Tryz.results18, e1, e3, e4, h1, d0, d1, d2, Nat.zero_add]
    apply callV_of (e := rfl)
    · exact From_ok _ _ _ w4
    rintro _ _ ⟨rfl, rfl⟩
    cases h2 : inR 0 R.climate 3 with
    | false =>
      rw [h1, h2, Bool.true_and, Bool.false_and] at hN
      simp -dsimp -implicitDefEqProofs (maxSteps := 2000000) (disch := first | assumption | omega | (simp only [nx]; omega) | ((repeat refine Fresh.push ?_ _); assumption) | (simp only [smA]; done) | (simp [oneCell, AW.next_push]; done) | fail) only [go_sem, Nat.reduceEqDiff, reduceIte, Nat.reduceAdd, Int.toNat_natCast, Nat.add_zero, Owes_true, Tryz.results18, e1, e3, e4, h2]
      refine ⟨_, by omega, i + 1, by omega, rfl, rfl, by (simp -dsimp -implicitDefEqProofs (maxSteps := 2000000) (disch := first | assumption | omega | (simp only [nx]; omega) | ((repeat refine Fresh.push ?_ _); assumption) | (simp only [smA]; done) | (simp [oneCell, AW.next_push]; done) | fail) only [go_sem, Nat.reduceEqDiff, reduceIte, Nat.reduceAdd, Int.toNat_natCast, Nat.add_zero, Owes_true, e1, hN]; try rfl), by (simp -dsimp -implicitDefEqProofs (maxSteps := 2000000) (disch := first | assumption | omega | (simp only [nx]; omega) | ((repeat refine Fresh.push ?_ _); assumption) | (simp only [smA]; done) | (simp [oneCell, AW.next_push]; done) | fail) only [go_sem, Nat.reduceEqDiff, reduceIte, Nat.reduceAdd, Int.toNat_natCast, Nat.add_zero, Owes_true, e3, hN]; try rfl), by (simp -dsimp -implicitDefEqProofs (maxSteps := 2000000) (disch := first | assumption | omega | (simp only [nx]; omega) | ((repeat refine Fresh.push ?_ _); assumption) | (simp only [smA]; done) | (simp [oneCell, AW.next_push]; done) | fail) only [go_sem, Nat.reduceEqDiff, reduceIte, Nat.reduceAdd, Int.toNat_natCast, Nat.add_zero, Owes_true, e4, hN]; try rfl), k2.trans (g4.1.mono k2.next), g4.2⟩
    | true =>
    rw [h1, h2, Bool.true_and, Bool.true_and] at hN
    simp -dsimp -implicitDefEqProofs (maxSteps := 2000000) (disch := first | assumption | omega | (simp only [nx]; omega) | ((repeat refine Fresh.push ?_ _); assumption) | (simp only [smA]; done) | (simp [oneCell, AW.next_push]; done) | fail) only [go_sem, Nat.reduceEqDiff, reduceIte, Nat.reduceAdd, Int.toNat_natCast, Nat.add_zero, Owes_true, Tryz.results18, e1, e3, e4, h2, d0, d1, d2, Nat.zero_add]
    apply callV_of (e := rfl)
    · exact From_ok _ _ _ w4
    rintro _ _ ⟨rfl, rfl⟩
    simp -dsimp -implicitDefEqProofs (maxSteps := 2000000) (disch := first | assumption | omega | (simp only [nx]; omega) | ((repeat refine Fresh.push ?_ _); assumption) | (simp only [smA]; done) | (simp [oneCell, AW.next_push]; done) | fail) only [go_sem, Nat.reduceEqDiff, reduceIte, Nat.reduceAdd, Int.toNat_natCast, Nat.add_zero, Owes_true, Tryz.results18, e1, e3, e4]
    refine ⟨_, by omega, i + 1, by omega, rfl, rfl, by (simp -dsimp -implicitDefEqProofs (maxSteps := 2000000) (disch := first | assumption | omega | (simp only [nx]; omega) | ((repeat refine Fresh.push ?_ _); assumption) | (simp only [smA]; done) | (simp [oneCell, AW.next_push]; done) | fail) only [go_sem, Nat.reduceEqDiff, reduceIte, Nat.reduceAdd, Int.toNat_natCast, Nat.add_zero, Owes_true, e1, hN]; try rfl), by (simp -dsimp -implicitDefEqProofs (maxSteps := 2000000) (disch := first | assumption | omega | (simp only [nx]; omega) | ((repeat refine Fresh.push ?_ _); assumption) | (simp only [smA]; done) | (simp [oneCell, AW.next_push]; done) | fail) only [go_sem, Nat.reduceEqDiff, reduceIte, Nat.reduceAdd, Int.toNat_natCast, Nat.add_zero, Owes_true, e3, hN]; try rfl), by (simp -dsimp -implicitDefEqProofs (maxSteps := 2000000) (disch := first | assumption | omega | (simp only [nx]; omega) | ((repeat refine Fresh.push ?_ _); assumption) | (simp only [smA]; done) | (simp [oneCell, AW.next_push]; done) | fail) only [go_sem, Nat.reduceEqDiff, reduceIte, Nat.reduceAdd, Int.toNat_natCast, Nat.add_zero, Owes_true, e4, hN]; try rfl), k2.trans (g4.1.mono k2.next), g4.2⟩
  obtain rfl : i = s.rooms.length := by omega
  have hF2 : (chk1 s && allTo roomB s.rooms s.rooms.length) = chk2 s := by rw [allTo_all]; rfl
  rw [hF2] at e3
  simp -dsimp -implicitDefEqProofs (maxSteps := 2000000) (disch := first | assumption | omega | (simp only [nx]; omega) | ((repeat refine Fresh.push ?_ _); assumption) | (simp only [smA]; done) | (simp [oneCell, AW.next_push]; done) | fail) only [go_sem, Nat.reduceEqDiff, reduceIte, Nat.reduceAdd, Int.toNat_natCast, Nat.add_zero, Owes_true, Tryz.results18, e1, e3, e4, hlt, c0, Nat.zero_add]
  refine loopR (fun k t ds w3 => ∃ j : Nat, j ≤ s.gates.length ∧ k = s.gates.length - j ∧ ds = [] ∧ ev t (.tmp 1) = .pointer (some ⟨w.next, 0, none⟩) ∧ ev t (.tmp 3) = .bool (chk2 s && allTo (gateB s.rooms.length) s.gates j) ∧ ev t (.tmp 6) = .int .i64 (j : Int) ∧ Keep w1.next w1 w3 ∧ Fresh w3) (s.gates.length) ?_ ?_
  · refine ⟨0, by omega, by omega, rfl, ?_, ?_, ?_, k2, f2⟩ <;> simp -dsimp -implicitDefEqProofs (maxSteps := 2000000) (disch := first | assumption | omega | (simp only [nx]; omega) | ((repeat refine Fresh.push ?_ _); assumption) | (simp only [smA]; done) | (simp [oneCell, AW.next_push]; done) | fail) only [go_sem, Nat.reduceEqDiff, reduceIte, Nat.reduceAdd, Int.toNat_natCast, Nat.add_zero, Owes_true, e1, e3, hz2, Bool.and_true] <;> rfl
  rintro k t ds w3 ⟨j, hij, rfl, rfl, e1, e3, e6, k3, f3⟩
  have gW3 : Grown w1 w3 := ⟨k3, f3⟩
  have O3 := O1.keep k3
  have c0 := O3.cell (o := 0) rfl rfl
  have c1 := O3.cell (o := 1) rfl rfl
  have c2 := O3.cell (o := 2) rfl rfl
  by_cases hlj : (j : Int) < (s.gates.length : Int)
  case pos =>
    have hlj' : j < s.gates.length := by omega
    have hs := allTo_succ (b := gateB s.rooms.length) hlj'
    obtain ⟨b4, o4, x, rfl, hgN, hx, hld⟩ := gate_cells hA1.gates rfl hlj'
    have hlo := (hld w3 k3).1
    have hgA := gateA_is s.rooms.length s.gates[j]
    have hgA2 : gateA s.rooms.length s.gates[j] = (inR 0 s.gates[j].A ((s.rooms.length : Int) - 1) && (inR 0 s.gates[j].B ((s.rooms.length : Int) - 1) && (!decide (s.gates[j].A = s.gates[j].B) && (inR 1 s.gates[j].need 3 && inR 1 s.gates[j].ways.length 3)))) := rfl
    generalize s.gates[j] = G at *
    obtain ⟨px, cx, rfl, _⟩ := id hx.open
    have g4 := (Grown.refl f3).push (.cells [.int .i64 0, .int .i64 0, .int .i64 0, .slice none 0 0] 71 w3.next 0 0)
    have O4 := Own.new f3 71 [.int .i64 0, .int .i64 0, .int .i64 0, .slice none 0 0]
    have st := storeV_own (o := 0) (l := [.int .i64 G.A, .int .i64 G.B, .int .i64 G.need, .slice px G.ways.length cx]) (size := 4) O4 rfl (by omega) (by simp) rfl
    have hcut : setsL [.int .i64 0, .int .i64 0, .int .i64 0, .slice none 0 0] 0 [.int .i64 G.A, .int .i64 G.B, .int .i64 G.need, .slice px G.ways.length cx] = [.int .i64 G.A, .int .i64 G.B, .int .i64 G.need, .slice px G.ways.length cx] := rfl
    rw [hcut] at st
    have m5 := MutS.put (S := fun j => j = w3.next) g4.2 rfl O4.lt (.cells [.int .i64 G.A, .int .i64 G.B, .int .i64 G.need, .slice px G.ways.length cx] 71 w3.next 0 0)
    have O5 := O4.put [.int .i64 G.A, .int .i64 G.B, .int .i64 G.need, .slice px G.ways.length cx]
    have O15 := m5.own (O3.push (.cells [.int .i64 0, .int .i64 0, .int .i64 0, .slice none 0 0] 71 w3.next 0 0)) (by have := O1.lt; have := k3.next; omega)
    have g5 : Grown w3 _ := ⟨g4.1.trans (m5.keep (B := w3.next) (fun j q => by omega) g4.1.next), m5.fresh⟩
    have d0 := O5.cell (o := 0) rfl rfl
    have d1 := O5.cell (o := 1) rfl rfl
    have d2 := O5.cell (o := 2) rfl rfl
    have d3 := O5.cell (o := 3) (v := .slice px G.ways.length cx) rfl rfl
    have c05 := O15.cell (o := 0) (v := .slice pR s.rooms.length cR) rfl rfl
    have hxw := hx.grown (gW3.trans g5)
    have hzw := allTo_zero (setB 8) G.ways
    have hwN : IntKind.i64.wrap ((s.rooms.length : Int) - 1) = (s.rooms.length : Int) - 1 := wrap64 (by omega) (by omega)
    have hfl : ∀ b, b = (chk2 s && allTo (gateB s.rooms.length) s.gates j) → (chk2 s && allTo (gateB s.rooms.length) s.gates (j + 1)) = ((b && gateA s.rooms.length G) && G.ways.all (setB 8)) := fun b h => by rw [hs, h, hgA]; simp only [Bool.and_assoc]
    obtain ⟨F, hFd⟩ : ∃ F, F = ((chk2 s && allTo (gateB s.rooms.length) s.gates j) && gateA s.rooms.length G) := ⟨_, rfl⟩
    have hnxt : (chk2 s && allTo (gateB s.rooms.length) s.gates (j + 1)) = (F && G.ways.all (setB 8)) := by rw [hFd]; exact hfl _ rfl
    generalize (w3.push (.cells [.int .i64 0, .int .i64 0, .int .i64 0, .slice none 0 0] 71 w3.next 0 0)).put w3.next (.cells [.int .i64 G.A, .int .i64 G.B, .int .i64 G.need, .slice px G.ways.length cx] 71 w3.next 0 0) = w5 at *
    apply joinC (F := fun t => ev t (.tmp 1) = .pointer (some ⟨w.next, 0, none⟩) ∧ ev t (.tmp 3) = .bool F ∧ ev t (.tmp 6) = .int .i64 (j : Int) ∧ ev t (.tmp 7) = .pointer (some ⟨w3.next, 0, none⟩)) (w := w5)
    case mainC =>
      intro go
      simp -dsimp -implicitDefEqProofs (maxSteps := 2000000) (disch := first | assumption | omega | (simp only [nx]; omega) | ((repeat refine Fresh.push ?_ _); assumption) | (simp only [smA]; done) | (simp [oneCell, AW.next_push]; done) | fail) only [go_sem, Nat.reduceEqDiff, reduceIte, Nat.reduceAdd, Int.toNat_natCast, Nat.add_zero, Owes_true, Tryz.results18, e1, e3, e6, hlj, c1, indexV_eq, hlo, st, Nat.zero_add]
      cases hF : (chk2 s && allTo (gateB s.rooms.length) s.gates j) with
      | false =>
        have hN : F = false := by rw [hFd, hF]; rfl
        simp -dsimp -implicitDefEqProofs (maxSteps := 2000000) (disch := first | assumption | omega | (simp only [nx]; omega) | ((repeat refine Fresh.push ?_ _); assumption) | (simp only [smA]; done) | (simp [oneCell, AW.next_push]; done) | fail) only [go_sem, Nat.reduceEqDiff, reduceIte, Nat.reduceAdd, Int.toNat_natCast, Nat.add_zero, Owes_true, Tryz.results18, e1, e3, e6, hF]
        exact joinC_use go ⟨by (simp -dsimp -implicitDefEqProofs (maxSteps := 2000000) (disch := first | assumption | omega | (simp only [nx]; omega) | ((repeat refine Fresh.push ?_ _); assumption) | (simp only [smA]; done) | (simp [oneCell, AW.next_push]; done) | fail) only [go_sem, Nat.reduceEqDiff, reduceIte, Nat.reduceAdd, Int.toNat_natCast, Nat.add_zero, Owes_true, e1]; try rfl), by (simp -dsimp -implicitDefEqProofs (maxSteps := 2000000) (disch := first | assumption | omega | (simp only [nx]; omega) | ((repeat refine Fresh.push ?_ _); assumption) | (simp only [smA]; done) | (simp [oneCell, AW.next_push]; done) | fail) only [go_sem, Nat.reduceEqDiff, reduceIte, Nat.reduceAdd, Int.toNat_natCast, Nat.add_zero, Owes_true, hN]; try rfl), by (simp -dsimp -implicitDefEqProofs (maxSteps := 2000000) (disch := first | assumption | omega | (simp only [nx]; omega) | ((repeat refine Fresh.push ?_ _); assumption) | (simp only [smA]; done) | (simp [oneCell, AW.next_push]; done) | fail) only [go_sem, Nat.reduceEqDiff, reduceIte, Nat.reduceAdd, Int.toNat_natCast, Nat.add_zero, Owes_true, e6]; try rfl), by (simp -dsimp -implicitDefEqProofs (maxSteps := 2000000) (disch := first | assumption | omega | (simp only [nx]; omega) | ((repeat refine Fresh.push ?_ _); assumption) | (simp only [smA]; done) | (simp [oneCell, AW.next_push]; done) | fail) only [go_sem, Nat.reduceEqDiff, reduceIte, Nat.reduceAdd, Int.toNat_natCast, Nat.add_zero, Owes_true]; try rfl)⟩
      | true =>
      rw [hF, Bool.true_and, hgA2] at hFd
      simp -dsimp -implicitDefEqProofs (maxSteps := 2000000) (disch := first | assumption | omega | (simp only [nx]; omega) | ((repeat refine Fresh.push ?_ _); assumption) | (simp only [smA]; done) | (simp [oneCell, AW.next_push]; done) | fail) only [go_sem, Nat.reduceEqDiff, reduceIte, Nat.reduceAdd, Int.toNat_natCast, Nat.add_zero, Owes_true, Tryz.results18, e1, e3, e6, hF, d0, c05, hwN, Nat.zero_add]
      apply callV_of (e := rfl)
      · exact From_ok _ _ _ w5
      rintro _ _ ⟨rfl, rfl⟩
      cases h1 : inR 0 G.A ((s.rooms.length : Int) - 1) with
      | false =>
        rw [h1, Bool.false_and] at hFd
        simp -dsimp -implicitDefEqProofs (maxSteps := 2000000) (disch := first | assumption | omega | (simp only [nx]; omega) | ((repeat refine Fresh.push ?_ _); assumption) | (simp only [smA]; done) | (simp [oneCell, AW.next_push]; done) | fail) only [go_sem, Nat.reduceEqDiff, reduceIte, Nat.reduceAdd, Int.toNat_natCast, Nat.add_zero, Owes_true, Tryz.results18, e1, e3, e6, h1]
        exact joinC_use go ⟨by (simp -dsimp -implicitDefEqProofs (maxSteps := 2000000) (disch := first | assumption | omega | (simp only [nx]; omega) | ((repeat refine Fresh.push ?_ _); assumption) | (simp only [smA]; done) | (simp [oneCell, AW.next_push]; done) | fail) only [go_sem, Nat.reduceEqDiff, reduceIte, Nat.reduceAdd, Int.toNat_natCast, Nat.add_zero, Owes_true, e1]; try rfl), by (simp -dsimp -implicitDefEqProofs (maxSteps := 2000000) (disch := first | assumption | omega | (simp only [nx]; omega) | ((repeat refine Fresh.push ?_ _); assumption) | (simp only [smA]; done) | (simp [oneCell, AW.next_push]; done) | fail) only [go_sem, Nat.reduceEqDiff, reduceIte, Nat.reduceAdd, Int.toNat_natCast, Nat.add_zero, Owes_true, hFd]; try rfl), by (simp -dsimp -implicitDefEqProofs (maxSteps := 2000000) (disch := first | assumption | omega | (simp only [nx]; omega) | ((repeat refine Fresh.push ?_ _); assumption) | (simp only [smA]; done) | (simp [oneCell, AW.next_push]; done) | fail) only [go_sem, Nat.reduceEqDiff, reduceIte, Nat.reduceAdd, Int.toNat_natCast, Nat.add_zero, Owes_true, e6]; try rfl), by (simp -dsimp -implicitDefEqProofs (maxSteps := 2000000) (disch := first | assumption | omega | (simp only [nx]; omega) | ((repeat refine Fresh.push ?_ _); assumption) | (simp only [smA]; done) | (simp [oneCell, AW.next_push]; done) | fail) only [go_sem, Nat.reduceEqDiff, reduceIte, Nat.reduceAdd, Int.toNat_natCast, Nat.add_zero, Owes_true]; try rfl)⟩
      | true =>
      rw [h1, Bool.true_and] at hFd
      simp -dsimp -implicitDefEqProofs (maxSteps := 2000000) (disch := first | assumption | omega | (simp only [nx]; omega) | ((repeat refine Fresh.push ?_ _); assumption) | (simp only [smA]; done) | (simp [oneCell, AW.next_push]; done) | fail) only [go_sem, Nat.reduceEqDiff, reduceIte, Nat.reduceAdd, Int.toNat_natCast, Nat.add_zero, Owes_true, Tryz.results18, e1, e3, e6, h1, d1, c05, hwN, Nat.zero_add]
      apply callV_of (e := rfl)
      · exact From_ok _ _ _ w5
      rintro _ _ ⟨rfl, rfl⟩
      cases h2 : inR 0 G.B ((s.rooms.length : Int) - 1) with
      | false =>
        rw [h2, Bool.false_and] at hFd
        simp -dsimp -implicitDefEqProofs (maxSteps := 2000000) (disch := first | assumption | omega | (simp only [nx]; omega) | ((repeat refine Fresh.push ?_ _); assumption) | (simp only [smA]; done) | (simp [oneCell, AW.next_push]; done) | fail) only [go_sem, Nat.reduceEqDiff, reduceIte, Nat.reduceAdd, Int.toNat_natCast, Nat.add_zero, Owes_true, Tryz.results18, e1, e3, e6, h2]
        exact joinC_use go ⟨by (simp -dsimp -implicitDefEqProofs (maxSteps := 2000000) (disch := first | assumption | omega | (simp only [nx]; omega) | ((repeat refine Fresh.push ?_ _); assumption) | (simp only [smA]; done) | (simp [oneCell, AW.next_push]; done) | fail) only [go_sem, Nat.reduceEqDiff, reduceIte, Nat.reduceAdd, Int.toNat_natCast, Nat.add_zero, Owes_true, e1]; try rfl), by (simp -dsimp -implicitDefEqProofs (maxSteps := 2000000) (disch := first | assumption | omega | (simp only [nx]; omega) | ((repeat refine Fresh.push ?_ _); assumption) | (simp only [smA]; done) | (simp [oneCell, AW.next_push]; done) | fail) only [go_sem, Nat.reduceEqDiff, reduceIte, Nat.reduceAdd, Int.toNat_natCast, Nat.add_zero, Owes_true, hFd]; try rfl), by (simp -dsimp -implicitDefEqProofs (maxSteps := 2000000) (disch := first | assumption | omega | (simp only [nx]; omega) | ((repeat refine Fresh.push ?_ _); assumption) | (simp only [smA]; done) | (simp [oneCell, AW.next_push]; done) | fail) only [go_sem, Nat.reduceEqDiff, reduceIte, Nat.reduceAdd, Int.toNat_natCast, Nat.add_zero, Owes_true, e6]; try rfl), by (simp -dsimp -implicitDefEqProofs (maxSteps := 2000000) (disch := first | assumption | omega | (simp only [nx]; omega) | ((repeat refine Fresh.push ?_ _); assumption) | (simp only [smA]; done) | (simp [oneCell, AW.next_push]; done) | fail) only [go_sem, Nat.reduceEqDiff, reduceIte, Nat.reduceAdd, Int.toNat_natCast, Nat.add_zero, Owes_true]; try rfl)⟩
      | true =>
      rw [h2, Bool.true_and] at hFd
      by_cases h3 : G.A = G.B
      case pos =>
        have hd : decide (G.A = G.B) = true := decide_eq_true h3
        rw [hd, Bool.not_true, Bool.false_and] at hFd
        simp -dsimp -implicitDefEqProofs (maxSteps := 2000000) (disch := first | assumption | omega | (simp only [nx]; omega) | ((repeat refine Fresh.push ?_ _); assumption) | (simp only [smA]; done) | (simp [oneCell, AW.next_push]; done) | fail) only [go_sem, Nat.reduceEqDiff, reduceIte, Nat.reduceAdd, Int.toNat_natCast, Nat.add_zero, Owes_true, Tryz.results18, e1, e3, e6, h2, d0, d1, hd, Nat.zero_add]
        exact joinC_use go ⟨by (simp -dsimp -implicitDefEqProofs (maxSteps := 2000000) (disch := first | assumption | omega | (simp only [nx]; omega) | ((repeat refine Fresh.push ?_ _); assumption) | (simp only [smA]; done) | (simp [oneCell, AW.next_push]; done) | fail) only [go_sem, Nat.reduceEqDiff, reduceIte, Nat.reduceAdd, Int.toNat_natCast, Nat.add_zero, Owes_true, e1]; try rfl), by (simp -dsimp -implicitDefEqProofs (maxSteps := 2000000) (disch := first | assumption | omega | (simp only [nx]; omega) | ((repeat refine Fresh.push ?_ _); assumption) | (simp only [smA]; done) | (simp [oneCell, AW.next_push]; done) | fail) only [go_sem, Nat.reduceEqDiff, reduceIte, Nat.reduceAdd, Int.toNat_natCast, Nat.add_zero, Owes_true, hFd]; try rfl), by (simp -dsimp -implicitDefEqProofs (maxSteps := 2000000) (disch := first | assumption | omega | (simp only [nx]; omega) | ((repeat refine Fresh.push ?_ _); assumption) | (simp only [smA]; done) | (simp [oneCell, AW.next_push]; done) | fail) only [go_sem, Nat.reduceEqDiff, reduceIte, Nat.reduceAdd, Int.toNat_natCast, Nat.add_zero, Owes_true, e6]; try rfl), by (simp -dsimp -implicitDefEqProofs (maxSteps := 2000000) (disch := first | assumption | omega | (simp only [nx]; omega) | ((repeat refine Fresh.push ?_ _); assumption) | (simp only [smA]; done) | (simp [oneCell, AW.next_push]; done) | fail) only [go_sem, Nat.reduceEqDiff, reduceIte, Nat.reduceAdd, Int.toNat_natCast, Nat.add_zero, Owes_true]; try rfl)⟩
      have hd : decide (G.A = G.B) = false := decide_eq_false h3
      rw [hd, Bool.not_false, Bool.true_and] at hFd
      simp -dsimp -implicitDefEqProofs (maxSteps := 2000000) (disch := first | assumption | omega | (simp only [nx]; omega) | ((repeat refine Fresh.push ?_ _); assumption) | (simp only [smA]; done) | (simp [oneCell, AW.next_push]; done) | fail) only [go_sem, Nat.reduceEqDiff, reduceIte, Nat.reduceAdd, Int.toNat_natCast, Nat.add_zero, Owes_true, Tryz.results18, e1, e3, e6, h2, d0, d1, d2, hd, Nat.zero_add]
      apply callV_of (e := rfl)
      · exact From_ok _ _ _ w5
      rintro _ _ ⟨rfl, rfl⟩
      cases h4 : inR 1 G.need 3 with
      | false =>
        rw [h4, Bool.false_and] at hFd
        simp -dsimp -implicitDefEqProofs (maxSteps := 2000000) (disch := first | assumption | omega | (simp only [nx]; omega) | ((repeat refine Fresh.push ?_ _); assumption) | (simp only [smA]; done) | (simp [oneCell, AW.next_push]; done) | fail) only [go_sem, Nat.reduceEqDiff, reduceIte, Nat.reduceAdd, Int.toNat_natCast, Nat.add_zero, Owes_true, Tryz.results18, e1, e3, e6, h4]
        exact joinC_use go ⟨by (simp -dsimp -implicitDefEqProofs (maxSteps := 2000000) (disch := first | assumption | omega | (simp only [nx]; omega) | ((repeat refine Fresh.push ?_ _); assumption) | (simp only [smA]; done) | (simp [oneCell, AW.next_push]; done) | fail) only [go_sem, Nat.reduceEqDiff, reduceIte, Nat.reduceAdd, Int.toNat_natCast, Nat.add_zero, Owes_true, e1]; try rfl), by (simp -dsimp -implicitDefEqProofs (maxSteps := 2000000) (disch := first | assumption | omega | (simp only [nx]; omega) | ((repeat refine Fresh.push ?_ _); assumption) | (simp only [smA]; done) | (simp [oneCell, AW.next_push]; done) | fail) only [go_sem, Nat.reduceEqDiff, reduceIte, Nat.reduceAdd, Int.toNat_natCast, Nat.add_zero, Owes_true, hFd]; try rfl), by (simp -dsimp -implicitDefEqProofs (maxSteps := 2000000) (disch := first | assumption | omega | (simp only [nx]; omega) | ((repeat refine Fresh.push ?_ _); assumption) | (simp only [smA]; done) | (simp [oneCell, AW.next_push]; done) | fail) only [go_sem, Nat.reduceEqDiff, reduceIte, Nat.reduceAdd, Int.toNat_natCast, Nat.add_zero, Owes_true, e6]; try rfl), by (simp -dsimp -implicitDefEqProofs (maxSteps := 2000000) (disch := first | assumption | omega | (simp only [nx]; omega) | ((repeat refine Fresh.push ?_ _); assumption) | (simp only [smA]; done) | (simp [oneCell, AW.next_push]; done) | fail) only [go_sem, Nat.reduceEqDiff, reduceIte, Nat.reduceAdd, Int.toNat_natCast, Nat.add_zero, Owes_true]; try rfl)⟩
      | true =>
      rw [h4, Bool.true_and] at hFd
      simp -dsimp -implicitDefEqProofs (maxSteps := 2000000) (disch := first | assumption | omega | (simp only [nx]; omega) | ((repeat refine Fresh.push ?_ _); assumption) | (simp only [smA]; done) | (simp [oneCell, AW.next_push]; done) | fail) only [go_sem, Nat.reduceEqDiff, reduceIte, Nat.reduceAdd, Int.toNat_natCast, Nat.add_zero, Owes_true, Tryz.results18, e1, e3, e6, h4, d3, Nat.zero_add]
      apply callV_of (e := rfl)
      · exact From_ok _ _ _ w5
      rintro _ _ ⟨rfl, rfl⟩
      simp -dsimp -implicitDefEqProofs (maxSteps := 2000000) (disch := first | assumption | omega | (simp only [nx]; omega) | ((repeat refine Fresh.push ?_ _); assumption) | (simp only [smA]; done) | (simp [oneCell, AW.next_push]; done) | fail) only [go_sem, Nat.reduceEqDiff, reduceIte, Nat.reduceAdd, Int.toNat_natCast, Nat.add_zero, Owes_true, Tryz.results18, e1, e3, e6]
      exact joinC_use go ⟨by (simp -dsimp -implicitDefEqProofs (maxSteps := 2000000) (disch := first | assumption | omega | (simp only [nx]; omega) | ((repeat refine Fresh.push ?_ _); assumption) | (simp only [smA]; done) | (simp [oneCell, AW.next_push]; done) | fail) only [go_sem, Nat.reduceEqDiff, reduceIte, Nat.reduceAdd, Int.toNat_natCast, Nat.add_zero, Owes_true, e1]; try rfl), by (simp -dsimp -implicitDefEqProofs (maxSteps := 2000000) (disch := first | assumption | omega | (simp only [nx]; omega) | ((repeat refine Fresh.push ?_ _); assumption) | (simp only [smA]; done) | (simp [oneCell, AW.next_push]; done) | fail) only [go_sem, Nat.reduceEqDiff, reduceIte, Nat.reduceAdd, Int.toNat_natCast, Nat.add_zero, Owes_true, hFd]; try rfl), by (simp -dsimp -implicitDefEqProofs (maxSteps := 2000000) (disch := first | assumption | omega | (simp only [nx]; omega) | ((repeat refine Fresh.push ?_ _); assumption) | (simp only [smA]; done) | (simp [oneCell, AW.next_push]; done) | fail) only [go_sem, Nat.reduceEqDiff, reduceIte, Nat.reduceAdd, Int.toNat_natCast, Nat.add_zero, Owes_true, e6]; try rfl), by (simp -dsimp -implicitDefEqProofs (maxSteps := 2000000) (disch := first | assumption | omega | (simp only [nx]; omega) | ((repeat refine Fresh.push ?_ _); assumption) | (simp only [smA]; done) | (simp [oneCell, AW.next_push]; done) | fail) only [go_sem, Nat.reduceEqDiff, reduceIte, Nat.reduceAdd, Int.toNat_natCast, Nat.add_zero, Owes_true]; try rfl)⟩
    case restC =>
      clear e1 e3 e4 e6
      rintro t ⟨e1, e3, e6, e7⟩
      unfold Tryz.s18_c8
      simp -dsimp -implicitDefEqProofs (maxSteps := 2000000) (disch := first | assumption | omega | (simp only [nx]; omega) | ((repeat refine Fresh.push ?_ _); assumption) | (simp only [smA]; done) | (simp [oneCell, AW.next_push]; done) | fail) only [go_sem, Nat.reduceEqDiff, reduceIte, Nat.reduceAdd, Int.toNat_natCast, Nat.add_zero, Owes_true]
      refine loopR (fun k t ds w6 => ∃ m : Nat, m ≤ G.ways.length ∧ k = G.ways.length - m ∧ ds = [] ∧ ev t (.tmp 1) = .pointer (some ⟨w.next, 0, none⟩) ∧ ev t (.tmp 3) = .bool (F && allTo (setB 8) G.ways m) ∧ ev t (.tmp 6) = .int .i64 (j : Int) ∧ ev t (.tmp 7) = .pointer (some ⟨w3.next, 0, none⟩) ∧ ev t (.tmp 8) = .int .i64 (m : Int) ∧ w5 = w6) (G.ways.length) ?_ ?_
      · refine ⟨0, by omega, by omega, rfl, ?_, ?_, ?_, ?_, ?_, rfl⟩ <;> simp -dsimp -implicitDefEqProofs (maxSteps := 2000000) (disch := first | assumption | omega | (simp only [nx]; omega) | ((repeat refine Fresh.push ?_ _); assumption) | (simp only [smA]; done) | (simp [oneCell, AW.next_push]; done) | fail) only [go_sem, Nat.reduceEqDiff, reduceIte, Nat.reduceAdd, Int.toNat_natCast, Nat.add_zero, Owes_true, e1, e3, e6, e7, hzw, Bool.and_true] <;> rfl
      rintro k t ds w6 ⟨m, him, rfl, rfl, e1, e3, e6, e7, e8, hw⟩
      subst hw
      by_cases hlm : (m : Int) < (G.ways.length : Int)
      case neg =>
        obtain rfl : m = G.ways.length := by omega
        rw [allTo_all] at e3
        simp -dsimp -implicitDefEqProofs (maxSteps := 2000000) (disch := first | assumption | omega | (simp only [nx]; omega) | ((repeat refine Fresh.push ?_ _); assumption) | (simp only [smA]; done) | (simp [oneCell, AW.next_push]; done) | fail) only [go_sem, Nat.reduceEqDiff, reduceIte, Nat.reduceAdd, Int.toNat_natCast, Nat.add_zero, Owes_true, Tryz.results18, e1, e3, e6, e7, e8, hlm, d3, Nat.zero_add]
        refine ⟨_, by omega, j + 1, by omega, rfl, rfl, by (simp -dsimp -implicitDefEqProofs (maxSteps := 2000000) (disch := first | assumption | omega | (simp only [nx]; omega) | ((repeat refine Fresh.push ?_ _); assumption) | (simp only [smA]; done) | (simp [oneCell, AW.next_push]; done) | fail) only [go_sem, Nat.reduceEqDiff, reduceIte, Nat.reduceAdd, Int.toNat_natCast, Nat.add_zero, Owes_true, e1, hnxt]; try rfl), by (simp -dsimp -implicitDefEqProofs (maxSteps := 2000000) (disch := first | assumption | omega | (simp only [nx]; omega) | ((repeat refine Fresh.push ?_ _); assumption) | (simp only [smA]; done) | (simp [oneCell, AW.next_push]; done) | fail) only [go_sem, Nat.reduceEqDiff, reduceIte, Nat.reduceAdd, Int.toNat_natCast, Nat.add_zero, Owes_true, e3, hnxt]; try rfl), by (simp -dsimp -implicitDefEqProofs (maxSteps := 2000000) (disch := first | assumption | omega | (simp only [nx]; omega) | ((repeat refine Fresh.push ?_ _); assumption) | (simp only [smA]; done) | (simp [oneCell, AW.next_push]; done) | fail) only [go_sem, Nat.reduceEqDiff, reduceIte, Nat.reduceAdd, Int.toNat_natCast, Nat.add_zero, Owes_true, e6, hnxt]; try rfl), k3.trans (g5.1.mono k3.next), g5.2⟩
      have hlm' : m < G.ways.length := by omega
      have hsm := allTo_succ (b := setB 8) hlm'
      obtain ⟨_, _, ex, _, _, hat⟩ := hxw.open
      injection ex with ex1 ex2 ex3
      subst ex1 ex3
      obtain ⟨b6, o6, rfl, _, hcell⟩ := hat m hlm'
      have a0 := hcell w5 (.refl _ _) 0 _ rfl
      rw [Nat.add_zero] at a0
      rw [setB_8] at hsm
      have hfm : ∀ b, b = (F && allTo (setB 8) G.ways m) → (F && allTo (setB 8) G.ways (m + 1)) = (b && inR 0 G.ways[m] 255) := fun b h => by rw [hsm, h, Bool.and_assoc]
      cases hF : (F && allTo (setB 8) G.ways m) with
      | false =>
        have hN := hfm false hF.symm
        rw [Bool.false_and] at hN
        simp -dsimp -implicitDefEqProofs (maxSteps := 2000000) (disch := first | assumption | omega | (simp only [nx]; omega) | ((repeat refine Fresh.push ?_ _); assumption) | (simp only [smA]; done) | (simp [oneCell, AW.next_push]; done) | fail) only [go_sem, Nat.reduceEqDiff, reduceIte, Nat.reduceAdd, Int.toNat_natCast, Nat.add_zero, Owes_true, Tryz.results18, e1, e3, e6, e7, e8, hF, hlm, d3, Nat.zero_add]
        refine ⟨_, by omega, m + 1, by omega, rfl, rfl, by (simp -dsimp -implicitDefEqProofs (maxSteps := 2000000) (disch := first | assumption | omega | (simp only [nx]; omega) | ((repeat refine Fresh.push ?_ _); assumption) | (simp only [smA]; done) | (simp [oneCell, AW.next_push]; done) | fail) only [go_sem, Nat.reduceEqDiff, reduceIte, Nat.reduceAdd, Int.toNat_natCast, Nat.add_zero, Owes_true, e1, hN]; try rfl), by (simp -dsimp -implicitDefEqProofs (maxSteps := 2000000) (disch := first | assumption | omega | (simp only [nx]; omega) | ((repeat refine Fresh.push ?_ _); assumption) | (simp only [smA]; done) | (simp [oneCell, AW.next_push]; done) | fail) only [go_sem, Nat.reduceEqDiff, reduceIte, Nat.reduceAdd, Int.toNat_natCast, Nat.add_zero, Owes_true, e3, hN]; try rfl), by (simp -dsimp -implicitDefEqProofs (maxSteps := 2000000) (disch := first | assumption | omega | (simp only [nx]; omega) | ((repeat refine Fresh.push ?_ _); assumption) | (simp only [smA]; done) | (simp [oneCell, AW.next_push]; done) | fail) only [go_sem, Nat.reduceEqDiff, reduceIte, Nat.reduceAdd, Int.toNat_natCast, Nat.add_zero, Owes_true, e6, hN]; try rfl), by (simp -dsimp -implicitDefEqProofs (maxSteps := 2000000) (disch := first | assumption | omega | (simp only [nx]; omega) | ((repeat refine Fresh.push ?_ _); assumption) | (simp only [smA]; done) | (simp [oneCell, AW.next_push]; done) | fail) only [go_sem, Nat.reduceEqDiff, reduceIte, Nat.reduceAdd, Int.toNat_natCast, Nat.add_zero, Owes_true, e7, hN]; try rfl), by (simp -dsimp -implicitDefEqProofs (maxSteps := 2000000) (disch := first | assumption | omega | (simp only [nx]; omega) | ((repeat refine Fresh.push ?_ _); assumption) | (simp only [smA]; done) | (simp [oneCell, AW.next_push]; done) | fail) only [go_sem, Nat.reduceEqDiff, reduceIte, Nat.reduceAdd, Int.toNat_natCast, Nat.add_zero, Owes_true, e8, hN]; try rfl), rfl⟩
      | true =>
        have hN := hfm true hF.symm
        rw [Bool.true_and] at hN
        simp -dsimp -implicitDefEqProofs (maxSteps := 2000000) (disch := first | assumption | omega | (simp only [nx]; omega) | ((repeat refine Fresh.push ?_ _); assumption) | (simp only [smA]; done) | (simp [oneCell, AW.next_push]; done) | fail) only [go_sem, Nat.reduceEqDiff, reduceIte, Nat.reduceAdd, Int.toNat_natCast, Nat.add_zero, Owes_true, Tryz.results18, e1, e3, e6, e7, e8, hF, hlm, d3, indexV_eq, a0, Nat.zero_add]
        apply callV_of (e := rfl)
        · exact From_ok _ _ _ w5
        rintro _ _ ⟨rfl, rfl⟩
        simp -dsimp -implicitDefEqProofs (maxSteps := 2000000) (disch := first | assumption | omega | (simp only [nx]; omega) | ((repeat refine Fresh.push ?_ _); assumption) | (simp only [smA]; done) | (simp [oneCell, AW.next_push]; done) | fail) only [go_sem, Nat.reduceEqDiff, reduceIte, Nat.reduceAdd, Int.toNat_natCast, Nat.add_zero, Owes_true, Tryz.results18, e1, e3, e6, e7, e8]
        refine ⟨_, by omega, m + 1, by omega, rfl, rfl, by (simp -dsimp -implicitDefEqProofs (maxSteps := 2000000) (disch := first | assumption | omega | (simp only [nx]; omega) | ((repeat refine Fresh.push ?_ _); assumption) | (simp only [smA]; done) | (simp [oneCell, AW.next_push]; done) | fail) only [go_sem, Nat.reduceEqDiff, reduceIte, Nat.reduceAdd, Int.toNat_natCast, Nat.add_zero, Owes_true, e1, hN]; try rfl), by (simp -dsimp -implicitDefEqProofs (maxSteps := 2000000) (disch := first | assumption | omega | (simp only [nx]; omega) | ((repeat refine Fresh.push ?_ _); assumption) | (simp only [smA]; done) | (simp [oneCell, AW.next_push]; done) | fail) only [go_sem, Nat.reduceEqDiff, reduceIte, Nat.reduceAdd, Int.toNat_natCast, Nat.add_zero, Owes_true, e3, hN]; try rfl), by (simp -dsimp -implicitDefEqProofs (maxSteps := 2000000) (disch := first | assumption | omega | (simp only [nx]; omega) | ((repeat refine Fresh.push ?_ _); assumption) | (simp only [smA]; done) | (simp [oneCell, AW.next_push]; done) | fail) only [go_sem, Nat.reduceEqDiff, reduceIte, Nat.reduceAdd, Int.toNat_natCast, Nat.add_zero, Owes_true, e6, hN]; try rfl), by (simp -dsimp -implicitDefEqProofs (maxSteps := 2000000) (disch := first | assumption | omega | (simp only [nx]; omega) | ((repeat refine Fresh.push ?_ _); assumption) | (simp only [smA]; done) | (simp [oneCell, AW.next_push]; done) | fail) only [go_sem, Nat.reduceEqDiff, reduceIte, Nat.reduceAdd, Int.toNat_natCast, Nat.add_zero, Owes_true, e7, hN]; try rfl), by (simp -dsimp -implicitDefEqProofs (maxSteps := 2000000) (disch := first | assumption | omega | (simp only [nx]; omega) | ((repeat refine Fresh.push ?_ _); assumption) | (simp only [smA]; done) | (simp [oneCell, AW.next_push]; done) | fail) only [go_sem, Nat.reduceEqDiff, reduceIte, Nat.reduceAdd, Int.toNat_natCast, Nat.add_zero, Owes_true, e8, hN]; try rfl), rfl⟩
  obtain rfl : j = s.gates.length := by omega
  have hF3 : (chk2 s && allTo (gateB s.rooms.length) s.gates s.gates.length) = chk3 s := by rw [allTo_all]; rfl
  rw [hF3] at e3
  simp -dsimp -implicitDefEqProofs (maxSteps := 2000000) (disch := first | assumption | omega | (simp only [nx]; omega) | ((repeat refine Fresh.push ?_ _); assumption) | (simp only [smA]; done) | (simp [oneCell, AW.next_push]; done) | fail) only [go_sem, Nat.reduceEqDiff, reduceIte, Nat.reduceAdd, Int.toNat_natCast, Nat.add_zero, Owes_true, Tryz.results18, e1, e3, e6, hlj, c1, Nat.zero_add]
  refine loopR (fun k t ds w4 => ∃ n : Nat, n ≤ s.staff.length ∧ k = s.staff.length - n ∧ ds = [] ∧ ev t (.tmp 1) = .pointer (some ⟨w.next, 0, none⟩) ∧ ev t (.tmp 3) = .bool (chk3 s && allTo (setB 8) s.staff n) ∧ ev t (.tmp 9) = .int .i64 (n : Int) ∧ w3 = w4) (s.staff.length) ?_ ?_
  · refine ⟨0, by omega, by omega, rfl, ?_, ?_, ?_, rfl⟩ <;> simp -dsimp -implicitDefEqProofs (maxSteps := 2000000) (disch := first | assumption | omega | (simp only [nx]; omega) | ((repeat refine Fresh.push ?_ _); assumption) | (simp only [smA]; done) | (simp [oneCell, AW.next_push]; done) | fail) only [go_sem, Nat.reduceEqDiff, reduceIte, Nat.reduceAdd, Int.toNat_natCast, Nat.add_zero, Owes_true, e1, e3, hz3, Bool.and_true] <;> rfl
  rintro k t ds w4 ⟨n, hin, rfl, rfl, e1, e3, e9, hw⟩
  subst hw
  by_cases hln : (n : Int) < (s.staff.length : Int)
  case neg =>
    obtain rfl : n = s.staff.length := by omega
    rw [allTo_all, chk_all] at e3
    have fin : ∀ b, strB s = b → strE s = if b then 0 else 40 := fun b h => by unfold strE; rw [h]
    cases hB : strB s with
    | false =>
      rw [fin false hB]
      simp -dsimp -implicitDefEqProofs (maxSteps := 2000000) (disch := first | assumption | omega | (simp only [nx]; omega) | ((repeat refine Fresh.push ?_ _); assumption) | (simp only [smA]; done) | (simp [oneCell, AW.next_push]; done) | fail) only [go_sem, Nat.reduceEqDiff, reduceIte, Nat.reduceAdd, Int.toNat_natCast, Nat.add_zero, Owes_true, Tryz.results18, e1, e3, e9, hln, c2, hB, Nat.zero_add]
      exact ⟨rfl, g1.trans gW3⟩
    | true =>
      rw [fin true hB]
      simp -dsimp -implicitDefEqProofs (maxSteps := 2000000) (disch := first | assumption | omega | (simp only [nx]; omega) | ((repeat refine Fresh.push ?_ _); assumption) | (simp only [smA]; done) | (simp [oneCell, AW.next_push]; done) | fail) only [go_sem, Nat.reduceEqDiff, reduceIte, Nat.reduceAdd, Int.toNat_natCast, Nat.add_zero, Owes_true, Tryz.results18, e1, e3, e9, hln, c2, hB, Nat.zero_add]
      exact ⟨rfl, g1.trans gW3⟩
  have hln' : n < s.staff.length := by omega
  have hsm := allTo_succ (b := setB 8) hln'
  obtain ⟨_, _, ex, _, _, hat⟩ := (hA1.staff.kept k3).open
  injection ex with ex1 ex2 ex3
  subst ex1 ex3
  obtain ⟨b6, o6, rfl, _, hcell⟩ := hat n hln'
  have a0 := hcell w3 (.refl _ _) 0 _ rfl
  rw [Nat.add_zero] at a0
  rw [setB_8] at hsm
  have hfm : ∀ b, b = (chk3 s && allTo (setB 8) s.staff n) → (chk3 s && allTo (setB 8) s.staff (n + 1)) = (b && inR 0 s.staff[n] 255) := fun b h => by rw [hsm, h, Bool.and_assoc]
  cases hF : (chk3 s && allTo (setB 8) s.staff n) with
  | false =>
    have hN := hfm false hF.symm
    rw [Bool.false_and] at hN
    simp -dsimp -implicitDefEqProofs (maxSteps := 2000000) (disch := first | assumption | omega | (simp only [nx]; omega) | ((repeat refine Fresh.push ?_ _); assumption) | (simp only [smA]; done) | (simp [oneCell, AW.next_push]; done) | fail) only [go_sem, Nat.reduceEqDiff, reduceIte, Nat.reduceAdd, Int.toNat_natCast, Nat.add_zero, Owes_true, Tryz.results18, e1, e3, e9, hF, hln, c2, Nat.zero_add]
    refine ⟨_, by omega, n + 1, by omega, rfl, rfl, by (simp -dsimp -implicitDefEqProofs (maxSteps := 2000000) (disch := first | assumption | omega | (simp only [nx]; omega) | ((repeat refine Fresh.push ?_ _); assumption) | (simp only [smA]; done) | (simp [oneCell, AW.next_push]; done) | fail) only [go_sem, Nat.reduceEqDiff, reduceIte, Nat.reduceAdd, Int.toNat_natCast, Nat.add_zero, Owes_true, e1, hN]; try rfl), by (simp -dsimp -implicitDefEqProofs (maxSteps := 2000000) (disch := first | assumption | omega | (simp only [nx]; omega) | ((repeat refine Fresh.push ?_ _); assumption) | (simp only [smA]; done) | (simp [oneCell, AW.next_push]; done) | fail) only [go_sem, Nat.reduceEqDiff, reduceIte, Nat.reduceAdd, Int.toNat_natCast, Nat.add_zero, Owes_true, e3, hN]; try rfl), by (simp -dsimp -implicitDefEqProofs (maxSteps := 2000000) (disch := first | assumption | omega | (simp only [nx]; omega) | ((repeat refine Fresh.push ?_ _); assumption) | (simp only [smA]; done) | (simp [oneCell, AW.next_push]; done) | fail) only [go_sem, Nat.reduceEqDiff, reduceIte, Nat.reduceAdd, Int.toNat_natCast, Nat.add_zero, Owes_true, e9, hN]; try rfl), rfl⟩
  | true =>
    have hN := hfm true hF.symm
    rw [Bool.true_and] at hN
    simp -dsimp -implicitDefEqProofs (maxSteps := 2000000) (disch := first | assumption | omega | (simp only [nx]; omega) | ((repeat refine Fresh.push ?_ _); assumption) | (simp only [smA]; done) | (simp [oneCell, AW.next_push]; done) | fail) only [go_sem, Nat.reduceEqDiff, reduceIte, Nat.reduceAdd, Int.toNat_natCast, Nat.add_zero, Owes_true, Tryz.results18, e1, e3, e9, hF, hln, c2, indexV_eq, a0, Nat.zero_add]
    apply callV_of (e := rfl)
    · exact From_ok _ _ _ w3
    rintro _ _ ⟨rfl, rfl⟩
    simp -dsimp -implicitDefEqProofs (maxSteps := 2000000) (disch := first | assumption | omega | (simp only [nx]; omega) | ((repeat refine Fresh.push ?_ _); assumption) | (simp only [smA]; done) | (simp [oneCell, AW.next_push]; done) | fail) only [go_sem, Nat.reduceEqDiff, reduceIte, Nat.reduceAdd, Int.toNat_natCast, Nat.add_zero, Owes_true, Tryz.results18, e1, e3, e9]
    refine ⟨_, by omega, n + 1, by omega, rfl, rfl, by (simp -dsimp -implicitDefEqProofs (maxSteps := 2000000) (disch := first | assumption | omega | (simp only [nx]; omega) | ((repeat refine Fresh.push ?_ _); assumption) | (simp only [smA]; done) | (simp [oneCell, AW.next_push]; done) | fail) only [go_sem, Nat.reduceEqDiff, reduceIte, Nat.reduceAdd, Int.toNat_natCast, Nat.add_zero, Owes_true, e1, hN]; try rfl), by (simp -dsimp -implicitDefEqProofs (maxSteps := 2000000) (disch := first | assumption | omega | (simp only [nx]; omega) | ((repeat refine Fresh.push ?_ _); assumption) | (simp only [smA]; done) | (simp [oneCell, AW.next_push]; done) | fail) only [go_sem, Nat.reduceEqDiff, reduceIte, Nat.reduceAdd, Int.toNat_natCast, Nat.add_zero, Owes_true, e3, hN]; try rfl), by (simp -dsimp -implicitDefEqProofs (maxSteps := 2000000) (disch := first | assumption | omega | (simp only [nx]; omega) | ((repeat refine Fresh.push ?_ _); assumption) | (simp only [smA]; done) | (simp [oneCell, AW.next_push]; done) | fail) only [go_sem, Nat.reduceEqDiff, reduceIte, Nat.reduceAdd, Int.toNat_natCast, Nat.add_zero, Owes_true, e9, hN]; try rfl), rfl⟩
end Go.Proofs

namespace Go.Proofs
open Go Go.RowKit Go.Sim
set_option maxRecDepth 100000
def askN (s : StrN) (x : Int) : Int := if strB s = true then (if setB s.staff.length x = true then 0 else 41) else 40
theorem askN_ok {s : StrN} {x : Int} (h : askN s x = 0) : strB s = true ∧ ∃ g : Nat, x = (g : Int) ∧ g < 64 ∧ g < 2 ^ s.staff.length ∧ ∀ k, g.testBit k = true → k < s.staff.length := by
  unfold askN at h
  split at h
  case isFalse => cases h
  rename_i hs
  split at h
  case isFalse => cases h
  rename_i hx
  refine ⟨hs, ?_⟩
  have hl := (str_staff hs).2.1
  unfold setB fullI at hx
  have := (inR_iff _ _ _).1 hx
  have hp : 2 ^ s.staff.length ≤ 64 := by
    have : ∀ n, n ≤ 6 → 2 ^ n ≤ 64 := by decide
    exact this _ hl
  refine ⟨x.toNat, by omega, by omega, by omega, fun k hk => bit_lt (n := s.staff.length) (x := x.toNat) (by omega) hk⟩
theorem shl_sub {n : Nat} (h : n ≤ 8) : IntKind.i64.wrap (((2 ^ n : Nat) : Int) - 1) = fullI n := by
  have := full_in h
  unfold fullI
  exact wrap64 (by omega) (by omega)
set_option maxHeartbeats 8000000 in
theorem asked_ok (s : StrN) (pR pG pS : Option Addr) (cR cG cS : Nat) (x : Int) (w : AW) (f : Fresh w) (hA : StrAt w pR pG pS cR cG cS s) (hb : (s.rooms.length : Int) ≤ 140737488355328) :
    CallT Tryz.prog Tryz.T1 (.fn (.func 49) #[]) #[.agg (strC pR pG pS cR cG cS s).toArray, .int .i64 x] w (Ret (.int .i64 (askN s x)) (Grown w)) := by
  have g1 := (Grown.refl f).push (.cells (strC pR pG pS cR cG cS s) 26 w.next 0 0)
  have O1 := Own.new f 26 (strC pR pG pS cR cG cS s)
  have hl1 := loadAll O1 (n := 3) rfl (by simp [strC, oneCell])
  have hch := fun w' (g' : Grown w w') => CheckR_ok s pR pG pS cR cG cS w' g'.2 (hA.grown g') hb
  have hak : askN s x = if strB s = true then (if setB s.staff.length x = true then 0 else 41) else 40 := rfl
  unfold strC at *
  refine callT_code rfl Tryz.func49 rfl Tryz.s49_eq rfl ?_
  unfold Tryz.s49
  simp -dsimp -implicitDefEqProofs (maxSteps := 2000000) (disch := first | assumption | omega | (simp only [nx]; omega) | ((repeat refine Fresh.push ?_ _); assumption) | (simp only [smA]; done) | (simp [oneCell, AW.next_push]; done) | fail) only [go_sem, Nat.reduceEqDiff, reduceIte, Nat.reduceAdd, Int.toNat_natCast, Nat.add_zero, Owes_true, Tryz.results49, hl1]
  generalize w.push (.cells [.slice pR s.rooms.length cR, .slice pG s.gates.length cG, .slice pS s.staff.length cS] 26 w.next 0 0) = w1 at *
  apply callV_of (e := rfl)
  · exact hch w1 g1
  rintro _ w2 ⟨rfl, g2⟩
  have gg2 := g1.trans g2
  have O2 := O1.keep g2.1
  have c2 := O2.cell (o := 2) (v := .slice pS s.staff.length cS) rfl rfl
  cases hs : strB s with
  | false =>
    rw [hs, if_neg (by intro z; cases z)] at hak
    have hE : strE s = 40 := by unfold strE; rw [hs]; rfl
    have h40 : ¬ (40 : Int) = 0 := by omega
    simp -dsimp -implicitDefEqProofs (maxSteps := 2000000) (disch := first | assumption | omega | (simp only [nx]; omega) | ((repeat refine Fresh.push ?_ _); assumption) | (simp only [smA]; done) | (simp [oneCell, AW.next_push]; done) | fail) only [go_sem, Nat.reduceEqDiff, reduceIte, Nat.reduceAdd, Int.toNat_natCast, Nat.add_zero, Owes_true, Tryz.results49, hE, h40]
    exact ⟨by rw [hak], gg2⟩
  | true =>
  rw [hs, if_pos rfl] at hak
  have hE : strE s = 0 := by unfold strE; rw [hs]; rfl
  have hsl := (str_staff hs).2.1
  have hsh := full_shl (n := s.staff.length) (by omega)
  have hsu := shl_sub (n := s.staff.length) (by omega)
  have h0 : ¬ (s.staff.length : Int) < 0 := by omega
  have hsB : setB s.staff.length x = inR 0 x (fullI s.staff.length) := rfl
  rw [hsB] at hak
  generalize ((2 ^ s.staff.length : Nat) : Int) = N at *
  simp -dsimp -implicitDefEqProofs (maxSteps := 2000000) (disch := first | assumption | omega | (simp only [nx]; omega) | ((repeat refine Fresh.push ?_ _); assumption) | (simp only [smA]; done) | (simp [oneCell, AW.next_push]; done) | fail) only [go_sem, Nat.reduceEqDiff, reduceIte, Nat.reduceAdd, Int.toNat_natCast, Nat.add_zero, Owes_true, Tryz.results49, hE, c2, h0, hsh, hsu, Nat.zero_add]
  apply callV_of (e := rfl)
  · exact From_ok _ _ _ w2
  rintro _ _ ⟨rfl, rfl⟩
  cases hx : inR 0 x (fullI s.staff.length) with
  | false =>
    rw [hx, if_neg (by intro z; cases z)] at hak
    simp -dsimp -implicitDefEqProofs (maxSteps := 2000000) (disch := first | assumption | omega | (simp only [nx]; omega) | ((repeat refine Fresh.push ?_ _); assumption) | (simp only [smA]; done) | (simp [oneCell, AW.next_push]; done) | fail) only [go_sem, Nat.reduceEqDiff, reduceIte, Nat.reduceAdd, Int.toNat_natCast, Nat.add_zero, Owes_true, Tryz.results49, hx]
    exact ⟨by rw [hak], gg2⟩
  | true =>
    rw [hx, if_pos rfl] at hak
    simp -dsimp -implicitDefEqProofs (maxSteps := 2000000) (disch := first | assumption | omega | (simp only [nx]; omega) | ((repeat refine Fresh.push ?_ _); assumption) | (simp only [smA]; done) | (simp [oneCell, AW.next_push]; done) | fail) only [go_sem, Nat.reduceEqDiff, reduceIte, Nat.reduceAdd, Int.toNat_natCast, Nat.add_zero, Owes_true, Tryz.results49, hx]
    exact ⟨by rw [hak], gg2⟩
def entN (s : StrN) (x : Int) : Int := if askN s x = 0 then (endR s x.toNat 1 : Int) else 0
set_option maxHeartbeats 8000000 in
theorem EnterR_ok (s : StrN) (pR pG pS : Option Addr) (cR cG cS : Nat) (x : Int) (w : AW) (f : Fresh w) (hA : StrAt w pR pG pS cR cG cS s) (hb : (s.rooms.length : Int) ≤ 140737488355328) :
    CallT Tryz.prog Tryz.T1 (.fn (.func 16) #[]) #[.agg (strC pR pG pS cR cG cS s).toArray, .int .i64 x] w (Ret (.tuple #[.int .i64 (entN s x), .int .i64 (askN s x)]) (Grown w)) := by
  have g1 := (Grown.refl f).push (.cells (strC pR pG pS cR cG cS s) 26 w.next 0 0)
  have O1 := Own.new f 26 (strC pR pG pS cR cG cS s)
  have hl1 := loadAll O1 (n := 3) rfl (by simp [strC, oneCell])
  have has := fun w' (g' : Grown w w') => asked_ok s pR pG pS cR cG cS x w' g'.2 (hA.grown g') hb
  have hen : ∀ g : Nat, strB s = true → g < 64 → (∀ k, g.testBit k = true → k < s.staff.length) → ∀ w', Grown w w' → _ := fun g hs hg hgb w' g' => enter_ok hs (g := g) hg hgb w' g'.2 (hA.grown g')
  unfold strC at *
  refine callT_code rfl Tryz.func16 rfl Tryz.s16_eq rfl ?_
  unfold Tryz.s16
  simp -dsimp -implicitDefEqProofs (maxSteps := 2000000) (disch := first | assumption | omega | (simp only [nx]; omega) | ((repeat refine Fresh.push ?_ _); assumption) | (simp only [smA]; done) | (simp [oneCell, AW.next_push]; done) | fail) only [go_sem, Nat.reduceEqDiff, reduceIte, Nat.reduceAdd, Int.toNat_natCast, Nat.add_zero, Owes_true, Tryz.results16, hl1]
  generalize w.push (.cells [.slice pR s.rooms.length cR, .slice pG s.gates.length cG, .slice pS s.staff.length cS] 26 w.next 0 0) = w1 at *
  apply callV_of (e := rfl)
  · exact has w1 g1
  rintro _ w2 ⟨rfl, g2⟩
  have gg2 := g1.trans g2
  have O2 := O1.keep g2.1
  have hl2 := loadAll O2 (n := 3) rfl (by simp [oneCell])
  by_cases h : askN s x = 0
  case neg =>
    have hE : entN s x = 0 := by unfold entN; rw [if_neg h]
    simp -dsimp -implicitDefEqProofs (maxSteps := 2000000) (disch := first | assumption | omega | (simp only [nx]; omega) | ((repeat refine Fresh.push ?_ _); assumption) | (simp only [smA]; done) | (simp [oneCell, AW.next_push]; done) | fail) only [go_sem, Nat.reduceEqDiff, reduceIte, Nat.reduceAdd, Int.toNat_natCast, Nat.add_zero, Owes_true, Tryz.results16, h]
    exact ⟨by rw [hE], gg2⟩
  obtain ⟨hs, g, rfl, hg, _, hgb⟩ := askN_ok h
  have hE : entN s (g : Int) = (endR s g 1 : Int) := by unfold entN; rw [if_pos h]; rfl
  rw [hE, h]
  simp -dsimp -implicitDefEqProofs (maxSteps := 2000000) (disch := first | assumption | omega | (simp only [nx]; omega) | ((repeat refine Fresh.push ?_ _); assumption) | (simp only [smA]; done) | (simp [oneCell, AW.next_push]; done) | fail) only [go_sem, Nat.reduceEqDiff, reduceIte, Nat.reduceAdd, Int.toNat_natCast, Nat.add_zero, Owes_true, Tryz.results16, h, hl2]
  apply callV_of (e := rfl)
  · exact hen g hs hg hgb w2 gg2
  rintro _ w3 ⟨rfl, g3⟩
  simp -dsimp -implicitDefEqProofs (maxSteps := 2000000) (disch := first | assumption | omega | (simp only [nx]; omega) | ((repeat refine Fresh.push ?_ _); assumption) | (simp only [smA]; done) | (simp [oneCell, AW.next_push]; done) | fail) only [go_sem, Nat.reduceEqDiff, reduceIte, Nat.reduceAdd, Int.toNat_natCast, Nat.add_zero, Owes_true, Tryz.results16]
  exact ⟨rfl, gg2.trans g3⟩
def cloB (s : StrN) (x y : Int) : Bool := if askN s x = 0 then (if setB s.rooms.length y = true then (y.toNat.testBit 0 && s.gates.all fun gt => !stepB s x.toNat y.toNat gt) else false) else false
def cloE (s : StrN) (x y : Int) : Int := if askN s x = 0 then (if setB s.rooms.length y = true then 0 else 7) else askN s x
theorem setB_nat {n : Nat} {y : Int} (hn : n ≤ 6) (h : setB n y = true) : ∃ r : Nat, y = (r : Int) ∧ r < 64 ∧ ∀ k, r.testBit k = true → k < n := by
  unfold setB fullI at h
  have := (inR_iff _ _ _).1 h
  have hp : 2 ^ n ≤ 64 := by
    have : ∀ n, n ≤ 6 → 2 ^ n ≤ 64 := by decide
    exact this _ hn
  exact ⟨y.toNat, by omega, by omega, fun k hk => bit_lt (n := n) (x := y.toNat) (by omega) hk⟩
set_option maxHeartbeats 16000000 in
theorem ClosedR_ok (s : StrN) (pR pG pS : Option Addr) (cR cG cS : Nat) (x y : Int) (w : AW) (f : Fresh w) (hA : StrAt w pR pG pS cR cG cS s) (hb : (s.rooms.length : Int) ≤ 140737488355328) :
    CallT Tryz.prog Tryz.T1 (.fn (.func 20) #[]) #[.agg (strC pR pG pS cR cG cS s).toArray, .int .i64 x, .int .i64 y] w (Ret (.tuple #[.bool (cloB s x y), .int .i64 (cloE s x y)]) (Grown w)) := by
  have g1 := (Grown.refl f).push (.cells (strC pR pG pS cR cG cS s) 26 w.next 0 0)
  have O1 := Own.new f 26 (strC pR pG pS cR cG cS s)
  have hl1 := loadAll O1 (n := 3) rfl (by simp [strC, oneCell])
  have has := fun w' (g' : Grown w w') => asked_ok s pR pG pS cR cG cS x w' g'.2 (hA.grown g') hb
  have hld : ∀ g r : Nat, strB s = true → g < 64 → r < 64 → (∀ k, g.testBit k = true → k < s.staff.length) → (∀ k, r.testBit k = true → k < s.rooms.length) → ∀ i (hi : i < s.gates.length), ∀ w', Grown w w' → _ := fun g r hs hg hr hgb hrb i hi w' g' => leads_ok hs (g := g) (r := r) hg hr hgb hrb i hi w' g'.2 (hA.grown g')
  have hcB : cloB s x y = if askN s x = 0 then (if setB s.rooms.length y = true then (y.toNat.testBit 0 && s.gates.all fun gt => !stepB s x.toNat y.toNat gt) else false) else false := rfl
  have hcE : cloE s x y = if askN s x = 0 then (if setB s.rooms.length y = true then 0 else 7) else askN s x := rfl
  unfold strC at *
  refine callT_code rfl Tryz.func20 rfl Tryz.s20_eq rfl ?_
  unfold Tryz.s20
  simp -dsimp -implicitDefEqProofs (maxSteps := 2000000) (disch := first | assumption | omega | (simp only [nx]; omega) | ((repeat refine Fresh.push ?_ _); assumption) | (simp only [smA]; done) | (simp [oneCell, AW.next_push]; done) | fail) only [go_sem, Nat.reduceEqDiff, reduceIte, Nat.reduceAdd, Int.toNat_natCast, Nat.add_zero, Owes_true, Tryz.results20, hl1]
  generalize w.push (.cells [.slice pR s.rooms.length cR, .slice pG s.gates.length cG, .slice pS s.staff.length cS] 26 w.next 0 0) = w1 at *
  apply callV_of (e := rfl)
  · exact has w1 g1
  rintro _ w2 ⟨rfl, g2⟩
  have gg2 := g1.trans g2
  have O2 := O1.keep g2.1
  have c0 := O2.cell (o := 0) (v := .slice pR s.rooms.length cR) rfl rfl
  by_cases h : askN s x = 0
  case neg =>
    rw [if_neg h] at hcB hcE
    simp -dsimp -implicitDefEqProofs (maxSteps := 2000000) (disch := first | assumption | omega | (simp only [nx]; omega) | ((repeat refine Fresh.push ?_ _); assumption) | (simp only [smA]; done) | (simp [oneCell, AW.next_push]; done) | fail) only [go_sem, Nat.reduceEqDiff, reduceIte, Nat.reduceAdd, Int.toNat_natCast, Nat.add_zero, Owes_true, Tryz.results20, h]
    exact ⟨by rw [hcB, hcE], gg2⟩
  rw [if_pos h] at hcB hcE
  obtain ⟨hs, g, rfl, hg, _, hgb⟩ := askN_ok h
  have hrl := (str_rooms hs).2
  have hsh := full_shl (n := s.rooms.length) (by omega)
  have hsu := shl_sub (n := s.rooms.length) (by omega)
  have h0 : ¬ (s.rooms.length : Int) < 0 := by omega
  have hyn := fun hh => setB_nat (n := s.rooms.length) (y := y) hrl hh
  have hsB : setB s.rooms.length y = inR 0 y (fullI s.rooms.length) := rfl
  rw [hsB] at hcB hcE hyn
  generalize ((2 ^ s.rooms.length : Nat) : Int) = N at *
  simp -dsimp -implicitDefEqProofs (maxSteps := 2000000) (disch := first | assumption | omega | (simp only [nx]; omega) | ((repeat refine Fresh.push ?_ _); assumption) | (simp only [smA]; done) | (simp [oneCell, AW.next_push]; done) | fail) only [go_sem, Nat.reduceEqDiff, reduceIte, Nat.reduceAdd, Int.toNat_natCast, Nat.add_zero, Owes_true, Tryz.results20, h, c0, h0, hsh, hsu, Nat.zero_add]
  apply callV_of (e := rfl)
  · exact From_ok _ _ _ w2
  rintro _ _ ⟨rfl, rfl⟩
  cases hx : inR 0 y (fullI s.rooms.length) with
  | false =>
    rw [hx, if_neg (by intro z; cases z)] at hcB hcE
    simp -dsimp -implicitDefEqProofs (maxSteps := 2000000) (disch := first | assumption | omega | (simp only [nx]; omega) | ((repeat refine Fresh.push ?_ _); assumption) | (simp only [smA]; done) | (simp [oneCell, AW.next_push]; done) | fail) only [go_sem, Nat.reduceEqDiff, reduceIte, Nat.reduceAdd, Int.toNat_natCast, Nat.add_zero, Owes_true, Tryz.results20, hx]
    exact ⟨by rw [hcB, hcE], gg2⟩
  | true =>
  rw [hx, if_pos rfl] at hcB hcE
  obtain ⟨r, rfl, hr, hrb⟩ := hyn hx
  rw [show ((r : Int)).toNat = r from rfl, show ((g : Int)).toNat = g from rfl] at hcB
  rw [hcE, hcB]
  have hbt := Bit_ok r 0 (by omega) (by omega) w2
  rw [show ((0 : Nat) : Int) = 0 from rfl] at hbt
  have hz := allTo_zero (fun gt => !stepB s g r gt) s.gates
  simp -dsimp -implicitDefEqProofs (maxSteps := 2000000) (disch := first | assumption | omega | (simp only [nx]; omega) | ((repeat refine Fresh.push ?_ _); assumption) | (simp only [smA]; done) | (simp [oneCell, AW.next_push]; done) | fail) only [go_sem, Nat.reduceEqDiff, reduceIte, Nat.reduceAdd, Int.toNat_natCast, Nat.add_zero, Owes_true, Tryz.results20, hx]
  apply callV_of (e := rfl)
  · exact hbt
  rintro _ _ ⟨rfl, rfl⟩
  simp -dsimp -implicitDefEqProofs (maxSteps := 2000000) (disch := first | assumption | omega | (simp only [nx]; omega) | ((repeat refine Fresh.push ?_ _); assumption) | (simp only [smA]; done) | (simp [oneCell, AW.next_push]; done) | fail) only [go_sem, Nat.reduceEqDiff, reduceIte, Nat.reduceAdd, Int.toNat_natCast, Nat.add_zero, Owes_true, Tryz.results20]
  refine loopR (fun k t ds w3 => ∃ i : Nat, i ≤ s.gates.length ∧ k = s.gates.length - i ∧ ds = [] ∧ ev t (.tmp 1) = .int .i64 (g : Int) ∧ ev t (.tmp 2) = .int .i64 (r : Int) ∧ ev t (.tmp 3) = .pointer (some ⟨w.next, 0, none⟩) ∧ ev t (.tmp 9) = .bool (r.testBit 0 && allTo (fun gt => !stepB s g r gt) s.gates i) ∧ ev t (.tmp 10) = .int .i64 (i : Int) ∧ Keep w2.next w2 w3 ∧ Fresh w3) (s.gates.length) ?_ ?_
  · refine ⟨0, by omega, by omega, rfl, ?_, ?_, ?_, ?_, ?_, .refl _ _, gg2.2⟩ <;> simp -dsimp -implicitDefEqProofs (maxSteps := 2000000) (disch := first | assumption | omega | (simp only [nx]; omega) | ((repeat refine Fresh.push ?_ _); assumption) | (simp only [smA]; done) | (simp [oneCell, AW.next_push]; done) | fail) only [go_sem, Nat.reduceEqDiff, reduceIte, Nat.reduceAdd, Int.toNat_natCast, Nat.add_zero, Owes_true, hz, Bool.and_true] <;> rfl
  rintro k t ds w3 ⟨i, hii, rfl, rfl, e1, e2, e3, e9, e10, k3, f3⟩
  have gW3 : Grown w2 w3 := ⟨k3, f3⟩
  have gg3 := gg2.trans gW3
  have O3 := O2.keep k3
  have c1 := O3.cell (o := 1) (v := .slice pG s.gates.length cG) rfl rfl
  have hl3 := loadAll O3 (n := 3) rfl (by simp [oneCell])
  have hgl := (str_gates hs).1
  by_cases hlt : (i : Int) < (s.gates.length : Int)
  case neg =>
    obtain rfl : i = s.gates.length := by omega
    rw [allTo_all] at e9
    simp -dsimp -implicitDefEqProofs (maxSteps := 2000000) (disch := first | assumption | omega | (simp only [nx]; omega) | ((repeat refine Fresh.push ?_ _); assumption) | (simp only [smA]; done) | (simp [oneCell, AW.next_push]; done) | fail) only [go_sem, Nat.reduceEqDiff, reduceIte, Nat.reduceAdd, Int.toNat_natCast, Nat.add_zero, Owes_true, Tryz.results20, e1, e2, e3, e9, e10, hlt, c1, Nat.zero_add]
    exact ⟨rfl, gg3⟩
  have hlt' : i < s.gates.length := by omega
  have hsm := allTo_succ (b := fun gt => !stepB s g r gt) hlt'
  have hfm : ∀ b, b = (r.testBit 0 && allTo (fun gt => !stepB s g r gt) s.gates i) → (r.testBit 0 && allTo (fun gt => !stepB s g r gt) s.gates (i + 1)) = (b && !stepB s g r s.gates[i]) := fun b h => by rw [hsm, h, Bool.and_assoc]
  cases hF : (r.testBit 0 && allTo (fun gt => !stepB s g r gt) s.gates i) with
  | false =>
    have hN := hfm false hF.symm
    rw [Bool.false_and] at hN
    simp -dsimp -implicitDefEqProofs (maxSteps := 2000000) (disch := first | assumption | omega | (simp only [nx]; omega) | ((repeat refine Fresh.push ?_ _); assumption) | (simp only [smA]; done) | (simp [oneCell, AW.next_push]; done) | fail) only [go_sem, Nat.reduceEqDiff, reduceIte, Nat.reduceAdd, Int.toNat_natCast, Nat.add_zero, Owes_true, Tryz.results20, e1, e2, e3, e9, e10, hF, hlt, c1, Nat.zero_add]
    refine ⟨_, by omega, i + 1, by omega, rfl, rfl, by (simp -dsimp -implicitDefEqProofs (maxSteps := 2000000) (disch := first | assumption | omega | (simp only [nx]; omega) | ((repeat refine Fresh.push ?_ _); assumption) | (simp only [smA]; done) | (simp [oneCell, AW.next_push]; done) | fail) only [go_sem, Nat.reduceEqDiff, reduceIte, Nat.reduceAdd, Int.toNat_natCast, Nat.add_zero, Owes_true, e1, hN]; try rfl), by (simp -dsimp -implicitDefEqProofs (maxSteps := 2000000) (disch := first | assumption | omega | (simp only [nx]; omega) | ((repeat refine Fresh.push ?_ _); assumption) | (simp only [smA]; done) | (simp [oneCell, AW.next_push]; done) | fail) only [go_sem, Nat.reduceEqDiff, reduceIte, Nat.reduceAdd, Int.toNat_natCast, Nat.add_zero, Owes_true, e2, hN]; try rfl), by (simp -dsimp -implicitDefEqProofs (maxSteps := 2000000) (disch := first | assumption | omega | (simp only [nx]; omega) | ((repeat refine Fresh.push ?_ _); assumption) | (simp only [smA]; done) | (simp [oneCell, AW.next_push]; done) | fail) only [go_sem, Nat.reduceEqDiff, reduceIte, Nat.reduceAdd, Int.toNat_natCast, Nat.add_zero, Owes_true, e3, hN]; try rfl), by (simp -dsimp -implicitDefEqProofs (maxSteps := 2000000) (disch := first | assumption | omega | (simp only [nx]; omega) | ((repeat refine Fresh.push ?_ _); assumption) | (simp only [smA]; done) | (simp [oneCell, AW.next_push]; done) | fail) only [go_sem, Nat.reduceEqDiff, reduceIte, Nat.reduceAdd, Int.toNat_natCast, Nat.add_zero, Owes_true, e9, hN]; try rfl), by (simp -dsimp -implicitDefEqProofs (maxSteps := 2000000) (disch := first | assumption | omega | (simp only [nx]; omega) | ((repeat refine Fresh.push ?_ _); assumption) | (simp only [smA]; done) | (simp [oneCell, AW.next_push]; done) | fail) only [go_sem, Nat.reduceEqDiff, reduceIte, Nat.reduceAdd, Int.toNat_natCast, Nat.add_zero, Owes_true, e10, hN]; try rfl), k3, f3⟩
  | true =>
    have hN := hfm true hF.symm
    rw [Bool.true_and] at hN
    simp -dsimp -implicitDefEqProofs (maxSteps := 2000000) (disch := first | assumption | omega | (simp only [nx]; omega) | ((repeat refine Fresh.push ?_ _); assumption) | (simp only [smA]; done) | (simp [oneCell, AW.next_push]; done) | fail) only [go_sem, Nat.reduceEqDiff, reduceIte, Nat.reduceAdd, Int.toNat_natCast, Nat.add_zero, Owes_true, Tryz.results20, e1, e2, e3, e9, e10, hF, hlt, c1, hl3, Nat.zero_add]
    apply callV_of (e := rfl)
    · exact hld g r hs hg hr hgb hrb i hlt' w3 gg3
    rintro _ w4 ⟨rfl, g4⟩
    simp -dsimp -implicitDefEqProofs (maxSteps := 2000000) (disch := first | assumption | omega | (simp only [nx]; omega) | ((repeat refine Fresh.push ?_ _); assumption) | (simp only [smA]; done) | (simp [oneCell, AW.next_push]; done) | fail) only [go_sem, Nat.reduceEqDiff, reduceIte, Nat.reduceAdd, Int.toNat_natCast, Nat.add_zero, Owes_true, Tryz.results20, e1, e2, e3, e9, e10]
    refine ⟨_, by omega, i + 1, by omega, rfl, rfl, by (simp -dsimp -implicitDefEqProofs (maxSteps := 2000000) (disch := first | assumption | omega | (simp only [nx]; omega) | ((repeat refine Fresh.push ?_ _); assumption) | (simp only [smA]; done) | (simp [oneCell, AW.next_push]; done) | fail) only [go_sem, Nat.reduceEqDiff, reduceIte, Nat.reduceAdd, Int.toNat_natCast, Nat.add_zero, Owes_true, e1, hN]; try rfl), by (simp -dsimp -implicitDefEqProofs (maxSteps := 2000000) (disch := first | assumption | omega | (simp only [nx]; omega) | ((repeat refine Fresh.push ?_ _); assumption) | (simp only [smA]; done) | (simp [oneCell, AW.next_push]; done) | fail) only [go_sem, Nat.reduceEqDiff, reduceIte, Nat.reduceAdd, Int.toNat_natCast, Nat.add_zero, Owes_true, e2, hN]; try rfl), by (simp -dsimp -implicitDefEqProofs (maxSteps := 2000000) (disch := first | assumption | omega | (simp only [nx]; omega) | ((repeat refine Fresh.push ?_ _); assumption) | (simp only [smA]; done) | (simp [oneCell, AW.next_push]; done) | fail) only [go_sem, Nat.reduceEqDiff, reduceIte, Nat.reduceAdd, Int.toNat_natCast, Nat.add_zero, Owes_true, e3, hN]; try rfl), by (simp -dsimp -implicitDefEqProofs (maxSteps := 2000000) (disch := first | assumption | omega | (simp only [nx]; omega) | ((repeat refine Fresh.push ?_ _); assumption) | (simp only [smA]; done) | (simp [oneCell, AW.next_push]; done) | fail) only [go_sem, Nat.reduceEqDiff, reduceIte, Nat.reduceAdd, Int.toNat_natCast, Nat.add_zero, Owes_true, e9, hN]; try rfl), by (simp -dsimp -implicitDefEqProofs (maxSteps := 2000000) (disch := first | assumption | omega | (simp only [nx]; omega) | ((repeat refine Fresh.push ?_ _); assumption) | (simp only [smA]; done) | (simp [oneCell, AW.next_push]; done) | fail) only [go_sem, Nat.reduceEqDiff, reduceIte, Nat.reduceAdd, Int.toNat_natCast, Nat.add_zero, Owes_true, e10, hN]; try rfl), k3.trans (g4.1.mono k3.next), g4.2⟩
end Go.Proofs

namespace Go.Proofs
open Go Go.RowKit Go.Sim
set_option maxRecDepth 100000
noncomputable def Tryz.s56 : SC :=
 (.seq
  (.ops false [
    ⟨⟨(some 1), .box 80 (.tmp 0), 0, "", ⟨[]⟩, none⟩, none, false⟩,
    ⟨⟨(some 2), .alloc 4, 0, "", ⟨[]⟩, none⟩, none, false⟩])
  (.seq
   (.seq
    (.ops false [
      ⟨⟨(some 3), .load 80 (.tmp 1), 80, "", ⟨[]⟩, none⟩, none, false⟩,
      ⟨⟨(some 4), .call ⟨.value (.func 77), ⟨[(.tmp 3)]⟩, ⟨[80]⟩⟩, 121, "", ⟨[]⟩, none⟩, none, false⟩])
    (.block 0
     (.raw (.rangeFunc (.tmp 4) ⟨[5, 6]⟩ (codeA Tryz.f56) (codeB Tryz.f56)))))
   (.seq
    (.ops false [
      ⟨⟨none, .store 4 (.tmp 2) (.const (.bool true)), 0, "", ⟨[]⟩, none⟩, none, false⟩])
    .ret)))
def Tryz.ra56 : SC := .skip
def Tryz.rb56 : SC := (.block 1 (.seq (.ops false [⟨⟨none,.store 4 (.tmp 2) (.const (.bool false)),0,"",⟨[]⟩,none⟩,none,false⟩]) .ret))
theorem Tryz.s56_eq : Tryz.f56.body.map sOf = some Tryz.s56 := by kernel_rfl
end Go.Proofs

namespace Go.Proofs
open Go Go.RowKit Go.Sim
set_option maxRecDepth 100000
noncomputable abbrev lpO (s : LoopState) (pd : Option Code) (t : Tmps) (dm : Nat) : ALoop := ⟨s, pd, 56, t, #[5, 6], codeA Tryz.f56, codeB Tryz.f56, dm⟩
theorem Tryz.ra56_eq : sOf (codeA Tryz.f56) = Tryz.ra56 := by kernel_rfl
theorem Tryz.rb56_eq : sOf (codeB Tryz.f56) = Tryz.rb56 := by kernel_rfl
set_option maxHeartbeats 16000000 in
theorem yieldO_ok {B b2 dm lp : Nat} {w0 : AW} (t : Tmps) (e2 : ev t (.tmp 2) = .pointer (some ⟨b2, 0, none⟩)) (x y : Value) (w : AW) (f : Fresh w)
    (hl : w.blk lp = some (.loop (lpO .ready none t dm))) (O2 : Own w b2 4 [.bool false]) (hm : w.blk dm = some (.deferred (some []))) (hb : B ≤ b2 ∧ b2 < dm ∧ dm < lp ∧ lp < w.next) (k0 : Keep B w0 w) :
    CallT Tryz.prog Tryz.T1 (.fn (.yield lp) #[]) #[x, y] w (fun v w' => v = .bool false ∧ ∃ lv : ALoop, w'.blk lp = some (.loop lv) ∧ lv.state = .done ∧ lv.pending = some .ret ∧ Own w' b2 4 [.bool false] ∧ w'.blk dm = some (.deferred (some [])) ∧ Keep B w0 w' ∧ Fresh w' ∧ lp < w'.next) := by
  refine callT_yieldJ (lp := lpO .ready none t dm) hl rfl ?_
  show CodeT Tryz.prog Tryz.T1 { fn := 56, round := some lp } (codeA Tryz.f56) (putTmp (putTmp t (some 5) _) (some 6) _) [] w _
  refine codeR_codeT (x := .mk) _ ?_
  rw [Tryz.ra56_eq]
  unfold Tryz.ra56
  simp -dsimp -implicitDefEqProofs (maxSteps := 2000000) (disch := first | assumption | omega | (simp only [nx]; omega) | ((repeat refine Fresh.push ?_ _); assumption) | (simp only [smA]; done) | (simp [oneCell, AW.next_push]; done) | fail) only [go_sem, Nat.reduceEqDiff, reduceIte, Nat.reduceAdd, Int.toNat_natCast, Nat.add_zero, Owes_true]
  refine ⟨trivial, _, hl, rfl, ?_⟩
  refine codeR_codeT (x := .mk) _ ?_
  rw [Tryz.rb56_eq]
  unfold Tryz.rb56
  have m3 := MutS.put (S := fun j => j = lp) f rfl (by omega) (.loop (lpO .busy none t dm))
  have O23 := m3.own O2 (by omega)
  have hm3 := m3.blk dm (by omega) (by omega)
  rw [hm] at hm3
  have hl3 : (w.put lp (.loop (lpO .busy none t dm))).blk lp = some (.loop (lpO .busy none t dm)) := by rw [AW.blk_put _ _ _ _ (Trie.in_ _) (Trie.in_ _), if_pos rfl]
  have k3 : Keep B w0 (w.put lp (.loop (lpO .busy none t dm))) := k0.trans (m3.keep (fun j q => by omega) (by omega))
  have n3 : (w.put lp (.loop (lpO .busy none t dm))).next = w.next := AW.next_put _ _ _
  have f3 := m3.fresh
  generalize w.put lp (.loop (lpO .busy none t dm)) = w3 at *
  have st4 := storeV_own1 (o := 0) (v := .bool false) O23 (by simp) rfl
  simp only [setL] at st4
  have m5 := MutS.put (S := fun j => j = b2) f3 rfl O23.lt (.cells [.bool false] 4 b2 0 0)
  have O6 := O23.put [.bool false]
  have hl5 := m5.blk lp (by omega) (by omega)
  rw [hl3] at hl5
  have hm5 := m5.blk dm (by omega) (by omega)
  rw [hm3] at hm5
  have n5 : (w3.put b2 (.cells [.bool false] 4 b2 0 0)).next = w3.next := AW.next_put _ _ _
  have k5 : Keep B w0 _ := k3.trans (m5.keep (B := B) (fun j q => by omega) (by omega))
  have f5 := m5.fresh
  simp -dsimp -implicitDefEqProofs (maxSteps := 2000000) (disch := first | assumption | omega | (simp only [nx]; omega) | ((repeat refine Fresh.push ?_ _); assumption) | (simp only [smA]; done) | (simp [oneCell, AW.next_push]; done) | fail) only [go_sem, Nat.reduceEqDiff, reduceIte, Nat.reduceAdd, Int.toNat_natCast, Nat.add_zero, Owes_true, e2, st4]
  generalize w3.put b2 (.cells [.bool false] 4 b2 0 0) = w5 at *
  have m6 := MutS.put (S := fun j => j = lp) f5 rfl (by omega) (.loop (lpO .done (some .ret) t dm))
  have hm6 := m6.blk dm (by omega) (by omega)
  rw [hm5] at hm6
  refine ⟨trivial, _, hl5, .inr ⟨.ret, rfl, trivial, lpO .done (some .ret) t dm, by rw [AW.blk_put _ _ _ _ (Trie.in_ _) (Trie.in_ _), if_pos rfl], rfl, rfl, m6.own O6 (by omega), hm6, k5.trans (m6.keep (fun j q => by omega) (by omega)), m6.fresh, by omega⟩⟩
def PostO (w0 : AW) (B b2 dm lp : Nat) : Option (Nat × GateN) → AW → Prop
  | none, w' => (∃ lv : ALoop, w'.blk lp = some (.loop lv) ∧ lv.state = .ready ∧ lv.pending = none) ∧ Own w' b2 4 [.bool false] ∧ w'.blk dm = some (.deferred (some [])) ∧ Keep B w0 w' ∧ Fresh w' ∧ lp < w'.next
  | some _, w' => ∃ lv : ALoop, w'.blk lp = some (.loop lv) ∧ lv.state = .done ∧ lv.pending = some .ret ∧ Own w' b2 4 [.bool false] ∧ w'.blk dm = some (.deferred (some [])) ∧ Keep B w0 w' ∧ Fresh w' ∧ lp < w'.next
set_option maxHeartbeats 32000000 in
theorem isOver_ok {s : StrN} (hs : strB s = true) {pR pG pS : Option Addr} {cR cG cS : Nat} {g r : Nat} (hg : g < 64) (hr : r < 64) (hgb : ∀ k, g.testBit k = true → k < s.staff.length) (hrb : ∀ k, r.testBit k = true → k < s.rooms.length) (w : AW) (f : Fresh w) (hA : StrAt w pR pG pS cR cG cS s) :
    CallT Tryz.prog Tryz.T1 (.fn (.func 56) #[]) #[.agg (tourC pR pG pS cR cG cS s g r).toArray] w (Ret (.bool (firstG s g r s.gates 0).isNone) (Grown w)) := by
  have g1 := (Grown.refl f).push (.cells (tourC pR pG pS cR cG cS s g r) 80 w.next 0 0)
  have O1 := Own.new f 80 (tourC pR pG pS cR cG cS s g r)
  have g2 := g1.push (.cells [.bool false] 4 (w.next + 1) 0 0)
  have O2 := Own.new g1.2 4 [.bool false]
  rw [AW.next_push] at O2
  have O1' := O1.push (.cells [.bool false] 4 (w.next + 1) 0 0)
  have n2 : ((w.push (.cells (tourC pR pG pS cR cG cS s g r) 80 w.next 0 0)).push (.cells [.bool false] 4 (w.next + 1) 0 0)).next = w.next + 1 + 1 := by rw [AW.next_push, AW.next_push]
  have hl := loadAll O1' (n := 5) rfl (by simp [tourC, oneCell])
  have hmk := fun w' (f' : Fresh w') => steps_mk (tourC pR pG pS cR cG cS s g r) rfl (by simp [tourC, oneCell]) w' f'
  refine callT_code rfl Tryz.func56 rfl Tryz.s56_eq rfl ?_
  unfold Tryz.s56
  unfold tourC at hl hmk
  unfold tourC at g1 g2 O1 O1' O2 n2
  unfold tourC
  simp -dsimp -implicitDefEqProofs (maxSteps := 2000000) (disch := first | assumption | omega | (simp only [nx]; omega) | ((repeat refine Fresh.push ?_ _); assumption) | (simp only [smA]; done) | (simp [oneCell, AW.next_push]; done) | fail) only [go_sem, Nat.reduceEqDiff, reduceIte, Nat.reduceAdd, Int.toNat_natCast, Nat.add_zero, Owes_true, Tryz.results56, hl]
  generalize (w.push (.cells [.slice pR s.rooms.length cR, .slice pG s.gates.length cG, .slice pS s.staff.length cS, .int .i64 (g : Int), .int .i64 (r : Int)] 80 w.next 0 0)).push (.cells [.bool false] 4 (w.next + 1) 0 0) = w2 at *
  apply callV_of (e := rfl)
  · exact hmk w2 g2.2
  rintro _ w3 ⟨rfl, OX, g3, n3⟩
  have hle3 : WLe w2 w3 := g3.1.wle g2.2
  have gg3 := g2.trans g3
  simp -dsimp -implicitDefEqProofs (maxSteps := 2000000) (disch := first | assumption | omega | (simp only [nx]; omega) | ((repeat refine Fresh.push ?_ _); assumption) | (simp only [smA]; done) | (simp [oneCell, AW.next_push]; done) | fail) only [go_sem, Nat.reduceEqDiff, reduceIte, Nat.reduceAdd, Int.toNat_natCast, Nat.add_zero, Owes_true, Tryz.results56, hle3]
  refine codeT_rangeJ rfl (by simp -dsimp -implicitDefEqProofs (maxSteps := 2000000) (disch := first | assumption | omega | (simp only [nx]; omega) | ((repeat refine Fresh.push ?_ _); assumption) | (simp only [smA]; done) | (simp [oneCell, AW.next_push]; done) | fail) only [go_sem, Nat.reduceEqDiff, reduceIte, Nat.reduceAdd, Int.toNat_natCast, Nat.add_zero, Owes_true]; rfl) ?_
  have hn3 := g3.1.next
  have gL := fun (lv : ALoop) => ((Grown.refl g3.2).push (.deferred (some []))).push (.loop lv)
  have hnL1 : (w3.push (.deferred (some []))).next = w3.next + 1 := AW.next_push _ _
  have hnL := fun (lv : ALoop) => (AW.next_push (w3.push (.deferred (some []))) (.loop lv))
  have bL := fun (lv : ALoop) => (show ((w3.push (.deferred (some []))).push (.loop lv)).blk (w3.next + 1) = some (.loop lv) from by rw [AW.blk_push _ _ _ (Trie.in_ _) (Trie.in_ _), if_pos hnL1.symm])
  have bM := fun (lv : ALoop) => (show ((w3.push (.deferred (some []))).push (.loop lv)).blk w3.next = some (.deferred (some [])) from by rw [AW.blk_push _ _ _ (Trie.in_ _) (Trie.in_ _), if_neg (by omega), AW.blk_push _ _ _ (Trie.in_ _) (Trie.in_ _), if_pos rfl])
  have kL := fun (lv : ALoop) => gg3.1.trans ((gL lv).1.mono gg3.1.next)
  have O23 := O2.keep g3.1
  refine (steps_ok hs hg hr hgb hrb (b1 := w2.next) (lp := w3.next + 1) (PostO w w.next (w.next + 1) w3.next (w3.next + 1)) _ (gL _).2 ((OX.push _).push _) (hA.grown (gg3.trans (gL _))) ?_ ?_).mono ?_
  · intro i gt w' hf hmem g'
    have hn' := g'.1.next
    rw [hnL, hnL1] at hn'
    have hbl := (g'.1.blk (w3.next + 1) (by rw [hnL, hnL1]; omega)).trans (bL _)
    exact yieldO_ok (B := w.next) (w0 := w) (dm := w3.next) _ (by simp -dsimp -implicitDefEqProofs (maxSteps := 2000000) (disch := first | assumption | omega | (simp only [nx]; omega) | ((repeat refine Fresh.push ?_ _); assumption) | (simp only [smA]; done) | (simp [oneCell, AW.next_push]; done) | fail) only [go_sem, Nat.reduceEqDiff, reduceIte, Nat.reduceAdd, Int.toNat_natCast, Nat.add_zero, Owes_true]) _ _ w' g'.2 hbl (((O23.push _).push _).keep g'.1) (by rw [g'.1.blk _ (by rw [hnL, hnL1]; omega)]; exact bM _) ⟨by omega, by omega, by omega, by omega⟩ ((kL _).trans (g'.1.mono (kL _).next))
  · intro hf w' g'
    have hn' := g'.1.next
    rw [hnL, hnL1] at hn'
    exact ⟨⟨_, by rw [g'.1.blk _ (by rw [hnL, hnL1]; omega)]; exact bL _, rfl, rfl⟩, ((O23.push _).push _).keep g'.1, by rw [g'.1.blk _ (by rw [hnL, hnL1]; omega)]; exact bM _, (kL _).trans (g'.1.mono (kL _).next), g'.2, by omega⟩
  rintro _ w4 hP
  cases ho : firstG s g r s.gates 0 with
  | none =>
    rw [ho] at hP
    obtain ⟨⟨lv, hl4, hst, hpd⟩, O24, hm4, k4, f4, hlt4⟩ := hP
    refine ⟨lv, hl4, .inl ⟨hst, hpd, ?_⟩⟩
    intro W hW
    have m5 := MutS.put (S := fun j => j = w3.next + 1) f4 rfl hlt4 (.loop { lv with state := .exhausted })
    rw [← hW] at m5
    have n5 : W.next = w4.next := by rw [hW, AW.next_put]
    have O2W := m5.own O24 (by omega)
    have hmW := m5.blk w3.next (by omega) (by omega)
    rw [hm4] at hmW
    have kW : Keep w.next w W := k4.trans (m5.keep (fun j q => by omega) k4.next)
    have fW := m5.fresh
    clear hW m5
    have st := storeV_own1 (o := 0) (v := .bool true) O2W (by simp) rfl
    simp only [setL] at st
    have m6 := MutS.put (S := fun j => j = w.next + 1) fW rfl O2W.lt (.cells [.bool true] 4 (w.next + 1) 0 0)
    have O6 := O2W.put [.bool true]
    have n6 : (W.put (w.next + 1) (.cells [.bool true] 4 (w.next + 1) 0 0)).next = W.next := AW.next_put _ _ _
    have hm6 := m6.blk w3.next (by omega) (by omega)
    rw [hmW] at hm6
    have k6 : Keep w.next w _ := kW.trans (m6.keep (B := w.next) (fun j q => by omega) kW.next)
    simp -dsimp -implicitDefEqProofs (maxSteps := 2000000) (disch := first | assumption | omega | (simp only [nx]; omega) | ((repeat refine Fresh.push ?_ _); assumption) | (simp only [smA]; done) | (simp [oneCell, AW.next_push]; done) | fail) only [go_sem, Nat.reduceEqDiff, reduceIte, Nat.reduceAdd, Int.toNat_natCast, Nat.add_zero, Owes_true, Tryz.results56, st]
    generalize W.put (w.next + 1) (.cells [.bool true] 4 (w.next + 1) 0 0) = W6 at *
    refine Left_one hm6 ?_
    have m7 := MutS.put (S := fun j => j = w3.next) m6.fresh rfl (by omega) (.deferred none)
    have O7 := m7.own O6 (by omega)
    have c7 := O7.cell (o := 0) rfl rfl
    have k7 : Keep w.next w _ := k6.trans (m7.keep (B := w.next) (fun j q => by omega) k6.next)
    simp -dsimp -implicitDefEqProofs (maxSteps := 2000000) (disch := first | assumption | omega | (simp only [nx]; omega) | ((repeat refine Fresh.push ?_ _); assumption) | (simp only [smA]; done) | (simp [oneCell, AW.next_push]; done) | fail) only [go_sem, Nat.reduceEqDiff, reduceIte, Nat.reduceAdd, Int.toNat_natCast, Nat.add_zero, Owes_true, Tryz.results56, c7]
    exact ⟨rfl, k7, m7.fresh⟩
  | some p =>
    rw [ho] at hP
    obtain ⟨lv, hl4, hst, hpd, O24, hm4, k4, f4, hlt4⟩ := hP
    refine ⟨lv, hl4, .inr ⟨hst, .ret, by rw [hpd]; rfl, by rw [hpd]; simp, ?_⟩⟩
    intro W hW
    have m5 := MutS.put (S := fun j => j = w3.next + 1) f4 rfl hlt4 (.loop { lv with state := .exhausted })
    rw [← hW] at m5
    have n5 : W.next = w4.next := by rw [hW, AW.next_put]
    have O2W := m5.own O24 (by omega)
    have hmW := m5.blk w3.next (by omega) (by omega)
    rw [hm4] at hmW
    have kW : Keep w.next w W := k4.trans (m5.keep (fun j q => by omega) k4.next)
    have fW := m5.fresh
    clear hW m5
    simp -dsimp -implicitDefEqProofs (maxSteps := 2000000) (disch := first | assumption | omega | (simp only [nx]; omega) | ((repeat refine Fresh.push ?_ _); assumption) | (simp only [smA]; done) | (simp [oneCell, AW.next_push]; done) | fail) only [go_sem, Nat.reduceEqDiff, reduceIte, Nat.reduceAdd, Int.toNat_natCast, Nat.add_zero, Owes_true, Tryz.results56]
    refine Left_one hmW ?_
    have m7 := MutS.put (S := fun j => j = w3.next) fW rfl (by omega) (.deferred none)
    have O7 := m7.own O2W (by omega)
    have c7 := O7.cell (o := 0) rfl rfl
    have k7 : Keep w.next w _ := kW.trans (m7.keep (B := w.next) (fun j q => by omega) kW.next)
    simp -dsimp -implicitDefEqProofs (maxSteps := 2000000) (disch := first | assumption | omega | (simp only [nx]; omega) | ((repeat refine Fresh.push ?_ _); assumption) | (simp only [smA]; done) | (simp [oneCell, AW.next_push]; done) | fail) only [go_sem, Nat.reduceEqDiff, reduceIte, Nat.reduceAdd, Int.toNat_natCast, Nat.add_zero, Owes_true, Tryz.results56, c7]
    exact ⟨rfl, k7, m7.fresh⟩
end Go.Proofs

namespace Go.Proofs
open Go Go.RowKit Go.Sim
set_option maxRecDepth 100000
def noTour : Value := .agg #[.slice none 0 0, .slice none 0 0, .slice none 0 0, .int .i64 0, .int .i64 0]
def OpenIs (s : StrN) (pR pG pS : Option Addr) (cR cG cS : Nat) (x : Int) (v : Value) : Prop :=
  (askN s x = 0 ∧ v = .tuple #[.agg (tourC pR pG pS cR cG cS s x.toNat 1).toArray, .int .i64 0]) ∨ (askN s x ≠ 0 ∧ v = .tuple #[noTour, .int .i64 (askN s x)])
theorem bld80 : bldQ [(0, 3), (3, 1), (4, 1)] [.slice none 0 0, .slice none 0 0, .slice none 0 0, .int .i64 0, .int .i64 0] [] = some (.agg #[.slice none 0 0, .slice none 0 0, .slice none 0 0, .int .i64 0, .int .i64 0]) := by rfl
set_option maxHeartbeats 16000000 in
theorem open_ok (s : StrN) (pR pG pS : Option Addr) (cR cG cS : Nat) (x : Int) (w : AW) (f : Fresh w) (hA : StrAt w pR pG pS cR cG cS s) :
    CallT Tryz.prog Tryz.T1 (.fn (.func 47) #[]) #[.agg (strC pR pG pS cR cG cS s).toArray, .int .i64 x] w (fun v w' => OpenIs s pR pG pS cR cG cS x v ∧ Grown w w') := by
  have g1 := (Grown.refl f).push (.cells (strC pR pG pS cR cG cS s) 26 w.next 0 0)
  have O1 := Own.new f 26 (strC pR pG pS cR cG cS s)
  have g2 := g1.push (.cells [.slice none 0 0, .slice none 0 0, .slice none 0 0, .int .i64 0, .int .i64 0] 80 (w.next + 1) 0 0)
  have O2 := Own.new g1.2 80 [.slice none 0 0, .slice none 0 0, .slice none 0 0, .int .i64 0, .int .i64 0]
  rw [AW.next_push] at O2
  have O1' := O1.push (.cells [.slice none 0 0, .slice none 0 0, .slice none 0 0, .int .i64 0, .int .i64 0] 80 (w.next + 1) 0 0)
  have hl := loadAll O1' (n := 3) rfl (by simp [strC, oneCell])
  have hch := fun w' (g' : Grown w w') => CheckV_ok s pR pG pS cR cG cS w' g'.2 (hA.grown g')
  have hbe := fun (g : Nat) w' (g' : Grown w w') => begin_ok s pR pG pS cR cG cS g w' g'.2
  have hak : askN s x = if strB s = true then (if setB s.staff.length x = true then 0 else 41) else 40 := rfl
  unfold strC at *
  refine callT_code rfl Tryz.func47 rfl Tryz.s47_eq rfl ?_
  unfold Tryz.s47
  simp -dsimp -implicitDefEqProofs (maxSteps := 2000000) (disch := first | assumption | omega | (simp only [nx]; omega) | ((repeat refine Fresh.push ?_ _); assumption) | (simp only [smA]; done) | (simp [oneCell, AW.next_push]; done) | fail) only [go_sem, Nat.reduceEqDiff, reduceIte, Nat.reduceAdd, Int.toNat_natCast, Nat.add_zero, Owes_true, Tryz.results47, hl]
  generalize (w.push (.cells [.slice pR s.rooms.length cR, .slice pG s.gates.length cG, .slice pS s.staff.length cS] 26 w.next 0 0)).push (.cells [.slice none 0 0, .slice none 0 0, .slice none 0 0, .int .i64 0, .int .i64 0] 80 (w.next + 1) 0 0) = w2 at *
  apply callV_of (e := rfl)
  · exact hch w2 g2
  rintro _ w3 ⟨rfl, g3⟩
  have gg3 := g2.trans g3
  have O13 := O1'.keep g3.1
  have O23 := O2.keep g3.1
  have c2 := O13.cell (o := 2) (v := .slice pS s.staff.length cS) rfl rfl
  have hl3 := loadAll O13 (n := 3) rfl (by simp [oneCell])
  have hcut : ∀ l : List Value, l.length = 5 → setsL [.slice none 0 0, .slice none 0 0, .slice none 0 0, .int .i64 0, .int .i64 0] 0 l = l := fun l h => by match l, h with | [a, b, c, d, e], _ => rfl
  have st0 := storeV_own (o := 0) (l := [.slice none 0 0, .slice none 0 0, .slice none 0 0, .int .i64 0, .int .i64 0]) (size := 5) O23 rfl (by omega) (by simp) rfl
  rw [hcut _ rfl] at st0
  have m4 := MutS.put (S := fun j => j = w.next + 1) g3.2 rfl O23.lt (.cells [.slice none 0 0, .slice none 0 0, .slice none 0 0, .int .i64 0, .int .i64 0] 80 (w.next + 1) 0 0)
  have O4 := O23.put [.slice none 0 0, .slice none 0 0, .slice none 0 0, .int .i64 0, .int .i64 0]
  have g4 : Grown w _ := ⟨gg3.1.trans (m4.keep (B := w.next) (fun j q => by omega) gg3.1.next), m4.fresh⟩
  have hl4 := loadAll O4 (n := 5) rfl (by simp [oneCell])
  cases hs : strB s with
  | false =>
    rw [hs, if_neg (by intro z; cases z)] at hak
    have hE : strE s = 40 := by unfold strE; rw [hs]; rfl
    have h40 : ¬ (40 : Int) = 0 := by omega
    simp -dsimp -implicitDefEqProofs (maxSteps := 2000000) (disch := first | assumption | omega | (simp only [nx]; omega) | ((repeat refine Fresh.push ?_ _); assumption) | (simp only [smA]; done) | (simp [oneCell, AW.next_push]; done) | fail) only [go_sem, Nat.reduceEqDiff, reduceIte, Nat.reduceAdd, Int.toNat_natCast, Nat.add_zero, Owes_true, Tryz.results47, hE, h40, bld80, st0, hl4]
    exact ⟨.inr ⟨by rw [hak]; exact h40, by rw [hak]; rfl⟩, g4⟩
  | true =>
  rw [hs, if_pos rfl] at hak
  have hE : strE s = 0 := by unfold strE; rw [hs]; rfl
  have hsl := (str_staff hs).2.1
  simp -dsimp -implicitDefEqProofs (maxSteps := 2000000) (disch := first | assumption | omega | (simp only [nx]; omega) | ((repeat refine Fresh.push ?_ _); assumption) | (simp only [smA]; done) | (simp [oneCell, AW.next_push]; done) | fail) only [go_sem, Nat.reduceEqDiff, reduceIte, Nat.reduceAdd, Int.toNat_natCast, Nat.add_zero, Owes_true, Tryz.results47, hE, c2, Nat.zero_add]
  apply callV_of (e := rfl)
  · exact isSet_ok (n := s.staff.length) (by omega) x w3
  rintro _ _ ⟨rfl, rfl⟩
  cases hx : setB s.staff.length x with
  | false =>
    rw [hx, if_neg (by intro z; cases z)] at hak
    simp -dsimp -implicitDefEqProofs (maxSteps := 2000000) (disch := first | assumption | omega | (simp only [nx]; omega) | ((repeat refine Fresh.push ?_ _); assumption) | (simp only [smA]; done) | (simp [oneCell, AW.next_push]; done) | fail) only [go_sem, Nat.reduceEqDiff, reduceIte, Nat.reduceAdd, Int.toNat_natCast, Nat.add_zero, Owes_true, Tryz.results47, hx, bld80, st0, hl4]
    exact ⟨.inr ⟨by rw [hak]; omega, by rw [hak]; rfl⟩, g4⟩
  | true =>
  rw [hx, if_pos rfl] at hak
  obtain ⟨_, g, rfl, hg, _, hgb⟩ := askN_ok hak
  simp -dsimp -implicitDefEqProofs (maxSteps := 2000000) (disch := first | assumption | omega | (simp only [nx]; omega) | ((repeat refine Fresh.push ?_ _); assumption) | (simp only [smA]; done) | (simp [oneCell, AW.next_push]; done) | fail) only [go_sem, Nat.reduceEqDiff, reduceIte, Nat.reduceAdd, Int.toNat_natCast, Nat.add_zero, Owes_true, Tryz.results47, hx, hl3]
  apply callV_of (e := rfl)
  · exact hbe g w3 gg3
  rintro _ w5 ⟨rfl, g5⟩
  have gg5 := gg3.trans g5
  have O25 := O23.keep g5.1
  have st5 := storeV_own (o := 0) (l := tourC pR pG pS cR cG cS s g 1) (size := 5) O25 rfl (by omega) (by simp [tourC]) (by simp [tourC, oneCell])
  rw [hcut _ rfl] at st5
  have m6 := MutS.put (S := fun j => j = w.next + 1) g5.2 rfl O25.lt (.cells (tourC pR pG pS cR cG cS s g 1) 80 (w.next + 1) 0 0)
  have O6 := O25.put (tourC pR pG pS cR cG cS s g 1)
  have g6 : Grown w _ := ⟨gg5.1.trans (m6.keep (B := w.next) (fun j q => by omega) gg5.1.next), m6.fresh⟩
  have hl6 := loadAll O6 (n := 5) rfl (by simp [tourC, oneCell])
  unfold tourC at *
  simp -dsimp -implicitDefEqProofs (maxSteps := 2000000) (disch := first | assumption | omega | (simp only [nx]; omega) | ((repeat refine Fresh.push ?_ _); assumption) | (simp only [smA]; done) | (simp [oneCell, AW.next_push]; done) | fail) only [go_sem, Nat.reduceEqDiff, reduceIte, Nat.reduceAdd, Int.toNat_natCast, Nat.add_zero, Owes_true, Tryz.results47, st5, hl6]
  exact ⟨.inl ⟨hak, rfl⟩, g6⟩
set_option maxHeartbeats 16000000 in
theorem EnterV_ok (s : StrN) (pR pG pS : Option Addr) (cR cG cS : Nat) (x : Int) (w : AW) (f : Fresh w) (hA : StrAt w pR pG pS cR cG cS s) :
    CallT Tryz.prog Tryz.T1 (.fn (.func 15) #[]) #[.agg (strC pR pG pS cR cG cS s).toArray, .int .i64 x] w (Ret (.tuple #[.int .i64 (entN s x), .int .i64 (askN s x)]) (Grown w)) := by
  have g1 := (Grown.refl f).push (.cells (strC pR pG pS cR cG cS s) 26 w.next 0 0)
  have O1 := Own.new f 26 (strC pR pG pS cR cG cS s)
  have hl1 := loadAll O1 (n := 3) rfl (by simp [strC, oneCell])
  have hop := fun w' (g' : Grown w w') => open_ok s pR pG pS cR cG cS x w' g'.2 (hA.grown g')
  have hen : ∀ g : Nat, strB s = true → g < 64 → (∀ k, g.testBit k = true → k < s.staff.length) → ∀ w', Grown w w' → _ := fun g hs hg hgb w' g' => end_ok hs (g := g) hg hgb 64 1 (by omega) (by omega) (one_bits hs) w' g'.2 (hA.grown g')
  have hcut : ∀ l : List Value, l.length = 5 → setsL [.slice none 0 0, .slice none 0 0, .slice none 0 0, .int .i64 0, .int .i64 0] 0 l = l := fun l h => by match l, h with | [a, b, c, d, e], _ => rfl
  unfold strC at *
  refine callT_code rfl Tryz.func15 rfl Tryz.s15_eq rfl ?_
  unfold Tryz.s15
  simp -dsimp -implicitDefEqProofs (maxSteps := 2000000) (disch := first | assumption | omega | (simp only [nx]; omega) | ((repeat refine Fresh.push ?_ _); assumption) | (simp only [smA]; done) | (simp [oneCell, AW.next_push]; done) | fail) only [go_sem, Nat.reduceEqDiff, reduceIte, Nat.reduceAdd, Int.toNat_natCast, Nat.add_zero, Owes_true, Tryz.results15, hl1]
  generalize w.push (.cells [.slice pR s.rooms.length cR, .slice pG s.gates.length cG, .slice pS s.staff.length cS] 26 w.next 0 0) = w1 at *
  apply callV_of (e := rfl)
  · exact hop w1 g1
  rintro _ w2 ⟨hv, g2⟩
  have gg2 := g1.trans g2
  have g3 := (Grown.refl gg2.2).push (.cells [.slice none 0 0, .slice none 0 0, .slice none 0 0, .int .i64 0, .int .i64 0] 80 w2.next 0 0)
  have O3 := Own.new gg2.2 80 [.slice none 0 0, .slice none 0 0, .slice none 0 0, .int .i64 0, .int .i64 0]
  rcases hv with ⟨h, rfl⟩ | ⟨h, rfl⟩
  · obtain ⟨hs, g, rfl, hg, _, hgb⟩ := askN_ok h
    have hE : entN s (g : Int) = (endR s g 1 : Int) := by unfold entN; rw [if_pos h]; rfl
    rw [hE, h]
    have hin := (endR_in hs g).1
    have st := storeV_own (o := 0) (l := tourC pR pG pS cR cG cS s g 1) (size := 5) O3 rfl (by omega) (by simp [tourC]) (by simp [tourC, oneCell])
    rw [hcut _ rfl] at st
    have m4 := MutS.put (S := fun j => j = w2.next) g3.2 rfl O3.lt (.cells (tourC pR pG pS cR cG cS s g 1) 80 w2.next 0 0)
    have O4 := O3.put (tourC pR pG pS cR cG cS s g 1)
    have g4 : Grown w2 _ := ⟨g3.1.trans (m4.keep (B := w2.next) (fun j q => by omega) g3.1.next), m4.fresh⟩
    have hl4 := loadAll O4 (n := 5) rfl (by simp [tourC, oneCell])
    have hen := hen g hs hg hgb _ (gg2.trans g4)
    unfold tourC at *
    simp -dsimp -implicitDefEqProofs (maxSteps := 2000000) (disch := first | assumption | omega | (simp only [nx]; omega) | ((repeat refine Fresh.push ?_ _); assumption) | (simp only [smA]; done) | (simp [oneCell, AW.next_push]; done) | fail) only [go_sem, Nat.reduceEqDiff, reduceIte, Nat.reduceAdd, Int.toNat_natCast, Nat.add_zero, Owes_true, Tryz.results15, st, hl4, show ((g : Int)).toNat = g from rfl]
    apply callV_of (e := rfl)
    · exact hen
    rintro _ w5 ⟨rfl, g5⟩
    simp -dsimp -implicitDefEqProofs (maxSteps := 2000000) (disch := first | assumption | omega | (simp only [nx]; omega) | ((repeat refine Fresh.push ?_ _); assumption) | (simp only [smA]; done) | (simp [oneCell, AW.next_push]; done) | fail) only [go_sem, Nat.reduceEqDiff, reduceIte, Nat.reduceAdd, Int.toNat_natCast, Nat.add_zero, Owes_true, Tryz.results15]
    refine ⟨.int .i64 (endF s g 64 1 : Int), Tryz.fd80 _ _ _ _ _ _ _ _ (by simp -dsimp -implicitDefEqProofs (maxSteps := 2000000) (disch := first | assumption | omega | (simp only [nx]; omega) | ((repeat refine Fresh.push ?_ _); assumption) | (simp only [smA]; done) | (simp [oneCell, AW.next_push]; done) | fail) only [go_sem, Nat.reduceEqDiff, reduceIte, Nat.reduceAdd, Int.toNat_natCast, Nat.add_zero, Owes_true]; rfl) rfl, ?_⟩
    simp -dsimp -implicitDefEqProofs (maxSteps := 2000000) (disch := first | assumption | omega | (simp only [nx]; omega) | ((repeat refine Fresh.push ?_ _); assumption) | (simp only [smA]; done) | (simp [oneCell, AW.next_push]; done) | fail) only [go_sem, Nat.reduceEqDiff, reduceIte, Nat.reduceAdd, Int.toNat_natCast, Nat.add_zero, Owes_true, Tryz.results15]
    exact ⟨rfl, (gg2.trans g4).trans g5⟩
  · have hE : entN s x = 0 := by unfold entN; rw [if_neg h]
    rw [hE]
    have st := storeV_own (o := 0) (l := [.slice none 0 0, .slice none 0 0, .slice none 0 0, .int .i64 0, .int .i64 0]) (size := 5) O3 rfl (by omega) (by simp) rfl
    rw [hcut _ rfl] at st
    have m4 := MutS.put (S := fun j => j = w2.next) g3.2 rfl O3.lt (.cells [.slice none 0 0, .slice none 0 0, .slice none 0 0, .int .i64 0, .int .i64 0] 80 w2.next 0 0)
    have g4 : Grown w2 _ := ⟨g3.1.trans (m4.keep (B := w2.next) (fun j q => by omega) g3.1.next), m4.fresh⟩
    unfold noTour
    simp -dsimp -implicitDefEqProofs (maxSteps := 2000000) (disch := first | assumption | omega | (simp only [nx]; omega) | ((repeat refine Fresh.push ?_ _); assumption) | (simp only [smA]; done) | (simp [oneCell, AW.next_push]; done) | fail) only [go_sem, Nat.reduceEqDiff, reduceIte, Nat.reduceAdd, Int.toNat_natCast, Nat.add_zero, Owes_true, Tryz.results15, st, h]
    exact ⟨rfl, gg2.trans g4⟩
theorem none_all {s : StrN} {g r : Nat} : (firstG s g r s.gates 0).isNone = s.gates.all fun gt => !stepB s g r gt := by
  cases h : firstG s g r s.gates 0 with
  | none =>
    have := firstG_no h
    symm
    rw [Option.isNone_none, List.all_eq_true]
    intro x hx; rw [this x hx]; rfl
  | some p =>
    obtain ⟨i, gt⟩ := p
    obtain ⟨hm, hst⟩ := firstG_is h
    symm
    rw [Option.isNone_some, Bool.eq_false_iff]
    intro z
    have := List.all_eq_true.1 z gt hm
    rw [hst] at this; cases this
set_option maxHeartbeats 16000000 in
theorem ClosedV_ok (s : StrN) (pR pG pS : Option Addr) (cR cG cS : Nat) (x y : Int) (w : AW) (f : Fresh w) (hA : StrAt w pR pG pS cR cG cS s) :
    CallT Tryz.prog Tryz.T1 (.fn (.func 19) #[]) #[.agg (strC pR pG pS cR cG cS s).toArray, .int .i64 x, .int .i64 y] w (Ret (.tuple #[.bool (cloB s x y), .int .i64 (cloE s x y)]) (Grown w)) := by
  have g1 := (Grown.refl f).push (.cells (strC pR pG pS cR cG cS s) 26 w.next 0 0)
  have O1 := Own.new f 26 (strC pR pG pS cR cG cS s)
  have hl1 := loadAll O1 (n := 3) rfl (by simp [strC, oneCell])
  have hop := fun w' (g' : Grown w w') => open_ok s pR pG pS cR cG cS x w' g'.2 (hA.grown g')
  have hov : ∀ g r : Nat, strB s = true → g < 64 → r < 64 → (∀ k, g.testBit k = true → k < s.staff.length) → (∀ k, r.testBit k = true → k < s.rooms.length) → ∀ w', Grown w w' → _ := fun g r hs hg hr hgb hrb w' g' => isOver_ok hs (g := g) (r := r) hg hr hgb hrb w' g'.2 (hA.grown g')
  have hcut : ∀ l : List Value, l.length = 5 → setsL [.slice none 0 0, .slice none 0 0, .slice none 0 0, .int .i64 0, .int .i64 0] 0 l = l := fun l h => by match l, h with | [a, b, c, d, e], _ => rfl
  have hcB : cloB s x y = if askN s x = 0 then (if setB s.rooms.length y = true then (y.toNat.testBit 0 && s.gates.all fun gt => !stepB s x.toNat y.toNat gt) else false) else false := rfl
  have hcE : cloE s x y = if askN s x = 0 then (if setB s.rooms.length y = true then 0 else 7) else askN s x := rfl
  unfold strC at *
  refine callT_code rfl Tryz.func19 rfl Tryz.s19_eq rfl ?_
  unfold Tryz.s19
  simp -dsimp -implicitDefEqProofs (maxSteps := 2000000) (disch := first | assumption | omega | (simp only [nx]; omega) | ((repeat refine Fresh.push ?_ _); assumption) | (simp only [smA]; done) | (simp [oneCell, AW.next_push]; done) | fail) only [go_sem, Nat.reduceEqDiff, reduceIte, Nat.reduceAdd, Int.toNat_natCast, Nat.add_zero, Owes_true, Tryz.results19, hl1]
  generalize w.push (.cells [.slice pR s.rooms.length cR, .slice pG s.gates.length cG, .slice pS s.staff.length cS] 26 w.next 0 0) = w1 at *
  apply callV_of (e := rfl)
  · exact hop w1 g1
  rintro _ w2 ⟨hv, g2⟩
  have gg2 := g1.trans g2
  have g3 := (Grown.refl gg2.2).push (.cells [.slice none 0 0, .slice none 0 0, .slice none 0 0, .int .i64 0, .int .i64 0] 80 w2.next 0 0)
  have O3 := Own.new gg2.2 80 [.slice none 0 0, .slice none 0 0, .slice none 0 0, .int .i64 0, .int .i64 0]
  rcases hv with ⟨h, rfl⟩ | ⟨h, rfl⟩
  · rw [if_pos h] at hcB hcE
    obtain ⟨hs, g, rfl, hg, _, hgb⟩ := askN_ok h
    have hrl := (str_rooms hs).2
    have st := storeV_own (o := 0) (l := tourC pR pG pS cR cG cS s g 1) (size := 5) O3 rfl (by omega) (by simp [tourC]) (by simp [tourC, oneCell])
    rw [hcut _ rfl] at st
    have m4 := MutS.put (S := fun j => j = w2.next) g3.2 rfl O3.lt (.cells (tourC pR pG pS cR cG cS s g 1) 80 w2.next 0 0)
    have O4 := O3.put (tourC pR pG pS cR cG cS s g 1)
    have g4 : Grown w2 _ := ⟨g3.1.trans (m4.keep (B := w2.next) (fun j q => by omega) g3.1.next), m4.fresh⟩
    have gg4 := gg2.trans g4
    have O14 := (O1.keep g2.1).keep g4.1
    have c0 := O14.cell (o := 0) (v := .slice pR s.rooms.length cR) rfl rfl
    unfold tourC at *
    simp -dsimp -implicitDefEqProofs (maxSteps := 2000000) (disch := first | assumption | omega | (simp only [nx]; omega) | ((repeat refine Fresh.push ?_ _); assumption) | (simp only [smA]; done) | (simp [oneCell, AW.next_push]; done) | fail) only [go_sem, Nat.reduceEqDiff, reduceIte, Nat.reduceAdd, Int.toNat_natCast, Nat.add_zero, Owes_true, Tryz.results19, st, show ((g : Int)).toNat = g from rfl, c0, Nat.zero_add]
    generalize (w2.push (.cells [.slice none 0 0, .slice none 0 0, .slice none 0 0, .int .i64 0, .int .i64 0] 80 w2.next 0 0)).put w2.next (.cells [.slice pR s.rooms.length cR, .slice pG s.gates.length cG, .slice pS s.staff.length cS, .int .i64 (g : Int), .int .i64 ((1 : Nat) : Int)] 80 w2.next 0 0) = w4 at *
    apply callV_of (e := rfl)
    · exact isSet_ok (n := s.rooms.length) (by omega) y w4
    rintro _ _ ⟨rfl, rfl⟩
    cases hx : setB s.rooms.length y with
    | false =>
      rw [hx, if_neg (by intro z; cases z)] at hcB hcE
      simp -dsimp -implicitDefEqProofs (maxSteps := 2000000) (disch := first | assumption | omega | (simp only [nx]; omega) | ((repeat refine Fresh.push ?_ _); assumption) | (simp only [smA]; done) | (simp [oneCell, AW.next_push]; done) | fail) only [go_sem, Nat.reduceEqDiff, reduceIte, Nat.reduceAdd, Int.toNat_natCast, Nat.add_zero, Owes_true, Tryz.results19, hx]
      exact ⟨by rw [hcB, hcE], gg4⟩
    | true =>
    rw [hx, if_pos rfl] at hcB hcE
    obtain ⟨r, rfl, hr, hrb⟩ := setB_nat hrl hx
    rw [show ((r : Int)).toNat = r from rfl, show ((g : Int)).toNat = g from rfl, ← none_all] at hcB
    rw [hcE, hcB]
    have st5 := storeV_own1 (o := 4) (v := .int .i64 (r : Int)) O4 (by simp) rfl
    simp only [setL] at st5
    have m5 := MutS.put (S := fun j => j = w2.next) gg4.2 rfl O4.lt (.cells [.slice pR s.rooms.length cR, .slice pG s.gates.length cG, .slice pS s.staff.length cS, .int .i64 (g : Int), .int .i64 (r : Int)] 80 w2.next 0 0)
    have O5 := O4.put [.slice pR s.rooms.length cR, .slice pG s.gates.length cG, .slice pS s.staff.length cS, .int .i64 (g : Int), .int .i64 (r : Int)]
    have gg5 : Grown w _ := ⟨gg4.1.trans (m5.keep (B := w.next) (fun j q => by have := gg2.1.next; omega) gg4.1.next), m5.fresh⟩
    have c4 := O5.cell (o := 4) (v := .int .i64 (r : Int)) rfl rfl
    have hl5 := loadAll O5 (n := 5) rfl (by simp [oneCell])
    simp -dsimp -implicitDefEqProofs (maxSteps := 2000000) (disch := first | assumption | omega | (simp only [nx]; omega) | ((repeat refine Fresh.push ?_ _); assumption) | (simp only [smA]; done) | (simp [oneCell, AW.next_push]; done) | fail) only [go_sem, Nat.reduceEqDiff, reduceIte, Nat.reduceAdd, Int.toNat_natCast, Nat.add_zero, Owes_true, Tryz.results19, hx, st5, c4, hl5, Nat.zero_add]
    generalize w4.put w2.next (.cells [.slice pR s.rooms.length cR, .slice pG s.gates.length cG, .slice pS s.staff.length cS, .int .i64 (g : Int), .int .i64 (r : Int)] 80 w2.next 0 0) = w5 at *
    have hbt := has_ok r 0 (by omega) (by omega) w5
    rw [show ((0 : Nat) : Int) = 0 from rfl] at hbt
    apply callV_of (e := rfl)
    · exact hbt
    rintro _ _ ⟨rfl, rfl⟩
    cases hb0 : r.testBit 0 with
    | false =>
      simp -dsimp -implicitDefEqProofs (maxSteps := 2000000) (disch := first | assumption | omega | (simp only [nx]; omega) | ((repeat refine Fresh.push ?_ _); assumption) | (simp only [smA]; done) | (simp [oneCell, AW.next_push]; done) | fail) only [go_sem, Nat.reduceEqDiff, reduceIte, Nat.reduceAdd, Int.toNat_natCast, Nat.add_zero, Owes_true, Tryz.results19, hb0]
      exact ⟨rfl, gg5⟩
    | true =>
      have hov := hov g r hs hg hr hgb hrb w5 gg5
      simp -dsimp -implicitDefEqProofs (maxSteps := 2000000) (disch := first | assumption | omega | (simp only [nx]; omega) | ((repeat refine Fresh.push ?_ _); assumption) | (simp only [smA]; done) | (simp [oneCell, AW.next_push]; done) | fail) only [go_sem, Nat.reduceEqDiff, reduceIte, Nat.reduceAdd, Int.toNat_natCast, Nat.add_zero, Owes_true, Tryz.results19, hb0, hl5]
      apply callV_of (e := rfl)
      · exact hov
      rintro _ w6 ⟨rfl, g6⟩
      simp -dsimp -implicitDefEqProofs (maxSteps := 2000000) (disch := first | assumption | omega | (simp only [nx]; omega) | ((repeat refine Fresh.push ?_ _); assumption) | (simp only [smA]; done) | (simp [oneCell, AW.next_push]; done) | fail) only [go_sem, Nat.reduceEqDiff, reduceIte, Nat.reduceAdd, Int.toNat_natCast, Nat.add_zero, Owes_true, Tryz.results19]
      exact ⟨rfl, gg5.trans g6⟩
  · rw [if_neg h] at hcB hcE
    have st := storeV_own (o := 0) (l := [.slice none 0 0, .slice none 0 0, .slice none 0 0, .int .i64 0, .int .i64 0]) (size := 5) O3 rfl (by omega) (by simp) rfl
    rw [hcut _ rfl] at st
    have m4 := MutS.put (S := fun j => j = w2.next) g3.2 rfl O3.lt (.cells [.slice none 0 0, .slice none 0 0, .slice none 0 0, .int .i64 0, .int .i64 0] 80 w2.next 0 0)
    have g4 : Grown w2 _ := ⟨g3.1.trans (m4.keep (B := w2.next) (fun j q => by omega) g3.1.next), m4.fresh⟩
    unfold noTour
    simp -dsimp -implicitDefEqProofs (maxSteps := 2000000) (disch := first | assumption | omega | (simp only [nx]; omega) | ((repeat refine Fresh.push ?_ _); assumption) | (simp only [smA]; done) | (simp [oneCell, AW.next_push]; done) | fail) only [go_sem, Nat.reduceEqDiff, reduceIte, Nat.reduceAdd, Int.toNat_natCast, Nat.add_zero, Owes_true, Tryz.results19, st, h]
    exact ⟨by rw [hcB, hcE], gg2.trans g4⟩
end Go.Proofs

namespace Go.Proofs
open Go Go.RowKit Go.Sim
set_option maxRecDepth 100000
theorem Tryz.undV3 : Tryz.prog.underlying 3 = some (.int .i64) := by kernel_rfl
theorem Tryz.undV22 : Tryz.prog.underlying 22 = some (.slice 73) := by kernel_rfl
theorem Tryz.undV23 : Tryz.prog.underlying 23 = some (.slice 71) := by kernel_rfl
theorem Tryz.undV24 : Tryz.prog.underlying 24 = some (.slice 3) := by kernel_rfl
theorem Tryz.cellsV3 : Tryz.prog.cellsOf 3 = 1 := by kernel_rfl
theorem Tryz.cellsV128 : Tryz.prog.cellsOf 73 = 3 := by kernel_rfl
theorem Tryz.cellsV132 : Tryz.prog.cellsOf 71 = 4 := by kernel_rfl
theorem Tryz.undV128 : Tryz.prog.underlying 73 = some (.struct #[{ name := "Hold", type := 3, offset := 0, embedded := false, tag := "", pkgPath := "", byteOffset := 0 }, { name := "Climate", type := 3, offset := 1, embedded := false, tag := "", pkgPath := "", byteOffset := 8 }, { name := "Keys", type := 3, offset := 2, embedded := false, tag := "", pkgPath := "", byteOffset := 16 }]) := by kernel_rfl
theorem Tryz.undV132 : Tryz.prog.underlying 71 = some (.struct #[{ name := "A", type := 3, offset := 0, embedded := false, tag := "", pkgPath := "", byteOffset := 0 }, { name := "B", type := 3, offset := 1, embedded := false, tag := "", pkgPath := "", byteOffset := 8 }, { name := "Need", type := 3, offset := 2, embedded := false, tag := "", pkgPath := "", byteOffset := 16 }, { name := "Ways", type := 24, offset := 3, embedded := false, tag := "", pkgPath := "", byteOffset := 24 }]) := by kernel_rfl
theorem Tryz.undV26 : Tryz.prog.underlying 26 = some (.struct #[{ name := "Rooms", type := 22, offset := 0, embedded := false, tag := "", pkgPath := "", byteOffset := 0 }, { name := "Gates", type := 23, offset := 1, embedded := false, tag := "", pkgPath := "", byteOffset := 24 }, { name := "Staff", type := 24, offset := 2, embedded := false, tag := "", pkgPath := "", byteOffset := 48 }]) := by kernel_rfl
theorem given_intV {w : AW} {n : Nat} {cs : List Value} (h : Hd Tryz.prog w n 3 cs) : ∃ x : Int, cs = icells x := by
  cases n with
  | zero => exact h.elim
  | succ n =>
    simp only [Hd, Tryz.undV3] at h
    obtain ⟨i, rfl, h1, h2⟩ := h
    exact ⟨i, rfl⟩
theorem rows_ofV {α : Type} {enc : α → List Value} {rows : List (List Value)} (h : ∀ r ∈ rows, ∃ x : α, r = enc x) : ∃ xs : List α, rows = xs.map enc := by
  induction rows with
  | nil => exact ⟨[], rfl⟩
  | cons r rows ih =>
    obtain ⟨x, hx⟩ := h r List.mem_cons_self
    obtain ⟨xs, hxs⟩ := ih fun q hq => h q (List.mem_cons_of_mem _ hq)
    exact ⟨x :: xs, by rw [hx, hxs]; rfl⟩
theorem given_intsW {w : AW} {n : Nat} {cs : List Value} (h : Hd Tryz.prog w n 24 cs) : ∃ v, cs = [v] ∧ ∃ xs, ArrOf w 1 icells v xs := by
  cases n with
  | zero => exact h.elim
  | succ n =>
    simp only [Hd, Tryz.undV24, Tryz.cellsV3] at h
    obtain ⟨v, rows, rfl, ha, hr, _⟩ := h
    obtain ⟨xs, rfl⟩ := rows_ofV (enc := icells) fun r hq => given_intV (hr r hq)
    exact ⟨v, rfl, xs, ha⟩
theorem given_room {w : AW} {n : Nat} {cs : List Value} (h : Hd Tryz.prog w n 73 cs) : ∃ r : RoomN, cs = rcells r := by
  cases n with
  | zero => exact h.elim
  | succ n =>
    simp only [Hd, Tryz.undV128] at h
    obtain ⟨parts, hc, hl, hp⟩ := h
    match parts, hl with
    | [p0, p1, p2], _ =>
      obtain ⟨a, rfl⟩ := given_intV (hp 0 _ p0 rfl rfl)
      obtain ⟨b, rfl⟩ := given_intV (hp 1 _ p1 rfl rfl)
      obtain ⟨c, rfl⟩ := given_intV (hp 2 _ p2 rfl rfl)
      exact ⟨⟨a, b, c⟩, by rw [hc]; rfl⟩
theorem given_rooms {w : AW} {n : Nat} {cs : List Value} (h : Hd Tryz.prog w n 22 cs) : ∃ v, cs = [v] ∧ ∃ xs, ArrOf w 3 rcells v xs := by
  cases n with
  | zero => exact h.elim
  | succ n =>
    simp only [Hd, Tryz.undV22, Tryz.cellsV128] at h
    obtain ⟨v, rows, rfl, ha, hr, _⟩ := h
    obtain ⟨xs, rfl⟩ := rows_ofV (enc := rcells) fun r hq => given_room (hr r hq)
    exact ⟨v, rfl, xs, ha⟩
theorem given_gate {w : AW} {n : Nat} {cs : List Value} (h : Hd Tryz.prog w n 71 cs) : ∃ p : GateN × Value, cs = gcells p ∧ ArrOf w 1 icells p.2 p.1.ways := by
  cases n with
  | zero => exact h.elim
  | succ n =>
    simp only [Hd, Tryz.undV132] at h
    obtain ⟨parts, hc, hl, hp⟩ := h
    match parts, hl with
    | [p0, p1, p2, p3], _ =>
      obtain ⟨a, rfl⟩ := given_intV (hp 0 _ p0 rfl rfl)
      obtain ⟨b, rfl⟩ := given_intV (hp 1 _ p1 rfl rfl)
      obtain ⟨c, rfl⟩ := given_intV (hp 2 _ p2 rfl rfl)
      obtain ⟨v, rfl, xs, hx⟩ := given_intsW (hp 3 _ p3 rfl rfl)
      exact ⟨(⟨a, b, c, xs⟩, v), by rw [hc]; rfl, hx⟩
theorem rows_ofP {α : Type} {enc : α → List Value} {Q : α → Prop} {rows : List (List Value)} (h : ∀ r ∈ rows, ∃ x : α, r = enc x ∧ Q x) : ∃ xs : List α, rows = xs.map enc ∧ ∀ x ∈ xs, Q x := by
  induction rows with
  | nil => exact ⟨[], rfl, fun _ h => by cases h⟩
  | cons r rows ih =>
    obtain ⟨x, hx, hr⟩ := h r List.mem_cons_self
    obtain ⟨xs, hxs, hr2⟩ := ih fun q hq => h q (List.mem_cons_of_mem _ hq)
    exact ⟨x :: xs, by rw [hx, hxs]; rfl, fun y hy => by
      rcases List.mem_cons.1 hy with rfl | hy
      · exact hr
      · exact hr2 y hy⟩
theorem given_gates {w : AW} {n : Nat} {cs : List Value} (h : Hd Tryz.prog w n 23 cs) : ∃ v, cs = [v] ∧ ∃ xs, GatesAt w v xs := by
  cases n with
  | zero => exact h.elim
  | succ n =>
    simp only [Hd, Tryz.undV23, Tryz.cellsV132] at h
    obtain ⟨v, rows, rfl, ha, hr, _⟩ := h
    obtain ⟨xs, rfl, hq⟩ := rows_ofP (enc := gcells) (Q := fun p => ArrOf w 1 icells p.2 p.1.ways) fun r hq => given_gate (hr r hq)
    exact ⟨v, rfl, xs.map Prod.fst, xs, rfl, ha, hq⟩
theorem given_strong {w : AW} {n : Nat} {v : Value} (h : HdV Tryz.prog w n 26 v) : ∃ (s : StrN) (pR pG pS : Option Addr) (cR cG cS : Nat), v = .agg (strC pR pG pS cR cG cS s).toArray ∧ StrAt w pR pG pS cR cG cS s := by
  simp only [HdV, Tryz.undV26] at h
  obtain ⟨cs, rfl, h⟩ := h
  cases n with
  | zero => exact h.elim
  | succ n =>
    simp only [Hd, Tryz.undV26] at h
    obtain ⟨parts, hc, hl, hp⟩ := h
    match parts, hl with
    | [p0, p1, p2], _ =>
      obtain ⟨u, rfl, xs, hx⟩ := given_rooms (hp 0 _ p0 rfl rfl)
      obtain ⟨z, rfl, ys, hy⟩ := given_gates (hp 1 _ p1 rfl rfl)
      obtain ⟨q, rfl, ss, hss⟩ := given_intsW (hp 2 _ p2 rfl rfl)
      obtain ⟨pR, cR, rfl, _⟩ := id hx.open
      have hg : ∃ p c, z = .slice p ys.length c := by
        obtain ⟨ws, rfl, hA, _⟩ := hy
        obtain ⟨p, c, rfl, _⟩ := hA.open
        exact ⟨p, c, by simp⟩
      obtain ⟨pG, cG, rfl⟩ := hg
      obtain ⟨pS, cS, rfl, _⟩ := id hss.open
      refine ⟨⟨xs, ys, ss⟩, pR, pG, pS, cR, cG, cS, ?_, hx, hy, hss⟩
      rw [show cs = cs.toList.toArray from rfl, hc]; rfl
end Go.Proofs

namespace Go.Proofs
open Go Go.RowKit Go.Sim
set_option maxRecDepth 100000
theorem eqb4 (a : Bool) : eqQ Tryz.prog .eql 4 (.bool a) (.bool a) = some (.bool true) := by cases a <;> kernel_rfl
theorem bqb4 (a b : Bool) : binQ .eql (.bool a) (.bool b) = none := rfl
theorem given_intX {w : AW} {n : Nat} {v : Value} (h : HdV Tryz.prog w n 3 v) : ∃ x : Int, v = .int .i64 x := by
  simp only [HdV, Tryz.undV3] at h
  obtain ⟨i, hi⟩ := given_intV h
  injection hi with hi _
  exact ⟨i, hi⟩
theorem StrAt.len {w : AW} {pR pG pS : Option Addr} {cR cG cS : Nat} {s : StrN} (h : StrAt w pR pG pS cR cG cS s) : (s.rooms.length : Int) ≤ 140737488355328 := by
  obtain ⟨p, c, _, h1, h2, _⟩ := h.rooms.open
  omega
set_option maxHeartbeats 64000000 in
theorem enters_law (w : AW) (xs : List Value) (f : Fresh w) (h : HdAll Tryz.prog w [26, 3, 3] xs) : CallT Tryz.prog Tryz.T1 (.fn (.func 3) #[]) xs.toArray w fun v _ => v = .bool true := by
  cases h with
  | cons n1 h1 h =>
  cases h with
  | cons n2 h2 h =>
  cases h with
  | cons n3 h3 h =>
  cases h
  rename_i v1 v2 v3
  obtain ⟨s, pR, pG, pS, cR, cG, cS, rfl, hA⟩ := given_strong h1
  obtain ⟨x, rfl⟩ := given_intX h2
  obtain ⟨y, rfl⟩ := given_intX h3
  clear h1 h2 h3
  show CallT Tryz.prog Tryz.T1 (.fn (.func 3) #[]) #[.agg (strC pR pG pS cR cG cS s).toArray, .int .i64 x, .int .i64 y] w _
  have hlen := hA.len
  have g1 := (Grown.refl f).push (.cells (strC pR pG pS cR cG cS s) 26 w.next 0 0)
  have O1 := Own.new f 26 (strC pR pG pS cR cG cS s)
  have hl1 := loadAll O1 (n := 3) rfl (by simp [strC, oneCell])
  have hld := fun w' (g' : Grown w w') (O' : Own w' w.next 26 (strC pR pG pS cR cG cS s)) => loadAll O' (n := 3) rfl (by simp [strC, oneCell])
  have hE := fun w' (g' : Grown w w') => EnterV_ok s pR pG pS cR cG cS x w' g'.2 (hA.grown g')
  have hER := fun w' (g' : Grown w w') => EnterR_ok s pR pG pS cR cG cS x w' g'.2 (hA.grown g') hlen
  have hC := fun w' (g' : Grown w w') => CheckV_ok s pR pG pS cR cG cS w' g'.2 (hA.grown g')
  have hCR := fun w' (g' : Grown w w') => CheckR_ok s pR pG pS cR cG cS w' g'.2 (hA.grown g') hlen
  have hK := fun w' (g' : Grown w w') => ClosedV_ok s pR pG pS cR cG cS x y w' g'.2 (hA.grown g')
  have hKR := fun w' (g' : Grown w w') => ClosedR_ok s pR pG pS cR cG cS x y w' g'.2 (hA.grown g') hlen
  have hss := same_str pR pG pS s.rooms.length s.gates.length s.staff.length cR cG cS
  refine callT_code rfl Tryz.func3 rfl Tryz.s3_eq rfl ?_
  unfold Tryz.s3
  unfold strC at *
  simp -dsimp -implicitDefEqProofs (maxSteps := 2000000) (disch := first | assumption | omega | (simp only [nx]; omega) | ((repeat refine Fresh.push ?_ _); assumption) | (simp only [smA]; done) | (simp [oneCell, AW.next_push]; done) | fail) only [go_sem, Nat.reduceEqDiff, reduceIte, Nat.reduceAdd, Int.toNat_natCast, Nat.add_zero, Owes_true, Tryz.results3, hl1]
  generalize w.push (.cells [.slice pR s.rooms.length cR, .slice pG s.gates.length cG, .slice pS s.staff.length cS] 26 w.next 0 0) = w1 at *
  apply callV_of (e := rfl)
  · exact hE w1 g1
  rintro _ w2 ⟨rfl, g2⟩
  have gg2 := g1.trans g2
  have O2 := O1.keep g2.1
  have hl2 := hld w2 gg2 O2
  simp -dsimp -implicitDefEqProofs (maxSteps := 2000000) (disch := first | assumption | omega | (simp only [nx]; omega) | ((repeat refine Fresh.push ?_ _); assumption) | (simp only [smA]; done) | (simp [oneCell, AW.next_push]; done) | fail) only [go_sem, Nat.reduceEqDiff, reduceIte, Nat.reduceAdd, Int.toNat_natCast, Nat.add_zero, Owes_true, Tryz.results3, hl2]
  apply callV_of (e := rfl)
  · exact hER w2 gg2
  rintro _ w3 ⟨rfl, g3⟩
  have gg3 := gg2.trans g3
  have O3 := O2.keep g3.1
  have hl3 := hld w3 gg3 O3
  have hle3 : WLe w3 w3 := (Grown.refl gg3.2).1.wle gg3.2
  have d1 : decide (entN s x = entN s x) = true := decide_eq_true rfl
  have d2 : decide (askN s x = askN s x) = true := decide_eq_true rfl
  simp -dsimp -implicitDefEqProofs (maxSteps := 2000000) (disch := first | assumption | omega | (simp only [nx]; omega) | ((repeat refine Fresh.push ?_ _); assumption) | (simp only [smA]; done) | (simp [oneCell, AW.next_push]; done) | fail) only [go_sem, Nat.reduceEqDiff, reduceIte, Nat.reduceAdd, Int.toNat_natCast, Nat.add_zero, Owes_true, Tryz.results3, hl3, hle3, hss, d1, d2]
  apply callV_of (e := rfl)
  · exact hC w3 gg3
  rintro _ w4 ⟨rfl, g4⟩
  have gg4 := gg3.trans g4
  have O4 := O3.keep g4.1
  have hl4 := hld w4 gg4 O4
  have hle4 : WLe w3 w4 := g4.1.wle gg3.2
  simp -dsimp -implicitDefEqProofs (maxSteps := 2000000) (disch := first | assumption | omega | (simp only [nx]; omega) | ((repeat refine Fresh.push ?_ _); assumption) | (simp only [smA]; done) | (simp [oneCell, AW.next_push]; done) | fail) only [go_sem, Nat.reduceEqDiff, reduceIte, Nat.reduceAdd, Int.toNat_natCast, Nat.add_zero, Owes_true, Tryz.results3, hl3, hl4, hle4, hss, d1, d2]
  apply callV_of (e := rfl)
  · exact hCR w4 gg4
  rintro _ w5 ⟨rfl, g5⟩
  have gg5 := gg4.trans g5
  have O5 := O4.keep g5.1
  have hl5 := hld w5 gg5 O5
  have hle5 : WLe w4 w5 := g5.1.wle gg4.2
  have d3 : decide (strE s = strE s) = true := decide_eq_true rfl
  simp -dsimp -implicitDefEqProofs (maxSteps := 2000000) (disch := first | assumption | omega | (simp only [nx]; omega) | ((repeat refine Fresh.push ?_ _); assumption) | (simp only [smA]; done) | (simp [oneCell, AW.next_push]; done) | fail) only [go_sem, Nat.reduceEqDiff, reduceIte, Nat.reduceAdd, Int.toNat_natCast, Nat.add_zero, Owes_true, Tryz.results3, hl3, hl4, hl5, hle4, hle5, hss, d1, d2, d3]
  apply callV_of (e := rfl)
  · exact hK w5 gg5
  rintro _ w6 ⟨rfl, g6⟩
  have gg6 := gg5.trans g6
  have O6 := O5.keep g6.1
  have hl6 := hld w6 gg6 O6
  simp -dsimp -implicitDefEqProofs (maxSteps := 2000000) (disch := first | assumption | omega | (simp only [nx]; omega) | ((repeat refine Fresh.push ?_ _); assumption) | (simp only [smA]; done) | (simp [oneCell, AW.next_push]; done) | fail) only [go_sem, Nat.reduceEqDiff, reduceIte, Nat.reduceAdd, Int.toNat_natCast, Nat.add_zero, Owes_true, Tryz.results3, hl6]
  apply callV_of (e := rfl)
  · exact hKR w6 gg6
  rintro _ w7 ⟨rfl, g7⟩
  have hq := eqb4 (cloB s x y)
  have hbq := bqb4 (cloB s x y) (cloB s x y)
  have d4 : decide (cloE s x y = cloE s x y) = true := decide_eq_true rfl
  simp -dsimp -implicitDefEqProofs (maxSteps := 2000000) (disch := first | assumption | omega | (simp only [nx]; omega) | ((repeat refine Fresh.push ?_ _); assumption) | (simp only [smA]; done) | (simp [oneCell, AW.next_push]; done) | fail) only [go_sem, Nat.reduceEqDiff, reduceIte, Nat.reduceAdd, Int.toNat_natCast, Nat.add_zero, Owes_true, Tryz.results3, hq, hbq, d4]
  apply callV_of (e := rfl)
  · exact callT_told (Q := fun v w' => v = .bool true ∧ w7 = w') (v := .bool true) (w' := w7) rfl ⟨rfl, rfl⟩
  rintro _ _ ⟨rfl, rfl⟩
  simp -dsimp -implicitDefEqProofs (maxSteps := 2000000) (disch := first | assumption | omega | (simp only [nx]; omega) | ((repeat refine Fresh.push ?_ _); assumption) | (simp only [smA]; done) | (simp [oneCell, AW.next_push]; done) | fail) only [go_sem, Nat.reduceEqDiff, reduceIte, Nat.reduceAdd, Int.toNat_natCast, Nat.add_zero, Owes_true, Tryz.results3]
end Go.Proofs

namespace Go.Proofs
open Go Go.RowKit Go.Sim
set_option maxRecDepth 100000
def Tryz.s95 : SC := (.seq (.ops false [⟨⟨(some 4),.assign (.const (.int .i64 0)),3,"",⟨[]⟩,none⟩,none,false⟩]) (.seq (.ops false [⟨⟨(some 5),.move (.tmp 0),77,"",⟨[]⟩,none⟩,none,false⟩,⟨⟨(some 6),.call ⟨.value (.func 98),⟨[(.tmp 5)]⟩,⟨[77]⟩⟩,3,"",⟨[]⟩,none⟩,none,false⟩,⟨⟨(some 7),.move (.tmp 1),77,"",⟨[]⟩,none⟩,none,false⟩,⟨⟨(some 8),.call ⟨.value (.func 98),⟨[(.tmp 7)]⟩,⟨[77]⟩⟩,3,"",⟨[]⟩,none⟩,none,false⟩,⟨⟨(some 9),.call ⟨.value (.func 97),⟨[(.tmp 6),(.tmp 8)]⟩,⟨[3,3]⟩⟩,3,"",⟨[]⟩,none⟩,none,false⟩,⟨⟨(some 10),.move (.tmp 0),77,"",⟨[]⟩,none⟩,none,false⟩,⟨⟨(some 11),.move (.tmp 1),77,"",⟨[]⟩,none⟩,none,false⟩,⟨⟨(some 12),.call ⟨.value (.func 99),⟨[(.tmp 10),(.tmp 11)]⟩,⟨[77,77]⟩⟩,3,"",⟨[]⟩,none⟩,none,false⟩,⟨⟨(some 13),.buildSlice 24 2 ⟨[(0,(.tmp 9)),(1,(.tmp 12))]⟩,24,"",⟨[]⟩,none⟩,none,false⟩,⟨⟨(some 14),.call ⟨.value (.func 96),⟨[(.tmp 13)]⟩,⟨[24]⟩⟩,3,"",⟨[]⟩,none⟩,none,false⟩,⟨⟨(some 4),.assign (.tmp 14),3,"",⟨[]⟩,none⟩,none,false⟩]) .ret))
def Tryz.s96 : SC := (.seq (.ops false [⟨⟨(some 2),.assign (.const (.int .i64 0)),3,"",⟨[]⟩,none⟩,none,false⟩]) (.seq (.ops false [⟨⟨(some 3),.assign (.const (.int .i64 0)),3,"",⟨[]⟩,none⟩,none,false⟩]) (.seq (.seq (.ops false [⟨⟨(some 6),.move (.tmp 0),24,"",⟨[]⟩,none⟩,none,false⟩,⟨⟨(some 7),.call ⟨.builtin .len,⟨[(.tmp 6)]⟩,⟨[24]⟩⟩,3,"",⟨[]⟩,none⟩,none,false⟩,⟨⟨(some 8),.move (.const (.int .i64 0)),3,"",⟨[]⟩,none⟩,none,false⟩]) (.block 0 (.loop (.seq (.ops false [⟨⟨(some 9),.binOp .lss 3 (.tmp 8) (.tmp 7) 3,0,"",⟨[]⟩,none⟩,none,false⟩]) (.seq (.cond (.tmp 9) .skip (.exit 0)) (.seq (.block 1 (.seq (.ops false [⟨⟨(some 10),.indexAddr 24 (.tmp 6) (.tmp 8),0,"",⟨[]⟩,none⟩,none,false⟩,⟨⟨(some 11),.load 3 (.tmp 10),3,"",⟨[]⟩,none⟩,none,false⟩,⟨⟨(some 5),.assign (.tmp 11),3,"",⟨[]⟩,none⟩,none,false⟩]) (.seq (.ops false [⟨⟨(some 12),.move (.tmp 5),3,"",⟨[]⟩,none⟩,none,false⟩,⟨⟨(some 13),.move (.tmp 3),3,"",⟨[]⟩,none⟩,none,false⟩,⟨⟨(some 14),.binOp .neq 3 (.tmp 12) (.tmp 13) 3,4,"",⟨[]⟩,none⟩,none,false⟩]) (.cond (.tmp 14) (.seq (.ops false [⟨⟨(some 15),.move (.tmp 5),3,"",⟨[]⟩,none⟩,none,false⟩,⟨⟨(some 2),.assign (.tmp 15),3,"",⟨[]⟩,none⟩,none,false⟩]) .ret) .skip)))) (.ops false [⟨⟨(some 16),.binOp .add 3 (.tmp 8) (.const (.int .i64 1)) 3,3,"",⟨[]⟩,none⟩,none,false⟩,⟨⟨(some 8),.move (.tmp 16),3,"",⟨[]⟩,none⟩,none,false⟩]))))))) (.seq (.ops false [⟨⟨(some 17),.move (.tmp 3),3,"",⟨[]⟩,none⟩,none,false⟩,⟨⟨(some 2),.assign (.tmp 17),3,"",⟨[]⟩,none⟩,none,false⟩]) .ret))))
def Tryz.s97 : SC := (.seq (.ops false [⟨⟨(some 4),.assign (.const (.int .i64 0)),3,"",⟨[]⟩,none⟩,none,false⟩]) (.seq (.ops false [⟨⟨(some 7),.move (.tmp 0),3,"",⟨[]⟩,none⟩,none,false⟩,⟨⟨(some 8),.call ⟨.value (.func 117),⟨[(.tmp 7)]⟩,⟨[3]⟩⟩,4,"",⟨[]⟩,none⟩,none,false⟩,⟨⟨(some 5),.assign (.tmp 8),4,"",⟨[]⟩,none⟩,none,false⟩]) (.seq (.ops false [⟨⟨(some 9),.move (.tmp 1),3,"",⟨[]⟩,none⟩,none,false⟩,⟨⟨(some 10),.call ⟨.value (.func 117),⟨[(.tmp 9)]⟩,⟨[3]⟩⟩,4,"",⟨[]⟩,none⟩,none,false⟩,⟨⟨(some 6),.assign (.tmp 10),4,"",⟨[]⟩,none⟩,none,false⟩]) (.seq (.seq (.ops false [⟨⟨(some 11),.move (.tmp 5),4,"",⟨[]⟩,none⟩,none,false⟩]) (.cond (.tmp 11) (.seq (.seq (.ops false [⟨⟨(some 12),.move (.tmp 6),4,"",⟨[]⟩,none⟩,none,false⟩]) (.cond (.tmp 12) (.seq (.ops false [⟨⟨(some 4),.assign (.const (.int .i64 0)),3,"",⟨[]⟩,none⟩,none,false⟩]) .ret) .skip)) (.seq (.ops false [⟨⟨(some 4),.assign (.const (.int .i64 (-1))),3,"",⟨[]⟩,none⟩,none,false⟩]) .ret)) .skip)) (.seq (.seq (.ops false [⟨⟨(some 13),.move (.tmp 6),4,"",⟨[]⟩,none⟩,none,false⟩]) (.cond (.tmp 13) (.seq (.ops false [⟨⟨(some 4),.assign (.const (.int .i64 1)),3,"",⟨[]⟩,none⟩,none,false⟩]) .ret) .skip)) (.seq (.seq (.ops false [⟨⟨(some 14),.move (.tmp 0),3,"",⟨[]⟩,none⟩,none,false⟩,⟨⟨(some 15),.move (.tmp 1),3,"",⟨[]⟩,none⟩,none,false⟩,⟨⟨(some 16),.binOp .lss 3 (.tmp 14) (.tmp 15) 3,4,"",⟨[]⟩,none⟩,none,false⟩]) (.cond (.tmp 16) (.seq (.ops false [⟨⟨(some 4),.assign (.const (.int .i64 (-1))),3,"",⟨[]⟩,none⟩,none,false⟩]) .ret) .skip)) (.seq (.seq (.ops false [⟨⟨(some 17),.move (.tmp 0),3,"",⟨[]⟩,none⟩,none,false⟩,⟨⟨(some 18),.move (.tmp 1),3,"",⟨[]⟩,none⟩,none,false⟩,⟨⟨(some 19),.binOp .gtr 3 (.tmp 17) (.tmp 18) 3,4,"",⟨[]⟩,none⟩,none,false⟩]) (.cond (.tmp 19) (.seq (.ops false [⟨⟨(some 4),.assign (.const (.int .i64 1)),3,"",⟨[]⟩,none⟩,none,false⟩]) .ret) .skip)) (.seq (.ops false [⟨⟨(some 4),.assign (.const (.int .i64 0)),3,"",⟨[]⟩,none⟩,none,false⟩]) .ret))))))))
def Tryz.s99 : SC := (.seq (.ops false [⟨⟨(some 4),.assign (.const (.int .i64 0)),3,"",⟨[]⟩,none⟩,none,false⟩]) (.seq (.ops false [⟨⟨(some 7),.move (.tmp 0),77,"",⟨[]⟩,none⟩,none,false⟩,⟨⟨(some 8),.call ⟨.value (.func 119),⟨[(.tmp 7)]⟩,⟨[77]⟩⟩,4,"",⟨[]⟩,none⟩,none,false⟩,⟨⟨(some 5),.assign (.tmp 8),4,"",⟨[]⟩,none⟩,none,false⟩]) (.seq (.ops false [⟨⟨(some 9),.move (.tmp 1),77,"",⟨[]⟩,none⟩,none,false⟩,⟨⟨(some 10),.call ⟨.value (.func 119),⟨[(.tmp 9)]⟩,⟨[77]⟩⟩,4,"",⟨[]⟩,none⟩,none,false⟩,⟨⟨(some 6),.assign (.tmp 10),4,"",⟨[]⟩,none⟩,none,false⟩]) (.seq (.seq (.ops false [⟨⟨(some 11),.move (.tmp 5),4,"",⟨[]⟩,none⟩,none,false⟩]) (.cond (.tmp 11) (.seq (.seq (.ops false [⟨⟨(some 12),.move (.tmp 6),4,"",⟨[]⟩,none⟩,none,false⟩]) (.cond (.tmp 12) (.seq (.ops false [⟨⟨(some 4),.assign (.const (.int .i64 0)),3,"",⟨[]⟩,none⟩,none,false⟩]) .ret) .skip)) (.seq (.ops false [⟨⟨(some 4),.assign (.const (.int .i64 (-1))),3,"",⟨[]⟩,none⟩,none,false⟩]) .ret)) .skip)) (.seq (.seq (.ops false [⟨⟨(some 13),.move (.tmp 6),4,"",⟨[]⟩,none⟩,none,false⟩]) (.cond (.tmp 13) (.seq (.ops false [⟨⟨(some 4),.assign (.const (.int .i64 1)),3,"",⟨[]⟩,none⟩,none,false⟩]) .ret) .skip)) (.seq (.seq (.ops false [⟨⟨(some 14),.move (.tmp 0),77,"",⟨[]⟩,none⟩,none,false⟩,⟨⟨(some 15),.move (.tmp 1),77,"",⟨[]⟩,none⟩,none,false⟩,⟨⟨(some 16),.binOp .lss 77 (.tmp 14) (.tmp 15) 77,4,"",⟨[]⟩,none⟩,none,false⟩]) (.cond (.tmp 16) (.seq (.ops false [⟨⟨(some 4),.assign (.const (.int .i64 (-1))),3,"",⟨[]⟩,none⟩,none,false⟩]) .ret) .skip)) (.seq (.seq (.ops false [⟨⟨(some 17),.move (.tmp 0),77,"",⟨[]⟩,none⟩,none,false⟩,⟨⟨(some 18),.move (.tmp 1),77,"",⟨[]⟩,none⟩,none,false⟩,⟨⟨(some 19),.binOp .gtr 77 (.tmp 17) (.tmp 18) 77,4,"",⟨[]⟩,none⟩,none,false⟩]) (.cond (.tmp 19) (.seq (.ops false [⟨⟨(some 4),.assign (.const (.int .i64 1)),3,"",⟨[]⟩,none⟩,none,false⟩]) .ret) .skip)) (.seq (.ops false [⟨⟨(some 4),.assign (.const (.int .i64 0)),3,"",⟨[]⟩,none⟩,none,false⟩]) .ret))))))))
def Tryz.s117 : SC := (.seq (.ops false [⟨⟨(some 2),.assign (.const (.bool false)),4,"",⟨[]⟩,none⟩,none,false⟩]) (.seq (.ops false [⟨⟨(some 3),.move (.tmp 0),3,"",⟨[]⟩,none⟩,none,false⟩,⟨⟨(some 4),.move (.tmp 0),3,"",⟨[]⟩,none⟩,none,false⟩,⟨⟨(some 5),.binOp .neq 3 (.tmp 3) (.tmp 4) 3,4,"",⟨[]⟩,none⟩,none,false⟩,⟨⟨(some 2),.assign (.tmp 5),4,"",⟨[]⟩,none⟩,none,false⟩]) .ret))
def Tryz.s119 : SC := (.seq (.ops false [⟨⟨(some 2),.assign (.const (.bool false)),4,"",⟨[]⟩,none⟩,none,false⟩]) (.seq (.ops false [⟨⟨(some 3),.move (.tmp 0),77,"",⟨[]⟩,none⟩,none,false⟩,⟨⟨(some 4),.move (.tmp 0),77,"",⟨[]⟩,none⟩,none,false⟩,⟨⟨(some 5),.binOp .neq 77 (.tmp 3) (.tmp 4) 77,4,"",⟨[]⟩,none⟩,none,false⟩,⟨⟨(some 2),.assign (.tmp 5),4,"",⟨[]⟩,none⟩,none,false⟩]) .ret))
theorem Tryz.s95_eq : Tryz.f95.body.map sOf = some Tryz.s95 := by kernel_rfl
theorem Tryz.s96_eq : Tryz.f96.body.map sOf = some Tryz.s96 := by kernel_rfl
theorem Tryz.s97_eq : Tryz.f97.body.map sOf = some Tryz.s97 := by kernel_rfl
theorem Tryz.s99_eq : Tryz.f99.body.map sOf = some Tryz.s99 := by kernel_rfl
theorem Tryz.s117_eq : Tryz.f117.body.map sOf = some Tryz.s117 := by kernel_rfl
theorem Tryz.s119_eq : Tryz.f119.body.map sOf = some Tryz.s119 := by kernel_rfl
end Go.Proofs

namespace Go.Sim
open Go Go.RowKit
theorem calls_flat {P : Program} (hP : Fit P) (hfol : P.follows .mixedOrders = true) {told : ToldF} (ht : ∀ N, ToldOk P N told) {f : FuncId} {l : List Value} {v : Value} (hno : told f (l.toArray ++ #[]) .empty = none) (hl : flat.flats 6 l = true) (hv : flat 6 v = true)
    (h : CallT P told (.fn (.func f) #[]) l.toArray .empty fun u _ => u = v) (W : World) : Calls P f l.toArray W fun e W' => e = .returned v ∧ BelowD W.heap.size W W' := by
  obtain ⟨N, u, w1, hh, rfl⟩ := h
  have h1 := hh N (N + 1) (Nat.le_refl _) (by omega)
  have hno' : told f l.toArray .empty = none := by simpa using hno
  simp only [acall, Array.append_empty, hno'] at h1
  intro cs
  have ha : ARel (fun _ => none) l.toArray l.toArray := ARel.iff.2 (by simpa using flats_self (flat_self 6) hl _)
  obtain ⟨σ', v', W', fr, s, hf, hlv, e, r⟩ := enter_leaves hP hfol (call_ok hP hfol (ht W.heap.size) N) (call_pan hP hfol (ht W.heap.size) N) h1 cs (WRel.empty W) (args' := l.toArray) ha
  have := flat_eq 6 u hv σ' v' r
  subst this
  exact ⟨.returned v', W', fr, ⟨rfl, e.below⟩, s, hf, hlv⟩
theorem grown_of {W W' : World} (h : BelowD W.heap.size W W') : ∃ q os, W' = Go.Sort.grow (W.drewN q) os := by
  obtain ⟨⟨h1, h2, h3, h4, h5⟩, h6⟩ := h
  refine ⟨W'.drawn - W.drawn, W'.heap.extract W.heap.size W'.heap.size, ?_⟩
  obtain ⟨hp, tp, dr, os, out⟩ := W
  obtain ⟨hp', tp', dr', os', out'⟩ := W'
  simp only at *
  subst h1 h2 h3
  have e1 : hp' = hp ++ hp'.extract hp.size hp'.size := by
    apply Array.ext_getElem?
    intro k
    rw [Array.getElem?_append]
    split
    · rename_i hk
      exact h5 k hk
    · rename_i hk
      rw [Array.getElem?_extract]
      split
      · congr 1; omega
      · rename_i hk2
        rw [Array.getElem?_eq_none (by omega)]
  have e2 : dr + (dr' - dr) = dr' := by omega
  simp only [Go.Sort.grow, World.drewN, ← e1, e2]
end Go.Sim

namespace Go.Proofs
open Go Go.RowKit Go.Sim
set_option maxRecDepth 100000
def Tryz.T0c : ToldF := toldTab Tryz.lenTab (toldTab Tryz.popTab (toldTrue 21 fun _ _ _ => none))
def cmpI (a b : Int) : Int := if a < b then -1 else if b < a then 1 else 0
theorem isNaN_ok (x : Int) (w : AW) : CallT Tryz.prog Tryz.T0c (.fn (.func 117) #[]) #[.int .i64 x] w (Ret (.bool false) fun w' => w = w') := by
  have d1 : decide (x = x) = true := decide_eq_true rfl
  refine callT_code rfl Tryz.func117 rfl Tryz.s117_eq rfl ?_
  unfold Tryz.s117
  simp -dsimp -implicitDefEqProofs (maxSteps := 2000000) (disch := first | assumption | omega | (simp only [nx]; omega) | ((repeat refine Fresh.push ?_ _); assumption) | (simp only [smA]; done) | (simp [oneCell, AW.next_push]; done) | fail) only [go_sem, Nat.reduceEqDiff, reduceIte, Nat.reduceAdd, Int.toNat_natCast, Nat.add_zero, Owes_true, Tryz.results117, d1]
  exact ⟨rfl, rfl⟩
theorem isNaNP_ok (x : Int) (w : AW) : CallT Tryz.prog Tryz.T0c (.fn (.func 119) #[]) #[.int .i64 x] w (Ret (.bool false) fun w' => w = w') := by
  have d1 : decide (x = x) = true := decide_eq_true rfl
  refine callT_code rfl Tryz.func119 rfl Tryz.s119_eq rfl ?_
  unfold Tryz.s119
  simp -dsimp -implicitDefEqProofs (maxSteps := 2000000) (disch := first | assumption | omega | (simp only [nx]; omega) | ((repeat refine Fresh.push ?_ _); assumption) | (simp only [smA]; done) | (simp [oneCell, AW.next_push]; done) | fail) only [go_sem, Nat.reduceEqDiff, reduceIte, Nat.reduceAdd, Int.toNat_natCast, Nat.add_zero, Owes_true, Tryz.results119, d1]
  exact ⟨rfl, rfl⟩
theorem compare_ok (a b : Int) (w : AW) : CallT Tryz.prog Tryz.T0c (.fn (.func 97) #[]) #[.int .i64 a, .int .i64 b] w (Ret (.int .i64 (cmpI a b)) fun w' => w = w') := by
  refine callT_code rfl Tryz.func97 rfl Tryz.s97_eq rfl ?_
  unfold Tryz.s97
  simp -dsimp -implicitDefEqProofs (maxSteps := 2000000) (disch := first | assumption | omega | (simp only [nx]; omega) | ((repeat refine Fresh.push ?_ _); assumption) | (simp only [smA]; done) | (simp [oneCell, AW.next_push]; done) | fail) only [go_sem, Nat.reduceEqDiff, reduceIte, Nat.reduceAdd, Int.toNat_natCast, Nat.add_zero, Owes_true, Tryz.results97]
  apply callV_of (e := rfl)
  · exact isNaN_ok _ w
  rintro _ _ ⟨rfl, rfl⟩
  simp -dsimp -implicitDefEqProofs (maxSteps := 2000000) (disch := first | assumption | omega | (simp only [nx]; omega) | ((repeat refine Fresh.push ?_ _); assumption) | (simp only [smA]; done) | (simp [oneCell, AW.next_push]; done) | fail) only [go_sem, Nat.reduceEqDiff, reduceIte, Nat.reduceAdd, Int.toNat_natCast, Nat.add_zero, Owes_true, Tryz.results97]
  apply callV_of (e := rfl)
  · exact isNaN_ok _ w
  rintro _ _ ⟨rfl, rfl⟩
  by_cases h1 : a < b
  · simp -dsimp -implicitDefEqProofs (maxSteps := 2000000) (disch := first | assumption | omega | (simp only [nx]; omega) | ((repeat refine Fresh.push ?_ _); assumption) | (simp only [smA]; done) | (simp [oneCell, AW.next_push]; done) | fail) only [go_sem, Nat.reduceEqDiff, reduceIte, Nat.reduceAdd, Int.toNat_natCast, Nat.add_zero, Owes_true, Tryz.results97, h1]
    exact ⟨by unfold cmpI; rw [if_pos h1], rfl⟩
  by_cases h2 : b < a
  · have h2' : a > b := h2
    simp -dsimp -implicitDefEqProofs (maxSteps := 2000000) (disch := first | assumption | omega | (simp only [nx]; omega) | ((repeat refine Fresh.push ?_ _); assumption) | (simp only [smA]; done) | (simp [oneCell, AW.next_push]; done) | fail) only [go_sem, Nat.reduceEqDiff, reduceIte, Nat.reduceAdd, Int.toNat_natCast, Nat.add_zero, Owes_true, Tryz.results97, h1, h2, h2']
    exact ⟨by unfold cmpI; rw [if_neg h1, if_pos h2], rfl⟩
  · have h2' : ¬ a > b := h2
    simp -dsimp -implicitDefEqProofs (maxSteps := 2000000) (disch := first | assumption | omega | (simp only [nx]; omega) | ((repeat refine Fresh.push ?_ _); assumption) | (simp only [smA]; done) | (simp [oneCell, AW.next_push]; done) | fail) only [go_sem, Nat.reduceEqDiff, reduceIte, Nat.reduceAdd, Int.toNat_natCast, Nat.add_zero, Owes_true, Tryz.results97, h1, h2, h2']
    exact ⟨by unfold cmpI; rw [if_neg h1, if_neg h2], rfl⟩
theorem compareP_ok (a b : Int) (w : AW) : CallT Tryz.prog Tryz.T0c (.fn (.func 99) #[]) #[.int .i64 a, .int .i64 b] w (Ret (.int .i64 (cmpI a b)) fun w' => w = w') := by
  refine callT_code rfl Tryz.func99 rfl Tryz.s99_eq rfl ?_
  unfold Tryz.s99
  simp -dsimp -implicitDefEqProofs (maxSteps := 2000000) (disch := first | assumption | omega | (simp only [nx]; omega) | ((repeat refine Fresh.push ?_ _); assumption) | (simp only [smA]; done) | (simp [oneCell, AW.next_push]; done) | fail) only [go_sem, Nat.reduceEqDiff, reduceIte, Nat.reduceAdd, Int.toNat_natCast, Nat.add_zero, Owes_true, Tryz.results99]
  apply callV_of (e := rfl)
  · exact isNaNP_ok _ w
  rintro _ _ ⟨rfl, rfl⟩
  simp -dsimp -implicitDefEqProofs (maxSteps := 2000000) (disch := first | assumption | omega | (simp only [nx]; omega) | ((repeat refine Fresh.push ?_ _); assumption) | (simp only [smA]; done) | (simp [oneCell, AW.next_push]; done) | fail) only [go_sem, Nat.reduceEqDiff, reduceIte, Nat.reduceAdd, Int.toNat_natCast, Nat.add_zero, Owes_true, Tryz.results99]
  apply callV_of (e := rfl)
  · exact isNaNP_ok _ w
  rintro _ _ ⟨rfl, rfl⟩
  by_cases h1 : a < b
  · simp -dsimp -implicitDefEqProofs (maxSteps := 2000000) (disch := first | assumption | omega | (simp only [nx]; omega) | ((repeat refine Fresh.push ?_ _); assumption) | (simp only [smA]; done) | (simp [oneCell, AW.next_push]; done) | fail) only [go_sem, Nat.reduceEqDiff, reduceIte, Nat.reduceAdd, Int.toNat_natCast, Nat.add_zero, Owes_true, Tryz.results99, h1]
    exact ⟨by unfold cmpI; rw [if_pos h1], rfl⟩
  by_cases h2 : b < a
  · have h2' : a > b := h2
    simp -dsimp -implicitDefEqProofs (maxSteps := 2000000) (disch := first | assumption | omega | (simp only [nx]; omega) | ((repeat refine Fresh.push ?_ _); assumption) | (simp only [smA]; done) | (simp [oneCell, AW.next_push]; done) | fail) only [go_sem, Nat.reduceEqDiff, reduceIte, Nat.reduceAdd, Int.toNat_natCast, Nat.add_zero, Owes_true, Tryz.results99, h1, h2, h2']
    exact ⟨by unfold cmpI; rw [if_neg h1, if_pos h2], rfl⟩
  · have h2' : ¬ a > b := h2
    simp -dsimp -implicitDefEqProofs (maxSteps := 2000000) (disch := first | assumption | omega | (simp only [nx]; omega) | ((repeat refine Fresh.push ?_ _); assumption) | (simp only [smA]; done) | (simp [oneCell, AW.next_push]; done) | fail) only [go_sem, Nat.reduceEqDiff, reduceIte, Nat.reduceAdd, Int.toNat_natCast, Nat.add_zero, Owes_true, Tryz.results99, h1, h2, h2']
    exact ⟨by unfold cmpI; rw [if_neg h1, if_neg h2], rfl⟩
theorem sizeT_ok (x : Nat) (h : x < 64) (w : AW) : CallT Tryz.prog Tryz.T0c (.fn (.func 98) #[]) #[.int .i64 (x : Int)] w (Ret (.int .i64 (popN x : Int)) fun w' => w = w') := by
  refine callT_told (v := .int .i64 (popN x : Int)) (w' := w) ?_ ⟨rfl, rfl⟩
  show (match tabArg Tryz.popTab [.int Tryz.popTab.k (x : Int)] with | some x => some (Tryz.popTab.g x, w) | none => none) = _
  rw [tabArg_at (s := Tryz.popTab) (.inl rfl) h]
  rfl
def orI (a b : Int) : Int := if a = 0 then b else a
theorem or_ok (a b : Int) (bk : Nat) (w : AW) (h : Own w bk 3 [.int .i64 a, .int .i64 b]) : CallT Tryz.prog Tryz.T0c (.fn (.func 96) #[]) #[.slice (some ⟨bk, 0, none⟩) 2 2] w (Ret (.int .i64 (orI a b)) fun w' => w = w') := by
  have c0 := h.cell (o := 0) rfl rfl
  have c1 := h.cell (o := 1) rfl rfl
  refine callT_code rfl Tryz.func96 rfl Tryz.s96_eq rfl ?_
  unfold Tryz.s96
  simp -dsimp -implicitDefEqProofs (maxSteps := 2000000) (disch := first | assumption | omega | (simp only [nx]; omega) | ((repeat refine Fresh.push ?_ _); assumption) | (simp only [smA]; done) | (simp [oneCell, AW.next_push]; done) | fail) only [go_sem, Nat.reduceEqDiff, reduceIte, Nat.reduceAdd, Int.toNat_natCast, Nat.add_zero, Owes_true, Tryz.results96]
  refine loopR (fun k t ds w1 => ∃ i : Nat, i ≤ 2 ∧ k = 2 - i ∧ ds = [] ∧ ev t (.tmp 3) = .int .i64 0 ∧ ev t (.tmp 6) = .slice (some ⟨bk, 0, none⟩) 2 2 ∧ ev t (.tmp 7) = .int .i64 2 ∧ ev t (.tmp 8) = .int .i64 (i : Int) ∧ (1 ≤ i → a = 0) ∧ (2 ≤ i → b = 0) ∧ w = w1) (2) ?_ ?_
  · refine ⟨0, by omega, by omega, rfl, ?_, ?_, ?_, ?_, fun h => by omega, fun h => by omega, rfl⟩ <;> simp -dsimp -implicitDefEqProofs (maxSteps := 2000000) (disch := first | assumption | omega | (simp only [nx]; omega) | ((repeat refine Fresh.push ?_ _); assumption) | (simp only [smA]; done) | (simp [oneCell, AW.next_push]; done) | fail) only [go_sem, Nat.reduceEqDiff, reduceIte, Nat.reduceAdd, Int.toNat_natCast, Nat.add_zero, Owes_true] <;> rfl
  rintro k t ds w1 ⟨i, hii, rfl, rfl, e3, e6, e7, e8, hz, hw⟩
  obtain ⟨hz2, rfl⟩ := hw
  rcases Nat.lt_or_ge i 2 with hlt | hge
  case inr =>
    obtain rfl : i = 2 := by omega
    have hlI : ¬ ((2 : Nat) : Int) < 2 := by omega
    have ha := hz (by omega)
    have hb := hz2 (by omega)
    simp -dsimp -implicitDefEqProofs (maxSteps := 2000000) (disch := first | assumption | omega | (simp only [nx]; omega) | ((repeat refine Fresh.push ?_ _); assumption) | (simp only [smA]; done) | (simp [oneCell, AW.next_push]; done) | fail) only [go_sem, Nat.reduceEqDiff, reduceIte, Nat.reduceAdd, Int.toNat_natCast, Nat.add_zero, Owes_true, Tryz.results96, e3, e6, e7, e8, hlI]
    exact ⟨by rw [ha, hb]; rfl, rfl⟩
  have hlI : (i : Int) < 2 := by omega
  have hl0 : (i : Int) < ((2 : Nat) : Int) := by omega
  obtain ⟨v, hv⟩ : ∃ v, v = if i = 0 then a else b := ⟨_, rfl⟩
  have ci : w.cell? ⟨bk, i, none⟩ = some (.int .i64 v) := by
    rw [hv]
    rcases Nat.eq_zero_or_pos i with h0 | h0
    · rw [if_pos h0, h0]; exact c0
    · obtain h1 : i = 1 := by omega
      rw [if_neg (by omega), h1]; exact c1
  by_cases h0 : v = 0
  · have hd : decide (v = 0) = true := decide_eq_true h0
    simp -dsimp -implicitDefEqProofs (maxSteps := 2000000) (disch := first | assumption | omega | (simp only [nx]; omega) | ((repeat refine Fresh.push ?_ _); assumption) | (simp only [smA]; done) | (simp [oneCell, AW.next_push]; done) | fail) only [go_sem, Nat.reduceEqDiff, reduceIte, Nat.reduceAdd, Int.toNat_natCast, Nat.add_zero, Owes_true, Tryz.results96, e3, e6, e7, e8, hlI, hl0, indexV_eq, Nat.zero_add, Nat.mul_one, ci, hd]
    have n1 : 1 ≤ i + 1 → a = 0 := fun _ => by
      rcases Nat.eq_zero_or_pos i with q | q
      · rw [if_pos q] at hv; omega
      · exact hz q
    have n2 : 2 ≤ i + 1 → b = 0 := fun _ => by
      rw [if_neg (by omega)] at hv; omega
    refine ⟨_, by omega, i + 1, by omega, rfl, rfl, by (simp -dsimp -implicitDefEqProofs (maxSteps := 2000000) (disch := first | assumption | omega | (simp only [nx]; omega) | ((repeat refine Fresh.push ?_ _); assumption) | (simp only [smA]; done) | (simp [oneCell, AW.next_push]; done) | fail) only [go_sem, Nat.reduceEqDiff, reduceIte, Nat.reduceAdd, Int.toNat_natCast, Nat.add_zero, Owes_true, e3]; try rfl), by (simp -dsimp -implicitDefEqProofs (maxSteps := 2000000) (disch := first | assumption | omega | (simp only [nx]; omega) | ((repeat refine Fresh.push ?_ _); assumption) | (simp only [smA]; done) | (simp [oneCell, AW.next_push]; done) | fail) only [go_sem, Nat.reduceEqDiff, reduceIte, Nat.reduceAdd, Int.toNat_natCast, Nat.add_zero, Owes_true, e6]; try rfl), by (simp -dsimp -implicitDefEqProofs (maxSteps := 2000000) (disch := first | assumption | omega | (simp only [nx]; omega) | ((repeat refine Fresh.push ?_ _); assumption) | (simp only [smA]; done) | (simp [oneCell, AW.next_push]; done) | fail) only [go_sem, Nat.reduceEqDiff, reduceIte, Nat.reduceAdd, Int.toNat_natCast, Nat.add_zero, Owes_true, e7]; try rfl), by (simp -dsimp -implicitDefEqProofs (maxSteps := 2000000) (disch := first | assumption | omega | (simp only [nx]; omega) | ((repeat refine Fresh.push ?_ _); assumption) | (simp only [smA]; done) | (simp [oneCell, AW.next_push]; done) | fail) only [go_sem, Nat.reduceEqDiff, reduceIte, Nat.reduceAdd, Int.toNat_natCast, Nat.add_zero, Owes_true, e8]; try rfl), n1, n2, rfl⟩
  · have hd : decide (v = 0) = false := decide_eq_false h0
    simp -dsimp -implicitDefEqProofs (maxSteps := 2000000) (disch := first | assumption | omega | (simp only [nx]; omega) | ((repeat refine Fresh.push ?_ _); assumption) | (simp only [smA]; done) | (simp [oneCell, AW.next_push]; done) | fail) only [go_sem, Nat.reduceEqDiff, reduceIte, Nat.reduceAdd, Int.toNat_natCast, Nat.add_zero, Owes_true, Tryz.results96, e3, e6, e7, e8, hlI, hl0, indexV_eq, Nat.zero_add, Nat.mul_one, ci, hd]
    refine ⟨?_, rfl⟩
    unfold orI
    rcases Nat.eq_zero_or_pos i with q | q
    · rw [if_pos q] at hv; rw [if_neg (by omega), hv]
    · rw [if_neg (by omega)] at hv; rw [if_pos (hz q), hv]
theorem Tryz.bs24x2 (t : Tmps) (l : List (Nat × Operand)) : makes (prg Tryz.prog) t (.buildSlice 24 2 ⟨l⟩) = bsQ 3 2 1 [.int .i64 0, .int .i64 0] (l.map fun p => (p.1, ev t p.2)) := makes_bs Tryz.ty24 Tryz.ty3 rfl (by kernel_rfl)
theorem cmpN_is (x y : Nat) : orI (cmpI (popN x : Int) (popN y : Int)) (cmpI (x : Int) (y : Int)) = cmpN x y := by
  unfold orI cmpI cmpN
  repeat' split
  all_goals omega
theorem cmpSets_ok (x y : Nat) (hx : x < 64) (hy : y < 64) (w : AW) (f : Fresh w) : CallT Tryz.prog Tryz.T0c (.fn (.func 95) #[]) #[.int .i64 (x : Int), .int .i64 (y : Int)] w fun v _ => v = .int .i64 (cmpN x y) := by
  refine callT_code rfl Tryz.func95 rfl Tryz.s95_eq rfl ?_
  unfold Tryz.s95
  simp -dsimp -implicitDefEqProofs (maxSteps := 2000000) (disch := first | assumption | omega | (simp only [nx]; omega) | ((repeat refine Fresh.push ?_ _); assumption) | (simp only [smA]; done) | (simp [oneCell, AW.next_push]; done) | fail) only [go_sem, Nat.reduceEqDiff, reduceIte, Nat.reduceAdd, Int.toNat_natCast, Nat.add_zero, Owes_true, Tryz.results95]
  apply callV_of (e := rfl)
  · exact sizeT_ok x hx w
  rintro _ _ ⟨rfl, rfl⟩
  simp -dsimp -implicitDefEqProofs (maxSteps := 2000000) (disch := first | assumption | omega | (simp only [nx]; omega) | ((repeat refine Fresh.push ?_ _); assumption) | (simp only [smA]; done) | (simp [oneCell, AW.next_push]; done) | fail) only [go_sem, Nat.reduceEqDiff, reduceIte, Nat.reduceAdd, Int.toNat_natCast, Nat.add_zero, Owes_true, Tryz.results95]
  apply callV_of (e := rfl)
  · exact sizeT_ok y hy w
  rintro _ _ ⟨rfl, rfl⟩
  simp -dsimp -implicitDefEqProofs (maxSteps := 2000000) (disch := first | assumption | omega | (simp only [nx]; omega) | ((repeat refine Fresh.push ?_ _); assumption) | (simp only [smA]; done) | (simp [oneCell, AW.next_push]; done) | fail) only [go_sem, Nat.reduceEqDiff, reduceIte, Nat.reduceAdd, Int.toNat_natCast, Nat.add_zero, Owes_true, Tryz.results95]
  apply callV_of (e := rfl)
  · exact compare_ok _ _ w
  rintro _ _ ⟨rfl, rfl⟩
  simp -dsimp -implicitDefEqProofs (maxSteps := 2000000) (disch := first | assumption | omega | (simp only [nx]; omega) | ((repeat refine Fresh.push ?_ _); assumption) | (simp only [smA]; done) | (simp [oneCell, AW.next_push]; done) | fail) only [go_sem, Nat.reduceEqDiff, reduceIte, Nat.reduceAdd, Int.toNat_natCast, Nat.add_zero, Owes_true, Tryz.results95]
  apply callV_of (e := rfl)
  · exact compareP_ok _ _ w
  rintro _ _ ⟨rfl, rfl⟩
  simp -dsimp -implicitDefEqProofs (maxSteps := 2000000) (disch := first | assumption | omega | (simp only [nx]; omega) | ((repeat refine Fresh.push ?_ _); assumption) | (simp only [smA]; done) | (simp [oneCell, AW.next_push]; done) | fail) only [go_sem, Nat.reduceEqDiff, reduceIte, Nat.reduceAdd, Int.toNat_natCast, Nat.add_zero, Owes_true, Tryz.results95, Tryz.bs24x2, bsQ_21]
  apply callV_of (e := rfl)
  · exact or_ok _ _ w.next _ (Own.new f 3 [.int .i64 (cmpI (popN x : Int) (popN y : Int)), .int .i64 (cmpI (x : Int) (y : Int))])
  rintro _ _ ⟨rfl, rfl⟩
  simp -dsimp -implicitDefEqProofs (maxSteps := 2000000) (disch := first | assumption | omega | (simp only [nx]; omega) | ((repeat refine Fresh.push ?_ _); assumption) | (simp only [smA]; done) | (simp [oneCell, AW.next_push]; done) | fail) only [go_sem, Nat.reduceEqDiff, reduceIte, Nat.reduceAdd, Int.toNat_natCast, Nat.add_zero, Owes_true, Tryz.results95]
  rw [cmpN_is]
end Go.Proofs

namespace Go.Sim
open Go Go.RowKit
variable {P : Program} {N F : Nat}
inductive GDat where
  | flat (v : Value)
  | sl (n c : Nat) (cells : List GDat)
  | agg (ds : List GDat)
def matchCells (m : GDat → Value → Bool) (w : AW) (b : Nat) : List GDat → Nat → Bool
  | [], _ => true
  | d :: l, o => match w.cell? ⟨b, o, none⟩ with
    | some u => m d u && matchCells m w b l (o + 1)
    | none => false
def matchAll (m : GDat → Value → Bool) : List GDat → List Value → Bool
  | [], [] => true
  | d :: l, v :: r => m d v && matchAll m l r
  | _, _ => false
def zeroZ (w : AW) (b : Nat) : Bool :=
  match w.blk b with
  | some (.cells _ _ _ _ 0) | some (.given _) => true
  | _ => false
def matchV (w : AW) : Nat → GDat → Value → Bool
  | 0, _, _ => false
  | k + 1, d, v => match d, v with
    | .flat u, v => flat 6 u && same 12 u v
    | .sl n c cells, .slice (some ⟨b, o, none⟩) n' c' => Nat.beq n n' && Nat.beq c c' && Nat.blt 0 c && zeroZ w b && matchCells (matchV w k) w b cells o
    | .agg ds, .agg cs => matchAll (matchV w k) ds cs.toList
    | _, _ => false
def giveAll (g : GDat → AW → Value × AW) : List GDat → AW → List Value × AW
  | [], w => ([], w)
  | d :: l, w => match g d w with
    | (u, w1) => match giveAll g l w1 with
      | (us, w2) => (u :: us, w2)
def giveV : Nat → GDat → AW → Value × AW
  | 0, _, w => (undef, w)
  | k + 1, d, w => match d with
    | .flat u => (u, w)
    | .sl n c cells => match giveAll (giveV k) cells w with
      | (us, w1) => (.slice (some ⟨w1.next, 0, none⟩) n c, w1.push (.given us))
    | .agg ds => match giveAll (giveV k) ds w with
      | (us, w1) => (.agg us.toArray, w1)
def GiveOk (W : World) (m : GDat → Value → Bool) (g : GDat → AW → Value × AW) (σ : Emb) : Prop :=
  ∀ d v v', m d v = true → VRel σ v v' → ∀ (σ0 : Emb) (w0 : AW), WRel W.heap.size σ0 w0 W → ∃ σ1 : Emb, σ0.le σ1 ∧ WRel W.heap.size σ1 (g d w0).2 W ∧ VRel σ1 (g d w0).1 v'
theorem giveAll_ok {W : World} {m : GDat → Value → Bool} {g : GDat → AW → Value × AW} {σ : Emb} (h : GiveOk W m g σ) : ∀ (ds : List GDat) (vs vs' : List Value), matchAll m ds vs = true → LRel σ vs vs' → ∀ (σ0 : Emb) (w0 : AW), WRel W.heap.size σ0 w0 W →
    ∃ σ1 : Emb, σ0.le σ1 ∧ WRel W.heap.size σ1 (giveAll g ds w0).2 W ∧ LRel σ1 (giveAll g ds w0).1 vs'
  | [], [], vs', _, hr, σ0, w0, hw => by
    cases hr
    exact ⟨σ0, .refl _, hw, .nil⟩
  | d :: l, v :: r, vs', hm, hr, σ0, w0, hw => by
    cases hr with
    | cons h1 h2 =>
      simp only [matchAll, Bool.and_eq_true] at hm
      obtain ⟨σ1, a1, a2, a3⟩ := h d v _ hm.1 h1 σ0 w0 hw
      obtain ⟨σ2, b1, b2, b3⟩ := giveAll_ok h l r _ hm.2 h2 σ1 _ a2
      exact ⟨σ2, a1.trans b1, b2, .cons (a3.mono b1) b3⟩
  | [], _ :: _, _, h, _, _, _, _ => by simp [matchAll] at h
  | _ :: _, [], _, h, _, _, _, _ => by simp [matchAll] at h
theorem cells_list {W : World} {w : AW} {σ : Emb} {N : Nat} (hw : WRel N σ w W) {m : GDat → Value → Bool} {b : Nat} {x : Loc} (hb : σ b = some x) : ∀ (ds : List GDat) (o : Nat), matchCells m w b ds o = true →
    ∃ vs vs' : List Value, matchAll m ds vs = true ∧ LRel σ vs vs' ∧ vs'.length = ds.length ∧ ∀ (i : Nat) u, vs'[i]? = some u → W.cell? ⟨x.c, x.s + (o + i), none⟩ = some u
  | [], o, _ => ⟨[], [], rfl, .nil, rfl, fun i u h => by simp at h⟩
  | d :: l, o, h => by
    simp only [matchCells] at h
    split at h
    case h_2 => cases h
    rename_i u hu
    simp only [Bool.and_eq_true] at h
    obtain ⟨u', h1, h2, _⟩ := hw.cell hb hu
    obtain ⟨vs, vs', a1, a2, a3, a4⟩ := cells_list hw hb l (o + 1) h.2
    refine ⟨u :: vs, u' :: vs', by simp only [matchAll, Bool.and_eq_true]; exact ⟨h.1, a1⟩, .cons h2 a2, by simp [a3], fun i q hq => ?_⟩
    cases i with
    | zero => simp at hq; subst hq; exact h1
    | succ i => simp at hq; have := a4 i q hq; rw [show o + (i + 1) = o + 1 + i by omega]; exact this
theorem give_ok {W : World} {w : AW} {σ : Emb} (hw : WRel N σ w W) : ∀ k, GiveOk W (matchV w k) (giveV k) σ
  | 0 => fun d v v' h => by simp [matchV] at h
  | k + 1 => by
    have ih := give_ok hw k
    intro d v v' hm hr σ0 w0 h0
    unfold matchV at hm
    split at hm
    · rename_i u
      simp only [Bool.and_eq_true] at hm
      have := same_eq 12 _ _ hm.2
      subst this
      have e := flat_eq 6 _ hm.1 σ v' hr
      subst e
      exact ⟨σ0, .refl _, h0, flat_self 6 _ hm.1 σ0⟩
    · rename_i n c cells b o n' c'
      simp only [Bool.and_eq_true] at hm
      obtain ⟨⟨⟨⟨h1, h2⟩, h5⟩, h3⟩, h4⟩ := hm
      obtain rfl := Nat.eq_of_beq_eq_true h1
      obtain rfl := Nat.eq_of_beq_eq_true h2
      have hzx : ∀ x, σ b = some x → x.z = 0 := by
        intro x hx
        obtain ⟨_, q, hq, hl, hb⟩ := hw.dom b x hx
        unfold zeroZ at h3
        rw [hq] at h3
        cases q with
        | cells c0 e0 r0 b0 z0 =>
          split at h3
          · rename_i e; injection e with e; injection e with _ _ _ _ e; subst e; exact hb.1
          · rename_i e; injection e with e; cases e
          · cases h3
        | given c0 => exact hl.1
        | _ => simp at h3
      cases hr with
      | slice hx hk hcap =>
        rename_i k' x
        have hz := hzx x hx
        have hkk : k' = c := by rcases hcap with q | q; exact q; omega
        subst hkk
        obtain ⟨vs, vs', b1, b2, b3, b4⟩ := cells_list hw hx cells o h4
        obtain ⟨σ1, a1, a2, a3⟩ := giveAll_ok ih cells vs vs' b1 b2 σ0 w0 h0
        simp only [giveV]
        have hlen := a3.length
        refine ⟨σ1.with (giveAll (giveV k) cells w0).2.next ⟨x.c, x.s + o, 0, 0⟩, a1.trans (Emb.le_with a2.fresh _), WRel.give a2 _ _ rfl ?_ ?_, ?_⟩
        · cases hv : (giveAll (giveV k) cells w0).1 with
          | nil => exact .inl rfl
          | cons y ys =>
            right
            rw [hv] at hlen
            have h1 := b4 0 (vs'[0]'(by rw [← hlen]; simp)) (by simp)
            obtain ⟨cc, ce, fr, q, _⟩ := cell_at h1
            rcases Nat.lt_or_ge x.c W.heap.size with q' | q'
            · exact q'
            · rw [Array.getElem?_eq_none q'] at q; cases q
        · intro i u hi hone
          obtain ⟨u', hu', r⟩ := a3.getSome hi
          obtain ⟨cc, ce, fr, q, q2⟩ := cell_at (b4 i u' hu')
          exact ⟨cc, ce, fr, u', q, by rw [show x.s + o + i = x.s + (o + i) by omega]; exact q2, r⟩
        · exact VRel.slice (x := ⟨x.c, x.s + o, 0, 0⟩) (o := 0) (Emb.with_self _ _ _) (Nat.le_refl _) (.inl rfl)
      | tail hx a => exact absurd (Nat.blt_eq.mp h5) (by omega)
    · rename_i ds cs
      cases hr with
      | agg ha hav =>
        rename_i cs'
        have hl : LRel σ cs.toList cs'.toList := ARel.iff.1 (by exact ⟨ha, hav⟩)
        obtain ⟨σ1, a1, a2, a3⟩ := giveAll_ok ih ds cs.toList cs'.toList hm hl σ0 w0 h0
        exact ⟨σ1, a1, a2, VRel.agg_of (ARel.iff.2 (by simpa [giveV] using a3))⟩
    · cases hm
theorem calls_give (hP : Fit P) (hfol : P.follows .mixedOrders = true) {told : ToldF} (ht : ∀ N, ToldOk P N told) {n k : Nat} {f : FuncId} {ds : List GDat} {v : Value} (hno : (told f ((giveAll (giveV k) ds .empty).1.toArray ++ #[]) (giveAll (giveV k) ds .empty).2).isNone = true) (hv : flat 6 v = true)
    (h : isVal (xcall (prg P) (xsOf (prg P)) told F (n + 1) (.fn (.func f) #[]) (giveAll (giveV k) ds .empty).1 (giveAll (giveV k) ds .empty).2) v = true) {N : Nat} {σ : Emb} {w : AW} {W : World} (hw : WRel N σ w W) {args args' : List Value} (hm : matchAll (matchV w k) ds args = true) (hr : LRel σ args args') :
    Calls P f args'.toArray W fun e W' => e = .returned v ∧ BelowD W.heap.size W W' := by
  obtain ⟨σ0, _, g2, g3⟩ := giveAll_ok (give_ok hw k) ds args args' hm hr (fun _ => none) .empty (WRel.empty W)
  generalize (giveAll (giveV k) ds .empty).1 = us at *
  generalize (giveAll (giveV k) ds .empty).2 = w0 at *
  rw [xcall_eq hP.funcs] at h
  unfold isVal at h
  split at h
  case h_2 => cases h
  rename_i u w1 hr'
  have hu := same_eq 12 _ _ h
  subst hu
  simp only [acall] at hr'
  rw [Option.isNone_iff_eq_none.mp hno] at hr'
  simp only [Array.append_empty] at hr'
  intro cs
  have ha : ARel σ0 us.toArray args'.toArray := ARel.iff.2 (by simpa using g3)
  obtain ⟨σ', v', W', fr, s, hf, hlv, e, r⟩ := enter_leaves hP hfol (call_ok hP hfol (ht W.heap.size) n) (call_pan hP hfol (ht W.heap.size) n) hr' cs g2 (args' := args'.toArray) ha
  have := flat_eq 6 v hv σ' v' r
  subst this
  exact ⟨.returned v', W', fr, ⟨rfl, e.below⟩, s, hf, hlv⟩
structure GMemo where
  f : FuncId
  k : Nat
  ds : List GDat
  val : Value
def findG (f : FuncId) (args : List Value) (w : AW) : List GMemo → Option Value
  | [] => none
  | m :: l => match Nat.beq f m.f with
    | true => match matchAll (matchV w m.k) m.ds args with
      | true => some m.val
      | false => findG f args w l
    | false => findG f args w l
def toldGive (tab : List GMemo) (told : ToldF) : ToldF := fun f args w =>
  match findG f args.toList w tab with
  | some v => some (v, w)
  | none => told f args w
structure GMemoOk (P : Program) (m : GMemo) : Prop where
  enters : ∀ args w, (callFunc m.f args).run P w = .ok (.enter m.f args) w
  flatVal : flat 6 m.val = true
  calls : ∀ (N : Nat) (σ : Emb) (w : AW) (W : World), WRel N σ w W → ∀ args args', matchAll (matchV w m.k) m.ds args = true → LRel σ args args' → Calls P m.f args'.toArray W fun e W' => e = .returned m.val ∧ BelowD W.heap.size W W'
inductive GMemosOk (P : Program) : List GMemo → Prop where
  | nil : GMemosOk P []
  | cons {m : GMemo} {l : List GMemo} (h : GMemoOk P m) (t : GMemosOk P l) : GMemosOk P (m :: l)
theorem findG_ok {f : FuncId} {args : List Value} {w : AW} {v : Value} : ∀ {tab : List GMemo}, GMemosOk P tab → findG f args w tab = some v → ∃ m, GMemoOk P m ∧ m.f = f ∧ matchAll (matchV w m.k) m.ds args = true ∧ m.val = v
  | _, .nil, h => by cases h
  | _, .cons hm ht, h => by
    simp only [findG] at h
    split at h
    · rename_i hf
      split at h
      · rename_i hs
        injection h with h
        exact ⟨_, hm, (Nat.eq_of_beq_eq_true hf).symm, hs, h⟩
      · exact findG_ok ht h
    · exact findG_ok ht h
theorem toldGive_ok {tab : List GMemo} (hm : GMemosOk P tab) {told : ToldF} (ht : ∀ N, ToldOk P N told) (N : Nat) : ToldOk P N (toldGive tab told) := by
  intro f args w w1 v h σ W args0 cap c cs hw ha
  unfold toldGive at h
  split at h
  · rename_i u hu
    injection h with h; injection h with h1 h2
    subst h1 h2
    obtain ⟨m, hok, rfl, hargs, rfl⟩ := findG_ok hm hu
    have hc := hok.calls N σ w W hw args.toList (args0 ++ cap).toList hargs (ARel.iff.1 ha)
    rw [show (args0 ++ cap).toList.toArray = args0 ++ cap from rfl] at hc
    obtain ⟨W', d1, d2⟩ := delivers_calls hok.enters hc c cs
    exact ⟨σ, _, W', d1, hw.aside d2, flat_self 6 _ hok.flatVal σ⟩
  · exact ht N f args w w1 v h σ W args0 cap c cs hw ha
end Go.Sim

namespace Go.Proofs
open Go Go.Shelf Go.RowKit Go.Sim
set_option maxRecDepth 1000000
theorem Tryz.fits : Fit Tryz.prog := fit_of (by decide +kernel)
theorem Tryz.mixed : Tryz.prog.follows .mixedOrders = true := by decide +kernel
theorem Tryz.told0 (N : Nat) : ToldOk Tryz.prog N (fun _ _ _ => none) := fun f args w w1 v h => by cases h
end Go.Proofs
