/- A surplus is added; what a lot brings lies above; a lot is sold. -/
import Derived.Test.YtbmgalmnjaimeaaRb
import Derived.Test.YtbmgalmnjaimeaaTe
set_option linter.unusedVariables false
set_option linter.unusedSimpArgs false
namespace Go.Proofs
open Go Go.RowKit Go.Sim
set_option maxRecDepth 100000
theorem clone118_ok (s : ByteArray) (hs : s.size ≤ 281474976710656) (w : AW) : CallT Try.prog Try.T1 (.fn (.func 118) #[]) #[.string s] w (Ret (.string s) fun w' => w = w') := by
  refine callT_told (v := .string s) (w' := w) ?_ ⟨rfl, rfl⟩
  have h1 : Nat.ble s.size 281474976710656 = true := Nat.ble_eq.mpr hs
  show Try.T1 118 #[.string s] w = _
  simp [Try.T1, toldTrue, toldClone, cloneE, toldSame, h1]
theorem clone_ok (s : ByteArray) (hs : s.size ≤ 281474976710656) (w : AW) : CallT Try.prog Try.T1 (.fn (.func 117) #[]) #[.string s] w (Ret (.string s) fun w' => w = w') := by
  refine callT_code rfl Try.func117 rfl Try.s117_eq rfl ?_
  unfold Try.s117
  simp -dsimp -implicitDefEqProofs (maxSteps := 2000000) (disch := first | assumption | omega | (simp only [nx]; omega) | ((repeat refine Fresh.push ?_ _); assumption) | (simp only [smA]; done) | (simp [oneCell, AW.next_push]; done) | fail) only [go_sem, Nat.reduceEqDiff, reduceIte, Nat.reduceAdd, Int.toNat_natCast, Nat.add_zero, Owes_true, Try.results117]
  apply callV_of (e := rfl)
  · exact clone118_ok s hs w
  rintro _ _ ⟨rfl, rfl⟩
  simp -dsimp -implicitDefEqProofs (maxSteps := 2000000) (disch := first | assumption | omega | (simp only [nx]; omega) | ((repeat refine Fresh.push ?_ _); assumption) | (simp only [smA]; done) | (simp [oneCell, AW.next_push]; done) | fail) only [go_sem, Nat.reduceEqDiff, reduceIte, Nat.reduceAdd, Int.toNat_natCast, Nat.add_zero, Owes_true, Try.results117]
  exact ⟨rfl, rfl⟩
theorem bsQ_15 {e : TypeId} {z0 z1 z2 z3 z4 : Value} (s : ByteArray) (a b c d : Int) : bsQ e 1 5 [z0, z1, z2, z3, z4] [(0, .agg #[.string s, .int .i64 a, .int .i64 b, .int .i64 c, .int .i64 d])] = some ([.string s, .int .i64 a, .int .i64 b, .int .i64 c, .int .i64 d], e, fun n => .slice (some ⟨n, 0, none⟩) 1 1) := by
  simp [bsQ, Instr.fill, Value.cells]
theorem Try.bs57 (t : Tmps) (l : List (Nat × Operand)) : makes (prg Try.prog) t (.buildSlice 57 1 ⟨l⟩) = bsQ 53 1 5 [.string ⟨#[]⟩, .int .i64 0, .int .i64 0, .int .i64 0, .int .i64 0] (l.map fun p => (p.1, ev t p.2)) := makes_bs Try.ty57 Try.ty53 rfl (by kernel_rfl)
theorem bld53 (s : ByteArray) (a b c : Int) : bldQ [(0, 1), (1, 1), (2, 1), (3, 1), (4, 1)] [.string ⟨#[]⟩, .int .i64 0, .int .i64 0, .int .i64 0, .int .i64 0] [(0, .string s), (1, .int .i64 a), (2, .int .i64 b), (3, .int .i64 c)] = some (.agg #[.string s, .int .i64 a, .int .i64 b, .int .i64 c, .int .i64 0]) := by kernel_rfl
theorem same_mapP (n r : Nat) : same (n + 1) (.map (some r)) (.map (some r)) = true := by simp [same]
attribute [go_sem] bsQ_15 Try.bs57 bld53 same_mapP
theorem MapN.lt {w : AW} {r : Nat} {ks : List ByteArray} (h : MapN w r ks) : r < w.next := h.2
set_option maxHeartbeats 8000000 in
theorem add_ok (k : ByteArray) (m day : Int) (bp bb r : Nat) (x : PurN) (F : Nat → Prop) (w : AW) (f : Fresh w) (h : PurAt w F bp bb r x) (hk : k.size ≤ 281474976710656) (hn : ¬ k ∈ x.S.map SurN.s) (hl : x.S.length ≤ 1000) :
    CallT Try.prog Try.T1 (.fn (.func 109) #[]) #[.pointer (some ⟨bb, 0, none⟩), .string k, .int .i64 m, .int .i64 day] w (fun _ w' => ∃ F', PurAt w' F' bp bb r { x with S := x.S ++ [⟨k, m, day, 1, 0⟩] } ∧ MutS F w w' ∧ Within F w F') := by
  obtain ⟨vs, vn, S1, S2, hB⟩ := h
  obtain ⟨p0, k0, rfl⟩ : ∃ p c, vs = .slice p x.S.length c := by
    rcases hB.sur with ⟨rfl, e, _⟩ | ⟨b, _, rfl, _⟩
    · exact ⟨none, 0, by rw [e]⟩
    · exact ⟨_, _, rfl⟩
  have b1 := hB.bk.cell (o := 1) rfl rfl
  have b2 := hB.bk.cell (o := 2) rfl rfl
  obtain ⟨mb, hup, hmap⟩ := hB.map.add Try.ty115 Try.ty9 k hn
  rw [List.length_map] at hup
  have hr := hB.map.lt
  have m1 : MutS (fun j => j = r) w (w.put r mb) := MutS.put (S := fun j => j = r) f rfl hr _
  have hbk1 := m1.own hB.bk (fun q => hB.ne.2.2 q)
  have b11 := hbk1.cell (o := 1) rfl rfl
  refine callT_code rfl Try.func109 rfl Try.s109_eq rfl ?_
  unfold Try.s109
  simp -dsimp -implicitDefEqProofs (maxSteps := 2000000) (disch := first | assumption | omega | (simp only [nx]; omega) | ((repeat refine Fresh.push ?_ _); assumption) | (simp only [smA]; done) | (simp [oneCell, AW.next_push]; done) | fail) only [go_sem, Nat.reduceEqDiff, reduceIte, Nat.reduceAdd, Int.toNat_natCast, Nat.add_zero, Owes_true]
  apply callV_of (e := rfl)
  · exact clone_ok k hk w
  rintro _ _ ⟨rfl, rfl⟩
  have f1 := m1.fresh
  have hsur1 := hB.sur.other m1 (fun j hj q => (hB.f1 j hj).2.2.2.2 q)
  have hw1n := m1.next
  have hw1e : (w.put r mb).next = w.next := AW.next_put _ _ _
  have hlt := hB.lt
  generalize hw1 : w.put r mb = w1 at *
  have hnew := Own.new f1 53 [.string k, .int .i64 m, .int .i64 day, .int .i64 1, .int .i64 0]
  have fu := f1.push (.cells [.string k, .int .i64 m, .int .i64 day, .int .i64 1, .int .i64 0] 53 w1.next 0 0)
  have kU := (Keep.refl w1.next w1).push (Nat.le_refl _) (.cells [.string k, .int .i64 m, .int .i64 day, .int .i64 1, .int .i64 0] 53 w1.next 0 0)
  have hun : (w1.push (.cells [.string k, .int .i64 m, .int .i64 day, .int .i64 1, .int .i64 0] 53 w1.next 0 0)).next = w1.next + 1 := AW.next_push _ _
  obtain ⟨vs', w3, hap, hA3, f3, hn3, hbk3, hfm3, hwl3⟩ := append_anyS Try.ty57 Try.ty53 rfl (by omega) (by omega) (hsur1.keep kU) fu (firstOfL rfl fun i y hy => hnew.cell hy (surc_one ⟨k, m, day, 1, 0⟩ y (List.mem_of_getElem? hy))) rfl (surc_one ⟨k, m, day, 1, 0⟩) (by omega)
  obtain ⟨pn', nn', cn', rfl⟩ := hA3.isSlice
  have mU : MutS S1 w1 w3 := (MutS.of ⟨kU, fu⟩).trans (S' := S1) ⟨fun i hi _ => hbk3 i hi, hfm3, by omega, f3⟩ (Within.refl _ _)
  have hbk := mU.own hbk1 (fun q => (hB.f1 _ q).2.2.2.1 rfl)
  have hst := storeV_own1 (o := 1) (v := .slice pn' nn' cn') hbk (by simp) rfl
  simp only [setL] at hst
  have m4 : MutS (fun j => j = bb) w3 (w3.put bb (.cells [.int .i64 x.T, .slice pn' nn' cn', .map (some r), .int .i64 x.W, vn] 117 bb 0 0)) := MutS.put (S := fun j => j = bb) f3 rfl hbk.lt _
  have hbk4 := hbk.put [.int .i64 x.T, .slice pn' nn' cn', .map (some r), .int .i64 x.W, vn]
  have hsm := same_mapP 11 r
  simp -dsimp -implicitDefEqProofs (maxSteps := 2000000) (disch := first | assumption | omega | (simp only [nx]; omega) | ((repeat refine Fresh.push ?_ _); assumption) | (simp only [smA]; done) | (simp [oneCell, AW.next_push]; done) | fail) only [go_sem, Nat.reduceEqDiff, reduceIte, Nat.reduceAdd, Int.toNat_natCast, Nat.add_zero, Owes_true, b1, b2, Nat.zero_add, hsm, hup, b11, f1, hap, hwl3, hst]
  generalize w3.put bb (.cells [.int .i64 x.T, .slice pn' nn' cn', .map (some r), .int .i64 x.W, vn] 117 bb 0 0) = w4 at *
  have hn4 := m4.next
  rw [hun] at hn3 hA3
  have hbb := hlt _ hB.f.2.1
  have hbp := hlt _ hB.f.1
  have hbr := hlt _ hB.f.2.2
  refine ⟨[], rfl, fun j => F j ∨ j = w1.next + 1, ⟨.slice pn' nn' cn', vn, fun j => S1 j ∨ j = w1.next + 1, S2, ?_⟩, ((m1.mono fun j q => q ▸ hB.f.2.2).trans (mU.mono fun j q => (hB.f1 j q).1) (Within.refl _ _)).trans (m4.mono fun j q => q ▸ hB.f.2.1) (Within.refl _ _), fun j hj => hj.imp id fun q => by omega⟩
  have hnl : (x.S ++ [(⟨k, m, day, 1, 0⟩ : SurN)]).length = x.S.length + 1 := by simp
  have hc : (x.S ++ [(⟨k, m, day, 1, 0⟩ : SurN)]).flatMap surc = x.S.flatMap surc ++ [.string k, .int .i64 m, .int .i64 day, .int .i64 1, .int .i64 0] := by rw [List.flatMap_append]; rfl
  refine ⟨m4.own (mU.own (m1.own hB.own (fun q => hB.ne.2.1 q)) (fun q => (hB.f1 _ q).2.2.1 rfl)) (fun q => hB.ne.1 q), hbk4, ?_, ?_, ?_, ⟨.inl hB.f.1, .inl hB.f.2.1, .inl hB.f.2.2⟩, ?_, ?_, hB.ne, ?_⟩
  · show AOwnS _ w4 53 5 _ (x.S ++ [(⟨k, m, day, 1, 0⟩ : SurN)]).length ((x.S ++ [(⟨k, m, day, 1, 0⟩ : SurN)]).flatMap surc)
    rw [hnl, hc]
    refine hA3.other m4 fun j hj q => ?_
    rcases hj with z | z
    · exact (hB.f1 j z).2.2.2.1 q
    · omega
  · exact ((hB.not.other m1 fun j hj q => (hB.f2 j hj).2.2.2 q).other mU fun j hj q => (hB.f1 j q).2.1 hj).other m4 fun j hj q => (hB.f2 j hj).2.2.1 q
  · show MapN w4 r ((x.S ++ [(⟨k, m, day, 1, 0⟩ : SurN)]).map SurN.s)
    rw [List.map_append]
    exact (hmap.other mU fun q => (hB.f1 _ q).2.2.2.2 rfl).other m4 fun q => hB.ne.2.2 q.symm
  · intro j hj
    rcases hj with z | z
    · have h1 := hB.f1 j z
      exact ⟨.inl h1.1, h1.2⟩
    · exact ⟨.inr z, fun q => by have := hlt _ (hB.f2 j q).1; omega, by omega, by omega, by omega⟩
  · intro j hj
    exact ⟨.inl (hB.f2 j hj).1, (hB.f2 j hj).2⟩
  · intro j hj
    rcases hj with z | z
    · have := hlt j z; omega
    · omega
end Go.Proofs

namespace Go.Proofs
open Go Go.RowKit Go.Sim
set_option maxRecDepth 100000
theorem AOwn.mono {B C : Nat} {w : AW} {e : TypeId} {z n : Nat} {v : Value} {cells : List Value} (h : AOwn C w e z v n cells) (k : B ≤ C) : AOwn B w e z v n cells := by
  rcases h with h | ⟨b, r, q1, q2, q3, q4, q5, q6, q8, q7, q9⟩
  · exact .inl h
  · exact .inr ⟨b, r, q1, by omega, q3, by omega, q5, q6, q8, q7, fun j hj => let ⟨a, c⟩ := q9 j hj; ⟨by omega, c⟩⟩
set_option maxHeartbeats 8000000 in
theorem PortionsA_ok (price : Int) (xs : List PartV) (Ds : List (List DueN)) (v : Value) (w : AW) (f : Fresh w) (hs : PartsAt w v xs Ds) :
    CallT Try.prog Try.T1 (.fn (.func 20) #[]) #[.int .i64 price, v] w (fun r w' => ∃ u zs, r = .tuple #[u, .int .i64 (portE price xs Ds)] ∧ PortRes w' price xs Ds u zs ∧ ((portE price xs Ds = 0 ∧ AOwn w.next w' 81 3 u zs.length (zs.flatMap pcells)) ∨ (portE price xs Ds ≠ 0 ∧ u = .slice none 0 0)) ∧ Grown w w') := by
  obtain ⟨p, cc, rfl, hat⟩ := hs.at
  refine callT_code rfl Try.func20 rfl Try.s20_eq rfl ?_
  unfold Try.s20
  simp -dsimp -implicitDefEqProofs (maxSteps := 2000000) (disch := first | assumption | omega | (simp only [nx]; omega) | ((repeat refine Fresh.push ?_ _); assumption) | (simp only [smA]; done) | (simp [oneCell, AW.next_push]; done) | fail) only [go_sem, Nat.reduceEqDiff, reduceIte, Nat.reduceAdd, Int.toNat_natCast, Nat.add_zero, Owes_true, Try.results20]
  apply callV_of (e := rfl)
  · exact isAmount_ok _ _
  rintro _ _ ⟨rfl, rfl⟩
  cases h1 : inR 0 price 67108864 with
  | false =>
    have hE : portE price xs Ds = 7 := by rw [portE, if_pos h1]
    simp -dsimp -implicitDefEqProofs (maxSteps := 2000000) (disch := first | assumption | omega | (simp only [nx]; omega) | ((repeat refine Fresh.push ?_ _); assumption) | (simp only [smA]; done) | (simp [oneCell, AW.next_push]; done) | fail) only [go_sem, Nat.reduceEqDiff, reduceIte, Nat.reduceAdd, Int.toNat_natCast, Nat.add_zero, Owes_true, Try.results20]
    exact ⟨_, [], by rw [hE], PortRes.nil (by rw [hE]; decide), .inr ⟨by rw [hE]; decide, rfl⟩, .refl f⟩
  | true =>
  simp -dsimp -implicitDefEqProofs (maxSteps := 2000000) (disch := first | assumption | omega | (simp only [nx]; omega) | ((repeat refine Fresh.push ?_ _); assumption) | (simp only [smA]; done) | (simp [oneCell, AW.next_push]; done) | fail) only [go_sem, Nat.reduceEqDiff, reduceIte, Nat.reduceAdd, Int.toNat_natCast, Nat.add_zero, Owes_true, Try.results20]
  apply callV_of (e := rfl)
  · exact areParts_ok xs Ds _ w f hs
  rintro _ w1 ⟨rfl, g1⟩
  cases h2 : partsB xs with
  | false =>
    have hE : portE price xs Ds = 72 := by rw [portE, if_neg (by rw [h1]; simp), if_pos h2]
    simp -dsimp -implicitDefEqProofs (maxSteps := 2000000) (disch := first | assumption | omega | (simp only [nx]; omega) | ((repeat refine Fresh.push ?_ _); assumption) | (simp only [smA]; done) | (simp [oneCell, AW.next_push]; done) | fail) only [go_sem, Nat.reduceEqDiff, reduceIte, Nat.reduceAdd, Int.toNat_natCast, Nat.add_zero, Owes_true, Try.results20]
    exact ⟨_, [], by rw [hE], PortRes.nil (by rw [hE]; decide), .inr ⟨by rw [hE]; decide, rfl⟩, g1⟩
  | true =>
  have hl8 : xs.length ≤ 8 := by
    have q2 := h2
    simp only [partsB, Bool.and_eq_true, inR_iff] at q2
    omega
  simp -dsimp -implicitDefEqProofs (maxSteps := 2000000) (disch := first | assumption | omega | (simp only [nx]; omega) | ((repeat refine Fresh.push ?_ _); assumption) | (simp only [smA]; done) | (simp [oneCell, AW.next_push]; done) | fail) only [go_sem, Nat.reduceEqDiff, reduceIte, Nat.reduceAdd, Int.toNat_natCast, Nat.add_zero, Owes_true, Try.results20]
  apply callV_of (e := rfl)
  · exact allP_ok xs Ds _ w1 g1.2 (hs.grown g1) (by omega)
  rintro _ w2 ⟨rfl, hg2⟩
  have g2 := g1.trans hg2
  cases h3 : Ds.all duesB with
  | false =>
    have hE : portE price xs Ds = 71 := by rw [portE, if_neg (by rw [h1]; simp), if_neg (by rw [h2]; simp), if_pos h3]
    simp -dsimp -implicitDefEqProofs (maxSteps := 2000000) (disch := first | assumption | omega | (simp only [nx]; omega) | ((repeat refine Fresh.push ?_ _); assumption) | (simp only [smA]; done) | (simp [oneCell, AW.next_push]; done) | fail) only [go_sem, Nat.reduceEqDiff, reduceIte, Nat.reduceAdd, Int.toNat_natCast, Nat.add_zero, Owes_true, Try.results20]
    exact ⟨_, [], by rw [hE], PortRes.nil (by rw [hE]; decide), .inr ⟨by rw [hE]; decide, rfl⟩, g2⟩
  | true =>
  have hE : portE price xs Ds = 0 := by rw [portE, if_neg (by rw [h1]; simp), if_neg (by rw [h2]; simp), if_neg (by rw [h3]; simp)]
  have hI := portE_in hE
  have hpr := hI.pr
  simp -dsimp -implicitDefEqProofs (maxSteps := 2000000) (disch := first | assumption | omega | (simp only [nx]; omega) | ((repeat refine Fresh.push ?_ _); assumption) | (simp only [smA]; done) | (simp [oneCell, AW.next_push]; done) | fail) only [go_sem, Nat.reduceEqDiff, reduceIte, Nat.reduceAdd, Int.toNat_natCast, Nat.add_zero, Owes_true, Try.results20]
  apply callV_of (e := rfl)
  · exact valuesOf_ok xs Ds _ w2 g2.2 (hs.grown g2) (by omega)
  rintro _ w3 ⟨b3, rfl, _, hV, hg3⟩
  have g3 := g2.trans hg3
  have harr := hV.iarr (by rw [List.length_map]; omega)
  rw [List.length_map] at harr
  simp -dsimp -implicitDefEqProofs (maxSteps := 2000000) (disch := first | assumption | omega | (simp only [nx]; omega) | ((repeat refine Fresh.push ?_ _); assumption) | (simp only [smA]; done) | (simp [oneCell, AW.next_push]; done) | fail) only [go_sem, Nat.reduceEqDiff, reduceIte, Nat.reduceAdd, Int.toNat_natCast, Nat.add_zero, Owes_true, Try.results20]
  apply callV_of (e := rfl)
  · exact share_ok (xs.map PartV.v) _ price w3 g3.2 harr hI.wgt hpr.1 (by omega)
  rintro _ w4 ⟨b4, rfl, hb4, hQ, hQl, hg4⟩
  obtain ⟨hsh, hsum⟩ := share_is hI.wgt.nn hI.wgt.sum.1 hpr.1
  have hle := fun i => W_le_sum hsh.nn i
  have hQP : PortRes = PortRes := rfl
  have g4 := g3.trans hg4
  rw [List.length_map] at hQl
  have hfin : ∀ (w' : AW) (u : Value) (zs : List PortV), ArrOf w' 3 pcells u zs → zs.length = xs.length → PortOk w' (shareL (xs.map PartV.v) price) Ds zs → PortRes w' price xs Ds u zs := fun w' u zs q1 q2 q3 => ⟨q1, fun _ => ⟨q2, q3⟩, fun z => absurd hE z⟩
  generalize shareL (xs.map PartV.v) price = Q at *
  simp -dsimp -implicitDefEqProofs (maxSteps := 2000000) (disch := first | assumption | omega | (simp only [nx]; omega) | ((repeat refine Fresh.push ?_ _); assumption) | (simp only [smA]; done) | (simp [oneCell, AW.next_push]; done) | fail) only [go_sem, Nat.reduceEqDiff, reduceIte, Nat.reduceAdd, Int.toNat_natCast, Nat.add_zero, Owes_true, Try.results20, List.length_map]
  refine loopR (fun k t ds w5 => ∃ i : Nat, i ≤ xs.length ∧ k = xs.length - i ∧ ds = [] ∧ ev t (.tmp 1) = .slice p xs.length cc ∧ ev t (.tmp 24) = .slice (some ⟨b4, 0, none⟩) xs.length xs.length ∧ ev t (.tmp 25) = .int .i64 (xs.length : Int) ∧ ev t (.tmp 26) = .int .i64 (i : Int) ∧ (∃ (u : Value) (zs : List PortV), ev t (.tmp 6) = u ∧ AOwn w4.next w5 81 3 u zs.length (zs.flatMap pcells) ∧ zs.length = i ∧ PortOk w5 Q Ds zs) ∧ Grown w4 w5) (xs.length) ?_ ?_
  · refine ⟨0, by omega, by omega, rfl, ?_, ?_, ?_, ?_, ⟨_, [], (by simp -dsimp -implicitDefEqProofs (maxSteps := 2000000) (disch := first | assumption | omega | (simp only [nx]; omega) | ((repeat refine Fresh.push ?_ _); assumption) | (simp only [smA]; done) | (simp [oneCell, AW.next_push]; done) | fail) only [go_sem, Nat.reduceEqDiff, reduceIte, Nat.reduceAdd, Int.toNat_natCast, Nat.add_zero, Owes_true]; try rfl), .inl ⟨rfl, rfl, rfl⟩, rfl, fun k hk => by simp at hk⟩, Grown.refl g4.2⟩ <;> simp -dsimp -implicitDefEqProofs (maxSteps := 2000000) (disch := first | assumption | omega | (simp only [nx]; omega) | ((repeat refine Fresh.push ?_ _); assumption) | (simp only [smA]; done) | (simp [oneCell, AW.next_push]; done) | fail) only [go_sem, Nat.reduceEqDiff, reduceIte, Nat.reduceAdd, Int.toNat_natCast, Nat.add_zero, Owes_true, List.length_map] <;> rfl
  rintro k t ds w5 ⟨i, hii, rfl, rfl, e1, e24, e25, e26, hZ, hg⟩
  obtain ⟨u, zs, e6, hZ, hzl, hok⟩ := hZ
  have gg := g4.trans hg
  by_cases hlt : (i : Int) < (xs.length : Int)
  case neg =>
    obtain rfl : i = xs.length := by omega
    have hA := hZ.arr pcells_len (by omega)
    simp -dsimp -implicitDefEqProofs (maxSteps := 2000000) (disch := first | assumption | omega | (simp only [nx]; omega) | ((repeat refine Fresh.push ?_ _); assumption) | (simp only [smA]; done) | (simp [oneCell, AW.next_push]; done) | fail) only [go_sem, Nat.reduceEqDiff, reduceIte, Nat.reduceAdd, Int.toNat_natCast, Nat.add_zero, Owes_true, Try.results20, e1, e6, e24, e25, e26, hlt]
    exact ⟨_, zs, by rw [hE], hfin _ _ _ hA hzl hok, .inl ⟨hE, AOwn.mono hZ (by have := g4.1.next; omega)⟩, gg⟩
  have hlt' : i < xs.length := by omega
  have hltD : i < Ds.length := by rw [hs.len]; exact hlt'
  obtain ⟨b1, o1, q, m, c, rfl, hdu, hcell⟩ := hat i hlt'
  obtain ⟨a0, a1, a2⟩ := hcell w5 gg.1
  have hD := (hs.dues i hlt' hltD).grown gg
  rw [hdu] at hD
  have hDi := hI.dues _ (List.getElem_mem hltD)
  have hQ5 := hQ.keep hg.1
  have z0 := hQ5.icell (i := i) (by omega)
  rw [show (⟨b4, i, none⟩ : Addr) = ⟨b4, i * 1, none⟩ from by rw [Nat.mul_one]] at z0
  have hq0 := hsh.nn i
  have hq1 := hle i
  simp -dsimp -implicitDefEqProofs (maxSteps := 2000000) (disch := first | assumption | omega | (simp only [nx]; omega) | ((repeat refine Fresh.push ?_ _); assumption) | (simp only [smA]; done) | (simp [oneCell, AW.next_push]; done) | fail) only [go_sem, Nat.reduceEqDiff, reduceIte, Nat.reduceAdd, Int.toNat_natCast, Nat.add_zero, Owes_true, Try.results20, e1, e6, e24, e25, e26, hlt, indexV_eq, Nat.zero_add, z0, a0, a1, a2]
  apply callV_of (e := rfl)
  · exact portion_ok xs[i].s xs[i].v q m c Ds[i] (W Q i) w5 gg.2 hD hDi.1 hDi.2 hq0 (by omega)
  rintro _ w6 ⟨q', m', c', rfl, hP, hg6⟩
  have hZ6 := hZ.keep hg6.1 (Nat.le_refl _)
  have hok6 := hok.grown hg6
  have hn6 := hg.1.next
  have hn7 := hg6.1.next
  obtain ⟨u', w7, happ, hZ7, hk7, hf7, hn8, hap⟩ := append_one (e' := 81) Try.ty33 Try.ty81 rfl (by omega) (by omega) hZ6 (gg.trans hg6).2 (by omega) (pcells_len ⟨W Q i, .slice q' m' c', leftN Ds[i] (W Q i) 10⟩) (pcells_one rfl) (by omega)
  simp only [pcells] at happ
  have hgd : Ds.getD i [] = Ds[i] := getD_at hltD
  have hok7 := (hok6.snoc ⟨W Q i, .slice q' m' c', leftN Ds[i] (W Q i) 10⟩ (by rw [hzl]) (by rw [hzl, hgd]) (by rw [hzl, hgd]; exact hP)).app hap
  simp -dsimp -implicitDefEqProofs (maxSteps := 2000000) (disch := first | assumption | omega | (simp only [nx]; omega) | ((repeat refine Fresh.push ?_ _); assumption) | (simp only [smA]; done) | (simp [oneCell, AW.next_push]; done) | fail) only [go_sem, Nat.reduceEqDiff, reduceIte, Nat.reduceAdd, Int.toNat_natCast, Nat.add_zero, Owes_true, Try.results20, e1, e6, e24, e25, e26, happ]
  refine ⟨_, by omega, i + 1, by omega, rfl, rfl, by (simp -dsimp -implicitDefEqProofs (maxSteps := 2000000) (disch := first | assumption | omega | (simp only [nx]; omega) | ((repeat refine Fresh.push ?_ _); assumption) | (simp only [smA]; done) | (simp [oneCell, AW.next_push]; done) | fail) only [go_sem, Nat.reduceEqDiff, reduceIte, Nat.reduceAdd, Int.toNat_natCast, Nat.add_zero, Owes_true, e1]; try rfl), by (simp -dsimp -implicitDefEqProofs (maxSteps := 2000000) (disch := first | assumption | omega | (simp only [nx]; omega) | ((repeat refine Fresh.push ?_ _); assumption) | (simp only [smA]; done) | (simp [oneCell, AW.next_push]; done) | fail) only [go_sem, Nat.reduceEqDiff, reduceIte, Nat.reduceAdd, Int.toNat_natCast, Nat.add_zero, Owes_true, e24]; try rfl), by (simp -dsimp -implicitDefEqProofs (maxSteps := 2000000) (disch := first | assumption | omega | (simp only [nx]; omega) | ((repeat refine Fresh.push ?_ _); assumption) | (simp only [smA]; done) | (simp [oneCell, AW.next_push]; done) | fail) only [go_sem, Nat.reduceEqDiff, reduceIte, Nat.reduceAdd, Int.toNat_natCast, Nat.add_zero, Owes_true, e25]; try rfl), by (simp -dsimp -implicitDefEqProofs (maxSteps := 2000000) (disch := first | assumption | omega | (simp only [nx]; omega) | ((repeat refine Fresh.push ?_ _); assumption) | (simp only [smA]; done) | (simp [oneCell, AW.next_push]; done) | fail) only [go_sem, Nat.reduceEqDiff, reduceIte, Nat.reduceAdd, Int.toNat_natCast, Nat.add_zero, Owes_true, e26]; try rfl), ⟨u', zs ++ [⟨W Q i, .slice q' m' c', leftN Ds[i] (W Q i) 10⟩], (by simp -dsimp -implicitDefEqProofs (maxSteps := 2000000) (disch := first | assumption | omega | (simp only [nx]; omega) | ((repeat refine Fresh.push ?_ _); assumption) | (simp only [smA]; done) | (simp [oneCell, AW.next_push]; done) | fail) only [go_sem, Nat.reduceEqDiff, reduceIte, Nat.reduceAdd, Int.toNat_natCast, Nat.add_zero, Owes_true]), (by rw [List.length_append, List.flatMap_append]; exact hZ7), (by rw [List.length_append, hzl]; rfl), hok7⟩, ⟨(hg.trans hg6).1.trans (hk7.mono (by omega)), hf7⟩⟩
end Go.Proofs

namespace Go.Proofs
open Go Go.RowKit Go.Sim
set_option maxRecDepth 100000
def PortsAt (w : AW) (F : Nat → Prop) (u : Value) (zs : List PortV) : Prop := ∃ p cap, u = .slice p zs.length cap ∧ ∀ i (hi : i < zs.length), ∃ b o q m c, p = some ⟨b, o, none⟩ ∧ ¬ F b ∧ b < w.next ∧ zs[i].pv = .slice q m c ∧ w.cell? ⟨b, o + i * 3, none⟩ = some (.int .i64 zs[i].pr) ∧ w.cell? ⟨b, o + i * 3 + 1, none⟩ = some (.slice q m c) ∧ w.cell? ⟨b, o + i * 3 + 2, none⟩ = some (.int .i64 zs[i].lf)
theorem PortsAt.step {w w' : AW} {F F' : Nat → Prop} {u : Value} {zs : List PortV} (h : PortsAt w F u zs) (k : MutS F w w') (hw : Within F w F') : PortsAt w' F' u zs := by
  obtain ⟨p, cap, rfl, hat⟩ := h
  refine ⟨p, cap, rfl, fun i hi => ?_⟩
  obtain ⟨b, o, q, m, c, rfl, hF, hb, hpv, h0, h1, h2⟩ := hat i hi
  have hn := k.next
  have hbk := k.blk b hb hF
  refine ⟨b, o, q, m, c, rfl, fun z => (hw b z).elim hF (by omega), by omega, hpv, ?_, ?_, ?_⟩
  · rw [← h0]; simp only [AW.cell?, hbk]
  · rw [← h1]; simp only [AW.cell?, hbk]
  · rw [← h2]; simp only [AW.cell?, hbk]
theorem ports_of {w : AW} {F : Nat → Prop} {B : Nat} {u : Value} {zs : List PortV} (h : AOwn B w 81 3 u zs.length (zs.flatMap pcells)) (hF : ∀ j, F j → j < B) (hs : ∀ z ∈ zs, ∃ q m c, z.pv = .slice q m c) : PortsAt w F u zs := by
  rcases h with ⟨rfl, h, _⟩ | ⟨b, r, rfl, q1, q2, q3, q4, q5, q6, q8, q7⟩
  · exact ⟨none, 0, by rw [h], fun i hi => by omega⟩
  · refine ⟨_, _, rfl, fun i hi => ?_⟩
    obtain ⟨q, m, c, hpv⟩ := hs zs[i] (List.getElem_mem hi)
    have hg := fun j hj => flatMap_get pcells_len zs i j zs[i] (List.getElem?_eq_getElem hi) hj
    have g0 : (zs.flatMap pcells)[i * 3]? = some (.int .i64 zs[i].pr) := by have := hg 0 (by omega); rw [Nat.add_zero] at this; rw [this]; rfl
    have g1 : (zs.flatMap pcells)[i * 3 + 1]? = some (.slice q m c) := by have := hg 1 (by omega); rw [this]; rw [← hpv]; rfl
    have g2 : (zs.flatMap pcells)[i * 3 + 2]? = some (.int .i64 zs[i].lf) := by have := hg 2 (by omega); rw [this]; rfl
    refine ⟨b, 0, q, m, c, rfl, fun z => by have := hF b z; omega, q2, hpv, ?_, ?_, ?_⟩
    · rw [Nat.zero_add]; simp only [AW.cell?, q5, getL_eq, g0, q8 _ (List.mem_of_getElem? g0)]
    · rw [Nat.zero_add]; simp only [AW.cell?, q5, getL_eq, g1, q8 _ (List.mem_of_getElem? g1)]
    · rw [Nat.zero_add]; simp only [AW.cell?, q5, getL_eq, g2, q8 _ (List.mem_of_getElem? g2)]
theorem PortsAt.grown {w w' : AW} {F : Nat → Prop} {u : Value} {zs : List PortV} (h : PortsAt w F u zs) (k : Grown w w') : PortsAt w' F u zs := h.step (.of k) (Within.refl _ _)
theorem new_port {w1 : AW} (f : Fresh w1) (a b : Int) (q : Option Addr) (m c : Nat) : ∃ w2, storeV (w1.push (.cells [.int .i64 0, .slice none 0 0, .int .i64 0] 81 w1.next 0 0)) true 3 (.pointer (some ⟨w1.next, 0, none⟩)) (.agg #[.int .i64 a, .slice q m c, .int .i64 b]) = some w2 ∧ Own w2 w1.next 81 [.int .i64 a, .slice q m c, .int .i64 b] ∧ Grown w1 w2 := by
  have hO := Own.new f 81 [.int .i64 0, .slice none 0 0, .int .i64 0]
  have gP := (Grown.refl f).push (.cells [.int .i64 0, .slice none 0 0, .int .i64 0] 81 w1.next 0 0)
  have hst := storeV_own (o := 0) (l := [.int .i64 a, .slice q m c, .int .i64 b]) (size := 3) hO rfl (by omega) (by simp) (by rfl)
  simp only [setsL, setL] at hst
  exact ⟨_, hst, hO.put _, ⟨gP.1.put (b := w1.next) (Nat.le_refl _) _, gP.2.put hO.lt _⟩⟩
theorem hasLeft_ok (a b : Int) (q : Option Addr) (m c : Nat) (w : AW) (f : Fresh w) : CallT Try.prog Try.T1 (.fn (.func 108) #[]) #[.agg #[.int .i64 a, .slice q m c, .int .i64 b]] w (Ret (.bool (decide (0 < b))) (Grown w)) := by
  have g := (Grown.refl f).push (.cells [.int .i64 a, .slice q m c, .int .i64 b] 81 w.next 0 0)
  have hO := Own.new f 81 [.int .i64 a, .slice q m c, .int .i64 b]
  have c2 := hO.cell (o := 2) rfl rfl
  refine callT_code rfl Try.func108 rfl Try.s108_eq rfl ?_
  unfold Try.s108
  simp -dsimp -implicitDefEqProofs (maxSteps := 2000000) (disch := first | assumption | omega | (simp only [nx]; omega) | ((repeat refine Fresh.push ?_ _); assumption) | (simp only [smA]; done) | (simp [oneCell, AW.next_push]; done) | fail) only [go_sem, Nat.reduceEqDiff, reduceIte, Nat.reduceAdd, Int.toNat_natCast, Nat.add_zero, Owes_true, Try.results108, Nat.zero_add, c2]
  exact ⟨rfl, g⟩
def leftQ (zs : List PortV) (i : Nat) : Bool := match zs[i]? with
  | some z => decide (0 < z.lf)
  | none => false
set_option maxHeartbeats 4000000 in
theorem placesL_ok (zs : List PortV) (u0 : Value) (F : Nat → Prop) (w : AW) (f : Fresh w) (hs : PortsAt w F u0 zs) (hl : zs.length ≤ 1000) :
    CallT Try.prog Try.T1 (.fn (.func 107) #[]) #[u0, .func (.func 108) #[] #[]] w (fun r w' => AOwn w.next w' 3 1 r ((pick (leftQ zs) zs.length).map nint).length (((pick (leftQ zs) zs.length).map nint).flatMap icells) ∧ Grown w w') := by
  obtain ⟨p, cc, rfl, _⟩ := id hs
  refine callT_code rfl Try.func107 rfl Try.s107_eq rfl ?_
  unfold Try.s107
  simp -dsimp -implicitDefEqProofs (maxSteps := 2000000) (disch := first | assumption | omega | (simp only [nx]; omega) | ((repeat refine Fresh.push ?_ _); assumption) | (simp only [smA]; done) | (simp [oneCell, AW.next_push]; done) | fail) only [go_sem, Nat.reduceEqDiff, reduceIte, Nat.reduceAdd, Int.toNat_natCast, Nat.add_zero, Owes_true, Try.results107]
  refine loopR (fun k t ds w1 => ∃ i : Nat, i ≤ zs.length ∧ k = zs.length - i ∧ ds = [] ∧ ev t (.tmp 1) = .func (.func 108) #[] #[] ∧ ev t (.tmp 8) = .slice p zs.length cc ∧ ev t (.tmp 9) = .int .i64 (zs.length : Int) ∧ ev t (.tmp 10) = .int .i64 (i : Int) ∧ (∃ u, ev t (.tmp 5) = u ∧ AOwn w.next w1 3 1 u ((pick (leftQ zs) i).map nint).length (((pick (leftQ zs) i).map nint).flatMap icells)) ∧ Grown w w1) (zs.length) ?_ ?_
  · refine ⟨0, by omega, by omega, rfl, ?_, ?_, ?_, ?_, ⟨_, (by simp -dsimp -implicitDefEqProofs (maxSteps := 2000000) (disch := first | assumption | omega | (simp only [nx]; omega) | ((repeat refine Fresh.push ?_ _); assumption) | (simp only [smA]; done) | (simp [oneCell, AW.next_push]; done) | fail) only [go_sem, Nat.reduceEqDiff, reduceIte, Nat.reduceAdd, Int.toNat_natCast, Nat.add_zero, Owes_true]; try rfl), .inl ⟨rfl, rfl, rfl⟩⟩, Grown.refl f⟩ <;> simp -dsimp -implicitDefEqProofs (maxSteps := 2000000) (disch := first | assumption | omega | (simp only [nx]; omega) | ((repeat refine Fresh.push ?_ _); assumption) | (simp only [smA]; done) | (simp [oneCell, AW.next_push]; done) | fail) only [go_sem, Nat.reduceEqDiff, reduceIte, Nat.reduceAdd, Int.toNat_natCast, Nat.add_zero, Owes_true] <;> rfl
  rintro k t ds w1 ⟨i, hii, rfl, rfl, e1, e8, e9, e10, hA, hg⟩
  obtain ⟨u, e5, hA⟩ := hA
  have hpl : ((pick (leftQ zs) i).map nint).length ≤ i := by rw [List.length_map]; exact pick_len _ _
  by_cases hlt : (i : Int) < (zs.length : Int)
  case neg =>
    obtain rfl : i = zs.length := by omega
    simp -dsimp -implicitDefEqProofs (maxSteps := 2000000) (disch := first | assumption | omega | (simp only [nx]; omega) | ((repeat refine Fresh.push ?_ _); assumption) | (simp only [smA]; done) | (simp [oneCell, AW.next_push]; done) | fail) only [go_sem, Nat.reduceEqDiff, reduceIte, Nat.reduceAdd, Int.toNat_natCast, Nat.add_zero, Owes_true, Try.results107, e1, e5, e8, e9, e10, hlt]
    exact ⟨hA, hg⟩
  have hlt' : i < zs.length := by omega
  obtain ⟨p', cap', he, hat⟩ := hs.grown hg
  injection he with he1 he2 he3
  subst he1
  obtain ⟨b1, o1, q, m, c, rfl, _, _, hpv, a0, a1, a2⟩ := hat i hlt'
  obtain ⟨w2, hst, hP, hg2⟩ := new_port hg.2 zs[i].pr zs[i].lf q m c
  have g2 := hg.trans hg2
  have c0 := hP.cell (o := 0) rfl rfl
  have c1 := hP.cell (o := 1) rfl rfl
  have c2 := hP.cell (o := 2) rfl rfl
  simp -dsimp -implicitDefEqProofs (maxSteps := 2000000) (disch := first | assumption | omega | (simp only [nx]; omega) | ((repeat refine Fresh.push ?_ _); assumption) | (simp only [smA]; done) | (simp [oneCell, AW.next_push]; done) | fail) only [go_sem, Nat.reduceEqDiff, reduceIte, Nat.reduceAdd, Int.toNat_natCast, Nat.add_zero, Owes_true, Try.results107, e1, e5, e8, e9, e10, hlt, indexV_eq, a0, a1, a2, hst, c0, c1, c2, Nat.zero_add]
  apply callV_of (e := rfl)
  · exact hasLeft_ok zs[i].pr zs[i].lf q m c w2 g2.2
  rintro _ w3 ⟨rfl, hg3⟩
  have g3 := g2.trans hg3
  have hA3 := hA.keep (hg2.trans hg3).1 (Nat.le_refl _)
  have hps := pick_succ (leftQ zs) i
  have hlq : leftQ zs i = decide (0 < zs[i].lf) := by unfold leftQ; rw [List.getElem?_eq_getElem hlt']
  rw [hlq] at hps
  cases hq : decide (0 < zs[i].lf) with
  | false =>
    have hnx : (pick (leftQ zs) (i + 1)).map nint = (pick (leftQ zs) i).map nint := by rw [hps, hq]; simp
    simp -dsimp -implicitDefEqProofs (maxSteps := 2000000) (disch := first | assumption | omega | (simp only [nx]; omega) | ((repeat refine Fresh.push ?_ _); assumption) | (simp only [smA]; done) | (simp [oneCell, AW.next_push]; done) | fail) only [go_sem, Nat.reduceEqDiff, reduceIte, Nat.reduceAdd, Int.toNat_natCast, Nat.add_zero, Owes_true, Try.results107, e1, e5, e8, e9, e10]
    refine ⟨_, by omega, i + 1, by omega, rfl, rfl, by (simp -dsimp -implicitDefEqProofs (maxSteps := 2000000) (disch := first | assumption | omega | (simp only [nx]; omega) | ((repeat refine Fresh.push ?_ _); assumption) | (simp only [smA]; done) | (simp [oneCell, AW.next_push]; done) | fail) only [go_sem, Nat.reduceEqDiff, reduceIte, Nat.reduceAdd, Int.toNat_natCast, Nat.add_zero, Owes_true, e1]; try rfl), by (simp -dsimp -implicitDefEqProofs (maxSteps := 2000000) (disch := first | assumption | omega | (simp only [nx]; omega) | ((repeat refine Fresh.push ?_ _); assumption) | (simp only [smA]; done) | (simp [oneCell, AW.next_push]; done) | fail) only [go_sem, Nat.reduceEqDiff, reduceIte, Nat.reduceAdd, Int.toNat_natCast, Nat.add_zero, Owes_true, e8]; try rfl), by (simp -dsimp -implicitDefEqProofs (maxSteps := 2000000) (disch := first | assumption | omega | (simp only [nx]; omega) | ((repeat refine Fresh.push ?_ _); assumption) | (simp only [smA]; done) | (simp [oneCell, AW.next_push]; done) | fail) only [go_sem, Nat.reduceEqDiff, reduceIte, Nat.reduceAdd, Int.toNat_natCast, Nat.add_zero, Owes_true, e9]; try rfl), by (simp -dsimp -implicitDefEqProofs (maxSteps := 2000000) (disch := first | assumption | omega | (simp only [nx]; omega) | ((repeat refine Fresh.push ?_ _); assumption) | (simp only [smA]; done) | (simp [oneCell, AW.next_push]; done) | fail) only [go_sem, Nat.reduceEqDiff, reduceIte, Nat.reduceAdd, Int.toNat_natCast, Nat.add_zero, Owes_true, e10]; try rfl), ⟨u, (by simp -dsimp -implicitDefEqProofs (maxSteps := 2000000) (disch := first | assumption | omega | (simp only [nx]; omega) | ((repeat refine Fresh.push ?_ _); assumption) | (simp only [smA]; done) | (simp [oneCell, AW.next_push]; done) | fail) only [go_sem, Nat.reduceEqDiff, reduceIte, Nat.reduceAdd, Int.toNat_natCast, Nat.add_zero, Owes_true, e5]), (by rw [hnx]; exact hA3)⟩, g3⟩
  | true =>
    have hnx : (pick (leftQ zs) (i + 1)).map nint = (pick (leftQ zs) i).map nint ++ [(i : Int)] := by rw [hps, hq, List.map_append]; rfl
    have hn3 := g3.1.next
    obtain ⟨u', w4, happ, hA4, hk4, hf4, _, _⟩ := append_one (e' := 3) Try.ty22 Try.ty3 rfl (by omega) (by omega) hA3 g3.2 hn3 (icells_len (i : Int)) (icells_one _) (by omega)
    simp only [icells] at happ
    simp -dsimp -implicitDefEqProofs (maxSteps := 2000000) (disch := first | assumption | omega | (simp only [nx]; omega) | ((repeat refine Fresh.push ?_ _); assumption) | (simp only [smA]; done) | (simp [oneCell, AW.next_push]; done) | fail) only [go_sem, Nat.reduceEqDiff, reduceIte, Nat.reduceAdd, Int.toNat_natCast, Nat.add_zero, Owes_true, Try.results107, e1, e5, e8, e9, e10, happ]
    refine ⟨_, by omega, i + 1, by omega, rfl, rfl, by (simp -dsimp -implicitDefEqProofs (maxSteps := 2000000) (disch := first | assumption | omega | (simp only [nx]; omega) | ((repeat refine Fresh.push ?_ _); assumption) | (simp only [smA]; done) | (simp [oneCell, AW.next_push]; done) | fail) only [go_sem, Nat.reduceEqDiff, reduceIte, Nat.reduceAdd, Int.toNat_natCast, Nat.add_zero, Owes_true, e1]; try rfl), by (simp -dsimp -implicitDefEqProofs (maxSteps := 2000000) (disch := first | assumption | omega | (simp only [nx]; omega) | ((repeat refine Fresh.push ?_ _); assumption) | (simp only [smA]; done) | (simp [oneCell, AW.next_push]; done) | fail) only [go_sem, Nat.reduceEqDiff, reduceIte, Nat.reduceAdd, Int.toNat_natCast, Nat.add_zero, Owes_true, e8]; try rfl), by (simp -dsimp -implicitDefEqProofs (maxSteps := 2000000) (disch := first | assumption | omega | (simp only [nx]; omega) | ((repeat refine Fresh.push ?_ _); assumption) | (simp only [smA]; done) | (simp [oneCell, AW.next_push]; done) | fail) only [go_sem, Nat.reduceEqDiff, reduceIte, Nat.reduceAdd, Int.toNat_natCast, Nat.add_zero, Owes_true, e9]; try rfl), by (simp -dsimp -implicitDefEqProofs (maxSteps := 2000000) (disch := first | assumption | omega | (simp only [nx]; omega) | ((repeat refine Fresh.push ?_ _); assumption) | (simp only [smA]; done) | (simp [oneCell, AW.next_push]; done) | fail) only [go_sem, Nat.reduceEqDiff, reduceIte, Nat.reduceAdd, Int.toNat_natCast, Nat.add_zero, Owes_true, e10]; try rfl), ⟨u', (by simp -dsimp -implicitDefEqProofs (maxSteps := 2000000) (disch := first | assumption | omega | (simp only [nx]; omega) | ((repeat refine Fresh.push ?_ _); assumption) | (simp only [smA]; done) | (simp [oneCell, AW.next_push]; done) | fail) only [go_sem, Nat.reduceEqDiff, reduceIte, Nat.reduceAdd, Int.toNat_natCast, Nat.add_zero, Owes_true]), (by rw [hnx, List.length_append, List.flatMap_append]; exact hA4)⟩, ⟨g3.1.trans hk4, hf4⟩⟩
end Go.Proofs

namespace Go.Proofs
open Go Go.RowKit Go.Sim
set_option maxRecDepth 100000
theorem Apart.step {w w' : AW} {F F' : Nat → Prop} {v : Value} {xs : List Int} (h : Apart w F v xs) (k : MutS F w w') (hw : Within F w F') : Apart w' F' v xs := by
  obtain ⟨p, cap, rfl, hat⟩ := h
  refine ⟨p, cap, rfl, fun i hi => ?_⟩
  obtain ⟨b, o, rfl, hF, hb, h0⟩ := hat i hi
  have hn := k.next
  exact ⟨b, o, rfl, fun z => (hw b z).elim hF (by omega), by omega, by rw [← h0]; simp only [AW.cell?, k.blk b hb hF]⟩
def nmOf (xs : List PartV) (i : Nat) : ByteArray := match xs[i]? with
  | some y => y.s
  | none => ⟨#[]⟩
theorem nmOf_at {xs : List PartV} {i : Nat} (h : i < xs.length) : nmOf xs i = xs[i].s := by unfold nmOf; rw [List.getElem?_eq_getElem h]
noncomputable def leftM (price : Int) (xs : List PartV) (Ds : List (List DueN)) (i : Nat) : Int := leftN (Ds.getD i []) (W (shareL (xs.map PartV.v) price) i) 10
noncomputable def sellP (price : Int) (xs : List PartV) (Ds : List (List DueN)) : List Nat := pick (fun i => decide (0 < leftM price xs Ds i)) xs.length
noncomputable def sellN (price : Int) (xs : List PartV) (Ds : List (List DueN)) (day : Int) (i : Nat) : SurN := ⟨nmOf xs i, leftM price xs Ds i, day, 1, 0⟩
noncomputable def sellL (price : Int) (xs : List PartV) (Ds : List (List DueN)) (day : Int) : List SurN := (sellP price xs Ds).map (sellN price xs Ds day)
def freeB (K : List ByteArray) (xs : List PartV) : Bool := xs.all fun y => !hasB K y.s
noncomputable def sellE (x : PurN) (price : Int) (xs : List PartV) (Ds : List (List DueN)) : Int := if portE price xs Ds ≠ 0 then portE price xs Ds else if freeB (x.S.map SurN.s) xs = false then 33 else if (x.S.length : Int) + ((sellP price xs Ds).length : Int) ≤ 256 then 0 else 6
theorem pick_same {p q : Nat → Bool} {n : Nat} (h : ∀ i, i < n → p i = q i) : pick p n = pick q n := by
  unfold pick; exact List.filter_congr fun i hi => h i (List.mem_range.1 hi)
theorem namesTo_at {xs : List PartV} {n i : Nat} (h : namesTo xs n = true) (hi : i < n) : nameB xs i = true := by
  rw [namesTo, List.all_eq_true] at h; exact h i (List.mem_range.2 hi)
theorem parts_at {xs : List PartV} (h : partsB xs = true) {i : Nat} (hi : i < xs.length) : xs[i].s.size ≤ 16 ∧ ∀ j (hj : j < i), xs[j].s ≠ xs[i].s := by
  simp only [partsB, Bool.and_eq_true] at h
  have h1 := namesTo_at h.1.2 hi
  rw [nameB_at hi, Bool.and_eq_true] at h1
  refine ⟨?_, fun j hj he => ?_⟩
  · have := h1.1
    simp only [wordB, Bool.and_eq_true, decide_eq_true_eq] at this
    exact this.1.1.2
  · have h2 := h1.2
    have h3 : hasB ((xs.take i).map PartV.s) xs[i].s = true := (hasB_iff _ _).2 (by
      rw [← he]
      refine List.mem_map.2 ⟨xs[j], ?_, rfl⟩
      have : xs[j] = (xs.take i)[j]'(by simp; omega) := by simp
      rw [this]; exact List.getElem_mem _)
    rw [h3] at h2; cases h2
theorem freeB_snoc (K : List ByteArray) (xs : List PartV) {i : Nat} (h : i < xs.length) : freeB K (xs.take (i + 1)) = (freeB K (xs.take i) && !hasB K xs[i].s) := by
  rw [List.take_succ_eq_append_getElem h, freeB, List.all_append, ← freeB]; simp
theorem freeB_at {K : List ByteArray} {xs : List PartV} (h : freeB K xs = true) {i : Nat} (hi : i < xs.length) : hasB K xs[i].s = false := by
  rw [freeB, List.all_eq_true] at h
  have := h _ (List.getElem_mem hi)
  simpa using this
theorem freeB_bad {K : List ByteArray} {xs : List PartV} {i : Nat} (hi : i < xs.length) (h : hasB K xs[i].s = true) : freeB K xs = false := by
  rw [freeB, List.all_eq_false]; exact ⟨_, List.getElem_mem hi, by rw [h]; simp⟩
theorem freeB_take {K : List ByteArray} {xs : List PartV} (h : freeB K (xs.take xs.length) = true) : freeB K xs = true := by rwa [List.take_length] at h
def Lefts (price : Int) (xs : List PartV) (Ds : List (List DueN)) (zs : List PortV) : Prop := zs.length = xs.length ∧ ∀ i (hi : i < zs.length), zs[i].lf = leftM price xs Ds i
theorem loopQ_pan {I : Nat → Tmps → List DI → AW → Prop} {k : Nat} {Q : Post} {t : Tmps} {ds : List DI} {w : AW} {v : Value} : loopQ I k Q (.pan v) t ds w = Q (.pan v) t ds w := rfl
attribute [go_sem] loopQ_pan
theorem same_tupIB (a : Int) (b : Bool) : same 12 (.tuple #[.int .i64 a, .bool b]) (.tuple #[.int .i64 a, .bool b]) = true := by cases b <;> simp [same, same.all, intEq_eq]
set_option maxHeartbeats 16000000 in
theorem sell_ok (day price : Int) (xs : List PartV) (Ds : List (List DueN)) (v : Value) (bp bb r : Nat) (x : PurN) (F : Nat → Prop) (w0 w : AW) (f : Fresh w) (h : PurAt w F bp bb r x) (hs0 : PartsAt w0 v xs Ds) (hk0 : Keep w0.next w0 w) (hF0 : ∀ j, F j → w0.next ≤ j) (hl : x.S.length ≤ 256) :
    CallX Try.prog Try.T1 (.fn (.func 77) #[]) #[.pointer (some ⟨bb, 0, none⟩), .int .i64 day, .int .i64 price, v] w
      (fun rv w' => sellE x price xs Ds = 0 ∧ ∃ F' zs, PurAt w' F' bp bb r { x with S := x.S ++ sellL price xs Ds day } ∧ MutS F w w' ∧ Within F w F' ∧ PortsAt w' (fun j => F' j ∨ j < w.next) rv zs ∧ Lefts price xs Ds zs ∧ oneCell rv = true)
      (fun pv w' => ¬ sellE x price xs Ds = 0 ∧ pv = .iface 24 (.int .i64 (sellE x price xs Ds)) ∧ PurAt w' F bp bb r x ∧ MutS F w w') := by
  have hs : PartsAt w v xs Ds := hs0.grown ⟨hk0, f⟩
  obtain ⟨p, cc, rfl, hat⟩ := hs0.at
  obtain ⟨vs, vn, S1, S2, hB⟩ := h
  obtain ⟨ps, ks, rfl⟩ : ∃ p c, vs = .slice p x.S.length c := by
    rcases hB.sur with ⟨rfl, e, _⟩ | ⟨b, _, rfl, _⟩
    · exact ⟨none, 0, by rw [e]⟩
    · exact ⟨_, _, rfl⟩
  have hFl := hB.lt
  refine callX_code rfl Try.func77 rfl Try.s77_eq rfl ?_
  unfold Try.s77
  simp -dsimp -implicitDefEqProofs (maxSteps := 2000000) (disch := first | assumption | omega | (simp only [nx]; omega) | ((repeat refine Fresh.push ?_ _); assumption) | (simp only [smA]; done) | (simp [oneCell, AW.next_push]; done) | fail) only [go_sem, Nat.reduceEqDiff, reduceIte, Nat.reduceAdd, Int.toNat_natCast, Nat.add_zero, Owes_true]
  apply callXV_ofT (e := rfl)
  · exact PortionsA_ok price xs Ds _ w f hs
  rintro _ w1 ⟨u, zs, rfl, hRes, hor, g1⟩
  have hB1 := hB.grown g1
  rcases hor with ⟨hE, hA⟩ | ⟨hE, rfl⟩
  rotate_left
  · have hEd : decide (portE price xs Ds = 0) = false := decide_eq_false hE
    have hS : sellE x price xs Ds = portE price xs Ds := by unfold sellE; rw [if_pos hE]
    simp -dsimp -implicitDefEqProofs (maxSteps := 2000000) (disch := first | assumption | omega | (simp only [nx]; omega) | ((repeat refine Fresh.push ?_ _); assumption) | (simp only [smA]; done) | (simp [oneCell, AW.next_push]; done) | fail) only [go_sem, Nat.reduceEqDiff, reduceIte, Nat.reduceAdd, Int.toNat_natCast, Nat.add_zero, Owes_true, hEd]
    apply callXV_of (e := rfl)
    · exact require_ok _ _ _
    rotate_left
    · rintro _ _ ⟨_, rfl, rfl⟩
      simp -dsimp -implicitDefEqProofs (maxSteps := 2000000) (disch := first | assumption | omega | (simp only [nx]; omega) | ((repeat refine Fresh.push ?_ _); assumption) | (simp only [smA]; done) | (simp [oneCell, AW.next_push]; done) | fail) only [go_sem, Nat.reduceEqDiff, reduceIte, Nat.reduceAdd, Int.toNat_natCast, Nat.add_zero, Owes_true]
      exact ⟨by rw [hS]; exact hE, by rw [hS], ⟨_, vn, S1, S2, hB1⟩, MutS.of g1⟩
    · rintro _ _ ⟨q, _⟩; cases q
  obtain ⟨hzl, hok⟩ := hRes.2.1 hE
  have hI := portE_in hE
  have hl8 := hI.len
  have hP1 : PortsAt w1 (fun j => F j ∨ j < w.next) u zs := ports_of hA (fun j hj => hj.elim (hFl j) id) (fun z hz => by
    obtain ⟨i, hi, rfl⟩ := List.getElem_of_mem hz
    obtain ⟨q, c, hd, _⟩ := (hok i hi).2.2.open
    exact ⟨q, _, c, hd⟩)
  have hpick : pick (leftQ zs) zs.length = sellP price xs Ds := by
    rw [hzl]
    refine pick_same fun i hi => ?_
    have hi' : i < zs.length := by omega
    unfold leftQ
    rw [List.getElem?_eq_getElem hi']
    show decide (0 < zs[i].lf) = decide (0 < leftM price xs Ds i)
    rw [(hok i hi').2.1]; rfl
  have hlf : ∀ i (hi : i < zs.length), zs[i].lf = leftM price xs Ds i := fun i hi => (hok i hi).2.1
  have hpa := fun i (hi : i < xs.length) => parts_at hI.parts hi
  obtain ⟨pu, cu, rfl, _⟩ := id hP1
  rw [hE]
  simp -dsimp -implicitDefEqProofs (maxSteps := 2000000) (disch := first | assumption | omega | (simp only [nx]; omega) | ((repeat refine Fresh.push ?_ _); assumption) | (simp only [smA]; done) | (simp [oneCell, AW.next_push]; done) | fail) only [go_sem, Nat.reduceEqDiff, reduceIte, Nat.reduceAdd, Int.toNat_natCast, Nat.add_zero, Owes_true]
  apply callXV_of (e := rfl)
  · exact require_ok _ _ _
  rotate_left
  · rintro _ _ ⟨q, _⟩; cases q
  rintro _ _ ⟨_, rfl⟩
  simp -dsimp -implicitDefEqProofs (maxSteps := 2000000) (disch := first | assumption | omega | (simp only [nx]; omega) | ((repeat refine Fresh.push ?_ _); assumption) | (simp only [smA]; done) | (simp [oneCell, AW.next_push]; done) | fail) only [go_sem, Nat.reduceEqDiff, reduceIte, Nat.reduceAdd, Int.toNat_natCast, Nat.add_zero, Owes_true]
  refine loopR (fun k t ds w2 => ∃ i : Nat, i ≤ xs.length ∧ k = xs.length - i ∧ ds = [] ∧ ev t (.tmp 0) = .pointer (some ⟨bb, 0, none⟩) ∧ ev t (.tmp 1) = .int .i64 day ∧ ev t (.tmp 3) = .slice p xs.length cc ∧ ev t (.tmp 9) = .slice pu zs.length cu ∧ ev t (.tmp 28) = .slice p xs.length cc ∧ ev t (.tmp 29) = .int .i64 (xs.length : Int) ∧ ev t (.tmp 30) = .int .i64 (i : Int) ∧ Grown w1 w2 ∧ freeB (x.S.map SurN.s) (xs.take i) = true) (xs.length) ?_ ?_
  · refine ⟨0, by omega, by omega, rfl, ?_, ?_, ?_, ?_, ?_, ?_, ?_, Grown.refl g1.2, rfl⟩ <;> simp -dsimp -implicitDefEqProofs (maxSteps := 2000000) (disch := first | assumption | omega | (simp only [nx]; omega) | ((repeat refine Fresh.push ?_ _); assumption) | (simp only [smA]; done) | (simp [oneCell, AW.next_push]; done) | fail) only [go_sem, Nat.reduceEqDiff, reduceIte, Nat.reduceAdd, Int.toNat_natCast, Nat.add_zero, Owes_true] <;> rfl
  rintro k t ds w2 ⟨i, hii, rfl, rfl, e0, e1, e3, e9, e28, e29, e30, hg, hfr⟩
  have hg2 := g1.trans hg
  have hB2 := hB.grown hg2
  by_cases hlt : (i : Int) < (xs.length : Int)
  case pos =>
    have hlt' : i < xs.length := by omega
    obtain ⟨b1, o1, q, m, c, rfl, hdu, hcell⟩ := hat i hlt'
    obtain ⟨a0, a1, a2⟩ := hcell w2 (hk0.trans (hg2.1.mono (by have := hk0.next; omega)))
    obtain ⟨w3, hst, hO, hg3, hn3, hown, hk3⟩ := new_part hg.2 xs[i].s xs[i].v q m c
    have hB3 := hB2.grown hg3
    have b2 := hB3.bk.cell (o := 2) rfl rfl
    have c0 := hO.cell (o := 0) rfl rfl
    have hlk := hB3.map.lookup xs[i].s
    have hsn := freeB_snoc (x.S.map SurN.s) xs hlt'
    rw [hfr, Bool.true_and] at hsn
    have hbad := fun q => freeB_bad (K := x.S.map SurN.s) hlt' q
    have hsm := same_mapP 11 r
    generalize xs[i].s = S at *
    generalize xs[i].v = V at *
    cases hin : hasB (x.S.map SurN.s) S with
    | true =>
      have hS : sellE x price xs Ds = 33 := by unfold sellE; rw [if_neg (by rw [hE]; simp), if_pos (hbad hin)]
      rw [hin, if_pos rfl] at hlk
      have htp := same_tupIB (plc (x.S.map SurN.s) S : Int) true
      simp -dsimp -implicitDefEqProofs (maxSteps := 2000000) (disch := first | assumption | omega | (simp only [nx]; omega) | ((repeat refine Fresh.push ?_ _); assumption) | (simp only [smA]; done) | (simp [oneCell, AW.next_push]; done) | fail) only [go_sem, Nat.reduceEqDiff, reduceIte, Nat.reduceAdd, Int.toNat_natCast, Nat.add_zero, Owes_true, e0, e1, e3, e9, e28, e29, e30, hlt, indexV_eq, a0, a1, a2, hst, c0, Nat.zero_add, b2, hsm, hlk, htp]
      apply callXV_of (e := rfl)
      · exact require_ok _ _ _
      rotate_left
      · rintro _ _ ⟨_, rfl, rfl⟩
        simp -dsimp -implicitDefEqProofs (maxSteps := 2000000) (disch := first | assumption | omega | (simp only [nx]; omega) | ((repeat refine Fresh.push ?_ _); assumption) | (simp only [smA]; done) | (simp [oneCell, AW.next_push]; done) | fail) only [go_sem, Nat.reduceEqDiff, reduceIte, Nat.reduceAdd, Int.toNat_natCast, Nat.add_zero, Owes_true]
        exact ⟨by rw [hS]; decide, by rw [hS], ⟨_, vn, S1, S2, hB3⟩, MutS.of (hg2.trans hg3)⟩
      · rintro _ _ ⟨q, _⟩; cases q
    | false =>
      rw [hin, if_neg (by simp)] at hlk
      have htp := same_tupIB 0 false
      simp -dsimp -implicitDefEqProofs (maxSteps := 2000000) (disch := first | assumption | omega | (simp only [nx]; omega) | ((repeat refine Fresh.push ?_ _); assumption) | (simp only [smA]; done) | (simp [oneCell, AW.next_push]; done) | fail) only [go_sem, Nat.reduceEqDiff, reduceIte, Nat.reduceAdd, Int.toNat_natCast, Nat.add_zero, Owes_true, e0, e1, e3, e9, e28, e29, e30, hlt, indexV_eq, a0, a1, a2, hst, c0, Nat.zero_add, b2, hsm, hlk, htp]
      apply callXV_of (e := rfl)
      · exact require_ok _ _ _
      rotate_left
      · rintro _ _ ⟨q, _⟩; cases q
      rintro _ _ ⟨_, rfl⟩
      simp -dsimp -implicitDefEqProofs (maxSteps := 2000000) (disch := first | assumption | omega | (simp only [nx]; omega) | ((repeat refine Fresh.push ?_ _); assumption) | (simp only [smA]; done) | (simp [oneCell, AW.next_push]; done) | fail) only [go_sem, Nat.reduceEqDiff, reduceIte, Nat.reduceAdd, Int.toNat_natCast, Nat.add_zero, Owes_true, e0, e1, e3, e9, e28, e29, e30]
      refine ⟨_, by omega, i + 1, by omega, rfl, rfl, by (simp -dsimp -implicitDefEqProofs (maxSteps := 2000000) (disch := first | assumption | omega | (simp only [nx]; omega) | ((repeat refine Fresh.push ?_ _); assumption) | (simp only [smA]; done) | (simp [oneCell, AW.next_push]; done) | fail) only [go_sem, Nat.reduceEqDiff, reduceIte, Nat.reduceAdd, Int.toNat_natCast, Nat.add_zero, Owes_true, e0]; try rfl), by (simp -dsimp -implicitDefEqProofs (maxSteps := 2000000) (disch := first | assumption | omega | (simp only [nx]; omega) | ((repeat refine Fresh.push ?_ _); assumption) | (simp only [smA]; done) | (simp [oneCell, AW.next_push]; done) | fail) only [go_sem, Nat.reduceEqDiff, reduceIte, Nat.reduceAdd, Int.toNat_natCast, Nat.add_zero, Owes_true, e1]; try rfl), by (simp -dsimp -implicitDefEqProofs (maxSteps := 2000000) (disch := first | assumption | omega | (simp only [nx]; omega) | ((repeat refine Fresh.push ?_ _); assumption) | (simp only [smA]; done) | (simp [oneCell, AW.next_push]; done) | fail) only [go_sem, Nat.reduceEqDiff, reduceIte, Nat.reduceAdd, Int.toNat_natCast, Nat.add_zero, Owes_true, e3]; try rfl), by (simp -dsimp -implicitDefEqProofs (maxSteps := 2000000) (disch := first | assumption | omega | (simp only [nx]; omega) | ((repeat refine Fresh.push ?_ _); assumption) | (simp only [smA]; done) | (simp [oneCell, AW.next_push]; done) | fail) only [go_sem, Nat.reduceEqDiff, reduceIte, Nat.reduceAdd, Int.toNat_natCast, Nat.add_zero, Owes_true, e9]; try rfl), by (simp -dsimp -implicitDefEqProofs (maxSteps := 2000000) (disch := first | assumption | omega | (simp only [nx]; omega) | ((repeat refine Fresh.push ?_ _); assumption) | (simp only [smA]; done) | (simp [oneCell, AW.next_push]; done) | fail) only [go_sem, Nat.reduceEqDiff, reduceIte, Nat.reduceAdd, Int.toNat_natCast, Nat.add_zero, Owes_true, e28]; try rfl), by (simp -dsimp -implicitDefEqProofs (maxSteps := 2000000) (disch := first | assumption | omega | (simp only [nx]; omega) | ((repeat refine Fresh.push ?_ _); assumption) | (simp only [smA]; done) | (simp [oneCell, AW.next_push]; done) | fail) only [go_sem, Nat.reduceEqDiff, reduceIte, Nat.reduceAdd, Int.toNat_natCast, Nat.add_zero, Owes_true, e29]; try rfl), by (simp -dsimp -implicitDefEqProofs (maxSteps := 2000000) (disch := first | assumption | omega | (simp only [nx]; omega) | ((repeat refine Fresh.push ?_ _); assumption) | (simp only [smA]; done) | (simp [oneCell, AW.next_push]; done) | fail) only [go_sem, Nat.reduceEqDiff, reduceIte, Nat.reduceAdd, Int.toNat_natCast, Nat.add_zero, Owes_true, e30]; try rfl), hg.trans hg3, (by rw [hsn, hin]; rfl)⟩
  obtain rfl : i = xs.length := by omega
  have hfree := freeB_take hfr
  simp -dsimp -implicitDefEqProofs (maxSteps := 2000000) (disch := first | assumption | omega | (simp only [nx]; omega) | ((repeat refine Fresh.push ?_ _); assumption) | (simp only [smA]; done) | (simp [oneCell, AW.next_push]; done) | fail) only [go_sem, Nat.reduceEqDiff, reduceIte, Nat.reduceAdd, Int.toNat_natCast, Nat.add_zero, Owes_true, e0, e1, e3, e9, e28, e29, e30, hlt]
  apply callXV_ofT (e := rfl)
  · exact placesL_ok zs _ _ w2 hg.2 (hP1.grown hg) (by omega)
  rintro u2 w3 ⟨hA3, hg3⟩
  rw [hpick] at hA3
  have g3 := hg2.trans hg3
  have hB3 := hB.grown g3
  have hn1 := g1.1.next
  have hn2 := hg.1.next
  have hn3 := hg3.1.next
  have hn0 := hk0.next
  have hap := apart_of hA3 (F := F) (fun j hj => by have := hFl j hj; omega)
  have hP3 := (hP1.grown hg).grown hg3
  have hpn : ((sellP price xs Ds).map nint).length = (sellP price xs Ds).length := by simp
  have hpl : (sellP price xs Ds).length ≤ 8 := Nat.le_trans (pick_len _ _) (by omega)
  obtain ⟨pn, cn, rfl, _⟩ := id hap
  rw [hpn] at hap ⊢
  have b1 := hB3.bk.cell (o := 1) rfl rfl
  simp -dsimp -implicitDefEqProofs (maxSteps := 2000000) (disch := first | assumption | omega | (simp only [nx]; omega) | ((repeat refine Fresh.push ?_ _); assumption) | (simp only [smA]; done) | (simp [oneCell, AW.next_push]; done) | fail) only [go_sem, Nat.reduceEqDiff, reduceIte, Nat.reduceAdd, Int.toNat_natCast, Nat.add_zero, Owes_true, e0, e1, e3, e9, e28, e29, e30, b1, Nat.zero_add]
  by_cases hfit : (x.S.length : Int) + ((sellP price xs Ds).length : Int) ≤ 256
  case neg =>
    have hS : sellE x price xs Ds = 6 := by unfold sellE; rw [if_neg (by rw [hE]; simp), if_neg (by rw [hfree]; simp), if_neg hfit]
    have hfd : decide ((x.S.length : Int) + ((sellP price xs Ds).length : Int) ≤ 256) = false := decide_eq_false hfit
    simp -dsimp -implicitDefEqProofs (maxSteps := 2000000) (disch := first | assumption | omega | (simp only [nx]; omega) | ((repeat refine Fresh.push ?_ _); assumption) | (simp only [smA]; done) | (simp [oneCell, AW.next_push]; done) | fail) only [go_sem, Nat.reduceEqDiff, reduceIte, Nat.reduceAdd, Int.toNat_natCast, Nat.add_zero, Owes_true, hfd]
    apply callXV_of (e := rfl)
    · exact require_ok _ _ _
    rotate_left
    · rintro _ _ ⟨_, rfl, rfl⟩
      simp -dsimp -implicitDefEqProofs (maxSteps := 2000000) (disch := first | assumption | omega | (simp only [nx]; omega) | ((repeat refine Fresh.push ?_ _); assumption) | (simp only [smA]; done) | (simp [oneCell, AW.next_push]; done) | fail) only [go_sem, Nat.reduceEqDiff, reduceIte, Nat.reduceAdd, Int.toNat_natCast, Nat.add_zero, Owes_true]
      exact ⟨by rw [hS]; decide, by rw [hS], ⟨_, vn, S1, S2, hB3⟩, MutS.of g3⟩
    · rintro _ _ ⟨q, _⟩; cases q
  have hS : sellE x price xs Ds = 0 := by unfold sellE; rw [if_neg (by rw [hE]; simp), if_neg (by rw [hfree]; simp), if_pos hfit]
  have hfd : decide ((x.S.length : Int) + ((sellP price xs Ds).length : Int) ≤ 256) = true := decide_eq_true hfit
  simp -dsimp -implicitDefEqProofs (maxSteps := 2000000) (disch := first | assumption | omega | (simp only [nx]; omega) | ((repeat refine Fresh.push ?_ _); assumption) | (simp only [smA]; done) | (simp [oneCell, AW.next_push]; done) | fail) only [go_sem, Nat.reduceEqDiff, reduceIte, Nat.reduceAdd, Int.toNat_natCast, Nat.add_zero, Owes_true, hfd]
  apply callXV_of (e := rfl)
  · exact require_ok _ _ _
  rotate_left
  · rintro _ _ ⟨q, _⟩; cases q
  rintro _ _ ⟨_, rfl⟩
  have hL : (sellL price xs Ds day).length = (sellP price xs Ds).length := by unfold sellL; simp
  simp -dsimp -implicitDefEqProofs (maxSteps := 2000000) (disch := first | assumption | omega | (simp only [nx]; omega) | ((repeat refine Fresh.push ?_ _); assumption) | (simp only [smA]; done) | (simp [oneCell, AW.next_push]; done) | fail) only [go_sem, Nat.reduceEqDiff, reduceIte, Nat.reduceAdd, Int.toNat_natCast, Nat.add_zero, Owes_true, e0, e1, e3, e9]
  refine loopR (fun k t ds w4 => ∃ j : Nat, j ≤ (sellP price xs Ds).length ∧ k = (sellP price xs Ds).length - j ∧ ds = [] ∧ ev t (.tmp 0) = .pointer (some ⟨bb, 0, none⟩) ∧ ev t (.tmp 1) = .int .i64 day ∧ ev t (.tmp 3) = .slice p xs.length cc ∧ ev t (.tmp 9) = .slice pu zs.length cu ∧ ev t (.tmp 60) = .slice pn (sellP price xs Ds).length cn ∧ ev t (.tmp 61) = .int .i64 ((sellP price xs Ds).length : Int) ∧ ev t (.tmp 62) = .int .i64 (j : Int) ∧ ∃ F', PurAt w4 F' bp bb r { x with S := x.S ++ (sellL price xs Ds day).take j } ∧ MutS F w3 w4 ∧ Within F w3 F') ((sellP price xs Ds).length) ?_ ?_
  · refine ⟨0, by omega, by omega, rfl, ?_, ?_, ?_, ?_, ?_, ?_, ?_, ⟨F, ⟨_, vn, S1, S2, by rw [List.take_zero, List.append_nil]; exact hB3⟩, MutS.refl g3.2, Within.refl _ _⟩⟩ <;> simp -dsimp -implicitDefEqProofs (maxSteps := 2000000) (disch := first | assumption | omega | (simp only [nx]; omega) | ((repeat refine Fresh.push ?_ _); assumption) | (simp only [smA]; done) | (simp [oneCell, AW.next_push]; done) | fail) only [go_sem, Nat.reduceEqDiff, reduceIte, Nat.reduceAdd, Int.toNat_natCast, Nat.add_zero, Owes_true, e0, e1, e3, e9] <;> rfl
  rintro k t ds w4 ⟨j, hij, rfl, rfl, e0, e1, e3, e9, e60, e61, e62, hst⟩
  obtain ⟨F', hP, hM, hW⟩ := hst
  have hap4 := hap.step hM hW
  have hP4 := hP3.step (hM.mono fun j q => .inl q) (F' := fun j => F' j ∨ j < w.next) (fun j hj => hj.elim (fun q => (hW j q).imp .inl id) (fun q => .inl (.inr q)))
  have hk4 : Keep w0.next w0 w4 := (hk0.trans (g3.1.mono hn0)).trans (hM.keep hF0 (by omega))
  by_cases hlt2 : (j : Int) < ((sellP price xs Ds).length : Int)
  case neg =>
    obtain rfl : j = (sellP price xs Ds).length := by omega
    rw [← hL, List.take_length] at hP
    simp -dsimp -implicitDefEqProofs (maxSteps := 2000000) (disch := first | assumption | omega | (simp only [nx]; omega) | ((repeat refine Fresh.push ?_ _); assumption) | (simp only [smA]; done) | (simp [oneCell, AW.next_push]; done) | fail) only [go_sem, Nat.reduceEqDiff, reduceIte, Nat.reduceAdd, Int.toNat_natCast, Nat.add_zero, Owes_true, Try.results77, e0, e1, e3, e9, e60, e61, e62, hlt2]
    exact ⟨hS, F', zs, hP, (MutS.of g3).trans hM (Within.refl _ _), fun i hi => (hW i hi).imp id fun q => by omega, hP4, ⟨hzl, hlf⟩, trivial⟩
  have hj : j < (sellP price xs Ds).length := by omega
  obtain ⟨q1, q2, hq, hatn⟩ := hap4
  injection hq with hq1 hq2 hq3
  subst hq1
  obtain ⟨bn, on, rfl, _, _, an⟩ := hatn j (by omega)
  have hx : ((sellP price xs Ds).map nint)[j]'(by omega) = (((sellP price xs Ds)[j] : Nat) : Int) := by rw [List.getElem_map]; rfl
  rw [hx] at an
  have hIl : (sellP price xs Ds)[j] < xs.length := (pick_lt (List.getElem_mem hj)).1
  obtain ⟨q1, q2, hq, hatz⟩ := hP4
  injection hq with hq1 hq2 hq3
  subst hq1
  obtain ⟨bz, oz, z1, z2, z3, rfl, z4, z5, z6, z7, z8, az⟩ := hatz (sellP price xs Ds)[j] (by omega)
  obtain ⟨b1, o1, q, m, c, rfl, hdu, hcell⟩ := hat (sellP price xs Ds)[j] hIl
  obtain ⟨a0, a1, a2⟩ := hcell w4 hk4
  rw [hlf _ (by omega)] at az
  have hname := hpa _ hIl
  have hsl : (sellL price xs Ds day)[j]'(by omega) = ⟨xs[(sellP price xs Ds)[j]].s, leftM price xs Ds (sellP price xs Ds)[j], day, 1, 0⟩ := by
    unfold sellL; rw [List.getElem_map, sellN, nmOf_at hIl]
  have htk : x.S ++ (sellL price xs Ds day).take (j + 1) = (x.S ++ (sellL price xs Ds day).take j) ++ [⟨xs[(sellP price xs Ds)[j]].s, leftM price xs Ds (sellP price xs Ds)[j], day, 1, 0⟩] := by
    rw [List.take_succ_eq_append_getElem (by omega), hsl, List.append_assoc]
  have hnot : ¬ xs[(sellP price xs Ds)[j]].s ∈ (x.S ++ (sellL price xs Ds day).take j).map SurN.s := by
    intro hmem
    rw [List.map_append, List.mem_append] at hmem
    rcases hmem with hm | hm
    · have := freeB_at hfree hIl
      rw [(hasB_iff _ _).2 hm] at this; cases this
    · obtain ⟨y, hy, hye⟩ := List.mem_map.1 hm
      obtain ⟨i, hi, rfl⟩ := List.getElem_of_mem hy
      rw [List.length_take] at hi
      rw [List.getElem_take] at hye
      have hi' : i < (sellP price xs Ds).length := by omega
      have hil : (sellP price xs Ds)[i] < xs.length := (pick_lt (List.getElem_mem hi')).1
      have hord : (sellP price xs Ds)[i] < (sellP price xs Ds)[j] := List.pairwise_iff_getElem.1 (pick_order _ _) i j hi' hj (by omega)
      have hse : ((sellL price xs Ds day)[i]'(by omega)).s = xs[(sellP price xs Ds)[i]].s := by
        unfold sellL; rw [List.getElem_map, sellN, nmOf_at hil]
      rw [hse] at hye
      exact hname.2 _ hord hye
  have hadd := fun w5 (f5 : Fresh w5) h5 => add_ok xs[(sellP price xs Ds)[j]].s (leftM price xs Ds (sellP price xs Ds)[j]) day bp bb r { x with S := x.S ++ (sellL price xs Ds day).take j } F' w5 f5 h5 (by omega) hnot (by rw [List.length_append, List.length_take]; omega)
  rw [← htk] at hadd
  clear z4 z5 z6 z7 z8 hdu a1 a2 hcell hsl htk hnot hname hx
  generalize xs[(sellP price xs Ds)[j]].s = nm at *
  generalize leftM price xs Ds (sellP price xs Ds)[j] = lf at *
  generalize (sellP price xs Ds)[j] = I at *
  have hI1 : (I : Int) < (xs.length : Int) := by omega
  have hI2 : (I : Int) < (zs.length : Int) := by omega
  rw [show (⟨bn, on + j * 1, none⟩ : Addr) = ⟨bn, on + j * 1, none⟩ from rfl] at an
  simp -dsimp -implicitDefEqProofs (maxSteps := 2000000) (disch := first | assumption | omega | (simp only [nx]; omega) | ((repeat refine Fresh.push ?_ _); assumption) | (simp only [smA]; done) | (simp [oneCell, AW.next_push]; done) | fail) only [go_sem, Nat.reduceEqDiff, reduceIte, Nat.reduceAdd, Int.toNat_natCast, Nat.add_zero, Owes_true, e0, e1, e3, e9, e60, e61, e62, hlt2, indexV_eq, an, hI1, hI2, a0, az]
  apply callXV_ofT (e := rfl)
  · exact hadd w4 hM.fresh hP
  rintro _ w5 ⟨F2, hP5, hM5, hW5⟩
  simp -dsimp -implicitDefEqProofs (maxSteps := 2000000) (disch := first | assumption | omega | (simp only [nx]; omega) | ((repeat refine Fresh.push ?_ _); assumption) | (simp only [smA]; done) | (simp [oneCell, AW.next_push]; done) | fail) only [go_sem, Nat.reduceEqDiff, reduceIte, Nat.reduceAdd, Int.toNat_natCast, Nat.add_zero, Owes_true, e0, e1, e3, e9, e60, e61, e62]
  refine ⟨_, by omega, j + 1, by omega, rfl, rfl, by (simp -dsimp -implicitDefEqProofs (maxSteps := 2000000) (disch := first | assumption | omega | (simp only [nx]; omega) | ((repeat refine Fresh.push ?_ _); assumption) | (simp only [smA]; done) | (simp [oneCell, AW.next_push]; done) | fail) only [go_sem, Nat.reduceEqDiff, reduceIte, Nat.reduceAdd, Int.toNat_natCast, Nat.add_zero, Owes_true, e0]; try rfl), by (simp -dsimp -implicitDefEqProofs (maxSteps := 2000000) (disch := first | assumption | omega | (simp only [nx]; omega) | ((repeat refine Fresh.push ?_ _); assumption) | (simp only [smA]; done) | (simp [oneCell, AW.next_push]; done) | fail) only [go_sem, Nat.reduceEqDiff, reduceIte, Nat.reduceAdd, Int.toNat_natCast, Nat.add_zero, Owes_true, e1]; try rfl), by (simp -dsimp -implicitDefEqProofs (maxSteps := 2000000) (disch := first | assumption | omega | (simp only [nx]; omega) | ((repeat refine Fresh.push ?_ _); assumption) | (simp only [smA]; done) | (simp [oneCell, AW.next_push]; done) | fail) only [go_sem, Nat.reduceEqDiff, reduceIte, Nat.reduceAdd, Int.toNat_natCast, Nat.add_zero, Owes_true, e3]; try rfl), by (simp -dsimp -implicitDefEqProofs (maxSteps := 2000000) (disch := first | assumption | omega | (simp only [nx]; omega) | ((repeat refine Fresh.push ?_ _); assumption) | (simp only [smA]; done) | (simp [oneCell, AW.next_push]; done) | fail) only [go_sem, Nat.reduceEqDiff, reduceIte, Nat.reduceAdd, Int.toNat_natCast, Nat.add_zero, Owes_true, e9]; try rfl), by (simp -dsimp -implicitDefEqProofs (maxSteps := 2000000) (disch := first | assumption | omega | (simp only [nx]; omega) | ((repeat refine Fresh.push ?_ _); assumption) | (simp only [smA]; done) | (simp [oneCell, AW.next_push]; done) | fail) only [go_sem, Nat.reduceEqDiff, reduceIte, Nat.reduceAdd, Int.toNat_natCast, Nat.add_zero, Owes_true, e60]; try rfl), by (simp -dsimp -implicitDefEqProofs (maxSteps := 2000000) (disch := first | assumption | omega | (simp only [nx]; omega) | ((repeat refine Fresh.push ?_ _); assumption) | (simp only [smA]; done) | (simp [oneCell, AW.next_push]; done) | fail) only [go_sem, Nat.reduceEqDiff, reduceIte, Nat.reduceAdd, Int.toNat_natCast, Nat.add_zero, Owes_true, e61]; try rfl), by (simp -dsimp -implicitDefEqProofs (maxSteps := 2000000) (disch := first | assumption | omega | (simp only [nx]; omega) | ((repeat refine Fresh.push ?_ _); assumption) | (simp only [smA]; done) | (simp [oneCell, AW.next_push]; done) | fail) only [go_sem, Nat.reduceEqDiff, reduceIte, Nat.reduceAdd, Int.toNat_natCast, Nat.add_zero, Owes_true, e62]; try rfl), F2, hP5, hM.trans hM5 hW, hW.trans hW5 hM.next⟩
end Go.Proofs

namespace Go.Proofs
open Go Go.RowKit Go.Sim
set_option maxRecDepth 100000
theorem PortsAt.mono {w : AW} {F F' : Nat → Prop} {u : Value} {zs : List PortV} (h : PortsAt w F u zs) (k : ∀ j, F' j → F j) : PortsAt w F' u zs := by
  obtain ⟨p, cap, rfl, hat⟩ := h
  refine ⟨p, cap, rfl, fun i hi => ?_⟩
  obtain ⟨b, o, q, m, c, a1, a2, a3⟩ := hat i hi
  exact ⟨b, o, q, m, c, a1, fun z => a2 (k _ z), a3⟩
noncomputable def sellX (x : PurN) (price : Int) (xs : List PartV) (Ds : List (List DueN)) (day : Int) : PurN := { x with S := x.S ++ sellL price xs Ds day }
set_option maxHeartbeats 8000000 in
theorem sellC_ok (day price : Int) (xs : List PartV) (Ds : List (List DueN)) (v : Value) (b4 b5 b6 b7 b10 : Nat) (bp bb r : Nat) (x : PurN) (F : Nat → Prop) (w0 w : AW) (f : Fresh w) (h : PurAt w F bp bb r x) (hs0 : PartsAt w0 v xs Ds) (hk0 : Keep w0.next w0 w) (hF0 : ∀ j, F j → w0.next ≤ j) (hl : x.S.length ≤ 256)
    (h4 : Own w b4 39 [.pointer (some ⟨bp, 0, none⟩)]) (h5 : Own w b5 3 [.int .i64 day]) (h6 : Own w b6 3 [.int .i64 price]) (h7 : Own w b7 32 [v]) (h10 : Own w b10 33 [.slice none 0 0]) (n10 : ¬ F b10) (n6 : ¬ F b6) (ne : b6 ≠ b10) :
    CallX Try.prog Try.T1 (.fn (.func 76) #[.pointer (some ⟨b4, 0, none⟩), .pointer (some ⟨b5, 0, none⟩), .pointer (some ⟨b6, 0, none⟩), .pointer (some ⟨b7, 0, none⟩), .pointer (some ⟨b10, 0, none⟩)]) #[] w
      (fun rv w' => sellE x price xs Ds = 0 ∧ rv = .int .i64 price ∧ ∃ F' u zs, PurAt w' F' bp bb r (sellX x price xs Ds day) ∧ MutS (fun j => F j ∨ j = b10) w w' ∧ Within F w F' ∧ Own w' b10 33 [u] ∧ ¬ F' b10 ∧ PortsAt w' (fun j => F' j ∨ j < w.next) u zs ∧ Lefts price xs Ds zs)
      (fun pv w' => ¬ sellE x price xs Ds = 0 ∧ pv = .iface 24 (.int .i64 (sellE x price xs Ds)) ∧ PurAt w' F bp bb r x ∧ MutS F w w') := by
  obtain ⟨vs, vn, S1, S2, hB⟩ := id h
  obtain ⟨p, cap, rfl, _⟩ := hs0.at
  have c4 := h4.cell (o := 0) rfl rfl
  have c5 := h5.cell (o := 0) rfl rfl
  have c6 := h6.cell (o := 0) rfl rfl
  have c7 := h7.cell (o := 0) rfl rfl
  have o0 := hB.own.cell (o := 0) rfl rfl
  refine callX_code rfl Try.func76 rfl Try.s76_eq rfl ?_
  unfold Try.s76
  simp -dsimp -implicitDefEqProofs (maxSteps := 2000000) (disch := first | assumption | omega | (simp only [nx]; omega) | ((repeat refine Fresh.push ?_ _); assumption) | (simp only [smA]; done) | (simp [oneCell, AW.next_push]; done) | fail) only [go_sem, Nat.reduceEqDiff, reduceIte, Nat.reduceAdd, Int.toNat_natCast, Nat.add_zero, Owes_true, c4, c5, c6, c7, o0, Nat.zero_add]
  apply callXV_of (e := rfl)
  · exact sell_ok day price xs Ds _ bp bb r x F w0 w f h hs0 hk0 hF0 hl
  rotate_left
  · rintro _ w1 ⟨hE, rfl, hP, hM⟩
    simp -dsimp -implicitDefEqProofs (maxSteps := 2000000) (disch := first | assumption | omega | (simp only [nx]; omega) | ((repeat refine Fresh.push ?_ _); assumption) | (simp only [smA]; done) | (simp [oneCell, AW.next_push]; done) | fail) only [go_sem, Nat.reduceEqDiff, reduceIte, Nat.reduceAdd, Int.toNat_natCast, Nat.add_zero, Owes_true]
    exact fun _ => ⟨hE, trivial, hP, hM⟩
  rintro u w1 ⟨hE, F', zs, hP, hM, hW, hZ, hLf, hone⟩
  have h10l := h10.lt
  have h10' := hM.own h10 n10
  have h6' := hM.own h6 n6
  have n10' : ¬ F' b10 := fun q => (hW _ q).elim n10 (by omega)
  have hst := storeV_own1 (o := 0) (v := u) h10' (by simp) hone
  simp only [setL] at hst
  have hk : MutS (fun j => j = b10) w1 (w1.put b10 (.cells [u] 33 b10 0 0)) := MutS.put (S := fun j => j = b10) hM.fresh rfl h10'.lt _
  have hP2 := hP.other hk fun j hj q => n10' (q ▸ hj)
  have h102 := h10'.put [u]
  have h62 := hk.own h6' ne
  have d0 := h62.cell (o := 0) rfl rfl
  have hZ2 := hZ.step (F' := fun j => F' j ∨ j < w.next) ((hk.mono (S' := fun j => F' j ∨ j < w.next) fun j q => .inr (by omega))) (Within.refl _ _)
  simp -dsimp -implicitDefEqProofs (maxSteps := 2000000) (disch := first | assumption | omega | (simp only [nx]; omega) | ((repeat refine Fresh.push ?_ _); assumption) | (simp only [smA]; done) | (simp [oneCell, AW.next_push]; done) | fail) only [go_sem, Nat.reduceEqDiff, reduceIte, Nat.reduceAdd, Int.toNat_natCast, Nat.add_zero, Owes_true, Nat.zero_add, hst, hone]
  simp -dsimp -implicitDefEqProofs (maxSteps := 2000000) (disch := first | assumption | omega | (simp only [nx]; omega) | ((repeat refine Fresh.push ?_ _); assumption) | (simp only [smA]; done) | (simp [oneCell, AW.next_push]; done) | fail) only [go_sem, Nat.reduceEqDiff, reduceIte, Nat.reduceAdd, Int.toNat_natCast, Nat.add_zero, Owes_true, Nat.zero_add, d0, Try.results76]
  exact ⟨hE, trivial, F', u, zs, hP2, (hM.mono fun j q => .inl q).trans (hk.mono fun j q => .inr q) (Within.refl _ _), hW, h102, n10', hZ2, hLf⟩
theorem PortsAt.slice {w : AW} {F : Nat → Prop} {u : Value} {zs : List PortV} (h : PortsAt w F u zs) : ∃ p n c, u = .slice p n c := by
  obtain ⟨p, c, rfl, _⟩ := h; exact ⟨_, _, _, rfl⟩
set_option maxHeartbeats 16000000 in
theorem Sell_ok (day price : Int) (xs : List PartV) (Ds : List (List DueN)) (v : Value) (bp bb r : Nat) (x : PurN) (F : Nat → Prop) (w0 w : AW) (f : Fresh w) (h : PurAt w F bp bb r x) (hs0 : PartsAt w0 v xs Ds) (hk0 : Keep w0.next w0 w) (hF0 : ∀ j, F j → w0.next ≤ j) (hls : x.S.length ≤ 256) (hl : x.N.length < 1000) :
    CallT Try.prog Try.T1 (.fn (.func 42) #[]) #[.pointer (some ⟨bp, 0, none⟩), .int .i64 day, .int .i64 price, v] w (fun rv w' => ∃ u e F' x', rv = .tuple #[u, .int .i64 e] ∧ PurAt w' F' bp bb r x' ∧ MutS F w w' ∧ Within F w F' ∧
      ((inR (lastDay x.N) day 36500 = false ∧ u = .slice none 0 0 ∧ e = 34 ∧ x' = x) ∨ (inR (lastDay x.N) day 36500 = true ∧ ¬ sellE x price xs Ds = 0 ∧ u = .slice none 0 0 ∧ e = sellE x price xs Ds ∧ x' = x) ∨ (inR (lastDay x.N) day 36500 = true ∧ sellE x price xs Ds = 0 ∧ e = 0 ∧ x' = { sellX x price xs Ds day with N := x.N ++ [⟨1, day, price⟩] } ∧ ∃ zs, PortsAt w' (fun j => j < w.next) u zs ∧ Lefts price xs Ds zs))) := by
  obtain ⟨p, cap, rfl, _⟩ := hs0.at
  have g1 := (Grown.refl f).push (.cells [.pointer (some ⟨bp, 0, none⟩)] 39 w.next 0 0)
  have g2 := g1.push (.cells [.int .i64 day] 3 (w.next + 1) 0 0)
  have g3 := g2.push (.cells [.int .i64 price] 3 (w.next + 1 + 1) 0 0)
  have g4 := g3.push (.cells [.slice p xs.length cap] 32 (w.next + 1 + 1 + 1) 0 0)
  have g5 := g4.push (.cells [.slice none 0 0] 33 (w.next + 1 + 1 + 1 + 1) 0 0)
  have h4 := ((((Own.new f 39 [.pointer (some ⟨bp, 0, none⟩)]).push (.cells [.int .i64 day] 3 (w.next + 1) 0 0)).push (.cells [.int .i64 price] 3 (w.next + 1 + 1) 0 0)).push (.cells [.slice p xs.length cap] 32 (w.next + 1 + 1 + 1) 0 0)).push (.cells [.slice none 0 0] 33 (w.next + 1 + 1 + 1 + 1) 0 0)
  have h5 := Own.new g1.2 3 [.int .i64 day]
  simp only [AW.next_push] at h5
  have h5 := ((h5.push (.cells [.int .i64 price] 3 (w.next + 1 + 1) 0 0)).push (.cells [.slice p xs.length cap] 32 (w.next + 1 + 1 + 1) 0 0)).push (.cells [.slice none 0 0] 33 (w.next + 1 + 1 + 1 + 1) 0 0)
  have h6 := Own.new g2.2 3 [.int .i64 price]
  simp only [AW.next_push] at h6
  have h6 := (h6.push (.cells [.slice p xs.length cap] 32 (w.next + 1 + 1 + 1) 0 0)).push (.cells [.slice none 0 0] 33 (w.next + 1 + 1 + 1 + 1) 0 0)
  have h7 := Own.new g3.2 32 [.slice p xs.length cap]
  simp only [AW.next_push] at h7
  have h7 := h7.push (.cells [.slice none 0 0] 33 (w.next + 1 + 1 + 1 + 1) 0 0)
  have h10 := Own.new g4.2 33 [.slice none 0 0]
  simp only [AW.next_push] at h10
  have c4 := h4.cell (o := 0) rfl rfl
  have c5 := h5.cell (o := 0) rfl rfl
  have hP := h.grown g5
  have hFl := h.lt
  have hn0 := hk0.next
  have hnx : (((((w.push (.cells [.pointer (some ⟨bp, 0, none⟩)] 39 w.next 0 0)).push (.cells [.int .i64 day] 3 (w.next + 1) 0 0)).push (.cells [.int .i64 price] 3 (w.next + 1 + 1) 0 0)).push (.cells [.slice p xs.length cap] 32 (w.next + 1 + 1 + 1) 0 0)).push (.cells [.slice none 0 0] 33 (w.next + 1 + 1 + 1 + 1) 0 0)).next = w.next + 5 := by simp only [AW.next_push]
  refine callT_code rfl Try.func42 rfl Try.s42_eq rfl ?_
  unfold Try.s42
  simp -dsimp -implicitDefEqProofs (maxSteps := 2000000) (disch := first | assumption | omega | (simp only [nx]; omega) | ((repeat refine Fresh.push ?_ _); assumption) | (simp only [smA]; done) | (simp [oneCell, AW.next_push]; done) | fail) only [go_sem, Nat.reduceEqDiff, reduceIte, Nat.reduceAdd, Int.toNat_natCast, Nat.add_zero, Owes_true, Try.results42, Nat.zero_add, c4, c5]
  generalize ((((w.push (.cells [.pointer (some ⟨bp, 0, none⟩)] 39 w.next 0 0)).push (.cells [.int .i64 day] 3 (w.next + 1) 0 0)).push (.cells [.int .i64 price] 3 (w.next + 1 + 1) 0 0)).push (.cells [.slice p xs.length cap] 32 (w.next + 1 + 1 + 1) 0 0)).push (.cells [.slice none 0 0] 33 (w.next + 1 + 1 + 1 + 1) 0 0) = w3 at *
  have nF : ∀ j, w.next ≤ j → ¬ F j := fun j hj q => by have := hFl _ q; omega
  apply callV_of (e := rfl)
  · exact do_ok 1 day 76 #[.pointer (some ⟨w.next, 0, none⟩), .pointer (some ⟨w.next + 1, 0, none⟩), .pointer (some ⟨w.next + 1 + 1, 0, none⟩), .pointer (some ⟨w.next + 1 + 1 + 1, 0, none⟩), .pointer (some ⟨w.next + 1 + 1 + 1 + 1, 0, none⟩)] bp bb r x F (fun j => j = w.next + 1 + 1 + 1 + 1) w3 g5.2 (fun sum x1 F' w' => sellE x price xs Ds = 0 ∧ sum = price ∧ x1 = sellX x price xs Ds day ∧ ¬ F' (w.next + 1 + 1 + 1 + 1) ∧ ∃ u zs, Own w' (w.next + 1 + 1 + 1 + 1) 33 [u] ∧ PortsAt w' (fun j => F' j ∨ j < w.next) u zs ∧ Lefts price xs Ds zs) (fun sum x1 w' => sellE x price xs Ds = 0 ∧ sum = price ∧ x1 = sellX x price xs Ds day ∧ ∃ u zs, Own w' (w.next + 1 + 1 + 1 + 1) 33 [u] ∧ PortsAt w' (fun j => j < w.next) u zs ∧ Lefts price xs Ds zs) (fun e w' => ¬ sellE x price xs Ds = 0 ∧ e = sellE x price xs Ds ∧ Own w' (w.next + 1 + 1 + 1 + 1) 33 [.slice none 0 0]) (fun e w1 w' q z => ⟨q.1, q.2.1, z.own q.2.2 (by omega)⟩) hP hl (fun j q => ⟨by omega, nF j (by omega)⟩) (fun w1 gg hp => (sellC_ok day price xs Ds _ _ _ _ _ _ bp bb r x F w0 w1 gg.2 hp hs0 ((hk0.trans (g5.1.mono hn0)).trans (gg.1.mono (by omega))) hF0 hls (h4.keep gg.1) (h5.keep gg.1) (h6.keep gg.1) (h7.keep gg.1) (h10.keep gg.1) (nF _ (by omega)) (nF _ (by omega)) (by omega)).mono (fun v w' q => by
      obtain ⟨hE, hr, F', u, zs, a1, a2, a3, a4, a5, a6, a7⟩ := q
      exact ⟨_, F', _, hr, a1, a2, a3, rfl, hE, rfl, rfl, a5, u, zs, a4, a6.mono fun j q => q.imp id fun q => by have := gg.1.next; omega, a7⟩) (fun v w' q => ⟨_, q.2.1, q.2.2.1, q.2.2.2.mono fun j z => .inl z, q.1, rfl, q.2.2.2.own (h10.keep gg.1) (nF _ (by omega))⟩)) (fun sum x' F' w1 w' q z => by
      obtain ⟨a1, a2, a3, a4, u, zs, a5, a6, a7⟩ := q
      exact ⟨a1, a2, a3, u, zs, z.own a5 a4, (a6.step (z.mono fun j q => .inl q) (Within.refl _ _)).mono fun _ q => .inr q, a7⟩)
  rintro _ w4 ⟨sum, e, F', x', rfl, hP', hM, hW, hor⟩
  have hM' : MutS F w w4 := by
    refine ⟨fun i hi hn => ?_, fun i hi hn => ?_, by have := g5.1.next; have := hM.next; omega, hM.fresh⟩
    · rw [hM.blk i (by omega) (fun q => q.elim hn fun q => by omega)]; exact g5.1.blk i hi
    · rw [hM.fam i (by omega) (fun q => q.elim hn fun q => by omega)]; exact g5.1.fam i hi
  have hW' : Within F w F' := fun j hj => (hW j hj).imp id fun q => by omega
  rcases hor with ⟨a, b, c, d, g⟩ | ⟨a, b, ⟨c, c2, hO⟩, d⟩ | ⟨a, b, x1, c, c1, c2, c3, u, zs, hO, hZ, hLf⟩
  · have d0 := (h10.keep g.1).cell (o := 0) rfl rfl
    simp -dsimp -implicitDefEqProofs (maxSteps := 2000000) (disch := first | assumption | omega | (simp only [nx]; omega) | ((repeat refine Fresh.push ?_ _); assumption) | (simp only [smA]; done) | (simp [oneCell, AW.next_push]; done) | fail) only [go_sem, Nat.reduceEqDiff, reduceIte, Nat.reduceAdd, Int.toNat_natCast, Nat.add_zero, Owes_true, Try.results42, Nat.zero_add, d0]
    exact ⟨_, e, F', x', rfl, hP', hM', hW', .inl ⟨a, rfl, c, d⟩⟩
  · have d0 := hO.cell (o := 0) rfl rfl
    simp -dsimp -implicitDefEqProofs (maxSteps := 2000000) (disch := first | assumption | omega | (simp only [nx]; omega) | ((repeat refine Fresh.push ?_ _); assumption) | (simp only [smA]; done) | (simp [oneCell, AW.next_push]; done) | fail) only [go_sem, Nat.reduceEqDiff, reduceIte, Nat.reduceAdd, Int.toNat_natCast, Nat.add_zero, Owes_true, Try.results42, Nat.zero_add, d0]
    exact ⟨_, e, F', x', rfl, hP', hM', hW', .inr (.inl ⟨a, c, rfl, c2, d⟩)⟩
  · obtain ⟨q1, q2, q3, rfl⟩ := hZ.slice
    have d0 := hO.cell (o := 0) rfl rfl
    simp -dsimp -implicitDefEqProofs (maxSteps := 2000000) (disch := first | assumption | omega | (simp only [nx]; omega) | ((repeat refine Fresh.push ?_ _); assumption) | (simp only [smA]; done) | (simp [oneCell, AW.next_push]; done) | fail) only [go_sem, Nat.reduceEqDiff, reduceIte, Nat.reduceAdd, Int.toNat_natCast, Nat.add_zero, Owes_true, Try.results42, Nat.zero_add, d0]
    refine ⟨_, e, F', x', rfl, hP', hM', hW', .inr (.inr ⟨a, c1, b, ?_, zs, hZ, hLf⟩)⟩
    rw [c, c3, c2]
end Go.Proofs
