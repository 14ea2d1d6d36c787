/- This program: its code, contracts, numbers, part 4. -/
import Derived.Test.YtnbfkakjdifcpaaGreatPac
import Derived.Test.YtnbfkakjdifcpaaGreatPaa
import Derived.Test.YtnbfkakjdifcpaaGreatPab
import Derived.Test.YtnbfkakjdifcpaaGreatNc
import Derived.Test.YtnbfkakjdifcpaaGreatNa
import Derived.Test.YtnbfkakjdifcpaaGreatChecked
set_option linter.unusedVariables false
set_option linter.unusedSimpArgs false
namespace Go.Proofs
open Go Go.RowKit Go.Sim
set_option maxRecDepth 100000
end Go.Proofs

namespace Go.Proofs
open Go Go.RowKit Go.Sim
set_option maxRecDepth 100000
def askN (s : StrN) (x : Int) : Int := if strB s = true then (if setB s.staff.length x = true then 0 else 41) else 40
theorem askN_ok {s : StrN} {x : Int} (h : askN s x = 0) : strB s = true ∧ ∃ g : Nat, x = (g : Int) ∧ g < 64 ∧ g < 2 ^ s.staff.length ∧ ∀ k, g.testBit k = true → k < s.staff.length := by
  unfold askN at h
  split at h
  case isFalse => cases h
  rename_i hs
  split at h
  case isFalse => cases h
  rename_i hx
  refine ⟨hs, ?_⟩
  have hl := (str_staff hs).2.1
  unfold setB fullI at hx
  have := (inR_iff _ _ _).1 hx
  have hp : 2 ^ s.staff.length ≤ 64 := by
    have : ∀ n, n ≤ 6 → 2 ^ n ≤ 64 := by decide
    exact this _ hl
  refine ⟨x.toNat, by omega, by omega, by omega, fun k hk => bit_lt (n := s.staff.length) (x := x.toNat) (by omega) hk⟩
theorem shl_sub {n : Nat} (h : n ≤ 8) : IntKind.i64.wrap (((2 ^ n : Nat) : Int) - 1) = fullI n := by
  have := full_in h
  unfold fullI
  exact wrap64 (by omega) (by omega)
def entN (s : StrN) (x : Int) : Int := if askN s x = 0 then (endR s x.toNat 1 : Int) else 0
def cloB (s : StrN) (x y : Int) : Bool := if askN s x = 0 then (if setB s.rooms.length y = true then (y.toNat.testBit 0 && s.gates.all fun gt => !stepB s x.toNat y.toNat gt) else false) else false
def cloE (s : StrN) (x y : Int) : Int := if askN s x = 0 then (if setB s.rooms.length y = true then 0 else 7) else askN s x
theorem setB_nat {n : Nat} {y : Int} (hn : n ≤ 6) (h : setB n y = true) : ∃ r : Nat, y = (r : Int) ∧ r < 64 ∧ ∀ k, r.testBit k = true → k < n := by
  unfold setB fullI at h
  have := (inR_iff _ _ _).1 h
  have hp : 2 ^ n ≤ 64 := by
    have : ∀ n, n ≤ 6 → 2 ^ n ≤ 64 := by decide
    exact this _ hn
  exact ⟨y.toNat, by omega, by omega, fun k hk => bit_lt (n := n) (x := y.toNat) (by omega) hk⟩
end Go.Proofs

namespace Go.Proofs
open Go Go.RowKit Go.Sim
set_option maxRecDepth 100000
noncomputable def Tryz.s56 : SC :=
 (.seq
  (.ops false [
    ⟨⟨(some 1), .box 80 (.tmp 0), 0, "", ⟨[]⟩, none⟩, none, false⟩,
    ⟨⟨(some 2), .alloc 4, 0, "", ⟨[]⟩, none⟩, none, false⟩])
  (.seq
   (.seq
    (.ops false [
      ⟨⟨(some 3), .load 80 (.tmp 1), 80, "", ⟨[]⟩, none⟩, none, false⟩,
      ⟨⟨(some 4), .call ⟨.value (.func 77), ⟨[(.tmp 3)]⟩, ⟨[80]⟩⟩, 121, "", ⟨[]⟩, none⟩, none, false⟩])
    (.block 0
     (.raw (.rangeFunc (.tmp 4) ⟨[5, 6]⟩ (codeA Tryz.f56) (codeB Tryz.f56)))))
   (.seq
    (.ops false [
      ⟨⟨none, .store 4 (.tmp 2) (.const (.bool true)), 0, "", ⟨[]⟩, none⟩, none, false⟩])
    .ret)))
def Tryz.ra56 : SC := .skip
def Tryz.rb56 : SC := (.block 1 (.seq (.ops false [⟨⟨none,.store 4 (.tmp 2) (.const (.bool false)),0,"",⟨[]⟩,none⟩,none,false⟩]) .ret))
theorem Tryz.s56_eq : Tryz.f56.body.map sOf = some Tryz.s56 := by kernel_rfl
end Go.Proofs

namespace Go.Proofs
open Go Go.RowKit Go.Sim
set_option maxRecDepth 100000
noncomputable abbrev lpO (s : LoopState) (pd : Option Code) (t : Tmps) (dm : Nat) : ALoop := ⟨s, pd, 56, t, #[5, 6], codeA Tryz.f56, codeB Tryz.f56, dm⟩
theorem Tryz.ra56_eq : sOf (codeA Tryz.f56) = Tryz.ra56 := by kernel_rfl
theorem Tryz.rb56_eq : sOf (codeB Tryz.f56) = Tryz.rb56 := by kernel_rfl
set_option maxHeartbeats 16000000 in
theorem yieldO_ok {B b2 dm lp : Nat} {w0 : AW} (t : Tmps) (e2 : ev t (.tmp 2) = .pointer (some ⟨b2, 0, none⟩)) (x y : Value) (w : AW) (f : Fresh w)
    (hl : w.blk lp = some (.loop (lpO .ready none t dm))) (O2 : Own w b2 4 [.bool false]) (hm : w.blk dm = some (.deferred (some []))) (hb : B ≤ b2 ∧ b2 < dm ∧ dm < lp ∧ lp < w.next) (k0 : Keep B w0 w) :
    CallT Tryz.prog Tryz.T1 (.fn (.yield lp) #[]) #[x, y] w (fun v w' => v = .bool false ∧ ∃ lv : ALoop, w'.blk lp = some (.loop lv) ∧ lv.state = .done ∧ lv.pending = some .ret ∧ Own w' b2 4 [.bool false] ∧ w'.blk dm = some (.deferred (some [])) ∧ Keep B w0 w' ∧ Fresh w' ∧ lp < w'.next) := by
  refine callT_yieldJ (lp := lpO .ready none t dm) hl rfl ?_
  show CodeT Tryz.prog Tryz.T1 { fn := 56, round := some lp } (codeA Tryz.f56) (putTmp (putTmp t (some 5) _) (some 6) _) [] w _
  refine codeR_codeT (x := .mk) _ ?_
  rw [Tryz.ra56_eq]
  unfold Tryz.ra56
  simp -dsimp -implicitDefEqProofs (maxSteps := 2000000) (disch := first | assumption | omega | (simp only [nx]; omega) | ((repeat refine Fresh.push ?_ _); assumption) | (simp only [smA]; done) | (simp [oneCell, AW.next_push]; done) | fail) only [go_sem, Nat.reduceEqDiff, reduceIte, Nat.reduceAdd, Int.toNat_natCast, Nat.add_zero, Owes_true]
  refine ⟨trivial, _, hl, rfl, ?_⟩
  refine codeR_codeT (x := .mk) _ ?_
  rw [Tryz.rb56_eq]
  unfold Tryz.rb56
  have m3 := MutS.put (S := fun j => j = lp) f rfl (by omega) (.loop (lpO .busy none t dm))
  have O23 := m3.own O2 (by omega)
  have hm3 := m3.blk dm (by omega) (by omega)
  rw [hm] at hm3
  have hl3 : (w.put lp (.loop (lpO .busy none t dm))).blk lp = some (.loop (lpO .busy none t dm)) := by rw [AW.blk_put _ _ _ _ (Trie.in_ _) (Trie.in_ _), if_pos rfl]
  have k3 : Keep B w0 (w.put lp (.loop (lpO .busy none t dm))) := k0.trans (m3.keep (fun j q => by omega) (by omega))
  have n3 : (w.put lp (.loop (lpO .busy none t dm))).next = w.next := AW.next_put _ _ _
  have f3 := m3.fresh
  generalize w.put lp (.loop (lpO .busy none t dm)) = w3 at *
  have st4 := storeV_own1 (o := 0) (v := .bool false) O23 (by simp) rfl
  simp only [setL] at st4
  have m5 := MutS.put (S := fun j => j = b2) f3 rfl O23.lt (.cells [.bool false] 4 b2 0 0)
  have O6 := O23.put [.bool false]
  have hl5 := m5.blk lp (by omega) (by omega)
  rw [hl3] at hl5
  have hm5 := m5.blk dm (by omega) (by omega)
  rw [hm3] at hm5
  have n5 : (w3.put b2 (.cells [.bool false] 4 b2 0 0)).next = w3.next := AW.next_put _ _ _
  have k5 : Keep B w0 _ := k3.trans (m5.keep (B := B) (fun j q => by omega) (by omega))
  have f5 := m5.fresh
  simp -dsimp -implicitDefEqProofs (maxSteps := 2000000) (disch := first | assumption | omega | (simp only [nx]; omega) | ((repeat refine Fresh.push ?_ _); assumption) | (simp only [smA]; done) | (simp [oneCell, AW.next_push]; done) | fail) only [go_sem, Nat.reduceEqDiff, reduceIte, Nat.reduceAdd, Int.toNat_natCast, Nat.add_zero, Owes_true, e2, st4]
  generalize w3.put b2 (.cells [.bool false] 4 b2 0 0) = w5 at *
  have m6 := MutS.put (S := fun j => j = lp) f5 rfl (by omega) (.loop (lpO .done (some .ret) t dm))
  have hm6 := m6.blk dm (by omega) (by omega)
  rw [hm5] at hm6
  refine ⟨trivial, _, hl5, .inr ⟨.ret, rfl, trivial, lpO .done (some .ret) t dm, by rw [AW.blk_put _ _ _ _ (Trie.in_ _) (Trie.in_ _), if_pos rfl], rfl, rfl, m6.own O6 (by omega), hm6, k5.trans (m6.keep (fun j q => by omega) (by omega)), m6.fresh, by omega⟩⟩
def PostO (w0 : AW) (B b2 dm lp : Nat) : Option (Nat × GateN) → AW → Prop
  | none, w' => (∃ lv : ALoop, w'.blk lp = some (.loop lv) ∧ lv.state = .ready ∧ lv.pending = none) ∧ Own w' b2 4 [.bool false] ∧ w'.blk dm = some (.deferred (some [])) ∧ Keep B w0 w' ∧ Fresh w' ∧ lp < w'.next
  | some _, w' => ∃ lv : ALoop, w'.blk lp = some (.loop lv) ∧ lv.state = .done ∧ lv.pending = some .ret ∧ Own w' b2 4 [.bool false] ∧ w'.blk dm = some (.deferred (some [])) ∧ Keep B w0 w' ∧ Fresh w' ∧ lp < w'.next
set_option maxHeartbeats 32000000 in
theorem isOver_ok {s : StrN} (hs : strB s = true) {pR pG pS : Option Addr} {cR cG cS : Nat} {g r : Nat} (hg : g < 64) (hr : r < 64) (hgb : ∀ k, g.testBit k = true → k < s.staff.length) (hrb : ∀ k, r.testBit k = true → k < s.rooms.length) (w : AW) (f : Fresh w) (hA : StrAt w pR pG pS cR cG cS s) :
    CallT Tryz.prog Tryz.T1 (.fn (.func 56) #[]) #[.agg (tourC pR pG pS cR cG cS s g r).toArray] w (Ret (.bool (firstG s g r s.gates 0).isNone) (Grown w)) := by
  have g1 := (Grown.refl f).push (.cells (tourC pR pG pS cR cG cS s g r) 80 w.next 0 0)
  have O1 := Own.new f 80 (tourC pR pG pS cR cG cS s g r)
  have g2 := g1.push (.cells [.bool false] 4 (w.next + 1) 0 0)
  have O2 := Own.new g1.2 4 [.bool false]
  rw [AW.next_push] at O2
  have O1' := O1.push (.cells [.bool false] 4 (w.next + 1) 0 0)
  have n2 : ((w.push (.cells (tourC pR pG pS cR cG cS s g r) 80 w.next 0 0)).push (.cells [.bool false] 4 (w.next + 1) 0 0)).next = w.next + 1 + 1 := by rw [AW.next_push, AW.next_push]
  have hl := loadAll O1' (n := 5) rfl (by simp [tourC, oneCell])
  have hmk := fun w' (f' : Fresh w') => steps_mk (tourC pR pG pS cR cG cS s g r) rfl (by simp [tourC, oneCell]) w' f'
  refine callT_code rfl Tryz.func56 rfl Tryz.s56_eq rfl ?_
  unfold Tryz.s56
  unfold tourC at hl hmk
  unfold tourC at g1 g2 O1 O1' O2 n2
  unfold tourC
  simp -dsimp -implicitDefEqProofs (maxSteps := 2000000) (disch := first | assumption | omega | (simp only [nx]; omega) | ((repeat refine Fresh.push ?_ _); assumption) | (simp only [smA]; done) | (simp [oneCell, AW.next_push]; done) | fail) only [go_sem, Nat.reduceEqDiff, reduceIte, Nat.reduceAdd, Int.toNat_natCast, Nat.add_zero, Owes_true, Tryz.results56, hl]
  generalize (w.push (.cells [.slice pR s.rooms.length cR, .slice pG s.gates.length cG, .slice pS s.staff.length cS, .int .i64 (g : Int), .int .i64 (r : Int)] 80 w.next 0 0)).push (.cells [.bool false] 4 (w.next + 1) 0 0) = w2 at *
  apply callV_of (e := rfl)
  · exact hmk w2 g2.2
  rintro _ w3 ⟨rfl, OX, g3, n3⟩
  have hle3 : WLe w2 w3 := g3.1.wle g2.2
  have gg3 := g2.trans g3
  simp -dsimp -implicitDefEqProofs (maxSteps := 2000000) (disch := first | assumption | omega | (simp only [nx]; omega) | ((repeat refine Fresh.push ?_ _); assumption) | (simp only [smA]; done) | (simp [oneCell, AW.next_push]; done) | fail) only [go_sem, Nat.reduceEqDiff, reduceIte, Nat.reduceAdd, Int.toNat_natCast, Nat.add_zero, Owes_true, Tryz.results56, hle3]
  refine codeT_rangeJ rfl (by simp -dsimp -implicitDefEqProofs (maxSteps := 2000000) (disch := first | assumption | omega | (simp only [nx]; omega) | ((repeat refine Fresh.push ?_ _); assumption) | (simp only [smA]; done) | (simp [oneCell, AW.next_push]; done) | fail) only [go_sem, Nat.reduceEqDiff, reduceIte, Nat.reduceAdd, Int.toNat_natCast, Nat.add_zero, Owes_true]; rfl) ?_
  have hn3 := g3.1.next
  have gL := fun (lv : ALoop) => ((Grown.refl g3.2).push (.deferred (some []))).push (.loop lv)
  have hnL1 : (w3.push (.deferred (some []))).next = w3.next + 1 := AW.next_push _ _
  have hnL := fun (lv : ALoop) => (AW.next_push (w3.push (.deferred (some []))) (.loop lv))
  have bL := fun (lv : ALoop) => (show ((w3.push (.deferred (some []))).push (.loop lv)).blk (w3.next + 1) = some (.loop lv) from by rw [AW.blk_push _ _ _ (Trie.in_ _) (Trie.in_ _), if_pos hnL1.symm])
  have bM := fun (lv : ALoop) => (show ((w3.push (.deferred (some []))).push (.loop lv)).blk w3.next = some (.deferred (some [])) from by rw [AW.blk_push _ _ _ (Trie.in_ _) (Trie.in_ _), if_neg (by omega), AW.blk_push _ _ _ (Trie.in_ _) (Trie.in_ _), if_pos rfl])
  have kL := fun (lv : ALoop) => gg3.1.trans ((gL lv).1.mono gg3.1.next)
  have O23 := O2.keep g3.1
  refine (steps_ok hs hg hr hgb hrb (b1 := w2.next) (lp := w3.next + 1) (PostO w w.next (w.next + 1) w3.next (w3.next + 1)) _ (gL _).2 ((OX.push _).push _) (hA.grown (gg3.trans (gL _))) ?_ ?_).mono ?_
  · intro i gt w' hf hmem g'
    have hn' := g'.1.next
    rw [hnL, hnL1] at hn'
    have hbl := (g'.1.blk (w3.next + 1) (by rw [hnL, hnL1]; omega)).trans (bL _)
    exact yieldO_ok (B := w.next) (w0 := w) (dm := w3.next) _ (by simp -dsimp -implicitDefEqProofs (maxSteps := 2000000) (disch := first | assumption | omega | (simp only [nx]; omega) | ((repeat refine Fresh.push ?_ _); assumption) | (simp only [smA]; done) | (simp [oneCell, AW.next_push]; done) | fail) only [go_sem, Nat.reduceEqDiff, reduceIte, Nat.reduceAdd, Int.toNat_natCast, Nat.add_zero, Owes_true]) _ _ w' g'.2 hbl (((O23.push _).push _).keep g'.1) (by rw [g'.1.blk _ (by rw [hnL, hnL1]; omega)]; exact bM _) ⟨by omega, by omega, by omega, by omega⟩ ((kL _).trans (g'.1.mono (kL _).next))
  · intro hf w' g'
    have hn' := g'.1.next
    rw [hnL, hnL1] at hn'
    exact ⟨⟨_, by rw [g'.1.blk _ (by rw [hnL, hnL1]; omega)]; exact bL _, rfl, rfl⟩, ((O23.push _).push _).keep g'.1, by rw [g'.1.blk _ (by rw [hnL, hnL1]; omega)]; exact bM _, (kL _).trans (g'.1.mono (kL _).next), g'.2, by omega⟩
  rintro _ w4 hP
  cases ho : firstG s g r s.gates 0 with
  | none =>
    rw [ho] at hP
    obtain ⟨⟨lv, hl4, hst, hpd⟩, O24, hm4, k4, f4, hlt4⟩ := hP
    refine ⟨lv, hl4, .inl ⟨hst, hpd, ?_⟩⟩
    intro W hW
    have m5 := MutS.put (S := fun j => j = w3.next + 1) f4 rfl hlt4 (.loop { lv with state := .exhausted })
    rw [← hW] at m5
    have n5 : W.next = w4.next := by rw [hW, AW.next_put]
    have O2W := m5.own O24 (by omega)
    have hmW := m5.blk w3.next (by omega) (by omega)
    rw [hm4] at hmW
    have kW : Keep w.next w W := k4.trans (m5.keep (fun j q => by omega) k4.next)
    have fW := m5.fresh
    clear hW m5
    have st := storeV_own1 (o := 0) (v := .bool true) O2W (by simp) rfl
    simp only [setL] at st
    have m6 := MutS.put (S := fun j => j = w.next + 1) fW rfl O2W.lt (.cells [.bool true] 4 (w.next + 1) 0 0)
    have O6 := O2W.put [.bool true]
    have n6 : (W.put (w.next + 1) (.cells [.bool true] 4 (w.next + 1) 0 0)).next = W.next := AW.next_put _ _ _
    have hm6 := m6.blk w3.next (by omega) (by omega)
    rw [hmW] at hm6
    have k6 : Keep w.next w _ := kW.trans (m6.keep (B := w.next) (fun j q => by omega) kW.next)
    simp -dsimp -implicitDefEqProofs (maxSteps := 2000000) (disch := first | assumption | omega | (simp only [nx]; omega) | ((repeat refine Fresh.push ?_ _); assumption) | (simp only [smA]; done) | (simp [oneCell, AW.next_push]; done) | fail) only [go_sem, Nat.reduceEqDiff, reduceIte, Nat.reduceAdd, Int.toNat_natCast, Nat.add_zero, Owes_true, Tryz.results56, st]
    generalize W.put (w.next + 1) (.cells [.bool true] 4 (w.next + 1) 0 0) = W6 at *
    refine Left_one hm6 ?_
    have m7 := MutS.put (S := fun j => j = w3.next) m6.fresh rfl (by omega) (.deferred none)
    have O7 := m7.own O6 (by omega)
    have c7 := O7.cell (o := 0) rfl rfl
    have k7 : Keep w.next w _ := k6.trans (m7.keep (B := w.next) (fun j q => by omega) k6.next)
    simp -dsimp -implicitDefEqProofs (maxSteps := 2000000) (disch := first | assumption | omega | (simp only [nx]; omega) | ((repeat refine Fresh.push ?_ _); assumption) | (simp only [smA]; done) | (simp [oneCell, AW.next_push]; done) | fail) only [go_sem, Nat.reduceEqDiff, reduceIte, Nat.reduceAdd, Int.toNat_natCast, Nat.add_zero, Owes_true, Tryz.results56, c7]
    exact ⟨rfl, k7, m7.fresh⟩
  | some p =>
    rw [ho] at hP
    obtain ⟨lv, hl4, hst, hpd, O24, hm4, k4, f4, hlt4⟩ := hP
    refine ⟨lv, hl4, .inr ⟨hst, .ret, by rw [hpd]; rfl, by rw [hpd]; simp, ?_⟩⟩
    intro W hW
    have m5 := MutS.put (S := fun j => j = w3.next + 1) f4 rfl hlt4 (.loop { lv with state := .exhausted })
    rw [← hW] at m5
    have n5 : W.next = w4.next := by rw [hW, AW.next_put]
    have O2W := m5.own O24 (by omega)
    have hmW := m5.blk w3.next (by omega) (by omega)
    rw [hm4] at hmW
    have kW : Keep w.next w W := k4.trans (m5.keep (fun j q => by omega) k4.next)
    have fW := m5.fresh
    clear hW m5
    simp -dsimp -implicitDefEqProofs (maxSteps := 2000000) (disch := first | assumption | omega | (simp only [nx]; omega) | ((repeat refine Fresh.push ?_ _); assumption) | (simp only [smA]; done) | (simp [oneCell, AW.next_push]; done) | fail) only [go_sem, Nat.reduceEqDiff, reduceIte, Nat.reduceAdd, Int.toNat_natCast, Nat.add_zero, Owes_true, Tryz.results56]
    refine Left_one hmW ?_
    have m7 := MutS.put (S := fun j => j = w3.next) fW rfl (by omega) (.deferred none)
    have O7 := m7.own O2W (by omega)
    have c7 := O7.cell (o := 0) rfl rfl
    have k7 : Keep w.next w _ := kW.trans (m7.keep (B := w.next) (fun j q => by omega) kW.next)
    simp -dsimp -implicitDefEqProofs (maxSteps := 2000000) (disch := first | assumption | omega | (simp only [nx]; omega) | ((repeat refine Fresh.push ?_ _); assumption) | (simp only [smA]; done) | (simp [oneCell, AW.next_push]; done) | fail) only [go_sem, Nat.reduceEqDiff, reduceIte, Nat.reduceAdd, Int.toNat_natCast, Nat.add_zero, Owes_true, Tryz.results56, c7]
    exact ⟨rfl, k7, m7.fresh⟩
end Go.Proofs

namespace Go.Proofs
open Go Go.RowKit Go.Sim
set_option maxRecDepth 100000
def noTour : Value := .agg #[.slice none 0 0, .slice none 0 0, .slice none 0 0, .int .i64 0, .int .i64 0]
def OpenIs (s : StrN) (pR pG pS : Option Addr) (cR cG cS : Nat) (x : Int) (v : Value) : Prop :=
  (askN s x = 0 ∧ v = .tuple #[.agg (tourC pR pG pS cR cG cS s x.toNat 1).toArray, .int .i64 0]) ∨ (askN s x ≠ 0 ∧ v = .tuple #[noTour, .int .i64 (askN s x)])
theorem bld80 : bldQ [(0, 3), (3, 1), (4, 1)] [.slice none 0 0, .slice none 0 0, .slice none 0 0, .int .i64 0, .int .i64 0] [] = some (.agg #[.slice none 0 0, .slice none 0 0, .slice none 0 0, .int .i64 0, .int .i64 0]) := by rfl
set_option maxHeartbeats 16000000 in
theorem open_ok (s : StrN) (pR pG pS : Option Addr) (cR cG cS : Nat) (x : Int) (w : AW) (f : Fresh w) (hA : StrAt w pR pG pS cR cG cS s) :
    CallT Tryz.prog Tryz.T1 (.fn (.func 47) #[]) #[.agg (strC pR pG pS cR cG cS s).toArray, .int .i64 x] w (fun v w' => OpenIs s pR pG pS cR cG cS x v ∧ Grown w w') := by
  have g1 := (Grown.refl f).push (.cells (strC pR pG pS cR cG cS s) 26 w.next 0 0)
  have O1 := Own.new f 26 (strC pR pG pS cR cG cS s)
  have g2 := g1.push (.cells [.slice none 0 0, .slice none 0 0, .slice none 0 0, .int .i64 0, .int .i64 0] 80 (w.next + 1) 0 0)
  have O2 := Own.new g1.2 80 [.slice none 0 0, .slice none 0 0, .slice none 0 0, .int .i64 0, .int .i64 0]
  rw [AW.next_push] at O2
  have O1' := O1.push (.cells [.slice none 0 0, .slice none 0 0, .slice none 0 0, .int .i64 0, .int .i64 0] 80 (w.next + 1) 0 0)
  have hl := loadAll O1' (n := 3) rfl (by simp [strC, oneCell])
  have hch := fun w' (g' : Grown w w') => CheckV_ok s pR pG pS cR cG cS w' g'.2 (hA.grown g')
  have hbe := fun (g : Nat) w' (g' : Grown w w') => begin_ok s pR pG pS cR cG cS g w' g'.2
  have hak : askN s x = if strB s = true then (if setB s.staff.length x = true then 0 else 41) else 40 := rfl
  unfold strC at *
  refine callT_code rfl Tryz.func47 rfl Tryz.s47_eq rfl ?_
  unfold Tryz.s47
  simp -dsimp -implicitDefEqProofs (maxSteps := 2000000) (disch := first | assumption | omega | (simp only [nx]; omega) | ((repeat refine Fresh.push ?_ _); assumption) | (simp only [smA]; done) | (simp [oneCell, AW.next_push]; done) | fail) only [go_sem, Nat.reduceEqDiff, reduceIte, Nat.reduceAdd, Int.toNat_natCast, Nat.add_zero, Owes_true, Tryz.results47, hl]
  generalize (w.push (.cells [.slice pR s.rooms.length cR, .slice pG s.gates.length cG, .slice pS s.staff.length cS] 26 w.next 0 0)).push (.cells [.slice none 0 0, .slice none 0 0, .slice none 0 0, .int .i64 0, .int .i64 0] 80 (w.next + 1) 0 0) = w2 at *
  apply callV_of (e := rfl)
  · exact hch w2 g2
  rintro _ w3 ⟨rfl, g3⟩
  have gg3 := g2.trans g3
  have O13 := O1'.keep g3.1
  have O23 := O2.keep g3.1
  have c2 := O13.cell (o := 2) (v := .slice pS s.staff.length cS) rfl rfl
  have hl3 := loadAll O13 (n := 3) rfl (by simp [oneCell])
  have hcut : ∀ l : List Value, l.length = 5 → setsL [.slice none 0 0, .slice none 0 0, .slice none 0 0, .int .i64 0, .int .i64 0] 0 l = l := fun l h => by match l, h with | [a, b, c, d, e], _ => rfl
  have st0 := storeV_own (o := 0) (l := [.slice none 0 0, .slice none 0 0, .slice none 0 0, .int .i64 0, .int .i64 0]) (size := 5) O23 rfl (by omega) (by simp) rfl
  rw [hcut _ rfl] at st0
  have m4 := MutS.put (S := fun j => j = w.next + 1) g3.2 rfl O23.lt (.cells [.slice none 0 0, .slice none 0 0, .slice none 0 0, .int .i64 0, .int .i64 0] 80 (w.next + 1) 0 0)
  have O4 := O23.put [.slice none 0 0, .slice none 0 0, .slice none 0 0, .int .i64 0, .int .i64 0]
  have g4 : Grown w _ := ⟨gg3.1.trans (m4.keep (B := w.next) (fun j q => by omega) gg3.1.next), m4.fresh⟩
  have hl4 := loadAll O4 (n := 5) rfl (by simp [oneCell])
  cases hs : strB s with
  | false =>
    rw [hs, if_neg (by intro z; cases z)] at hak
    have hE : strE s = 40 := by unfold strE; rw [hs]; rfl
    have h40 : ¬ (40 : Int) = 0 := by omega
    simp -dsimp -implicitDefEqProofs (maxSteps := 2000000) (disch := first | assumption | omega | (simp only [nx]; omega) | ((repeat refine Fresh.push ?_ _); assumption) | (simp only [smA]; done) | (simp [oneCell, AW.next_push]; done) | fail) only [go_sem, Nat.reduceEqDiff, reduceIte, Nat.reduceAdd, Int.toNat_natCast, Nat.add_zero, Owes_true, Tryz.results47, hE, h40, bld80, st0, hl4]
    exact ⟨.inr ⟨by rw [hak]; exact h40, by rw [hak]; rfl⟩, g4⟩
  | true =>
  rw [hs, if_pos rfl] at hak
  have hE : strE s = 0 := by unfold strE; rw [hs]; rfl
  have hsl := (str_staff hs).2.1
  simp -dsimp -implicitDefEqProofs (maxSteps := 2000000) (disch := first | assumption | omega | (simp only [nx]; omega) | ((repeat refine Fresh.push ?_ _); assumption) | (simp only [smA]; done) | (simp [oneCell, AW.next_push]; done) | fail) only [go_sem, Nat.reduceEqDiff, reduceIte, Nat.reduceAdd, Int.toNat_natCast, Nat.add_zero, Owes_true, Tryz.results47, hE, c2, Nat.zero_add]
  apply callV_of (e := rfl)
  · exact isSet_ok (n := s.staff.length) (by omega) x w3
  rintro _ _ ⟨rfl, rfl⟩
  cases hx : setB s.staff.length x with
  | false =>
    rw [hx, if_neg (by intro z; cases z)] at hak
    simp -dsimp -implicitDefEqProofs (maxSteps := 2000000) (disch := first | assumption | omega | (simp only [nx]; omega) | ((repeat refine Fresh.push ?_ _); assumption) | (simp only [smA]; done) | (simp [oneCell, AW.next_push]; done) | fail) only [go_sem, Nat.reduceEqDiff, reduceIte, Nat.reduceAdd, Int.toNat_natCast, Nat.add_zero, Owes_true, Tryz.results47, hx, bld80, st0, hl4]
    exact ⟨.inr ⟨by rw [hak]; omega, by rw [hak]; rfl⟩, g4⟩
  | true =>
  rw [hx, if_pos rfl] at hak
  obtain ⟨_, g, rfl, hg, _, hgb⟩ := askN_ok hak
  simp -dsimp -implicitDefEqProofs (maxSteps := 2000000) (disch := first | assumption | omega | (simp only [nx]; omega) | ((repeat refine Fresh.push ?_ _); assumption) | (simp only [smA]; done) | (simp [oneCell, AW.next_push]; done) | fail) only [go_sem, Nat.reduceEqDiff, reduceIte, Nat.reduceAdd, Int.toNat_natCast, Nat.add_zero, Owes_true, Tryz.results47, hx, hl3]
  apply callV_of (e := rfl)
  · exact hbe g w3 gg3
  rintro _ w5 ⟨rfl, g5⟩
  have gg5 := gg3.trans g5
  have O25 := O23.keep g5.1
  have st5 := storeV_own (o := 0) (l := tourC pR pG pS cR cG cS s g 1) (size := 5) O25 rfl (by omega) (by simp [tourC]) (by simp [tourC, oneCell])
  rw [hcut _ rfl] at st5
  have m6 := MutS.put (S := fun j => j = w.next + 1) g5.2 rfl O25.lt (.cells (tourC pR pG pS cR cG cS s g 1) 80 (w.next + 1) 0 0)
  have O6 := O25.put (tourC pR pG pS cR cG cS s g 1)
  have g6 : Grown w _ := ⟨gg5.1.trans (m6.keep (B := w.next) (fun j q => by omega) gg5.1.next), m6.fresh⟩
  have hl6 := loadAll O6 (n := 5) rfl (by simp [tourC, oneCell])
  unfold tourC at *
  simp -dsimp -implicitDefEqProofs (maxSteps := 2000000) (disch := first | assumption | omega | (simp only [nx]; omega) | ((repeat refine Fresh.push ?_ _); assumption) | (simp only [smA]; done) | (simp [oneCell, AW.next_push]; done) | fail) only [go_sem, Nat.reduceEqDiff, reduceIte, Nat.reduceAdd, Int.toNat_natCast, Nat.add_zero, Owes_true, Tryz.results47, st5, hl6]
  exact ⟨.inl ⟨hak, rfl⟩, g6⟩
set_option maxHeartbeats 16000000 in
theorem EnterV_ok (s : StrN) (pR pG pS : Option Addr) (cR cG cS : Nat) (x : Int) (w : AW) (f : Fresh w) (hA : StrAt w pR pG pS cR cG cS s) :
    CallT Tryz.prog Tryz.T1 (.fn (.func 15) #[]) #[.agg (strC pR pG pS cR cG cS s).toArray, .int .i64 x] w (Ret (.tuple #[.int .i64 (entN s x), .int .i64 (askN s x)]) (Grown w)) := by
  have g1 := (Grown.refl f).push (.cells (strC pR pG pS cR cG cS s) 26 w.next 0 0)
  have O1 := Own.new f 26 (strC pR pG pS cR cG cS s)
  have hl1 := loadAll O1 (n := 3) rfl (by simp [strC, oneCell])
  have hop := fun w' (g' : Grown w w') => open_ok s pR pG pS cR cG cS x w' g'.2 (hA.grown g')
  have hen : ∀ g : Nat, strB s = true → g < 64 → (∀ k, g.testBit k = true → k < s.staff.length) → ∀ w', Grown w w' → _ := fun g hs hg hgb w' g' => end_ok hs (g := g) hg hgb 64 1 (by omega) (by omega) (one_bits hs) w' g'.2 (hA.grown g')
  have hcut : ∀ l : List Value, l.length = 5 → setsL [.slice none 0 0, .slice none 0 0, .slice none 0 0, .int .i64 0, .int .i64 0] 0 l = l := fun l h => by match l, h with | [a, b, c, d, e], _ => rfl
  unfold strC at *
  refine callT_code rfl Tryz.func15 rfl Tryz.s15_eq rfl ?_
  unfold Tryz.s15
  simp -dsimp -implicitDefEqProofs (maxSteps := 2000000) (disch := first | assumption | omega | (simp only [nx]; omega) | ((repeat refine Fresh.push ?_ _); assumption) | (simp only [smA]; done) | (simp [oneCell, AW.next_push]; done) | fail) only [go_sem, Nat.reduceEqDiff, reduceIte, Nat.reduceAdd, Int.toNat_natCast, Nat.add_zero, Owes_true, Tryz.results15, hl1]
  generalize w.push (.cells [.slice pR s.rooms.length cR, .slice pG s.gates.length cG, .slice pS s.staff.length cS] 26 w.next 0 0) = w1 at *
  apply callV_of (e := rfl)
  · exact hop w1 g1
  rintro _ w2 ⟨hv, g2⟩
  have gg2 := g1.trans g2
  have g3 := (Grown.refl gg2.2).push (.cells [.slice none 0 0, .slice none 0 0, .slice none 0 0, .int .i64 0, .int .i64 0] 80 w2.next 0 0)
  have O3 := Own.new gg2.2 80 [.slice none 0 0, .slice none 0 0, .slice none 0 0, .int .i64 0, .int .i64 0]
  rcases hv with ⟨h, rfl⟩ | ⟨h, rfl⟩
  · obtain ⟨hs, g, rfl, hg, _, hgb⟩ := askN_ok h
    have hE : entN s (g : Int) = (endR s g 1 : Int) := by unfold entN; rw [if_pos h]; rfl
    rw [hE, h]
    have hin := (endR_in hs g).1
    have st := storeV_own (o := 0) (l := tourC pR pG pS cR cG cS s g 1) (size := 5) O3 rfl (by omega) (by simp [tourC]) (by simp [tourC, oneCell])
    rw [hcut _ rfl] at st
    have m4 := MutS.put (S := fun j => j = w2.next) g3.2 rfl O3.lt (.cells (tourC pR pG pS cR cG cS s g 1) 80 w2.next 0 0)
    have O4 := O3.put (tourC pR pG pS cR cG cS s g 1)
    have g4 : Grown w2 _ := ⟨g3.1.trans (m4.keep (B := w2.next) (fun j q => by omega) g3.1.next), m4.fresh⟩
    have hl4 := loadAll O4 (n := 5) rfl (by simp [tourC, oneCell])
    have hen := hen g hs hg hgb _ (gg2.trans g4)
    unfold tourC at *
    simp -dsimp -implicitDefEqProofs (maxSteps := 2000000) (disch := first | assumption | omega | (simp only [nx]; omega) | ((repeat refine Fresh.push ?_ _); assumption) | (simp only [smA]; done) | (simp [oneCell, AW.next_push]; done) | fail) only [go_sem, Nat.reduceEqDiff, reduceIte, Nat.reduceAdd, Int.toNat_natCast, Nat.add_zero, Owes_true, Tryz.results15, st, hl4, show ((g : Int)).toNat = g from rfl]
    apply callV_of (e := rfl)
    · exact hen
    rintro _ w5 ⟨rfl, g5⟩
    simp -dsimp -implicitDefEqProofs (maxSteps := 2000000) (disch := first | assumption | omega | (simp only [nx]; omega) | ((repeat refine Fresh.push ?_ _); assumption) | (simp only [smA]; done) | (simp [oneCell, AW.next_push]; done) | fail) only [go_sem, Nat.reduceEqDiff, reduceIte, Nat.reduceAdd, Int.toNat_natCast, Nat.add_zero, Owes_true, Tryz.results15]
    refine ⟨.int .i64 (endF s g 64 1 : Int), Tryz.fd80 _ _ _ _ _ _ _ _ (by simp -dsimp -implicitDefEqProofs (maxSteps := 2000000) (disch := first | assumption | omega | (simp only [nx]; omega) | ((repeat refine Fresh.push ?_ _); assumption) | (simp only [smA]; done) | (simp [oneCell, AW.next_push]; done) | fail) only [go_sem, Nat.reduceEqDiff, reduceIte, Nat.reduceAdd, Int.toNat_natCast, Nat.add_zero, Owes_true]; rfl) rfl, ?_⟩
    simp -dsimp -implicitDefEqProofs (maxSteps := 2000000) (disch := first | assumption | omega | (simp only [nx]; omega) | ((repeat refine Fresh.push ?_ _); assumption) | (simp only [smA]; done) | (simp [oneCell, AW.next_push]; done) | fail) only [go_sem, Nat.reduceEqDiff, reduceIte, Nat.reduceAdd, Int.toNat_natCast, Nat.add_zero, Owes_true, Tryz.results15]
    exact ⟨rfl, (gg2.trans g4).trans g5⟩
  · have hE : entN s x = 0 := by unfold entN; rw [if_neg h]
    rw [hE]
    have st := storeV_own (o := 0) (l := [.slice none 0 0, .slice none 0 0, .slice none 0 0, .int .i64 0, .int .i64 0]) (size := 5) O3 rfl (by omega) (by simp) rfl
    rw [hcut _ rfl] at st
    have m4 := MutS.put (S := fun j => j = w2.next) g3.2 rfl O3.lt (.cells [.slice none 0 0, .slice none 0 0, .slice none 0 0, .int .i64 0, .int .i64 0] 80 w2.next 0 0)
    have g4 : Grown w2 _ := ⟨g3.1.trans (m4.keep (B := w2.next) (fun j q => by omega) g3.1.next), m4.fresh⟩
    unfold noTour
    simp -dsimp -implicitDefEqProofs (maxSteps := 2000000) (disch := first | assumption | omega | (simp only [nx]; omega) | ((repeat refine Fresh.push ?_ _); assumption) | (simp only [smA]; done) | (simp [oneCell, AW.next_push]; done) | fail) only [go_sem, Nat.reduceEqDiff, reduceIte, Nat.reduceAdd, Int.toNat_natCast, Nat.add_zero, Owes_true, Tryz.results15, st, h]
    exact ⟨rfl, gg2.trans g4⟩
theorem none_all {s : StrN} {g r : Nat} : (firstG s g r s.gates 0).isNone = s.gates.all fun gt => !stepB s g r gt := by
  cases h : firstG s g r s.gates 0 with
  | none =>
    have := firstG_no h
    symm
    rw [Option.isNone_none, List.all_eq_true]
    intro x hx; rw [this x hx]; rfl
  | some p =>
    obtain ⟨i, gt⟩ := p
    obtain ⟨hm, hst⟩ := firstG_is h
    symm
    rw [Option.isNone_some, Bool.eq_false_iff]
    intro z
    have := List.all_eq_true.1 z gt hm
    rw [hst] at this; cases this
set_option maxHeartbeats 16000000 in
theorem ClosedV_ok (s : StrN) (pR pG pS : Option Addr) (cR cG cS : Nat) (x y : Int) (w : AW) (f : Fresh w) (hA : StrAt w pR pG pS cR cG cS s) :
    CallT Tryz.prog Tryz.T1 (.fn (.func 19) #[]) #[.agg (strC pR pG pS cR cG cS s).toArray, .int .i64 x, .int .i64 y] w (Ret (.tuple #[.bool (cloB s x y), .int .i64 (cloE s x y)]) (Grown w)) := by
  have g1 := (Grown.refl f).push (.cells (strC pR pG pS cR cG cS s) 26 w.next 0 0)
  have O1 := Own.new f 26 (strC pR pG pS cR cG cS s)
  have hl1 := loadAll O1 (n := 3) rfl (by simp [strC, oneCell])
  have hop := fun w' (g' : Grown w w') => open_ok s pR pG pS cR cG cS x w' g'.2 (hA.grown g')
  have hov : ∀ g r : Nat, strB s = true → g < 64 → r < 64 → (∀ k, g.testBit k = true → k < s.staff.length) → (∀ k, r.testBit k = true → k < s.rooms.length) → ∀ w', Grown w w' → _ := fun g r hs hg hr hgb hrb w' g' => isOver_ok hs (g := g) (r := r) hg hr hgb hrb w' g'.2 (hA.grown g')
  have hcut : ∀ l : List Value, l.length = 5 → setsL [.slice none 0 0, .slice none 0 0, .slice none 0 0, .int .i64 0, .int .i64 0] 0 l = l := fun l h => by match l, h with | [a, b, c, d, e], _ => rfl
  have hcB : cloB s x y = if askN s x = 0 then (if setB s.rooms.length y = true then (y.toNat.testBit 0 && s.gates.all fun gt => !stepB s x.toNat y.toNat gt) else false) else false := rfl
  have hcE : cloE s x y = if askN s x = 0 then (if setB s.rooms.length y = true then 0 else 7) else askN s x := rfl
  unfold strC at *
  refine callT_code rfl Tryz.func19 rfl Tryz.s19_eq rfl ?_
  unfold Tryz.s19
  simp -dsimp -implicitDefEqProofs (maxSteps := 2000000) (disch := first | assumption | omega | (simp only [nx]; omega) | ((repeat refine Fresh.push ?_ _); assumption) | (simp only [smA]; done) | (simp [oneCell, AW.next_push]; done) | fail) only [go_sem, Nat.reduceEqDiff, reduceIte, Nat.reduceAdd, Int.toNat_natCast, Nat.add_zero, Owes_true, Tryz.results19, hl1]
  generalize w.push (.cells [.slice pR s.rooms.length cR, .slice pG s.gates.length cG, .slice pS s.staff.length cS] 26 w.next 0 0) = w1 at *
  apply callV_of (e := rfl)
  · exact hop w1 g1
  rintro _ w2 ⟨hv, g2⟩
  have gg2 := g1.trans g2
  have g3 := (Grown.refl gg2.2).push (.cells [.slice none 0 0, .slice none 0 0, .slice none 0 0, .int .i64 0, .int .i64 0] 80 w2.next 0 0)
  have O3 := Own.new gg2.2 80 [.slice none 0 0, .slice none 0 0, .slice none 0 0, .int .i64 0, .int .i64 0]
  rcases hv with ⟨h, rfl⟩ | ⟨h, rfl⟩
  · rw [if_pos h] at hcB hcE
    obtain ⟨hs, g, rfl, hg, _, hgb⟩ := askN_ok h
    have hrl := (str_rooms hs).2
    have st := storeV_own (o := 0) (l := tourC pR pG pS cR cG cS s g 1) (size := 5) O3 rfl (by omega) (by simp [tourC]) (by simp [tourC, oneCell])
    rw [hcut _ rfl] at st
    have m4 := MutS.put (S := fun j => j = w2.next) g3.2 rfl O3.lt (.cells (tourC pR pG pS cR cG cS s g 1) 80 w2.next 0 0)
    have O4 := O3.put (tourC pR pG pS cR cG cS s g 1)
    have g4 : Grown w2 _ := ⟨g3.1.trans (m4.keep (B := w2.next) (fun j q => by omega) g3.1.next), m4.fresh⟩
    have gg4 := gg2.trans g4
    have O14 := (O1.keep g2.1).keep g4.1
    have c0 := O14.cell (o := 0) (v := .slice pR s.rooms.length cR) rfl rfl
    unfold tourC at *
    simp -dsimp -implicitDefEqProofs (maxSteps := 2000000) (disch := first | assumption | omega | (simp only [nx]; omega) | ((repeat refine Fresh.push ?_ _); assumption) | (simp only [smA]; done) | (simp [oneCell, AW.next_push]; done) | fail) only [go_sem, Nat.reduceEqDiff, reduceIte, Nat.reduceAdd, Int.toNat_natCast, Nat.add_zero, Owes_true, Tryz.results19, st, show ((g : Int)).toNat = g from rfl, c0, Nat.zero_add]
    generalize (w2.push (.cells [.slice none 0 0, .slice none 0 0, .slice none 0 0, .int .i64 0, .int .i64 0] 80 w2.next 0 0)).put w2.next (.cells [.slice pR s.rooms.length cR, .slice pG s.gates.length cG, .slice pS s.staff.length cS, .int .i64 (g : Int), .int .i64 ((1 : Nat) : Int)] 80 w2.next 0 0) = w4 at *
    apply callV_of (e := rfl)
    · exact isSet_ok (n := s.rooms.length) (by omega) y w4
    rintro _ _ ⟨rfl, rfl⟩
    cases hx : setB s.rooms.length y with
    | false =>
      rw [hx, if_neg (by intro z; cases z)] at hcB hcE
      simp -dsimp -implicitDefEqProofs (maxSteps := 2000000) (disch := first | assumption | omega | (simp only [nx]; omega) | ((repeat refine Fresh.push ?_ _); assumption) | (simp only [smA]; done) | (simp [oneCell, AW.next_push]; done) | fail) only [go_sem, Nat.reduceEqDiff, reduceIte, Nat.reduceAdd, Int.toNat_natCast, Nat.add_zero, Owes_true, Tryz.results19, hx]
      exact ⟨by rw [hcB, hcE], gg4⟩
    | true =>
    rw [hx, if_pos rfl] at hcB hcE
    obtain ⟨r, rfl, hr, hrb⟩ := setB_nat hrl hx
    rw [show ((r : Int)).toNat = r from rfl, show ((g : Int)).toNat = g from rfl, ← none_all] at hcB
    rw [hcE, hcB]
    have st5 := storeV_own1 (o := 4) (v := .int .i64 (r : Int)) O4 (by simp) rfl
    simp only [setL] at st5
    have m5 := MutS.put (S := fun j => j = w2.next) gg4.2 rfl O4.lt (.cells [.slice pR s.rooms.length cR, .slice pG s.gates.length cG, .slice pS s.staff.length cS, .int .i64 (g : Int), .int .i64 (r : Int)] 80 w2.next 0 0)
    have O5 := O4.put [.slice pR s.rooms.length cR, .slice pG s.gates.length cG, .slice pS s.staff.length cS, .int .i64 (g : Int), .int .i64 (r : Int)]
    have gg5 : Grown w _ := ⟨gg4.1.trans (m5.keep (B := w.next) (fun j q => by have := gg2.1.next; omega) gg4.1.next), m5.fresh⟩
    have c4 := O5.cell (o := 4) (v := .int .i64 (r : Int)) rfl rfl
    have hl5 := loadAll O5 (n := 5) rfl (by simp [oneCell])
    simp -dsimp -implicitDefEqProofs (maxSteps := 2000000) (disch := first | assumption | omega | (simp only [nx]; omega) | ((repeat refine Fresh.push ?_ _); assumption) | (simp only [smA]; done) | (simp [oneCell, AW.next_push]; done) | fail) only [go_sem, Nat.reduceEqDiff, reduceIte, Nat.reduceAdd, Int.toNat_natCast, Nat.add_zero, Owes_true, Tryz.results19, hx, st5, c4, hl5, Nat.zero_add]
    generalize w4.put w2.next (.cells [.slice pR s.rooms.length cR, .slice pG s.gates.length cG, .slice pS s.staff.length cS, .int .i64 (g : Int), .int .i64 (r : Int)] 80 w2.next 0 0) = w5 at *
    have hbt := has_ok r 0 (by omega) (by omega) w5
    rw [show ((0 : Nat) : Int) = 0 from rfl] at hbt
    apply callV_of (e := rfl)
    · exact hbt
    rintro _ _ ⟨rfl, rfl⟩
    cases hb0 : r.testBit 0 with
    | false =>
      simp -dsimp -implicitDefEqProofs (maxSteps := 2000000) (disch := first | assumption | omega | (simp only [nx]; omega) | ((repeat refine Fresh.push ?_ _); assumption) | (simp only [smA]; done) | (simp [oneCell, AW.next_push]; done) | fail) only [go_sem, Nat.reduceEqDiff, reduceIte, Nat.reduceAdd, Int.toNat_natCast, Nat.add_zero, Owes_true, Tryz.results19, hb0]
      exact ⟨rfl, gg5⟩
    | true =>
      have hov := hov g r hs hg hr hgb hrb w5 gg5
      simp -dsimp -implicitDefEqProofs (maxSteps := 2000000) (disch := first | assumption | omega | (simp only [nx]; omega) | ((repeat refine Fresh.push ?_ _); assumption) | (simp only [smA]; done) | (simp [oneCell, AW.next_push]; done) | fail) only [go_sem, Nat.reduceEqDiff, reduceIte, Nat.reduceAdd, Int.toNat_natCast, Nat.add_zero, Owes_true, Tryz.results19, hb0, hl5]
      apply callV_of (e := rfl)
      · exact hov
      rintro _ w6 ⟨rfl, g6⟩
      simp -dsimp -implicitDefEqProofs (maxSteps := 2000000) (disch := first | assumption | omega | (simp only [nx]; omega) | ((repeat refine Fresh.push ?_ _); assumption) | (simp only [smA]; done) | (simp [oneCell, AW.next_push]; done) | fail) only [go_sem, Nat.reduceEqDiff, reduceIte, Nat.reduceAdd, Int.toNat_natCast, Nat.add_zero, Owes_true, Tryz.results19]
      exact ⟨rfl, gg5.trans g6⟩
  · rw [if_neg h] at hcB hcE
    have st := storeV_own (o := 0) (l := [.slice none 0 0, .slice none 0 0, .slice none 0 0, .int .i64 0, .int .i64 0]) (size := 5) O3 rfl (by omega) (by simp) rfl
    rw [hcut _ rfl] at st
    have m4 := MutS.put (S := fun j => j = w2.next) g3.2 rfl O3.lt (.cells [.slice none 0 0, .slice none 0 0, .slice none 0 0, .int .i64 0, .int .i64 0] 80 w2.next 0 0)
    have g4 : Grown w2 _ := ⟨g3.1.trans (m4.keep (B := w2.next) (fun j q => by omega) g3.1.next), m4.fresh⟩
    unfold noTour
    simp -dsimp -implicitDefEqProofs (maxSteps := 2000000) (disch := first | assumption | omega | (simp only [nx]; omega) | ((repeat refine Fresh.push ?_ _); assumption) | (simp only [smA]; done) | (simp [oneCell, AW.next_push]; done) | fail) only [go_sem, Nat.reduceEqDiff, reduceIte, Nat.reduceAdd, Int.toNat_natCast, Nat.add_zero, Owes_true, Tryz.results19, st, h]
    exact ⟨by rw [hcB, hcE], gg2.trans g4⟩
end Go.Proofs

namespace Go.Proofs
open Go Go.RowKit Go.Sim
set_option maxRecDepth 100000
theorem Tryz.undV3 : Tryz.prog.underlying 3 = some (.int .i64) := by kernel_rfl
theorem Tryz.undV22 : Tryz.prog.underlying 22 = some (.slice 73) := by kernel_rfl
theorem Tryz.undV23 : Tryz.prog.underlying 23 = some (.slice 71) := by kernel_rfl
theorem Tryz.undV24 : Tryz.prog.underlying 24 = some (.slice 3) := by kernel_rfl
theorem Tryz.cellsV3 : Tryz.prog.cellsOf 3 = 1 := by kernel_rfl
theorem Tryz.cellsV128 : Tryz.prog.cellsOf 73 = 3 := by kernel_rfl
theorem Tryz.cellsV132 : Tryz.prog.cellsOf 71 = 4 := by kernel_rfl
theorem Tryz.undV128 : Tryz.prog.underlying 73 = some (.struct #[{ name := "Hold", type := 3, offset := 0, embedded := false, tag := "", pkgPath := "", byteOffset := 0 }, { name := "Climate", type := 3, offset := 1, embedded := false, tag := "", pkgPath := "", byteOffset := 8 }, { name := "Keys", type := 3, offset := 2, embedded := false, tag := "", pkgPath := "", byteOffset := 16 }]) := by kernel_rfl
theorem Tryz.undV132 : Tryz.prog.underlying 71 = some (.struct #[{ name := "A", type := 3, offset := 0, embedded := false, tag := "", pkgPath := "", byteOffset := 0 }, { name := "B", type := 3, offset := 1, embedded := false, tag := "", pkgPath := "", byteOffset := 8 }, { name := "Need", type := 3, offset := 2, embedded := false, tag := "", pkgPath := "", byteOffset := 16 }, { name := "Ways", type := 24, offset := 3, embedded := false, tag := "", pkgPath := "", byteOffset := 24 }]) := by kernel_rfl
theorem Tryz.undV26 : Tryz.prog.underlying 26 = some (.struct #[{ name := "Rooms", type := 22, offset := 0, embedded := false, tag := "", pkgPath := "", byteOffset := 0 }, { name := "Gates", type := 23, offset := 1, embedded := false, tag := "", pkgPath := "", byteOffset := 24 }, { name := "Staff", type := 24, offset := 2, embedded := false, tag := "", pkgPath := "", byteOffset := 48 }]) := by kernel_rfl
theorem given_intV {w : AW} {n : Nat} {cs : List Value} (h : Hd Tryz.prog w n 3 cs) : ∃ x : Int, cs = icells x := by
  cases n with
  | zero => exact h.elim
  | succ n =>
    simp only [Hd, Tryz.undV3] at h
    obtain ⟨i, rfl, h1, h2⟩ := h
    exact ⟨i, rfl⟩
theorem rows_ofV {α : Type} {enc : α → List Value} {rows : List (List Value)} (h : ∀ r ∈ rows, ∃ x : α, r = enc x) : ∃ xs : List α, rows = xs.map enc := by
  induction rows with
  | nil => exact ⟨[], rfl⟩
  | cons r rows ih =>
    obtain ⟨x, hx⟩ := h r List.mem_cons_self
    obtain ⟨xs, hxs⟩ := ih fun q hq => h q (List.mem_cons_of_mem _ hq)
    exact ⟨x :: xs, by rw [hx, hxs]; rfl⟩
theorem given_intsW {w : AW} {n : Nat} {cs : List Value} (h : Hd Tryz.prog w n 24 cs) : ∃ v, cs = [v] ∧ ∃ xs, ArrOf w 1 icells v xs := by
  cases n with
  | zero => exact h.elim
  | succ n =>
    simp only [Hd, Tryz.undV24, Tryz.cellsV3] at h
    obtain ⟨v, rows, rfl, ha, hr, _⟩ := h
    obtain ⟨xs, rfl⟩ := rows_ofV (enc := icells) fun r hq => given_intV (hr r hq)
    exact ⟨v, rfl, xs, ha⟩
theorem given_room {w : AW} {n : Nat} {cs : List Value} (h : Hd Tryz.prog w n 73 cs) : ∃ r : RoomN, cs = rcells r := by
  cases n with
  | zero => exact h.elim
  | succ n =>
    simp only [Hd, Tryz.undV128] at h
    obtain ⟨parts, hc, hl, hp⟩ := h
    match parts, hl with
    | [p0, p1, p2], _ =>
      obtain ⟨a, rfl⟩ := given_intV (hp 0 _ p0 rfl rfl)
      obtain ⟨b, rfl⟩ := given_intV (hp 1 _ p1 rfl rfl)
      obtain ⟨c, rfl⟩ := given_intV (hp 2 _ p2 rfl rfl)
      exact ⟨⟨a, b, c⟩, by rw [hc]; rfl⟩
theorem given_rooms {w : AW} {n : Nat} {cs : List Value} (h : Hd Tryz.prog w n 22 cs) : ∃ v, cs = [v] ∧ ∃ xs, ArrOf w 3 rcells v xs := by
  cases n with
  | zero => exact h.elim
  | succ n =>
    simp only [Hd, Tryz.undV22, Tryz.cellsV128] at h
    obtain ⟨v, rows, rfl, ha, hr, _⟩ := h
    obtain ⟨xs, rfl⟩ := rows_ofV (enc := rcells) fun r hq => given_room (hr r hq)
    exact ⟨v, rfl, xs, ha⟩
theorem given_gate {w : AW} {n : Nat} {cs : List Value} (h : Hd Tryz.prog w n 71 cs) : ∃ p : GateN × Value, cs = gcells p ∧ ArrOf w 1 icells p.2 p.1.ways := by
  cases n with
  | zero => exact h.elim
  | succ n =>
    simp only [Hd, Tryz.undV132] at h
    obtain ⟨parts, hc, hl, hp⟩ := h
    match parts, hl with
    | [p0, p1, p2, p3], _ =>
      obtain ⟨a, rfl⟩ := given_intV (hp 0 _ p0 rfl rfl)
      obtain ⟨b, rfl⟩ := given_intV (hp 1 _ p1 rfl rfl)
      obtain ⟨c, rfl⟩ := given_intV (hp 2 _ p2 rfl rfl)
      obtain ⟨v, rfl, xs, hx⟩ := given_intsW (hp 3 _ p3 rfl rfl)
      exact ⟨(⟨a, b, c, xs⟩, v), by rw [hc]; rfl, hx⟩
theorem rows_ofP {α : Type} {enc : α → List Value} {Q : α → Prop} {rows : List (List Value)} (h : ∀ r ∈ rows, ∃ x : α, r = enc x ∧ Q x) : ∃ xs : List α, rows = xs.map enc ∧ ∀ x ∈ xs, Q x := by
  induction rows with
  | nil => exact ⟨[], rfl, fun _ h => by cases h⟩
  | cons r rows ih =>
    obtain ⟨x, hx, hr⟩ := h r List.mem_cons_self
    obtain ⟨xs, hxs, hr2⟩ := ih fun q hq => h q (List.mem_cons_of_mem _ hq)
    exact ⟨x :: xs, by rw [hx, hxs]; rfl, fun y hy => by
      rcases List.mem_cons.1 hy with rfl | hy
      · exact hr
      · exact hr2 y hy⟩
theorem given_gates {w : AW} {n : Nat} {cs : List Value} (h : Hd Tryz.prog w n 23 cs) : ∃ v, cs = [v] ∧ ∃ xs, GatesAt w v xs := by
  cases n with
  | zero => exact h.elim
  | succ n =>
    simp only [Hd, Tryz.undV23, Tryz.cellsV132] at h
    obtain ⟨v, rows, rfl, ha, hr, _⟩ := h
    obtain ⟨xs, rfl, hq⟩ := rows_ofP (enc := gcells) (Q := fun p => ArrOf w 1 icells p.2 p.1.ways) fun r hq => given_gate (hr r hq)
    exact ⟨v, rfl, xs.map Prod.fst, xs, rfl, ha, hq⟩
theorem given_strong {w : AW} {n : Nat} {v : Value} (h : HdV Tryz.prog w n 26 v) : ∃ (s : StrN) (pR pG pS : Option Addr) (cR cG cS : Nat), v = .agg (strC pR pG pS cR cG cS s).toArray ∧ StrAt w pR pG pS cR cG cS s := by
  simp only [HdV, Tryz.undV26] at h
  obtain ⟨cs, rfl, h⟩ := h
  cases n with
  | zero => exact h.elim
  | succ n =>
    simp only [Hd, Tryz.undV26] at h
    obtain ⟨parts, hc, hl, hp⟩ := h
    match parts, hl with
    | [p0, p1, p2], _ =>
      obtain ⟨u, rfl, xs, hx⟩ := given_rooms (hp 0 _ p0 rfl rfl)
      obtain ⟨z, rfl, ys, hy⟩ := given_gates (hp 1 _ p1 rfl rfl)
      obtain ⟨q, rfl, ss, hss⟩ := given_intsW (hp 2 _ p2 rfl rfl)
      obtain ⟨pR, cR, rfl, _⟩ := id hx.open
      have hg : ∃ p c, z = .slice p ys.length c := by
        obtain ⟨ws, rfl, hA, _⟩ := hy
        obtain ⟨p, c, rfl, _⟩ := hA.open
        exact ⟨p, c, by simp⟩
      obtain ⟨pG, cG, rfl⟩ := hg
      obtain ⟨pS, cS, rfl, _⟩ := id hss.open
      refine ⟨⟨xs, ys, ss⟩, pR, pG, pS, cR, cG, cS, ?_, hx, hy, hss⟩
      rw [show cs = cs.toList.toArray from rfl, hc]; rfl
end Go.Proofs

namespace Go.Proofs
open Go Go.RowKit Go.Sim
set_option maxRecDepth 100000
theorem given_intX {w : AW} {n : Nat} {v : Value} (h : HdV Tryz.prog w n 3 v) : ∃ x : Int, v = .int .i64 x := by
  simp only [HdV, Tryz.undV3] at h
  obtain ⟨i, hi⟩ := given_intV h
  injection hi with hi _
  exact ⟨i, hi⟩
theorem StrAt.len {w : AW} {pR pG pS : Option Addr} {cR cG cS : Nat} {s : StrN} (h : StrAt w pR pG pS cR cG cS s) : (s.rooms.length : Int) ≤ 140737488355328 := by
  obtain ⟨p, c, _, h1, h2, _⟩ := h.rooms.open
  omega
end Go.Proofs

namespace Go.Proofs
open Go Go.RowKit Go.Sim
set_option maxRecDepth 100000
def Tryz.s38 : SC := (.seq (.ops false [⟨⟨(some 2),.assign (.const (.slice none 0 0)),24,"",⟨[]⟩,none⟩,none,false⟩]) (.seq (.ops false [⟨⟨(some 3),.buildSlice 24 0 ⟨[]⟩,24,"",⟨[]⟩,none⟩,none,false⟩,⟨⟨(some 4),.move (.tmp 0),24,"",⟨[]⟩,none⟩,none,false⟩,⟨⟨(some 5),.call ⟨.builtin .append,⟨[(.tmp 3),(.tmp 4)]⟩,⟨[24,24]⟩⟩,24,"",⟨[]⟩,none⟩,none,false⟩,⟨⟨(some 2),.assign (.tmp 5),24,"",⟨[]⟩,none⟩,none,false⟩]) .ret))
theorem Tryz.s38_eq : Tryz.f38.body.map sOf = some Tryz.s38 := by kernel_rfl
end Go.Proofs

namespace Go.Proofs
open Go Go.RowKit Go.Sim
set_option maxRecDepth 100000
theorem Tryz.ty55 : (prg Tryz.prog).ty 55 = some ⟨true, (.array 3 3), 3, 24, .agg #[.int .i64 0, .int .i64 0, .int .i64 0]⟩ := by kernel_rfl
attribute [go_sem] Tryz.ty55
end Go.Proofs

namespace Go.Sim
open Go Go.RowKit
theorem AOwn.weak {B C : Nat} {w : AW} {e : TypeId} {size n : Nat} {v : Value} {cells : List Value} (h : AOwn B w e size v n cells) (k : C ≤ B) : AOwn C w e size v n cells := by
  rcases h with h | ⟨b, r, a1, a2, a3, a4, a5, a6, a7, a9, a8⟩
  · exact .inl h
  · exact .inr ⟨b, r, a1, by omega, a3, by omega, a5, a6, a7, a9, fun j hj => let ⟨x, y⟩ := a8 j hj; ⟨by omega, y⟩⟩
theorem AOwn.cut {B : Nat} {w : AW} {e : TypeId} {size n : Nat} {v : Value} {cells : List Value} (h : AOwn B w e size v n cells) {a : Nat} (ha : a ≤ n) :
    ∃ p q c, ∀ w', Keep w.next w w' → sliceV w' size v none (some (.int .i64 (a : Int))) = some (.slice p a n) ∧ aNew w' size a (.slice p a n) = some (cells.take (a * size)) ∧
      sliceV w' size v (some (.int .i64 (a : Int))) none = some (.slice q (n - a) c) ∧ aNew w' size (n - a) (.slice q (n - a) c) = some (cells.drop (a * size)) := by
  rcases h with ⟨rfl, rfl, rfl⟩ | ⟨b, r, rfl, h1, h2, h3, h4, h5, h6, h7, _⟩
  · obtain rfl : a = 0 := by omega
    exact ⟨none, none, 0, fun w' _ => ⟨rfl, by simp [aNew, aFirst], rfl, by simp [aNew, aFirst]⟩⟩
  · have hle : a * size ≤ n * size := Nat.mul_le_mul_right _ ha
    have b1 : Nat.ble 0 a = true := rfl
    have b2 : Nat.ble a n = true := Nat.ble_eq_true_of_le ha
    have b3 : Nat.ble n n = true := Nat.ble_eq_true_of_le (Nat.le_refl _)
    have b4 : Nat.beq size size = true := Nat.beq_refl _
    refine ⟨some ⟨b, 0 + 0 * size, none⟩, some ⟨b, 0 + a * size, none⟩, n - a, fun w' k => ?_⟩
    have h5 : w'.blk b = some (.cells cells e r 0 size) := by rw [k.blk b h2]; exact h5
    have hc : ∀ (i : Nat) v, cells[i]? = some v → w'.cell? ⟨b, i, none⟩ = some v := fun i v hv => by
      simp only [AW.cell?, h5, getL_eq, hv, h7 v (List.mem_of_getElem? hv)]
    refine ⟨?_, ?_, ?_, ?_⟩
    · show sliceV w' size (.slice (some ⟨b, 0, none⟩) n n) none (some (.int .i64 (Int.ofNat a))) = _
      simp only [sliceV, natOr, b1, b2, h5, b4, Bool.true_or, Bool.and_self, Nat.sub_zero]
    · have ht : (cells.take (a * size)).length = a * size := by rw [List.length_take, h6]; omega
      have := aCells_of (w := w') (b := b) (cells.take (a * size)) (0 + 0 * size) fun i v hv => by
        rw [List.getElem?_take] at hv
        split at hv
        · rw [show 0 + 0 * size + i = i by omega]; exact hc i v hv
        · cases hv
      rw [ht] at this
      simp only [aNew, aFirst, this]
    · show sliceV w' size (.slice (some ⟨b, 0, none⟩) n n) (some (.int .i64 (Int.ofNat a))) none = _
      simp only [sliceV, natOr, b3, b2, h5, b4, Bool.true_or, Bool.and_self]
    · have ht : (cells.drop (a * size)).length = (n - a) * size := by rw [List.length_drop, h6, Nat.sub_mul]
      have := aCells_of (w := w') (b := b) (cells.drop (a * size)) (0 + a * size) fun i v hv => by
        rw [List.getElem?_drop] at hv
        rw [show 0 + a * size + i = a * size + i by omega]; exact hc _ v hv
      rw [ht] at this
      simp only [aNew, aFirst, this]
end Go.Sim

namespace Go.Proofs
open Go Go.RowKit Go.Sim
set_option maxRecDepth 100000
theorem ofInt_wrap (v : BitVec 64) : BitVec.ofInt 64 (IntKind.i64.wrap (v.toNat : Int)) = v := by
  have hv := v.isLt
  apply BitVec.eq_of_toNat_eq
  rw [BitVec.toNat_ofInt]
  show ((IntKind.i64.wrap (v.toNat : Int)) % ((2 ^ 64 : Nat) : Int)).toNat = v.toNat
  have e : IntKind.i64.wrap (v.toNat : Int) = if (v.toNat : Int) % 18446744073709551616 ≥ 9223372036854775808 then (v.toNat : Int) % 18446744073709551616 - 18446744073709551616 else (v.toNat : Int) % 18446744073709551616 := by
    unfold IntKind.wrap
    simp [IntKind.bits, IntKind.signed]
  rw [e]
  split <;> omega
theorem mask_bit {m k : Nat} (hm : m ≤ 8) : (2 ^ m - 1).testBit k = decide (k < m) := Nat.testBit_two_pow_sub_one m k
def mixN (a : Nat) (n : Int) (m : Nat) : Nat := ((BitVec.ofInt 64 (a : Int) ||| BitVec.ofInt 64 n) &&& BitVec.ofInt 64 ((2 ^ m - 1 : Nat) : Int)).toNat
theorem mixN_lt (a : Nat) (n : Int) {m : Nat} (hm : m ≤ 8) : mixN a n m < 2 ^ m := by
  unfold mixN
  rw [BitVec.toNat_and, ofInt_nat (2 ^ m - 1), BitVec.toNat_ofNat]
  have hp : 0 < 2 ^ m := Nat.two_pow_pos m
  have : (2 ^ m - 1) % 2 ^ 64 ≤ 2 ^ m - 1 := Nat.mod_le _ _
  have h2 := Nat.and_le_right (n := (BitVec.ofInt 64 (a : Int) ||| BitVec.ofInt 64 n).toNat) (m := (2 ^ m - 1) % 2 ^ 64)
  omega
theorem mixN_sub {a : Nat} (n : Int) {m : Nat} (hm : m ≤ 8) (ha : a < 2 ^ m) : Sub a (mixN a n m) := fun k hk => by
  have hkm := bit_lt ha hk
  have hp : 2 ^ m ≤ 256 := by
    have : ∀ m, m ≤ 8 → 2 ^ m ≤ 256 := by decide
    exact this m hm
  unfold mixN
  rw [BitVec.toNat_and, BitVec.toNat_or, ofInt_nat, ofInt_nat, BitVec.toNat_ofNat, BitVec.toNat_ofNat, Nat.mod_eq_of_lt (by omega), Nat.mod_eq_of_lt (by omega), Nat.testBit_and, Nat.testBit_or, hk, mask_bit hm]
  simp [hkm]
theorem mix_or (a : Nat) (n : Int) (m : Nat) (hm : m ≤ 8) : IntKind.i64.wrap ((BitVec.ofInt IntKind.i64.bits (IntKind.i64.wrap ((BitVec.ofInt IntKind.i64.bits (a : Int) ||| BitVec.ofInt IntKind.i64.bits n).toNat : Int)) &&& BitVec.ofInt IntKind.i64.bits ((2 ^ m - 1 : Nat) : Int)).toNat : Int) = (mixN a n m : Int) := by
  show IntKind.i64.wrap (((BitVec.ofInt 64 (IntKind.i64.wrap (((BitVec.ofInt 64 (a : Int) ||| BitVec.ofInt 64 n).toNat : Nat) : Int)) &&& BitVec.ofInt 64 ((2 ^ m - 1 : Nat) : Int)).toNat : Nat) : Int) = _
  rw [ofInt_wrap]
  have h := mixN_lt a n hm
  have hp : 2 ^ m ≤ 256 := by
    have : ∀ m, m ≤ 8 → 2 ^ m ≤ 256 := by decide
    exact this m hm
  show IntKind.i64.wrap (mixN a n m : Int) = _
  exact wrap64 (by omega) (by omega)
theorem in_ok (a b : Nat) (ha : a < 4611686018427387904) (hb : b < 4611686018427387904) (w : AW) : CallT Tryz.prog Tryz.T1 (.fn (.func 37) #[]) #[.int .i64 (a : Int), .int .i64 (b : Int)] w (Ret (.bool (subB b a)) fun w' => w = w') := by
  have han := and_nat (a := a) (b := b) ha hb
  have hd : decide (((a &&& b : Nat) : Int) = (a : Int)) = subB b a := by unfold subB; rw [decide_eq_decide, Nat.and_comm]; omega
  refine callT_code rfl Tryz.func37 rfl Tryz.s37_eq rfl ?_
  unfold Tryz.s37
  simp -dsimp -implicitDefEqProofs (maxSteps := 2000000) (disch := first | assumption | omega | (simp only [nx]; omega) | ((repeat refine Fresh.push ?_ _); assumption) | (simp only [smA]; done) | (simp [oneCell, AW.next_push]; done) | fail) only [go_sem, Nat.reduceEqDiff, reduceIte, Nat.reduceAdd, Int.toNat_natCast, Nat.add_zero, Owes_true, Tryz.results37, han, hd]
  exact ⟨rfl, rfl⟩
theorem Tryz.bs24x0 (t : Tmps) (l : List (Nat × Operand)) : makes (prg Tryz.prog) t (.buildSlice 24 0 ⟨l⟩) = bsQ 3 0 1 [] (l.map fun p => (p.1, ev t p.2)) := makes_bs Tryz.ty24 Tryz.ty3 rfl (by kernel_rfl)
theorem bsQ_00 {e : TypeId} {z : Nat} : bsQ e 0 z [] [] = some ([], e, fun n => .slice (some ⟨n, 0, none⟩) 0 0) := rfl
attribute [go_sem] Tryz.bs24x0 bsQ_00
theorem icells_ones (A : List Int) : ∀ v ∈ A.flatMap icells, oneCell v = true := fun v hv => by
  obtain ⟨y, _, hy⟩ := List.mem_flatMap.1 hv
  exact icells_one y v hy
theorem Own_ok (l : List Int) (v : Value) (w : AW) (f : Fresh w) (hs : ArrOf w 1 icells v l) (hl : l.length ≤ 1048576) :
    CallT Tryz.prog Tryz.T1 (.fn (.func 38) #[]) #[v] w (fun r w' => Making w.next w' 3 1 r l.length (l.flatMap icells) ∧ Grown w w') := by
  obtain ⟨p, cap, rfl, _⟩ := id hs.open
  have g := (Grown.refl f).push (.cells [] 3 w.next 0 0)
  have hn := arr_new (hs.grown g) icells_len (Nat.le_refl _)
  obtain ⟨v', w', happ, hk, hf, hor⟩ := append_empty (b := w.next) (e' := 3) Tryz.ty24 Tryz.ty3 rfl (by omega) (blk_push_top _ _) g.2 rfl hn (by rw [icells_flat_len, Nat.mul_one]) (icells_ones l) (by omega) (by omega)
  refine callT_code rfl Tryz.func38 rfl Tryz.s38_eq rfl ?_
  unfold Tryz.s38
  simp -dsimp -implicitDefEqProofs (maxSteps := 2000000) (disch := first | assumption | omega | (simp only [nx]; omega) | ((repeat refine Fresh.push ?_ _); assumption) | (simp only [smA]; done) | (simp [oneCell, AW.next_push]; done) | fail) only [go_sem, Nat.reduceEqDiff, reduceIte, Nat.reduceAdd, Int.toNat_natCast, Nat.add_zero, Owes_true, Tryz.results38, happ]
  rcases hor with ⟨q, rfl, rfl⟩ | hA
  · have : l = [] := List.length_eq_zero_iff.mp q
    subst this
    exact ⟨.inl ⟨rfl, rfl, w.next, 3, rfl, by rw [AW.next_push]; omega, blk_push_top _ _⟩, g⟩
  · exact ⟨.inr (hA.weak (by rw [AW.next_push]; omega)), g.trans ⟨hk, hf⟩⟩
end Go.Proofs

namespace Go.Proofs
open Go Go.RowKit Go.Sim
set_option maxRecDepth 100000
theorem Tryz.undV55 : Tryz.prog.underlying 55 = some (.array 3 3) := by kernel_rfl
theorem given_three {w : AW} {n : Nat} {v : Value} (h : HdV Tryz.prog w n 55 v) : ∃ a b c : Int, v = .agg #[.int .i64 a, .int .i64 b, .int .i64 c] := by
  simp only [HdV, Tryz.undV55] at h
  obtain ⟨cs, rfl, h⟩ := h
  cases n with
  | zero => exact h.elim
  | succ n =>
    simp only [Hd, Tryz.undV55] at h
    obtain ⟨parts, e, hl, hp⟩ := h
    match parts, hl with
    | [p0, p1, p2], _ =>
      obtain ⟨x0, rfl⟩ := given_intV (hp p0 (by simp))
      obtain ⟨x1, rfl⟩ := given_intV (hp p1 (by simp))
      obtain ⟨x2, rfl⟩ := given_intV (hp p2 (by simp))
      exact ⟨x0, x1, x2, by rw [show cs = cs.toList.toArray from rfl, e]; rfl⟩
theorem Tryz.ia55 (t : Tmps) (w : AW) (x y : Operand) : fast (prg Tryz.prog) t w (.indexAddr 55 x y) = indexA 1 3 (ev t x) (ev t y) := fast_indexAddrA Tryz.ty55 Tryz.ty3
theorem ix3_0 (b o : Nat) : indexA 1 3 (.pointer (some ⟨b, o, none⟩)) (.int .i64 0) = some (.pointer (some ⟨b, o, none⟩)) := indexA_eq (i := 0) (by decide)
theorem ix3_1 (b o : Nat) : indexA 1 3 (.pointer (some ⟨b, o, none⟩)) (.int .i64 1) = some (.pointer (some ⟨b, o + 1, none⟩)) := indexA_eq (i := 1) (by decide)
theorem ix3_2 (b o : Nat) : indexA 1 3 (.pointer (some ⟨b, o, none⟩)) (.int .i64 2) = some (.pointer (some ⟨b, o + 2, none⟩)) := indexA_eq (i := 2) (by decide)
attribute [go_sem] Tryz.ia55 ix3_0 ix3_1 ix3_2
def moreL (s : StrN) (c : Int) : List Int := (List.range s.staff.length).map fun k => ((mixN (staffF s k) c 8 : Nat) : Int)
def midL (s : StrN) (c : Int) (i : Nat) : List Int := (moreL s c).take i ++ s.staff.drop i
theorem moreL_len (s : StrN) (c : Int) : (moreL s c).length = s.staff.length := by unfold moreL; simp
theorem midL_len (s : StrN) (c : Int) {i : Nat} (h : i ≤ s.staff.length) : (midL s c i).length = s.staff.length := by
  unfold midL
  rw [List.length_append, List.length_take, List.length_drop, moreL_len]; omega
theorem midL_at (s : StrN) (c : Int) {i : Nat} (h : i < s.staff.length) : (midL s c i)[i]'(by rw [midL_len s c (by omega)]; exact h) = s.staff[i] := by
  unfold midL
  rw [List.getElem_append_right (by rw [List.length_take, moreL_len]; omega)]
  simp only [List.length_take, moreL_len, List.getElem_drop]
  congr 1
  omega
theorem midL_set (s : StrN) (c : Int) {i : Nat} (h : i < s.staff.length) : (midL s c i).set i ((mixN (staffF s i) c 8 : Nat) : Int) = midL s c (i + 1) := by
  unfold midL
  have hl : ((moreL s c).take i).length = i := by rw [List.length_take, moreL_len]; omega
  rw [List.set_append_right _ _ (by omega), hl, Nat.sub_self, List.drop_eq_getElem_cons h, List.set_cons_zero, List.take_add_one, List.getElem?_eq_getElem (by rw [moreL_len]; exact h)]
  simp [moreL]
theorem midL_end (s : StrN) (c : Int) : midL s c s.staff.length = moreL s c := by
  unfold midL
  rw [List.drop_length, List.append_nil, ← moreL_len s c, List.take_length]
theorem midL_zero (s : StrN) (c : Int) : midL s c 0 = s.staff := by unfold midL; simp
def moreS (s : StrN) (c : Int) : StrN := ⟨s.rooms, s.gates, moreL s c⟩
theorem moreS_ok {s : StrN} (hs : strB s = true) (c : Int) : strB (moreS s c) = true := by
  have h := (str_staff hs)
  unfold strB at hs ⊢
  simp only [Bool.and_eq_true] at hs ⊢
  refine ⟨hs.1, hs.2.1, ?_⟩
  unfold staffB
  rw [Bool.and_eq_true]
  have e : ((moreS s c).staff.length : Int) = s.staff.length := by show ((moreL s c).length : Int) = _; rw [moreL_len]
  refine ⟨(inR_iff _ _ _).2 (by rw [e]; omega), List.all_eq_true.2 fun x hx => ?_⟩
  unfold moreS moreL at hx
  obtain ⟨k, _, rfl⟩ := List.mem_map.1 hx
  have := mixN_lt (staffF s k) c (m := 8) (by omega)
  exact (setB_iff _).2 (by omega)
theorem moreS_staff {s : StrN} (hs : strB s = true) (c : Int) (k : Nat) (hk : k < s.staff.length) : staffF (moreS s c) k = mixN (staffF s k) c 8 := by
  have hl : k < (moreS s c).staff.length := by show k < (moreL s c).length; rw [moreL_len]; exact hk
  have h := mixN_lt (staffF s k) c (m := 8) (by omega)
  have hv := staff_val (moreS_ok hs c) hl
  rw [W_at hl] at hv
  have : (moreS s c).staff[k] = ((mixN (staffF s k) c 8 : Nat) : Int) := by simp [moreS, moreL]
  rw [this] at hv
  omega
theorem staffF_out {s : StrN} {k : Nat} (hk : ¬ k < s.staff.length) : staffF s k = 0 := by
  unfold staffF
  rw [W_out (by omega)]; rfl
theorem moreS_more {s : StrN} (hs : strB s = true) (c : Int) : MoreS s (moreS s c) := by
  refine ⟨rfl, rfl, fun k => ?_⟩
  by_cases hk : k < s.staff.length
  · rw [moreS_staff hs c k hk]
    exact mixN_sub c (by omega) (staffF_lt s k)
  · rw [staffF_out hk]
    intro j hj
    simp at hj
end Go.Proofs
