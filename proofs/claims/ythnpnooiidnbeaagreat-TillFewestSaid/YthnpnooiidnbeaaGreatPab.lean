/- This program: its code, contracts, numbers, part 2. -/
import Derived.Test.YthnpnooiidnbeaaGreatPaa
import Derived.Test.YthnpnooiidnbeaaGreatNc
import Derived.Test.YthnpnooiidnbeaaGreatNa
import Derived.Test.YthnpnooiidnbeaaGreatRows
import Derived.ProofKit
import Derived.SizedLaws
set_option linter.unusedVariables false
set_option linter.unusedSimpArgs false
namespace Go.Proofs
open Go Go.RowKit Go.Sim
set_option maxRecDepth 100000
theorem bld24a (q : Option Addr) (n c : Nat) : bldQ [(0, 1), (1, 1)] [.slice none 0 0, .slice none 0 0] [(0, .slice q n c)] = some (.agg #[.slice q n c, .slice none 0 0]) := by kernel_rfl
attribute [go_sem] bld24a
theorem Own.keepB {w w' : AW} {B c : Nat} {e : TypeId} {l : List Value} (h : Own w c e l) (k : Keep B w w') (q : c < B) : Own w' c e l :=
  ⟨by rw [k.blk _ q]; exact h.blk, by rw [k.fam _ q]; exact h.fam, by have := h.lt; have := k.next; omega⟩
theorem AOwn.slice {B : Nat} {w : AW} {e : TypeId} {size n : Nat} {v : Value} {cells : List Value} (h : AOwn B w e size v n cells) : ∃ p m c, v = .slice p m c := by
  rcases h with ⟨rfl, _⟩ | ⟨b, r, rfl, _⟩
  · exact ⟨_, _, _, rfl⟩
  · exact ⟨_, _, _, rfl⟩
def worth (C L : List Int) (n : Nat) : Int := ((List.range n).map fun i => L.getD i 0 * C.getD i 0).sum
theorem worth_succ {C L : List Int} {n : Nat} (h : n < L.length) (k : n < C.length) : worth C L (n + 1) = worth C L n + L[n] * C[n] := by
  unfold worth
  rw [List.range_succ, List.map_append, List.sum_append_int]
  simp [List.getD_eq_getElem?_getD, List.getElem?_eq_getElem h, List.getElem?_eq_getElem k]
theorem worth_in {C L : List Int} {m : Int} (hC : ∀ c ∈ C, 1 ≤ c ∧ c ≤ 50000) (hL : ∀ x ∈ L, 0 ≤ x ∧ x ≤ m) (hm : 0 ≤ m) : ∀ n, n ≤ C.length → n ≤ L.length → 0 ≤ worth C L n ∧ worth C L n ≤ (n : Int) * (m * 50000)
  | 0, _, _ => by simp [worth]
  | n + 1, h1, h2 => by
    have ih := worth_in hC hL hm n (by omega) (by omega)
    rw [worth_succ (by omega) (by omega)]
    have a := hC _ (List.getElem_mem (show n < C.length by omega))
    have b := hL _ (List.getElem_mem (show n < L.length by omega))
    have p0 : 0 ≤ L[n] * C[n] := Int.mul_nonneg b.1 (by omega)
    have p1 : L[n] * C[n] ≤ m * 50000 := Int.mul_le_mul b.2 a.2 (by omega) hm
    have e : (((n + 1 : Nat) : Int)) * (m * 50000) = (n : Int) * (m * 50000) + m * 50000 := by rw [Int.natCast_succ, Int.add_mul, Int.one_mul]
    rw [e]; omega
def both (H G : List Int) (n : Nat) : List Int := (List.range n).map fun i => H.getD i 0 + G.getD i 0
theorem both_succ {H G : List Int} {n : Nat} (h : n < H.length) (k : n < G.length) : both H G (n + 1) = both H G n ++ [H[n] + G[n]] := by
  unfold both
  rw [List.range_succ, List.map_append]
  simp [List.getD_eq_getElem?_getD, List.getElem?_eq_getElem h, List.getElem?_eq_getElem k]
theorem both_len (H G : List Int) (n : Nat) : (both H G n).length = n := by unfold both; simp
def changeE (C H G : List Int) (p : Int) : Int := if drawE C H ≠ 0 then drawE C H else if haveB C G = false then 7 else if p < 0 then 7 else if worth C G G.length - p < 0 then 81 else payE C (both H G G.length) (worth C G G.length - p)
theorem haveB_in {C H : List Int} (g : haveB C H = true) : H.length = C.length ∧ ∀ x ∈ H, 0 ≤ x ∧ x ≤ 50 := by
  simp only [haveB, Bool.and_eq_true, decide_eq_true_eq, List.all_eq_true] at g
  exact ⟨g.1, fun x hx => (inR_iff _ _ _).1 (g.2 x hx)⟩
theorem drawE_have {C H : List Int} (h : drawE C H = 0) : haveB C H = true := by
  unfold drawE at h
  cases hq : haveB C H with
  | true => rfl
  | false => rw [hq, Bool.and_false] at h; cases h
theorem both_in {C H G : List Int} (d : drawE C H = 0) (g : haveB C G = true) : DIn C (both H G G.length) := by
  have h1 := haveB_in (drawE_have d)
  have h2 := haveB_in g
  refine ⟨by rw [both_len]; exact h2.1, (drawE_in d).1.c, fun x hx => ?_⟩
  unfold both at hx
  obtain ⟨i, hi, rfl⟩ := List.mem_map.1 hx
  rw [List.mem_range] at hi
  have hi1 : i < H.length := by omega
  have a := h1.2 _ (List.getElem_mem hi1)
  have b := h2.2 _ (List.getElem_mem hi)
  simp only [List.getD_eq_getElem?_getD, List.getElem?_eq_getElem hi, List.getElem?_eq_getElem hi1, Option.getD_some]
  omega
set_option maxHeartbeats 16000000 in
theorem Change_ok (C H G : List Int) (u h g : Value) (P : Int) (hP : P ≤ 9223372036854775807) (w : AW) (f : Fresh w) (hC : ArrOf w 1 icells u C) (hH : ArrOf w 1 icells h H) (hG : ArrOf w 1 icells g G) :
    CallT Tryz.prog Tryz.T1 (.fn (.func 19) #[]) #[.agg #[u, h], g, .int .i64 P] w (fun rv w' => ∃ v, rv = .tuple #[v, .int .i64 (changeE C H G P)] ∧ (changeE C H G P = 0 → ArrOf w' 1 icells v (payL (C.zip (both H G G.length)) (worth C G G.length - P) C.length)) ∧ (changeE C H G P ≠ 0 → v = .slice none 0 0) ∧ Grown w w') := by
  obtain ⟨p, cC, rfl, _⟩ := id hC.open
  obtain ⟨q, cH, rfl, _⟩ := id hH.open
  obtain ⟨pg, cG, rfl, _⟩ := id hG.open
  have g1 := (Grown.refl f).push (.cells [.slice p C.length cC, .slice q H.length cH] 24 w.next 0 0)
  have O1 := Own.new f 24 [.slice p C.length cC, .slice q H.length cH]
  have c0 := O1.cell (o := 0) rfl rfl
  have c1 := O1.cell (o := 1) rfl rfl
  refine callT_code rfl Tryz.func19 rfl Tryz.s19_eq rfl ?_
  unfold Tryz.s19
  simp -dsimp -implicitDefEqProofs (maxSteps := 2000000) (disch := first | assumption | omega | (simp only [nx]; omega) | ((repeat refine Fresh.push ?_ _); assumption) | (simp only [smA]; done) | (simp [oneCell, AW.next_push]; done) | fail) only [go_sem, Nat.reduceEqDiff, reduceIte, Nat.reduceAdd, Int.toNat_natCast, Nat.add_zero, Owes_true, Tryz.results19, Nat.zero_add, c0, c1]
  apply callV_of (e := rfl)
  · exact Check_ok C H _ _ _ g1.2 (hC.grown g1) (hH.grown g1)
  rintro _ w1 ⟨rfl, hg1⟩
  have gg := g1.trans hg1
  have O2 := O1.keep hg1.1
  have d0 := O2.cell (o := 0) rfl rfl
  have d1 := O2.cell (o := 1) rfl rfl
  by_cases he : drawE C H = 0
  case neg =>
    have hed : decide (drawE C H = 0) = false := decide_eq_false he
    have hE : changeE C H G P = drawE C H := by unfold changeE; rw [if_pos he]
    simp -dsimp -implicitDefEqProofs (maxSteps := 2000000) (disch := first | assumption | omega | (simp only [nx]; omega) | ((repeat refine Fresh.push ?_ _); assumption) | (simp only [smA]; done) | (simp [oneCell, AW.next_push]; done) | fail) only [go_sem, Nat.reduceEqDiff, reduceIte, Nat.reduceAdd, Int.toNat_natCast, Nat.add_zero, Owes_true, Tryz.results19, hed]
    exact ⟨_, by rw [hE], fun q => absurd (hE ▸ q) he, fun _ => rfl, gg⟩
  have hed : decide (drawE C H = 0) = true := decide_eq_true he
  obtain ⟨d, h8⟩ := drawE_in he
  simp -dsimp -implicitDefEqProofs (maxSteps := 2000000) (disch := first | assumption | omega | (simp only [nx]; omega) | ((repeat refine Fresh.push ?_ _); assumption) | (simp only [smA]; done) | (simp [oneCell, AW.next_push]; done) | fail) only [go_sem, Nat.reduceEqDiff, reduceIte, Nat.reduceAdd, Int.toNat_natCast, Nat.add_zero, Owes_true, Tryz.results19, hed, Nat.zero_add, d0, d1]
  apply callV_of (e := rfl)
  · exact arePieces_ok C G _ _ _ w1 gg.2 (hC.grown gg) (hG.grown gg) ⟨_, _, _, rfl⟩
  rintro _ w2 ⟨rfl, hg2⟩
  have gg2 := gg.trans hg2
  cases hb : haveB C G with
  | false =>
    have hE : changeE C H G P = 7 := by unfold changeE; rw [if_neg (by rw [he]; simp), if_pos hb]
    simp -dsimp -implicitDefEqProofs (maxSteps := 2000000) (disch := first | assumption | omega | (simp only [nx]; omega) | ((repeat refine Fresh.push ?_ _); assumption) | (simp only [smA]; done) | (simp [oneCell, AW.next_push]; done) | fail) only [go_sem, Nat.reduceEqDiff, reduceIte, Nat.reduceAdd, Int.toNat_natCast, Nat.add_zero, Owes_true, Tryz.results19]
    exact ⟨_, by rw [hE], fun q => by rw [hE] at q; exact absurd q (by decide), fun _ => rfl, gg2⟩
  | true =>
  by_cases hp0 : P < 0
  · have hE : changeE C H G P = 7 := by unfold changeE; rw [if_neg (by rw [he]; simp), if_neg (by rw [hb]; simp), if_pos hp0]
    simp -dsimp -implicitDefEqProofs (maxSteps := 2000000) (disch := first | assumption | omega | (simp only [nx]; omega) | ((repeat refine Fresh.push ?_ _); assumption) | (simp only [smA]; done) | (simp [oneCell, AW.next_push]; done) | fail) only [go_sem, Nat.reduceEqDiff, reduceIte, Nat.reduceAdd, Int.toNat_natCast, Nat.add_zero, Owes_true, Tryz.results19, hp0]
    exact ⟨_, by rw [hE], fun q => by rw [hE] at q; exact absurd q (by decide), fun _ => rfl, gg2⟩
  have hGl : G.length = C.length := by
    simp only [haveB, Bool.and_eq_true, decide_eq_true_eq] at hb; exact hb.1
  have hGi : ∀ x ∈ G, 0 ≤ x ∧ x ≤ 50 := by
    simp only [haveB, Bool.and_eq_true, List.all_eq_true] at hb
    exact fun x hx => (inR_iff _ _ _).1 (hb.2 x hx)
  have hHi : ∀ x ∈ H, 0 ≤ x ∧ x ≤ 100 := d.h
  have O3 := O2.keep hg2.1
  have f0 := O3.cell (o := 0) rfl rfl
  have f1 := O3.cell (o := 1) rfl rfl
  have g3 := gg2.push (.cells [.slice none 0 0, .slice none 0 0] 24 w2.next 0 0)
  have OT := Own.new hg2.2 24 [.slice none 0 0, .slice none 0 0]
  have hst := storeV_own (o := 0) (l := [.slice p C.length cC, .slice none 0 0]) (size := 2) OT rfl (by omega) (by simp) (by rfl)
  simp only [setsL, setL] at hst
  simp -dsimp -implicitDefEqProofs (maxSteps := 2000000) (disch := first | assumption | omega | (simp only [nx]; omega) | ((repeat refine Fresh.push ?_ _); assumption) | (simp only [smA]; done) | (simp [oneCell, AW.next_push]; done) | fail) only [go_sem, Nat.reduceEqDiff, reduceIte, Nat.reduceAdd, Int.toNat_natCast, Nat.add_zero, Owes_true, Tryz.results19, hp0, Nat.zero_add, f0, f1, hst]
  have OT2 := OT.put [.slice p C.length cC, .slice none 0 0]
  have m3 := MutS.put (S := fun j => j = w2.next) (hg2.2.push (.cells [.slice none 0 0, .slice none 0 0] 24 w2.next 0 0)) rfl OT.lt (.cells [.slice p C.length cC, .slice none 0 0] 24 w2.next 0 0)
  have k3 : Keep w2.next w2 _ := ((Grown.refl hg2.2).push (.cells [.slice none 0 0, .slice none 0 0] 24 w2.next 0 0)).1.put (b := w2.next) (Nat.le_refl _) (.cells [.slice p C.length cC, .slice none 0 0] 24 w2.next 0 0)
  have hn3 : w2.next + 1 ≤ ((w2.push (.cells [.slice none 0 0, .slice none 0 0] 24 w2.next 0 0)).put w2.next (.cells [.slice p C.length cC, .slice none 0 0] 24 w2.next 0 0)).next := by rw [AW.next_put, AW.next_push]; omega
  have hw2 : w.next < w2.next := by have := O3.lt; omega
  refine loopR (fun k t ds w4 => ∃ i : Nat, i ≤ G.length ∧ k = G.length - i ∧ ds = [] ∧ ev t (.tmp 3) = .pointer (some ⟨w.next, 0, none⟩) ∧ ev t (.tmp 10) = .pointer (some ⟨w2.next, 0, none⟩) ∧ ev t (.tmp 9) = .int .i64 (worth C G i - P) ∧ ev t (.tmp 31) = .slice pg G.length cG ∧ ev t (.tmp 32) = .int .i64 (G.length : Int) ∧ ev t (.tmp 33) = .int .i64 (i : Int) ∧ (∃ u4, Own w4 w2.next 24 [.slice p C.length cC, u4] ∧ AOwn (w2.next + 1) w4 3 1 u4 (both H G i).length ((both H G i).flatMap icells)) ∧ Keep w2.next w2 w4 ∧ Fresh w4 ∧ w2.next + 1 ≤ w4.next) (G.length) ?_ ?_
  · refine ⟨0, by omega, by omega, rfl, ?_, ?_, ?_, ?_, ?_, ?_, ⟨_, OT2, .inl ⟨rfl, rfl, rfl⟩⟩, k3, m3.fresh, hn3⟩ <;> simp -dsimp -implicitDefEqProofs (maxSteps := 2000000) (disch := first | assumption | omega | (simp only [nx]; omega) | ((repeat refine Fresh.push ?_ _); assumption) | (simp only [smA]; done) | (simp [oneCell, AW.next_push]; done) | fail) only [go_sem, Nat.reduceEqDiff, reduceIte, Nat.reduceAdd, Int.toNat_natCast, Nat.add_zero, Owes_true] <;> rfl
  rintro k t ds w4 ⟨i, hii, rfl, rfl, e3, e10, e9, e31, e32, e33, hT, hk4, hf4, hn4⟩
  obtain ⟨u4, hO4, hA4⟩ := hT
  have gw4 : Grown w w4 := gg2.trans ⟨hk4, hf4⟩
  have hwi := worth_in (m := 50) d.c hGi (by omega) i (by omega) (by omega)
  obtain ⟨pu, nu, ku, rfl⟩ := AOwn.slice hA4
  have x0 := hO4.cell (o := 0) rfl rfl
  have x1 := hO4.cell (o := 1) rfl rfl
  by_cases hlt : (i : Int) < (G.length : Int)
  case neg =>
    obtain rfl : i = G.length := by omega
    have hAr := hA4.arr icells_len (by rw [both_len]; omega)
    by_cases hov : worth C G G.length - P < 0
    · have hE : changeE C H G P = 81 := by unfold changeE; rw [if_neg (by rw [he]; simp), if_neg (by rw [hb]; simp), if_neg hp0, if_pos hov]
      simp -dsimp -implicitDefEqProofs (maxSteps := 2000000) (disch := first | assumption | omega | (simp only [nx]; omega) | ((repeat refine Fresh.push ?_ _); assumption) | (simp only [smA]; done) | (simp [oneCell, AW.next_push]; done) | fail) only [go_sem, Nat.reduceEqDiff, reduceIte, Nat.reduceAdd, Int.toNat_natCast, Nat.add_zero, Owes_true, Tryz.results19, e3, e9, e10, e31, e32, e33, hlt, hov]
      exact ⟨_, by rw [hE], fun q => by rw [hE] at q; exact absurd q (by decide), fun _ => rfl, gw4⟩
    · have hE : changeE C H G P = payE C (both H G G.length) (worth C G G.length - P) := by unfold changeE; rw [if_neg (by rw [he]; simp), if_neg (by rw [hb]; simp), if_neg hp0, if_neg hov]
      simp -dsimp -implicitDefEqProofs (maxSteps := 2000000) (disch := first | assumption | omega | (simp only [nx]; omega) | ((repeat refine Fresh.push ?_ _); assumption) | (simp only [smA]; done) | (simp [oneCell, AW.next_push]; done) | fail) only [go_sem, Nat.reduceEqDiff, reduceIte, Nat.reduceAdd, Int.toNat_natCast, Nat.add_zero, Owes_true, Tryz.results19, e3, e9, e10, e31, e32, e33, hlt, hov, Nat.zero_add, x0, x1]
      apply callV_of (e := rfl)
      · exact pay_ok C (both H G G.length) _ _ (worth C G G.length - P) w4 hf4 (hC.grown gw4) hAr (both_in he hb) (by omega)
      rintro _ w5 ⟨v, rfl, h1, h2, hg5⟩
      simp -dsimp -implicitDefEqProofs (maxSteps := 2000000) (disch := first | assumption | omega | (simp only [nx]; omega) | ((repeat refine Fresh.push ?_ _); assumption) | (simp only [smA]; done) | (simp [oneCell, AW.next_push]; done) | fail) only [go_sem, Nat.reduceEqDiff, reduceIte, Nat.reduceAdd, Int.toNat_natCast, Nat.add_zero, Owes_true, Tryz.results19]
      exact ⟨_, by rw [hE], fun q => h1 (hE ▸ q), fun q => h2 (hE ▸ q), gw4.trans hg5⟩
  have hlt' : i < G.length := by omega
  have hiC : (i : Int) < (C.length : Int) := by omega
  have hiH : (i : Int) < (H.length : Int) := by have := d.len; omega
  have hiC' : i < C.length := by omega
  have hiH' : i < H.length := by omega
  obtain ⟨pC, cc, eC, _, _, hatC⟩ := hC.open
  injection eC with eC1 eC2 eC3
  subst eC1
  obtain ⟨pH, ch, eH, _, _, hatH⟩ := hH.open
  injection eH with eH1 eH2 eH3
  subst eH1
  obtain ⟨pG, cg, eG, _, _, hatG⟩ := hG.open
  injection eG with eG1 eG2 eG3
  subst eG1
  obtain ⟨bC, oC, rfl, hbC, hcC⟩ := hatC i hiC'
  obtain ⟨bH, oH, rfl, hbH, hcH⟩ := hatH i hiH'
  obtain ⟨bG, oG, rfl, hbG, hcG⟩ := hatG i hlt'
  have aC := hcC _ gw4.1 0 _ rfl
  have aH := hcH _ gw4.1 0 _ rfl
  have aG := hcG _ gw4.1 0 _ rfl
  simp only [Nat.add_zero] at aC aH aG
  have O4 := Own.keepB O3 hk4 hw2
  have y0 := O4.cell (o := 0) rfl rfl
  have y1 := O4.cell (o := 1) rfl rfl
  have hws := worth_succ (C := C) (L := G) hlt' hiC'
  have hbs := both_succ (H := H) (G := G) hiH' hlt'
  have hgi := hGi _ (List.getElem_mem hlt')
  have hhi := hHi _ (List.getElem_mem hiH')
  have hci := d.c _ (List.getElem_mem hiC')
  have hmul0 : 0 ≤ G[i] * C[i] := Int.mul_nonneg hgi.1 (by omega)
  have hmul1 : G[i] * C[i] ≤ 50 * 50000 := Int.mul_le_mul hgi.2 hci.2 (by omega) (by omega)
  obtain ⟨u5, w5, happ, hA5, hk5, hf5, hn5, _⟩ := append_one (e' := 3) Tryz.ty22 Tryz.ty3 rfl (by omega) (by omega) hA4 hf4 hn4 (icells_len (H[i] + G[i])) (icells_one _) (by rw [both_len]; omega)
  simp only [icells] at happ
  have hO5 := Own.keepB hO4 hk5 (by omega)
  have hone := hA5.one
  have hst5 := storeV_own1 (o := 1) (v := u5) hO5 (by simp) hone
  simp only [setL] at hst5
  have m6 := MutS.put (S := fun j => j = w2.next) hf5 rfl hO5.lt (.cells [.slice (some ⟨bC, oC, none⟩) C.length cC, u5] 24 w2.next 0 0)
  have hO6 := hO5.put [.slice (some ⟨bC, oC, none⟩) C.length cC, u5]
  have hA6 := AOwn.mut hA5 m6 (by omega)
  have hk6 : Keep w2.next w2 _ := (hk4.trans (hk5.mono (by omega))).put (b := w2.next) (Nat.le_refl _) (.cells [.slice (some ⟨bC, oC, none⟩) C.length cC, u5] 24 w2.next 0 0)
  generalize hg0 : G[i] = gi at *
  generalize hc0' : C[i] = ci at *
  generalize hh0 : H[i] = hi0 at *
  generalize hmm : gi * ci = gc at *
  have hsum : worth C G i - P + gc = worth C G (i + 1) - P := by omega
  obtain ⟨pv, nv, kv, rfl⟩ := AOwn.slice hA5
  simp -dsimp -implicitDefEqProofs (maxSteps := 2000000) (disch := first | assumption | omega | (simp only [nx]; omega) | ((repeat refine Fresh.push ?_ _); assumption) | (simp only [smA]; done) | (simp [oneCell, AW.next_push]; done) | fail) only [go_sem, Nat.reduceEqDiff, reduceIte, Nat.reduceAdd, Int.toNat_natCast, Nat.add_zero, Owes_true, e3, e9, e10, e31, e32, e33, hlt, hiC, hiH, indexV_eq, aC, aH, aG, Nat.zero_add, x0, x1, y0, y1, hmm, hsum, happ, hst5]
  refine ⟨_, by omega, i + 1, by omega, rfl, rfl, by (simp -dsimp -implicitDefEqProofs (maxSteps := 2000000) (disch := first | assumption | omega | (simp only [nx]; omega) | ((repeat refine Fresh.push ?_ _); assumption) | (simp only [smA]; done) | (simp [oneCell, AW.next_push]; done) | fail) only [go_sem, Nat.reduceEqDiff, reduceIte, Nat.reduceAdd, Int.toNat_natCast, Nat.add_zero, Owes_true, e3, hsum]; try rfl), by (simp -dsimp -implicitDefEqProofs (maxSteps := 2000000) (disch := first | assumption | omega | (simp only [nx]; omega) | ((repeat refine Fresh.push ?_ _); assumption) | (simp only [smA]; done) | (simp [oneCell, AW.next_push]; done) | fail) only [go_sem, Nat.reduceEqDiff, reduceIte, Nat.reduceAdd, Int.toNat_natCast, Nat.add_zero, Owes_true, e10, hsum]; try rfl), by (simp -dsimp -implicitDefEqProofs (maxSteps := 2000000) (disch := first | assumption | omega | (simp only [nx]; omega) | ((repeat refine Fresh.push ?_ _); assumption) | (simp only [smA]; done) | (simp [oneCell, AW.next_push]; done) | fail) only [go_sem, Nat.reduceEqDiff, reduceIte, Nat.reduceAdd, Int.toNat_natCast, Nat.add_zero, Owes_true, e9, hsum]; try rfl), by (simp -dsimp -implicitDefEqProofs (maxSteps := 2000000) (disch := first | assumption | omega | (simp only [nx]; omega) | ((repeat refine Fresh.push ?_ _); assumption) | (simp only [smA]; done) | (simp [oneCell, AW.next_push]; done) | fail) only [go_sem, Nat.reduceEqDiff, reduceIte, Nat.reduceAdd, Int.toNat_natCast, Nat.add_zero, Owes_true, e31, hsum]; try rfl), by (simp -dsimp -implicitDefEqProofs (maxSteps := 2000000) (disch := first | assumption | omega | (simp only [nx]; omega) | ((repeat refine Fresh.push ?_ _); assumption) | (simp only [smA]; done) | (simp [oneCell, AW.next_push]; done) | fail) only [go_sem, Nat.reduceEqDiff, reduceIte, Nat.reduceAdd, Int.toNat_natCast, Nat.add_zero, Owes_true, e32, hsum]; try rfl), by (simp -dsimp -implicitDefEqProofs (maxSteps := 2000000) (disch := first | assumption | omega | (simp only [nx]; omega) | ((repeat refine Fresh.push ?_ _); assumption) | (simp only [smA]; done) | (simp [oneCell, AW.next_push]; done) | fail) only [go_sem, Nat.reduceEqDiff, reduceIte, Nat.reduceAdd, Int.toNat_natCast, Nat.add_zero, Owes_true, e33, hsum]; try rfl), ⟨_, hO6, (by rw [hbs, List.length_append, List.flatMap_append]; exact hA6)⟩, hk6, m6.fresh, (by rw [AW.next_put]; omega)⟩
end Go.Proofs

namespace Go.Proofs
open Go Go.RowKit Go.Sim
set_option maxRecDepth 100000
theorem sum_take_succ {l : List Int} {i : Nat} (h : i < l.length) : (l.take (i + 1)).sum = (l.take i).sum + l[i] := by
  rw [List.take_succ_eq_append_getElem h, List.sum_append_int]; simp
theorem sum_take_in {l : List Int} {m : Int} (h : ∀ x ∈ l, 0 ≤ x ∧ x ≤ m) (hm : 0 ≤ m) : ∀ n, n ≤ l.length → 0 ≤ (l.take n).sum ∧ (l.take n).sum ≤ (n : Int) * m
  | 0, _ => by simp
  | n + 1, hn => by
    have ih := sum_take_in h hm n (by omega)
    have a := h _ (List.getElem_mem (show n < l.length by omega))
    rw [sum_take_succ (by omega)]
    have e : (((n + 1 : Nat) : Int)) * m = (n : Int) * m + m := by rw [Int.natCast_succ, Int.add_mul, Int.one_mul]
    rw [e]; omega
theorem Sum_ok (l : List Int) (v : Value) (w : AW) (hs : ArrOf w 1 icells v l) (hl : ∀ x ∈ l, 0 ≤ x ∧ x ≤ 100) (h8 : l.length ≤ 1000) : CallT Tryz.prog Tryz.T1 (.fn (.func 41) #[]) #[v] w (Ret (.int .i64 l.sum) fun w' => w = w') := by
  obtain ⟨p, cap, rfl, _, _, hat⟩ := hs.open
  refine callT_code rfl Tryz.func41 rfl Tryz.s41_eq rfl ?_
  unfold Tryz.s41
  simp -dsimp -implicitDefEqProofs (maxSteps := 2000000) (disch := first | assumption | omega | (simp only [nx]; omega) | ((repeat refine Fresh.push ?_ _); assumption) | (simp only [smA]; done) | (simp [oneCell, AW.next_push]; done) | fail) only [go_sem, Nat.reduceEqDiff, reduceIte, Nat.reduceAdd, Int.toNat_natCast, Nat.add_zero, Owes_true, Tryz.results41]
  refine loopR (fun k t ds w1 => ∃ i : Nat, i ≤ l.length ∧ k = l.length - i ∧ ds = [] ∧ ev t (.tmp 0) = .slice p l.length cap ∧ ev t (.tmp 3) = .int .i64 (l.take i).sum ∧ ev t (.tmp 4) = .int .i64 (i : Int) ∧ w = w1) (l.length) ?_ ?_
  · refine ⟨0, by omega, by omega, rfl, ?_, ?_, ?_, rfl⟩ <;> simp -dsimp -implicitDefEqProofs (maxSteps := 2000000) (disch := first | assumption | omega | (simp only [nx]; omega) | ((repeat refine Fresh.push ?_ _); assumption) | (simp only [smA]; done) | (simp [oneCell, AW.next_push]; done) | fail) only [go_sem, Nat.reduceEqDiff, reduceIte, Nat.reduceAdd, Int.toNat_natCast, Nat.add_zero, Owes_true] <;> rfl
  rintro k t ds w1 ⟨i, hii, rfl, rfl, e0, e3, e4, hw⟩
  subst hw
  by_cases hlt : (i : Int) < (l.length : Int)
  case neg =>
    obtain rfl : i = l.length := by omega
    rw [List.take_of_length_le (Nat.le_refl _)] at e3
    simp -dsimp -implicitDefEqProofs (maxSteps := 2000000) (disch := first | assumption | omega | (simp only [nx]; omega) | ((repeat refine Fresh.push ?_ _); assumption) | (simp only [smA]; done) | (simp [oneCell, AW.next_push]; done) | fail) only [go_sem, Nat.reduceEqDiff, reduceIte, Nat.reduceAdd, Int.toNat_natCast, Nat.add_zero, Owes_true, Tryz.results41, e0, e3, e4, hlt]
    exact ⟨rfl, rfl⟩
  have hlt' : i < l.length := by omega
  obtain ⟨b1, o1, rfl, hb1, hcell⟩ := hat i hlt'
  have a0 := hcell w (.refl _ _) 0 _ rfl
  rw [Nat.add_zero] at a0
  have hn := sum_take_in hl (by omega) i (by omega)
  have hx := hl _ (List.getElem_mem hlt')
  have hnx := sum_take_succ hlt'
  simp -dsimp -implicitDefEqProofs (maxSteps := 2000000) (disch := first | assumption | omega | (simp only [nx]; omega) | ((repeat refine Fresh.push ?_ _); assumption) | (simp only [smA]; done) | (simp [oneCell, AW.next_push]; done) | fail) only [go_sem, Nat.reduceEqDiff, reduceIte, Nat.reduceAdd, Int.toNat_natCast, Nat.add_zero, Owes_true, Tryz.results41, e0, e3, e4, hlt, indexV_eq, a0]
  refine ⟨_, by omega, i + 1, by omega, rfl, rfl, by (simp -dsimp -implicitDefEqProofs (maxSteps := 2000000) (disch := first | assumption | omega | (simp only [nx]; omega) | ((repeat refine Fresh.push ?_ _); assumption) | (simp only [smA]; done) | (simp [oneCell, AW.next_push]; done) | fail) only [go_sem, Nat.reduceEqDiff, reduceIte, Nat.reduceAdd, Int.toNat_natCast, Nat.add_zero, Owes_true, e0, hnx]; try rfl), by (simp -dsimp -implicitDefEqProofs (maxSteps := 2000000) (disch := first | assumption | omega | (simp only [nx]; omega) | ((repeat refine Fresh.push ?_ _); assumption) | (simp only [smA]; done) | (simp [oneCell, AW.next_push]; done) | fail) only [go_sem, Nat.reduceEqDiff, reduceIte, Nat.reduceAdd, Int.toNat_natCast, Nat.add_zero, Owes_true, e3, hnx]; try rfl), by (simp -dsimp -implicitDefEqProofs (maxSteps := 2000000) (disch := first | assumption | omega | (simp only [nx]; omega) | ((repeat refine Fresh.push ?_ _); assumption) | (simp only [smA]; done) | (simp [oneCell, AW.next_push]; done) | fail) only [go_sem, Nat.reduceEqDiff, reduceIte, Nat.reduceAdd, Int.toNat_natCast, Nat.add_zero, Owes_true, e4, hnx]; try rfl), rfl⟩
def aheadB : List Int → List Int → Bool
  | x :: a, y :: b => if x = y then aheadB a b else decide (x < y)
  | a, b => decide (a.length < b.length)
theorem aheadB_pre : ∀ (i : Nat) (a b : List Int), i ≤ a.length → i ≤ b.length → a.take i = b.take i → aheadB a b = aheadB (a.drop i) (b.drop i)
  | 0, a, b, _, _, _ => by simp
  | i + 1, [], b, h, _, _ => by simp at h
  | i + 1, _ :: _, [], _, h, _ => by simp at h
  | i + 1, x :: a, y :: b, h1, h2, h => by
    rw [List.take_succ_cons, List.take_succ_cons, List.cons.injEq] at h
    rw [aheadB, if_pos h.1, List.drop_succ_cons, List.drop_succ_cons]
    exact aheadB_pre i a b (by simpa using h1) (by simpa using h2) h.2
theorem aheadB_end {a b : List Int} (h : a = [] ∨ b = []) : aheadB a b = decide (a.length < b.length) := by
  rcases h with rfl | rfl
  · cases b <;> rfl
  · cases a <;> rfl
theorem Ahead_ok (a b : List Int) (u v : Value) (w : AW) (hu : ArrOf w 1 icells u a) (hv : ArrOf w 1 icells v b) : CallT Tryz.prog Tryz.T1 (.fn (.func 42) #[]) #[u, v] w (Ret (.bool (aheadB a b)) fun w' => w = w') := by
  obtain ⟨p, c, rfl, _, _, hat⟩ := hu.open
  obtain ⟨q, d, rfl, _, _, hat2⟩ := hv.open
  refine callT_code rfl Tryz.func42 rfl Tryz.s42_eq rfl ?_
  unfold Tryz.s42
  simp -dsimp -implicitDefEqProofs (maxSteps := 2000000) (disch := first | assumption | omega | (simp only [nx]; omega) | ((repeat refine Fresh.push ?_ _); assumption) | (simp only [smA]; done) | (simp [oneCell, AW.next_push]; done) | fail) only [go_sem, Nat.reduceEqDiff, reduceIte, Nat.reduceAdd, Int.toNat_natCast, Nat.add_zero, Owes_true, Tryz.results42]
  refine loopR (fun k t ds w1 => ∃ i : Nat, i ≤ min a.length b.length ∧ k = min a.length b.length - i ∧ ds = [] ∧ ev t (.tmp 0) = .slice p a.length c ∧ ev t (.tmp 1) = .slice q b.length d ∧ ev t (.tmp 5) = .int .i64 (i : Int) ∧ w = w1 ∧ a.take i = b.take i) (min a.length b.length) ?_ ?_
  · refine ⟨0, by omega, by omega, rfl, ?_, ?_, ?_, rfl, rfl⟩ <;> simp -dsimp -implicitDefEqProofs (maxSteps := 2000000) (disch := first | assumption | omega | (simp only [nx]; omega) | ((repeat refine Fresh.push ?_ _); assumption) | (simp only [smA]; done) | (simp [oneCell, AW.next_push]; done) | fail) only [go_sem, Nat.reduceEqDiff, reduceIte, Nat.reduceAdd, Int.toNat_natCast, Nat.add_zero, Owes_true] <;> rfl
  rintro k t ds w1 ⟨i, hii, rfl, rfl, e0, e1, e5, hw, hp⟩
  subst hw
  have hpre := aheadB_pre i a b (by omega) (by omega) hp
  by_cases hlt : i < min a.length b.length
  case neg =>
    have hE : aheadB a b = decide ((a.length : Int) < (b.length : Int)) := by
      rw [hpre, aheadB_end (by rcases Nat.le_total a.length b.length with z | z; exact .inl (List.drop_of_length_le (by omega)); exact .inr (List.drop_of_length_le (by omega)))]
      simp only [List.length_drop]
      exact decide_eq_decide.2 (by omega)
    by_cases h1 : (i : Int) < (a.length : Int)
    · have h2 : ¬ (i : Int) < (b.length : Int) := by omega
      simp -dsimp -implicitDefEqProofs (maxSteps := 2000000) (disch := first | assumption | omega | (simp only [nx]; omega) | ((repeat refine Fresh.push ?_ _); assumption) | (simp only [smA]; done) | (simp [oneCell, AW.next_push]; done) | fail) only [go_sem, Nat.reduceEqDiff, reduceIte, Nat.reduceAdd, Int.toNat_natCast, Nat.add_zero, Owes_true, Tryz.results42, e0, e1, e5, h1, h2]
      exact ⟨by rw [hE], rfl⟩
    · simp -dsimp -implicitDefEqProofs (maxSteps := 2000000) (disch := first | assumption | omega | (simp only [nx]; omega) | ((repeat refine Fresh.push ?_ _); assumption) | (simp only [smA]; done) | (simp [oneCell, AW.next_push]; done) | fail) only [go_sem, Nat.reduceEqDiff, reduceIte, Nat.reduceAdd, Int.toNat_natCast, Nat.add_zero, Owes_true, Tryz.results42, e0, e1, e5, h1]
      exact ⟨by rw [hE], rfl⟩
  have h1 : (i : Int) < (a.length : Int) := by omega
  have h2 : (i : Int) < (b.length : Int) := by omega
  have h1' : i < a.length := by omega
  have h2' : i < b.length := by omega
  obtain ⟨b1, o1, rfl, hb1, hcell⟩ := hat i h1'
  obtain ⟨b2, o2, rfl, hb2, hcell2⟩ := hat2 i h2'
  have a0 := hcell w (.refl _ _) 0 _ rfl
  have a1 := hcell2 w (.refl _ _) 0 _ rfl
  rw [Nat.add_zero] at a0 a1
  rw [List.drop_eq_getElem_cons h1', List.drop_eq_getElem_cons h2'] at hpre
  by_cases hx : a[i] = b[i]
  · have hd : decide (a[i] = b[i]) = true := decide_eq_true hx
    simp -dsimp -implicitDefEqProofs (maxSteps := 2000000) (disch := first | assumption | omega | (simp only [nx]; omega) | ((repeat refine Fresh.push ?_ _); assumption) | (simp only [smA]; done) | (simp [oneCell, AW.next_push]; done) | fail) only [go_sem, Nat.reduceEqDiff, reduceIte, Nat.reduceAdd, Int.toNat_natCast, Nat.add_zero, Owes_true, Tryz.results42, e0, e1, e5, h1, h2, indexV_eq, a0, a1, hd]
    refine ⟨_, by omega, i + 1, by omega, rfl, rfl, by (simp -dsimp -implicitDefEqProofs (maxSteps := 2000000) (disch := first | assumption | omega | (simp only [nx]; omega) | ((repeat refine Fresh.push ?_ _); assumption) | (simp only [smA]; done) | (simp [oneCell, AW.next_push]; done) | fail) only [go_sem, Nat.reduceEqDiff, reduceIte, Nat.reduceAdd, Int.toNat_natCast, Nat.add_zero, Owes_true, e0]; try rfl), by (simp -dsimp -implicitDefEqProofs (maxSteps := 2000000) (disch := first | assumption | omega | (simp only [nx]; omega) | ((repeat refine Fresh.push ?_ _); assumption) | (simp only [smA]; done) | (simp [oneCell, AW.next_push]; done) | fail) only [go_sem, Nat.reduceEqDiff, reduceIte, Nat.reduceAdd, Int.toNat_natCast, Nat.add_zero, Owes_true, e1]; try rfl), by (simp -dsimp -implicitDefEqProofs (maxSteps := 2000000) (disch := first | assumption | omega | (simp only [nx]; omega) | ((repeat refine Fresh.push ?_ _); assumption) | (simp only [smA]; done) | (simp [oneCell, AW.next_push]; done) | fail) only [go_sem, Nat.reduceEqDiff, reduceIte, Nat.reduceAdd, Int.toNat_natCast, Nat.add_zero, Owes_true, e5]; try rfl), rfl, (by rw [List.take_succ_eq_append_getElem h1', List.take_succ_eq_append_getElem h2', hp, hx])⟩
  · have hd : decide (a[i] = b[i]) = false := decide_eq_false hx
    rw [aheadB, if_neg hx] at hpre
    simp -dsimp -implicitDefEqProofs (maxSteps := 2000000) (disch := first | assumption | omega | (simp only [nx]; omega) | ((repeat refine Fresh.push ?_ _); assumption) | (simp only [smA]; done) | (simp [oneCell, AW.next_push]; done) | fail) only [go_sem, Nat.reduceEqDiff, reduceIte, Nat.reduceAdd, Int.toNat_natCast, Nat.add_zero, Owes_true, Tryz.results42, e0, e1, e5, h1, h2, indexV_eq, a0, a1, hd]
    exact ⟨by rw [hpre], rfl⟩
def okAt (C L H : List Int) (i : Nat) : Bool := decide (i < C.length) && decide (i < H.length) && inR 0 (L.getD i 0) (H.getD i 0) && inR 1 (C.getD i 0) 50000 && decide (L.getD i 0 ≤ 100)
def okTo (C L H : List Int) (n : Nat) : Bool := (List.range n).all (okAt C L H)
theorem okTo_succ (C L H : List Int) (n : Nat) : okTo C L H (n + 1) = (okTo C L H n && okAt C L H n) := by
  unfold okTo; rw [List.range_succ, List.all_append]; simp
theorem okTo_bad {C L H : List Int} {i n : Nat} (h : i < n) (hb : okAt C L H i = false) : okTo C L H n = false := by
  unfold okTo; rw [List.all_eq_false]; exact ⟨i, List.mem_range.2 h, by rw [hb]; simp⟩
def valB (C L H : List Int) : Bool := okTo C L H L.length && decide (L.length = C.length)
theorem getD_of {l : List Int} {i : Nat} (h : i < l.length) : l.getD i 0 = l[i] := by rw [List.getD_eq_getElem?_getD, List.getElem?_eq_getElem h]; rfl
theorem okAt_in {C L H : List Int} {i : Nat} (h : okAt C L H i = true) : i < C.length ∧ i < H.length ∧ 0 ≤ L.getD i 0 ∧ L.getD i 0 ≤ H.getD i 0 ∧ 1 ≤ C.getD i 0 ∧ C.getD i 0 ≤ 50000 ∧ L.getD i 0 ≤ 100 := by
  unfold okAt at h
  simp only [Bool.and_eq_true, decide_eq_true_eq, inR_iff] at h
  omega
theorem worth_step (C L : List Int) (n : Nat) : worth C L (n + 1) = worth C L n + L.getD n 0 * C.getD n 0 := by
  unfold worth; rw [List.range_succ, List.map_append, List.sum_append_int]; simp
theorem worth_okTo (C L H : List Int) : ∀ n, okTo C L H n = true → 0 ≤ worth C L n ∧ worth C L n ≤ (n : Int) * 5000000
  | 0, _ => by simp [worth]
  | n + 1, h => by
    rw [okTo_succ, Bool.and_eq_true] at h
    have ih := worth_okTo C L H n h.1
    obtain ⟨_, _, a1, a2, a3, a4, a5⟩ := okAt_in h.2
    have p0 : 0 ≤ L.getD n 0 * C.getD n 0 := Int.mul_nonneg a1 (by omega)
    have p1 : L.getD n 0 * C.getD n 0 ≤ 100 * 50000 := Int.mul_le_mul a5 a4 (by omega) (by omega)
    have e : (((n + 1 : Nat) : Int)) * 5000000 = (n : Int) * 5000000 + 5000000 := by rw [Int.natCast_succ, Int.add_mul, Int.one_mul]
    rw [worth_step, e]; omega
set_option maxHeartbeats 8000000 in
theorem value_ok (C L H : List Int) (u v h : Value) (w : AW) (hC : ArrOf w 1 icells u C) (hL : ArrOf w 1 icells v L) (hH : ArrOf w 1 icells h H) :
    CallT Tryz.prog Tryz.T1 (.fn (.func 39) #[]) #[u, v, h] w (fun rv w' => w = w' ∧ ∃ n : Int, rv = .tuple #[.int .i64 n, .bool (valB C L H)] ∧ (valB C L H = true → L.length ≤ 1000 → n = worth C L L.length)) := by
  obtain ⟨p, c, rfl, _, _, hatC⟩ := hC.open
  obtain ⟨q, d, rfl, _, _, hatL⟩ := hL.open
  obtain ⟨r, e, rfl, _, _, hatH⟩ := hH.open
  refine callT_code rfl Tryz.func39 rfl Tryz.s39_eq rfl ?_
  unfold Tryz.s39
  simp -dsimp -implicitDefEqProofs (maxSteps := 2000000) (disch := first | assumption | omega | (simp only [nx]; omega) | ((repeat refine Fresh.push ?_ _); assumption) | (simp only [smA]; done) | (simp [oneCell, AW.next_push]; done) | fail) only [go_sem, Nat.reduceEqDiff, reduceIte, Nat.reduceAdd, Int.toNat_natCast, Nat.add_zero, Owes_true, Tryz.results39]
  refine loopR (fun k t ds w1 => ∃ i : Nat, i ≤ L.length ∧ k = L.length - i ∧ ds = [] ∧ ev t (.tmp 0) = .slice p C.length c ∧ ev t (.tmp 1) = .slice q L.length d ∧ ev t (.tmp 2) = .slice r H.length e ∧ ev t (.tmp 9) = .int .i64 (i : Int) ∧ w = w1 ∧ okTo C L H i = true ∧ ∃ z : Int, ev t (.tmp 8) = .int .i64 z ∧ (L.length ≤ 1000 → z = worth C L i)) (L.length) ?_ ?_
  · refine ⟨0, by omega, by omega, rfl, ?_, ?_, ?_, ?_, rfl, rfl, 0, (by simp -dsimp -implicitDefEqProofs (maxSteps := 2000000) (disch := first | assumption | omega | (simp only [nx]; omega) | ((repeat refine Fresh.push ?_ _); assumption) | (simp only [smA]; done) | (simp [oneCell, AW.next_push]; done) | fail) only [go_sem, Nat.reduceEqDiff, reduceIte, Nat.reduceAdd, Int.toNat_natCast, Nat.add_zero, Owes_true]; try rfl), fun _ => rfl⟩ <;> simp -dsimp -implicitDefEqProofs (maxSteps := 2000000) (disch := first | assumption | omega | (simp only [nx]; omega) | ((repeat refine Fresh.push ?_ _); assumption) | (simp only [smA]; done) | (simp [oneCell, AW.next_push]; done) | fail) only [go_sem, Nat.reduceEqDiff, reduceIte, Nat.reduceAdd, Int.toNat_natCast, Nat.add_zero, Owes_true] <;> rfl
  rintro k t ds w1 ⟨i, hii, rfl, rfl, e0, e1, e2, e9, hw, hp, hz⟩
  subst hw
  obtain ⟨z, e8, hz⟩ := hz
  have hle : WLe w w := .refl _
  by_cases hlt : (i : Int) < (L.length : Int)
  case neg =>
    obtain rfl : i = L.length := by omega
    have hv : valB C L H = decide ((L.length : Int) = (C.length : Int)) := by
      unfold valB; rw [hp, Bool.true_and]; exact decide_eq_decide.2 (by omega)
    simp -dsimp -implicitDefEqProofs (maxSteps := 2000000) (disch := first | assumption | omega | (simp only [nx]; omega) | ((repeat refine Fresh.push ?_ _); assumption) | (simp only [smA]; done) | (simp [oneCell, AW.next_push]; done) | fail) only [go_sem, Nat.reduceEqDiff, reduceIte, Nat.reduceAdd, Int.toNat_natCast, Nat.add_zero, Owes_true, Tryz.results39, e0, e1, e2, e8, e9, hlt]
    exact ⟨trivial, z, by rw [hv], fun _ h => hz h⟩
  have hlt' : i < L.length := by omega
  have bad : okAt C L H i = false → valB C L H = false := fun h => by unfold valB; rw [okTo_bad hlt' h, Bool.false_and]
  by_cases hc1 : (i : Int) ≥ (C.length : Int)
  · have hb : valB C L H = false := bad (by unfold okAt; rw [decide_eq_false (by omega : ¬ i < C.length)]; simp)
    have hd : decide ((i : Int) ≥ (C.length : Int)) = true := decide_eq_true hc1
    simp -dsimp -implicitDefEqProofs (maxSteps := 2000000) (disch := first | assumption | omega | (simp only [nx]; omega) | ((repeat refine Fresh.push ?_ _); assumption) | (simp only [smA]; done) | (simp [oneCell, AW.next_push]; done) | fail) only [go_sem, Nat.reduceEqDiff, reduceIte, Nat.reduceAdd, Int.toNat_natCast, Nat.add_zero, Owes_true, Tryz.results39, e0, e1, e2, e8, e9, hlt, hd]
    exact ⟨trivial, 0, by rw [hb], fun q => by rw [hb] at q; cases q⟩
  have hd1 : decide ((i : Int) ≥ (C.length : Int)) = false := decide_eq_false hc1
  by_cases hc2 : (i : Int) ≥ (H.length : Int)
  · have hb : valB C L H = false := bad (by unfold okAt; rw [decide_eq_false (by omega : ¬ i < H.length)]; simp)
    have hd : decide ((i : Int) ≥ (H.length : Int)) = true := decide_eq_true hc2
    simp -dsimp -implicitDefEqProofs (maxSteps := 2000000) (disch := first | assumption | omega | (simp only [nx]; omega) | ((repeat refine Fresh.push ?_ _); assumption) | (simp only [smA]; done) | (simp [oneCell, AW.next_push]; done) | fail) only [go_sem, Nat.reduceEqDiff, reduceIte, Nat.reduceAdd, Int.toNat_natCast, Nat.add_zero, Owes_true, Tryz.results39, e0, e1, e2, e8, e9, hlt, hd1, hd]
    exact ⟨trivial, 0, by rw [hb], fun q => by rw [hb] at q; cases q⟩
  have hd2 : decide ((i : Int) ≥ (H.length : Int)) = false := decide_eq_false hc2
  have hiC : i < C.length := by omega
  have hiH : i < H.length := by omega
  have hiC' : (i : Int) < (C.length : Int) := by omega
  have hiH' : (i : Int) < (H.length : Int) := by omega
  obtain ⟨b1, o1, rfl, hb1, hcC⟩ := hatC i hiC
  obtain ⟨b2, o2, rfl, hb2, hcL⟩ := hatL i hlt'
  obtain ⟨b3, o3, rfl, hb3, hcH⟩ := hatH i hiH
  have aC := hcC w (.refl _ _) 0 _ rfl
  have aL := hcL w (.refl _ _) 0 _ rfl
  have aH := hcH w (.refl _ _) 0 _ rfl
  simp only [Nat.add_zero] at aC aL aH
  have hok : okAt C L H i = (inR 0 L[i] H[i] && inR 1 C[i] 50000 && decide (L[i] ≤ 100)) := by
    unfold okAt; rw [decide_eq_true hiC, decide_eq_true hiH, getD_of hiC, getD_of hlt', getD_of hiH]; simp
  have hws := worth_succ (C := C) (L := L) hlt' hiC
  have hos := okTo_succ C L H i
  rw [hp, Bool.true_and] at hos
  generalize C[i] = ci at *
  generalize L[i] = li at *
  generalize H[i] = hi0 at *
  simp -dsimp -implicitDefEqProofs (maxSteps := 2000000) (disch := first | assumption | omega | (simp only [nx]; omega) | ((repeat refine Fresh.push ?_ _); assumption) | (simp only [smA]; done) | (simp [oneCell, AW.next_push]; done) | fail) only [go_sem, Nat.reduceEqDiff, reduceIte, Nat.reduceAdd, Int.toNat_natCast, Nat.add_zero, Owes_true, Tryz.results39, e0, e1, e2, e8, e9, hlt, hd1, hd2, hiC', hiH', indexV_eq, aC, aL, aH]
  apply callV_of (e := rfl)
  · exact From_ok 0 li hi0 w
  rintro _ _ ⟨rfl, rfl⟩
  cases hq1 : inR 0 li hi0 with
  | false =>
    have hb : valB C L H = false := bad (by rw [hok, hq1]; simp)
    simp -dsimp -implicitDefEqProofs (maxSteps := 2000000) (disch := first | assumption | omega | (simp only [nx]; omega) | ((repeat refine Fresh.push ?_ _); assumption) | (simp only [smA]; done) | (simp [oneCell, AW.next_push]; done) | fail) only [go_sem, Nat.reduceEqDiff, reduceIte, Nat.reduceAdd, Int.toNat_natCast, Nat.add_zero, Owes_true, Tryz.results39, hq1, e0, e1, e2, e8, e9]
    exact ⟨trivial, 0, by rw [hb], fun q => by rw [hb] at q; cases q⟩
  | true =>
  simp -dsimp -implicitDefEqProofs (maxSteps := 2000000) (disch := first | assumption | omega | (simp only [nx]; omega) | ((repeat refine Fresh.push ?_ _); assumption) | (simp only [smA]; done) | (simp [oneCell, AW.next_push]; done) | fail) only [go_sem, Nat.reduceEqDiff, reduceIte, Nat.reduceAdd, Int.toNat_natCast, Nat.add_zero, Owes_true, Tryz.results39, hq1, e0, e1, e2, e8, e9, hiC', hiH', hlt, indexV_eq, aC, aL, aH]
  apply callV_of (e := rfl)
  · exact From_ok 1 ci 50000 w
  rintro _ _ ⟨rfl, rfl⟩
  cases hq2 : inR 1 ci 50000 with
  | false =>
    have hb : valB C L H = false := bad (by rw [hok, hq2]; simp)
    simp -dsimp -implicitDefEqProofs (maxSteps := 2000000) (disch := first | assumption | omega | (simp only [nx]; omega) | ((repeat refine Fresh.push ?_ _); assumption) | (simp only [smA]; done) | (simp [oneCell, AW.next_push]; done) | fail) only [go_sem, Nat.reduceEqDiff, reduceIte, Nat.reduceAdd, Int.toNat_natCast, Nat.add_zero, Owes_true, Tryz.results39, hq2, e0, e1, e2, e8, e9]
    exact ⟨trivial, 0, by rw [hb], fun q => by rw [hb] at q; cases q⟩
  | true =>
  by_cases h100 : 100 < li
  · have hb : valB C L H = false := bad (by rw [hok, decide_eq_false (by omega : ¬ li ≤ 100)]; simp)
    simp -dsimp -implicitDefEqProofs (maxSteps := 2000000) (disch := first | assumption | omega | (simp only [nx]; omega) | ((repeat refine Fresh.push ?_ _); assumption) | (simp only [smA]; done) | (simp [oneCell, AW.next_push]; done) | fail) only [go_sem, Nat.reduceEqDiff, reduceIte, Nat.reduceAdd, Int.toNat_natCast, Nat.add_zero, Owes_true, Tryz.results39, hq2, e0, e1, e2, e8, e9, hlt, indexV_eq, aL, h100]
    exact ⟨trivial, 0, by rw [hb], fun q => by rw [hb] at q; cases q⟩
  have r1 := (inR_iff _ _ _).1 hq1
  have r2 := (inR_iff _ _ _).1 hq2
  have m0 : 0 ≤ li * ci := Int.mul_nonneg r1.1 (by omega)
  have m1 : li * ci ≤ 100 * 50000 := Int.mul_le_mul (by omega) r2.2 (by omega) (by omega)
  generalize hmm : li * ci = mc at *
  have hok2 : okTo C L H (i + 1) = true := by rw [hos, hok, hq1, hq2, decide_eq_true (by omega : li ≤ 100)]; rfl
  simp -dsimp -implicitDefEqProofs (maxSteps := 2000000) (disch := first | assumption | omega | (simp only [nx]; omega) | ((repeat refine Fresh.push ?_ _); assumption) | (simp only [smA]; done) | (simp [oneCell, AW.next_push]; done) | fail) only [go_sem, Nat.reduceEqDiff, reduceIte, Nat.reduceAdd, Int.toNat_natCast, Nat.add_zero, Owes_true, hq2, e0, e1, e2, e8, e9, hlt, hiC', indexV_eq, aC, aL, h100, hmm]
  have hfin : L.length ≤ 1000 → IntKind.i64.wrap (z + mc) = worth C L (i + 1) := by
    intro h
    have hwi := worth_okTo C L H i hp
    have hz1 := hz h
    rw [wrap64 (by omega) (by omega), hws, hz1]
  refine ⟨_, by omega, i + 1, by omega, rfl, rfl, by (simp -dsimp -implicitDefEqProofs (maxSteps := 2000000) (disch := first | assumption | omega | (simp only [nx]; omega) | ((repeat refine Fresh.push ?_ _); assumption) | (simp only [smA]; done) | (simp [oneCell, AW.next_push]; done) | fail) only [go_sem, Nat.reduceEqDiff, reduceIte, Nat.reduceAdd, Int.toNat_natCast, Nat.add_zero, Owes_true, e0]; try rfl), by (simp -dsimp -implicitDefEqProofs (maxSteps := 2000000) (disch := first | assumption | omega | (simp only [nx]; omega) | ((repeat refine Fresh.push ?_ _); assumption) | (simp only [smA]; done) | (simp [oneCell, AW.next_push]; done) | fail) only [go_sem, Nat.reduceEqDiff, reduceIte, Nat.reduceAdd, Int.toNat_natCast, Nat.add_zero, Owes_true, e1]; try rfl), by (simp -dsimp -implicitDefEqProofs (maxSteps := 2000000) (disch := first | assumption | omega | (simp only [nx]; omega) | ((repeat refine Fresh.push ?_ _); assumption) | (simp only [smA]; done) | (simp [oneCell, AW.next_push]; done) | fail) only [go_sem, Nat.reduceEqDiff, reduceIte, Nat.reduceAdd, Int.toNat_natCast, Nat.add_zero, Owes_true, e2]; try rfl), by (simp -dsimp -implicitDefEqProofs (maxSteps := 2000000) (disch := first | assumption | omega | (simp only [nx]; omega) | ((repeat refine Fresh.push ?_ _); assumption) | (simp only [smA]; done) | (simp [oneCell, AW.next_push]; done) | fail) only [go_sem, Nat.reduceEqDiff, reduceIte, Nat.reduceAdd, Int.toNat_natCast, Nat.add_zero, Owes_true, e9]; try rfl), rfl, hok2, ⟨IntKind.i64.wrap (z + mc), (by simp -dsimp -implicitDefEqProofs (maxSteps := 2000000) (disch := first | assumption | omega | (simp only [nx]; omega) | ((repeat refine Fresh.push ?_ _); assumption) | (simp only [smA]; done) | (simp [oneCell, AW.next_push]; done) | fail) only [go_sem, Nat.reduceEqDiff, reduceIte, Nat.reduceAdd, Int.toNat_natCast, Nat.add_zero, Owes_true]; try rfl), hfin⟩⟩
end Go.Proofs

namespace Go.Proofs
open Go Go.RowKit Go.Sim
set_option maxRecDepth 100000
def PayOf : List (Int × Int) → List Int → Int → Prop
  | [], [], s => s = 0
  | (c, h) :: D, n :: L, s => 0 ≤ n ∧ n ≤ h ∧ PayOf D L (s - n * c)
  | _, _, _ => False
def Fine (D : List (Int × Int)) : Prop := ∀ d ∈ D, 1 ≤ d.1 ∧ 0 ≤ d.2
theorem PayOf.nn : ∀ {D : List (Int × Int)} {L : List Int} {s : Int}, PayOf D L s → Fine D → 0 ≤ s ∧ 0 ≤ L.sum
  | [], [], s, h, _ => by simp only [PayOf] at h; subst h; simp
  | (c, x) :: D, n :: L, s, h, hf => by
    simp only [PayOf] at h
    have ih := PayOf.nn h.2.2 fun d hd => hf d (List.mem_cons_of_mem _ hd)
    have := hf _ List.mem_cons_self
    have : 0 ≤ n * c := Int.mul_nonneg h.1 (by simp only at this; omega)
    rw [List.sum_cons]; omega
  | [], _ :: _, _, h, _ => h.elim
  | _ :: _, [], _, h, _ => h.elim
theorem foldTo_le {l : List (Int × Int)} {c s : Int} : ∀ {m n : Nat}, n < m → (foldTo l c s m).2 ≤ (n : Int) + (bestV l (s - (n : Int) * c)).2
  | 0, _, h => by omega
  | m + 1, n, h => by
    rw [foldTo_succ]
    rcases Nat.lt_or_ge n m with q | q
    · have ih := foldTo_le (l := l) (c := c) (s := s) q
      split <;> (try simp only) <;> omega
    · obtain rfl : n = m := by omega
      split <;> (try simp only) <;> omega
theorem foldTo_is {l : List (Int × Int)} {c s : Int} : ∀ m, foldTo l c s m = (0, 1048576) ∨ ∃ n, n < m ∧ foldTo l c s m = ((n : Int), (n : Int) + (bestV l (s - (n : Int) * c)).2)
  | 0 => .inl rfl
  | m + 1 => by
    rw [foldTo_succ]
    split
    · exact .inr ⟨m, by omega, rfl⟩
    · rcases foldTo_is (l := l) (c := c) (s := s) m with q | ⟨n, h, q⟩
      · exact .inl q
      · exact .inr ⟨n, by omega, q⟩
theorem foldTo_last {l : List (Int × Int)} {c s : Int} : ∀ {m n : Nat}, n < m → (n : Int) + (bestV l (s - (n : Int) * c)).2 = (foldTo l c s m).2 → (n : Int) ≤ (foldTo l c s m).1
  | 0, _, h, _ => by omega
  | m + 1, n, h, he => by
    rw [foldTo_succ] at he ⊢
    split at he
    · rename_i q
      rw [if_pos q]; simp only; omega
    · rename_i q
      rw [if_neg q]
      rcases Nat.lt_or_ge n m with q1 | q1
      · exact foldTo_last q1 he
      · obtain rfl : n = m := by omega
        omega
theorem head_in {c x s n : Int} (hs : 0 ≤ s - n * c) (hn0 : 0 ≤ n) (hc : 1 ≤ c) (hx : n ≤ x) : n.toNat < (min x (s.tdiv c)).toNat + 1 := by
  have h0 : 0 ≤ n * c := Int.mul_nonneg hn0 (by omega)
  have htd : s.tdiv c = s / c := Int.tdiv_eq_ediv_of_nonneg (by omega)
  have : n ≤ s / c := (Int.le_ediv_iff_mul_le (by omega)).2 (by omega)
  omega
theorem best_min : ∀ {D : List (Int × Int)} {L : List Int} {s : Int}, PayOf D L s → Fine D → (bestV D s).2 ≤ L.sum
  | [], [], s, h, _ => by simp only [PayOf] at h; subst h; simp [bestV]
  | (c, x) :: D, n :: L, s, h, hf => by
    simp only [PayOf] at h
    have hfD : Fine D := fun d hd => hf d (List.mem_cons_of_mem _ hd)
    have ih := best_min h.2.2 hfD
    have hnn := h.2.2.nn hfD
    have hc := hf _ List.mem_cons_self
    simp only at hc
    have hlt := head_in hnn.1 h.1 hc.1 h.2.1
    rw [bestV_cons, List.sum_cons]
    have := foldTo_le (l := D) (c := c) (s := s) hlt
    rw [show ((n.toNat : Nat) : Int) = n from by omega] at this
    omega
  | [], _ :: _, _, h, _ => h.elim
  | _ :: _, [], _, h, _ => h.elim
def payR : List (Int × Int) → Int → List Int
  | [], _ => []
  | (c, h) :: D, s => (bestV ((c, h) :: D) s).1 :: payR D (s - (bestV ((c, h) :: D) s).1 * c)
theorem payR_is : ∀ {D : List (Int × Int)} {s : Int}, Fine D → 0 ≤ s → (bestV D s).2 < 1048576 → PayOf D (payR D s) s ∧ (payR D s).sum = (bestV D s).2
  | [], s, _, _, h => by
    simp only [bestV] at h ⊢
    split at h
    · rename_i q; subst q; exact ⟨rfl, by simp [payR]⟩
    · simp at h
  | (c, x) :: D, s, hf, hs, h => by
    have hfD : Fine D := fun d hd => hf d (List.mem_cons_of_mem _ hd)
    have hc := hf _ List.mem_cons_self
    simp only at hc
    have hfi := first_in (c := c) (h := x) (s := s) D hs hc.1 hc.2
    have hB := bestV_cons c x D s
    rcases foldTo_is (l := D) (c := c) (s := s) ((min x (s.tdiv c)).toNat + 1) with q | ⟨n, hn, q⟩
    · rw [hB, q] at h; simp at h
    · rw [q] at hB
      rw [hB] at hfi h
      simp only at hfi h
      have ih := payR_is (D := D) (s := s - (n : Int) * c) hfD (by omega) (by omega)
      have hp : payR ((c, x) :: D) s = (n : Int) :: payR D (s - (n : Int) * c) := by rw [payR, hB]
      rw [hp, hB]
      exact ⟨⟨hfi.1, hfi.2.1, ih.1⟩, by rw [List.sum_cons, ih.2]⟩
theorem payR_first : ∀ {D : List (Int × Int)} {L : List Int} {s : Int}, PayOf D L s → Fine D → L.sum = (bestV D s).2 → (bestV D s).2 < 1048576 → aheadB (payR D s) L = false
  | [], [], s, _, _, _, _ => by simp [payR, aheadB]
  | (c, x) :: D, n :: L, s, h, hf, he, hb => by
    simp only [PayOf] at h
    have hfD : Fine D := fun d hd => hf d (List.mem_cons_of_mem _ hd)
    have hc := hf _ List.mem_cons_self
    simp only at hc
    have hnn := h.2.2.nn hfD
    have hlt := head_in hnn.1 h.1 hc.1 h.2.1
    have hB := bestV_cons c x D s
    have hm := best_min h.2.2 hfD
    have hl := foldTo_le (l := D) (c := c) (s := s) hlt
    have hla := foldTo_last (l := D) (c := c) (s := s) hlt
    rw [show ((n.toNat : Nat) : Int) = n from by omega] at hl hla
    rw [List.sum_cons] at he
    rw [hB] at he hb
    have hla := hla (by omega)
    rw [payR, hB]
    rcases foldTo_is (l := D) (c := c) (s := s) ((min x (s.tdiv c)).toNat + 1) with q | ⟨N, hN, q⟩
    · rw [q] at hb; simp at hb
    · rw [q] at he hb hla ⊢
      simp only at he hb hla ⊢
      rw [aheadB]
      split
      · rename_i hq
        subst hq
        exact payR_first h.2.2 hfD (by omega) (by omega)
      · exact decide_eq_false (by omega)
  | [], _ :: _, _, h, _, _, _ => h.elim
  | _ :: _, [], _, h, _, _, _ => h.elim
theorem restAt_shift (d : Int × Int) (D : List (Int × Int)) (s : Int) : ∀ i, restAt (d :: D) s (i + 1) = restAt D (s - (bestV (d :: D) s).1 * d.1) i
  | 0 => by simp [restAt]
  | i + 1 => by
    rw [restAt, restAt_shift d D s i]
    simp [restAt]
theorem payL_payR : ∀ (D : List (Int × Int)) (s : Int), payL D s D.length = payR D s
  | [], s => rfl
  | (c, h) :: D, s => by
    have ih := payL_payR D (s - (bestV ((c, h) :: D) s).1 * c)
    rw [payR, ← ih]
    unfold payL
    rw [List.length_cons, List.range_succ_eq_map, List.map_cons, List.map_map]
    congr 1
    refine List.map_congr_left fun i _ => ?_
    simp only [Function.comp, payN, restAt_shift]
    simp
theorem worth_cons (c n : Int) (C L : List Int) (k : Nat) : worth (c :: C) (n :: L) (k + 1) = n * c + worth C L k := by
  unfold worth
  rw [List.range_succ_eq_map, List.map_cons, List.map_map, List.sum_cons]
  simp [Function.comp_def]
theorem payOf_of : ∀ {C H L : List Int}, H.length = C.length → L.length = C.length → (∀ i, i < L.length → 0 ≤ L.getD i 0 ∧ L.getD i 0 ≤ H.getD i 0) → PayOf (C.zip H) L (worth C L L.length)
  | [], [], [], _, _, _ => by simp [PayOf, worth]
  | c :: C, h :: H, n :: L, h1, h2, h3 => by
    have a := h3 0 (by simp)
    simp only [List.getD_cons_zero] at a
    refine ⟨a.1, a.2, ?_⟩
    rw [List.length_cons, worth_cons, show n * c + worth C L L.length - n * c = worth C L L.length from by omega]
    exact payOf_of (by simpa using h1) (by simpa using h2) fun i hi => by have := h3 (i + 1) (by simpa using hi); simpa using this
  | [], _ :: _, _, h, _, _ => by simp at h
  | _ :: _, [], _, h, _, _ => by simp at h
  | [], [], _ :: _, _, h, _ => by simp at h
  | _ :: _, _ :: _, [], _, h, _ => by simp at h
theorem PayOf.out : ∀ {C H L : List Int} {s : Int}, PayOf (C.zip H) L s → H.length = C.length → L.length = C.length ∧ s = worth C L L.length ∧ ∀ i, i < L.length → 0 ≤ L.getD i 0 ∧ L.getD i 0 ≤ H.getD i 0
  | [], [], [], s, h, _ => by simp only [List.zip_nil_left, PayOf] at h; subst h; simp [worth]
  | c :: C, h :: H, n :: L, s, hp, hl => by
    simp only [List.zip_cons_cons, PayOf] at hp
    have ih := PayOf.out hp.2.2 (by simpa using hl)
    refine ⟨by simp [ih.1], ?_, fun i hi => ?_⟩
    · rw [List.length_cons, worth_cons]; omega
    · cases i with
      | zero => simp only [List.getD_cons_zero]; omega
      | succ i => have := ih.2.2 i (by simpa using hi); simpa using this
  | [], [], _ :: _, _, h, _ => h.elim
  | c :: C, x :: H, [], _, h, _ => h.elim
  | [], _ :: _, _, _, _, h => by simp at h
  | _ :: _, [], _, _, _, h => by simp at h
end Go.Proofs

namespace Go.Proofs
open Go Go.RowKit Go.Sim
set_option maxRecDepth 100000
theorem Tryz.und3 : Tryz.prog.underlying 3 = some (.int .i64) := by kernel_rfl
theorem Tryz.und4 : Tryz.prog.underlying 4 = some .bool := by kernel_rfl
theorem Tryz.und22 : Tryz.prog.underlying 22 = some (.slice 3) := by kernel_rfl
theorem Tryz.cells3 : Tryz.prog.cellsOf 3 = 1 := by kernel_rfl
theorem given_int {w : AW} {n : Nat} {cs : List Value} (h : Hd Tryz.prog w n 3 cs) : ∃ x : Int, cs = icells x ∧ -9223372036854775808 ≤ x ∧ x ≤ 9223372036854775807 := by
  cases n with
  | zero => exact h.elim
  | succ n =>
    simp only [Hd, Tryz.und3] at h
    obtain ⟨i, rfl, h1, h2⟩ := h
    exact ⟨i, rfl, h1, h2⟩
theorem given_num {w : AW} {n : Nat} {v : Value} (h : HdV Tryz.prog w n 3 v) : ∃ x : Int, v = .int .i64 x ∧ -9223372036854775808 ≤ x ∧ x ≤ 9223372036854775807 := by
  simp only [HdV, Tryz.und3] at h
  obtain ⟨x, e, h1⟩ := given_int h
  injection e with e
  exact ⟨x, e, h1⟩
theorem rows_of {rows : List (List Value)} (h : ∀ r ∈ rows, ∃ x : Int, r = icells x) : ∃ xs : List Int, rows = xs.map icells := by
  induction rows with
  | nil => exact ⟨[], rfl⟩
  | cons r rows ih =>
    obtain ⟨x, hx⟩ := h r List.mem_cons_self
    obtain ⟨xs, hxs⟩ := ih fun q hq => h q (List.mem_cons_of_mem _ hq)
    exact ⟨x :: xs, by rw [hx, hxs]; rfl⟩
theorem given_ints {w : AW} {n : Nat} {cs : List Value} (h : Hd Tryz.prog w n 22 cs) : ∃ v, cs = [v] ∧ ∃ xs, ArrOf w 1 icells v xs := by
  cases n with
  | zero => exact h.elim
  | succ n =>
    simp only [Hd, Tryz.und22, Tryz.cells3] at h
    obtain ⟨v, rows, rfl, ha, hr, hgv⟩ := h
    obtain ⟨xs, rfl⟩ := rows_of fun r hq => by obtain ⟨x, hx, _⟩ := given_int (hr r hq); exact ⟨x, hx⟩
    exact ⟨v, rfl, xs, ha⟩
theorem given_intsV {w : AW} {n : Nat} {v : Value} (h : HdV Tryz.prog w n 22 v) : ∃ xs, ArrOf w 1 icells v xs := by
  simp only [HdV, Tryz.und22] at h
  obtain ⟨u, e, xs, hx⟩ := given_ints h
  injection e with e
  subst e
  exact ⟨xs, hx⟩
theorem given_drawer {w : AW} {n : Nat} {v : Value} (h : HdV Tryz.prog w n 24 v) : ∃ u h : Value, v = .agg #[u, h] ∧ (∃ xs, ArrOf w 1 icells u xs) ∧ ∃ xs, ArrOf w 1 icells h xs := by
  simp only [HdV, Tryz.underlying24] at h
  obtain ⟨cs, rfl, h⟩ := h
  cases n with
  | zero => exact h.elim
  | succ n =>
    simp only [Hd, Tryz.underlying24] at h
    obtain ⟨parts, hc, hl, hp⟩ := h
    match parts, hl with
    | [p0, p1], _ =>
      obtain ⟨u, rfl, hu⟩ := given_ints (hp 0 _ p0 rfl rfl)
      obtain ⟨x, rfl, hx⟩ := given_ints (hp 1 _ p1 rfl rfl)
      refine ⟨u, x, ?_, hu, hx⟩
      rw [show cs = cs.toList.toArray from rfl, hc]; rfl
end Go.Proofs

namespace Go.Proofs
open Go Go.RowKit Go.Sim
set_option maxRecDepth 100000
def Tryz.s7_c89 : SC := (.seq (.ops false [⟨⟨(some 89),.load 24 (.tmp 4),24,"",⟨[]⟩,none⟩,none,false⟩,⟨⟨(some 90),.move (.tmp 1),22,"",⟨[]⟩,none⟩,none,false⟩,⟨⟨(some 91),.move (.tmp 3),3,"",⟨[]⟩,none⟩,none,false⟩,⟨⟨(some 92),.call ⟨.value (.func 19),⟨[(.tmp 89),(.tmp 90),(.tmp 91)]⟩,⟨[24,22,3]⟩⟩,27,"",⟨[]⟩,none⟩,none,false⟩,⟨⟨(some 88),.move (.tmp 92),27,"",⟨[]⟩,none⟩,none,false⟩,⟨⟨(some 93),.extract (.tmp 88) 0,22,"",⟨[]⟩,none⟩,none,false⟩,⟨⟨(some 94),.extract (.tmp 88) 1,26,"",⟨[]⟩,none⟩,none,false⟩,⟨⟨(some 15),.assign (.tmp 93),22,"",⟨[]⟩,none⟩,none,false⟩,⟨⟨(some 12),.assign (.tmp 94),26,"",⟨[]⟩,none⟩,none,false⟩]) (.seq (.seq (.ops false [⟨⟨(some 95),.move (.tmp 12),26,"",⟨[]⟩,none⟩,none,false⟩,⟨⟨(some 96),.binOp .neq 26 (.tmp 95) (.const (.int .i64 0)) 26,4,"",⟨[]⟩,none⟩,none,false⟩]) (.cond (.tmp 96) (.seq (.ops false [⟨⟨(some 97),.move (.tmp 15),22,"",⟨[]⟩,none⟩,none,false⟩,⟨⟨(some 98),.call ⟨.builtin .len,⟨[(.tmp 97)]⟩,⟨[22]⟩⟩,3,"",⟨[]⟩,none⟩,none,false⟩,⟨⟨(some 99),.binOp .eql 3 (.tmp 98) (.const (.int .i64 0)) 3,4,"",⟨[]⟩,none⟩,none,false⟩,⟨⟨(some 100),.move (.tmp 99),4,"",⟨[]⟩,none⟩,none,false⟩,⟨⟨(some 101),.call ⟨.value (.func 21),⟨[]⟩,⟨[]⟩⟩,4,"",⟨[]⟩,none⟩,some ((some 100),true),false⟩,⟨⟨(some 102),.pick (.tmp 100) (.tmp 101) (.const (.bool false)),4,"",⟨[]⟩,none⟩,none,false⟩,⟨⟨(some 8),.assign (.tmp 102),4,"",⟨[]⟩,none⟩,none,false⟩]) .ret) .skip)) (.seq (.seq (.ops false [⟨⟨(some 103),.move (.tmp 1),22,"",⟨[]⟩,none⟩,none,false⟩,⟨⟨(some 104),.call ⟨.builtin .len,⟨[(.tmp 103)]⟩,⟨[22]⟩⟩,3,"",⟨[]⟩,none⟩,none,false⟩,⟨⟨(some 105),.fieldAddr 24 (.tmp 4) 1,0,"",⟨[]⟩,none⟩,none,false⟩,⟨⟨(some 106),.load 22 (.tmp 105),22,"",⟨[]⟩,none⟩,none,false⟩,⟨⟨(some 107),.call ⟨.builtin .len,⟨[(.tmp 106)]⟩,⟨[22]⟩⟩,3,"",⟨[]⟩,none⟩,none,false⟩,⟨⟨(some 108),.binOp .neq 3 (.tmp 104) (.tmp 107) 3,4,"",⟨[]⟩,none⟩,none,false⟩,⟨⟨(some 109),.move (.tmp 108),4,"",⟨[]⟩,none⟩,none,false⟩,⟨⟨(some 110),.move (.tmp 1),22,"",⟨[]⟩,none⟩,some ((some 109),false),false⟩,⟨⟨(some 111),.call ⟨.builtin .len,⟨[(.tmp 110)]⟩,⟨[22]⟩⟩,3,"",⟨[]⟩,none⟩,some ((some 109),false),false⟩,⟨⟨(some 112),.fieldAddr 24 (.tmp 4) 0,0,"",⟨[]⟩,none⟩,some ((some 109),false),false⟩,⟨⟨(some 113),.load 22 (.tmp 112),22,"",⟨[]⟩,none⟩,some ((some 109),false),false⟩,⟨⟨(some 114),.call ⟨.builtin .len,⟨[(.tmp 113)]⟩,⟨[22]⟩⟩,3,"",⟨[]⟩,none⟩,some ((some 109),false),false⟩,⟨⟨(some 115),.binOp .neq 3 (.tmp 111) (.tmp 114) 3,4,"",⟨[]⟩,none⟩,some ((some 109),false),false⟩,⟨⟨(some 116),.pick (.tmp 109) (.const (.bool true)) (.tmp 115),4,"",⟨[]⟩,none⟩,none,false⟩]) (.cond (.tmp 116) (.seq (.ops false [⟨⟨(some 8),.assign (.const (.bool false)),4,"",⟨[]⟩,none⟩,none,false⟩]) .ret) .skip)) (.seq (.ops false [⟨⟨(some 16),.assign (.const (.slice none 0 0)),22,"",⟨[]⟩,none⟩,none,false⟩]) (.seq (.seq (.ops false [⟨⟨(some 17),.assign (.const (.int .i64 0)),3,"",⟨[]⟩,none⟩,none,false⟩]) (.block 0 (.loop (.seq (.seq (.ops false [⟨⟨(some 117),.move (.tmp 17),3,"",⟨[]⟩,none⟩,none,false⟩,⟨⟨(some 118),.move (.tmp 1),22,"",⟨[]⟩,none⟩,none,false⟩,⟨⟨(some 119),.call ⟨.builtin .len,⟨[(.tmp 118)]⟩,⟨[22]⟩⟩,3,"",⟨[]⟩,none⟩,none,false⟩,⟨⟨(some 120),.binOp .lss 3 (.tmp 117) (.tmp 119) 3,4,"",⟨[]⟩,none⟩,none,false⟩]) (.cond (.tmp 120) .skip (.exit 0))) (.seq (.block 1 (.ops true [⟨⟨(some 123),.move (.tmp 16),22,"",⟨[]⟩,none⟩,none,true⟩,⟨⟨(some 124),.fieldAddr 24 (.tmp 4) 1,0,"",⟨[]⟩,none⟩,none,true⟩,⟨⟨(some 125),.load 22 (.tmp 124),22,"",⟨[]⟩,none⟩,none,true⟩,⟨⟨(some 126),.move (.tmp 17),3,"",⟨[]⟩,none⟩,none,true⟩,⟨⟨(some 127),.indexAddr 22 (.tmp 125) (.tmp 126),0,"",⟨[]⟩,none⟩,none,true⟩,⟨⟨(some 128),.load 3 (.tmp 127),3,"",⟨[]⟩,none⟩,none,true⟩,⟨⟨(some 129),.move (.tmp 1),22,"",⟨[]⟩,none⟩,none,true⟩,⟨⟨(some 130),.move (.tmp 17),3,"",⟨[]⟩,none⟩,none,true⟩,⟨⟨(some 131),.indexAddr 22 (.tmp 129) (.tmp 130),0,"",⟨[]⟩,none⟩,none,true⟩,⟨⟨(some 132),.load 3 (.tmp 131),3,"",⟨[]⟩,none⟩,none,true⟩,⟨⟨(some 133),.binOp .add 3 (.tmp 128) (.tmp 132) 3,3,"",⟨[]⟩,none⟩,none,true⟩,⟨⟨(some 134),.buildSlice 22 1 ⟨[(0,(.tmp 133))]⟩,22,"",⟨[]⟩,none⟩,none,true⟩,⟨⟨(some 135),.call ⟨.builtin .append,⟨[(.tmp 123),(.tmp 134)]⟩,⟨[22,22]⟩⟩,22,"",⟨[]⟩,none⟩,none,false⟩,⟨⟨(some 16),.assign (.tmp 135),22,"",⟨[]⟩,none⟩,none,true⟩])) (.ops false [⟨⟨(some 121),.move (.tmp 17),3,"",⟨[]⟩,none⟩,none,false⟩,⟨⟨(some 122),.binOp .add 3 (.tmp 121) (.const (.int .i64 1)) 3,3,"",⟨[]⟩,none⟩,none,false⟩,⟨⟨(some 17),.assign (.tmp 122),3,"",⟨[]⟩,none⟩,none,false⟩])))))) (.seq (.ops false [⟨⟨(some 137),.fieldAddr 24 (.tmp 4) 0,0,"",⟨[]⟩,none⟩,none,false⟩,⟨⟨(some 138),.load 22 (.tmp 137),22,"",⟨[]⟩,none⟩,none,false⟩,⟨⟨(some 139),.fieldAddr 24 (.tmp 4) 1,0,"",⟨[]⟩,none⟩,none,false⟩,⟨⟨(some 140),.load 22 (.tmp 139),22,"",⟨[]⟩,none⟩,none,false⟩,⟨⟨(some 141),.fieldAddr 24 (.tmp 4) 1,0,"",⟨[]⟩,none⟩,none,false⟩,⟨⟨(some 142),.load 22 (.tmp 141),22,"",⟨[]⟩,none⟩,none,false⟩,⟨⟨(some 143),.call ⟨.value (.func 39),⟨[(.tmp 138),(.tmp 140),(.tmp 142)]⟩,⟨[22,22,22]⟩⟩,66,"",⟨[]⟩,none⟩,none,false⟩,⟨⟨(some 136),.move (.tmp 143),66,"",⟨[]⟩,none⟩,none,false⟩,⟨⟨(some 144),.extract (.tmp 136) 0,3,"",⟨[]⟩,none⟩,none,false⟩,⟨⟨(some 145),.extract (.tmp 136) 1,4,"",⟨[]⟩,none⟩,none,false⟩,⟨⟨(some 18),.assign (.tmp 144),3,"",⟨[]⟩,none⟩,none,false⟩,⟨⟨(some 19),.assign (.tmp 145),4,"",⟨[]⟩,none⟩,none,false⟩]) (.seq (.ops false [⟨⟨(some 147),.fieldAddr 24 (.tmp 4) 0,0,"",⟨[]⟩,none⟩,none,false⟩,⟨⟨(some 148),.load 22 (.tmp 147),22,"",⟨[]⟩,none⟩,none,false⟩,⟨⟨(some 149),.move (.tmp 16),22,"",⟨[]⟩,none⟩,none,false⟩,⟨⟨(some 150),.move (.tmp 16),22,"",⟨[]⟩,none⟩,none,false⟩,⟨⟨(some 151),.call ⟨.value (.func 39),⟨[(.tmp 148),(.tmp 149),(.tmp 150)]⟩,⟨[22,22,22]⟩⟩,66,"",⟨[]⟩,none⟩,none,false⟩,⟨⟨(some 146),.move (.tmp 151),66,"",⟨[]⟩,none⟩,none,false⟩,⟨⟨(some 152),.extract (.tmp 146) 0,3,"",⟨[]⟩,none⟩,none,false⟩,⟨⟨(some 153),.extract (.tmp 146) 1,4,"",⟨[]⟩,none⟩,none,false⟩,⟨⟨(some 20),.assign (.tmp 152),3,"",⟨[]⟩,none⟩,none,false⟩,⟨⟨(some 21),.assign (.tmp 153),4,"",⟨[]⟩,none⟩,none,false⟩]) (.seq (.ops false [⟨⟨(some 155),.fieldAddr 24 (.tmp 4) 0,0,"",⟨[]⟩,none⟩,none,false⟩,⟨⟨(some 156),.load 22 (.tmp 155),22,"",⟨[]⟩,none⟩,none,false⟩,⟨⟨(some 157),.move (.tmp 15),22,"",⟨[]⟩,none⟩,none,false⟩,⟨⟨(some 158),.move (.tmp 16),22,"",⟨[]⟩,none⟩,none,false⟩,⟨⟨(some 159),.call ⟨.value (.func 39),⟨[(.tmp 156),(.tmp 157),(.tmp 158)]⟩,⟨[22,22,22]⟩⟩,66,"",⟨[]⟩,none⟩,none,false⟩,⟨⟨(some 154),.move (.tmp 159),66,"",⟨[]⟩,none⟩,none,false⟩,⟨⟨(some 160),.extract (.tmp 154) 0,3,"",⟨[]⟩,none⟩,none,false⟩,⟨⟨(some 161),.extract (.tmp 154) 1,4,"",⟨[]⟩,none⟩,none,false⟩,⟨⟨(some 22),.assign (.tmp 160),3,"",⟨[]⟩,none⟩,none,false⟩,⟨⟨(some 23),.assign (.tmp 161),4,"",⟨[]⟩,none⟩,none,false⟩]) (.seq (.ops false [⟨⟨(some 162),.move (.tmp 23),4,"",⟨[]⟩,none⟩,none,false⟩,⟨⟨(some 163),.move (.tmp 162),4,"",⟨[]⟩,none⟩,none,false⟩,⟨⟨(some 164),.move (.tmp 20),3,"",⟨[]⟩,none⟩,some ((some 163),true),false⟩,⟨⟨(some 165),.move (.tmp 22),3,"",⟨[]⟩,none⟩,some ((some 163),true),false⟩,⟨⟨(some 166),.binOp .sub 3 (.tmp 164) (.tmp 165) 3,3,"",⟨[]⟩,none⟩,some ((some 163),true),false⟩,⟨⟨(some 167),.move (.tmp 18),3,"",⟨[]⟩,none⟩,some ((some 163),true),false⟩,⟨⟨(some 168),.move (.tmp 3),3,"",⟨[]⟩,none⟩,some ((some 163),true),false⟩,⟨⟨(some 169),.binOp .add 3 (.tmp 167) (.tmp 168) 3,3,"",⟨[]⟩,none⟩,some ((some 163),true),false⟩,⟨⟨(some 170),.binOp .eql 3 (.tmp 166) (.tmp 169) 3,4,"",⟨[]⟩,none⟩,some ((some 163),true),false⟩,⟨⟨(some 171),.pick (.tmp 163) (.tmp 170) (.const (.bool false)),4,"",⟨[]⟩,none⟩,none,false⟩,⟨⟨(some 172),.move (.tmp 171),4,"",⟨[]⟩,none⟩,none,false⟩,⟨⟨(some 173),.call ⟨.value (.func 21),⟨[]⟩,⟨[]⟩⟩,4,"",⟨[]⟩,none⟩,some ((some 172),true),false⟩,⟨⟨(some 174),.pick (.tmp 172) (.tmp 173) (.const (.bool false)),4,"",⟨[]⟩,none⟩,none,false⟩,⟨⟨(some 8),.assign (.tmp 174),4,"",⟨[]⟩,none⟩,none,false⟩]) .ret)))))))))
def Tryz.s7L : SC := (.seq (.ops false [⟨⟨(some 4),.box 24 (.tmp 0),0,"",⟨[]⟩,none⟩,none,false⟩,⟨⟨(some 8),.assign (.const (.bool false)),4,"",⟨[]⟩,none⟩,none,false⟩]) (.seq (.ops false [⟨⟨(some 25),.fieldAddr 24 (.tmp 4) 0,0,"",⟨[]⟩,none⟩,none,false⟩,⟨⟨(some 26),.load 22 (.tmp 25),22,"",⟨[]⟩,none⟩,none,false⟩,⟨⟨(some 27),.move (.tmp 2),22,"",⟨[]⟩,none⟩,none,false⟩,⟨⟨(some 28),.fieldAddr 24 (.tmp 4) 1,0,"",⟨[]⟩,none⟩,none,false⟩,⟨⟨(some 29),.load 22 (.tmp 28),22,"",⟨[]⟩,none⟩,none,false⟩,⟨⟨(some 30),.call ⟨.value (.func 39),⟨[(.tmp 26),(.tmp 27),(.tmp 29)]⟩,⟨[22,22,22]⟩⟩,66,"",⟨[]⟩,none⟩,none,false⟩,⟨⟨(some 24),.move (.tmp 30),66,"",⟨[]⟩,none⟩,none,false⟩,⟨⟨(some 31),.extract (.tmp 24) 0,3,"",⟨[]⟩,none⟩,none,false⟩,⟨⟨(some 32),.extract (.tmp 24) 1,4,"",⟨[]⟩,none⟩,none,false⟩,⟨⟨(some 9),.assign (.tmp 31),3,"",⟨[]⟩,none⟩,none,false⟩,⟨⟨(some 10),.assign (.tmp 32),4,"",⟨[]⟩,none⟩,none,false⟩]) (.seq (.ops false [⟨⟨(some 34),.load 24 (.tmp 4),24,"",⟨[]⟩,none⟩,none,false⟩,⟨⟨(some 35),.move (.tmp 9),3,"",⟨[]⟩,none⟩,none,false⟩,⟨⟨(some 36),.call ⟨.value (.func 14),⟨[(.tmp 34),(.tmp 35)]⟩,⟨[24,3]⟩⟩,27,"",⟨[]⟩,none⟩,none,false⟩,⟨⟨(some 33),.move (.tmp 36),27,"",⟨[]⟩,none⟩,none,false⟩,⟨⟨(some 37),.extract (.tmp 33) 0,22,"",⟨[]⟩,none⟩,none,false⟩,⟨⟨(some 38),.extract (.tmp 33) 1,26,"",⟨[]⟩,none⟩,none,false⟩,⟨⟨(some 11),.assign (.tmp 37),22,"",⟨[]⟩,none⟩,none,false⟩,⟨⟨(some 12),.assign (.tmp 38),26,"",⟨[]⟩,none⟩,none,false⟩]) (.seq (.seq (.ops false [⟨⟨(some 39),.move (.tmp 10),4,"",⟨[]⟩,none⟩,none,false⟩,⟨⟨(some 40),.move (.tmp 39),4,"",⟨[]⟩,none⟩,none,false⟩,⟨⟨(some 41),.move (.tmp 9),3,"",⟨[]⟩,none⟩,some ((some 40),true),false⟩,⟨⟨(some 42),.call ⟨.value (.func 40),⟨[(.const (.int .i64 0)),(.tmp 41),(.const (.int .i64 2000))]⟩,⟨[3,3,3]⟩⟩,4,"",⟨[]⟩,none⟩,some ((some 40),true),false⟩,⟨⟨(some 43),.pick (.tmp 40) (.tmp 42) (.const (.bool false)),4,"",⟨[]⟩,none⟩,none,false⟩,⟨⟨(some 44),.move (.tmp 43),4,"",⟨[]⟩,none⟩,none,false⟩,⟨⟨(some 45),.load 24 (.tmp 4),24,"",⟨[]⟩,none⟩,some ((some 44),true),false⟩,⟨⟨(some 46),.call ⟨.value (.func 17),⟨[(.tmp 45)]⟩,⟨[24]⟩⟩,26,"",⟨[]⟩,none⟩,some ((some 44),true),false⟩,⟨⟨(some 47),.binOp .eql 26 (.tmp 46) (.const (.int .i64 0)) 26,4,"",⟨[]⟩,none⟩,some ((some 44),true),false⟩,⟨⟨(some 48),.pick (.tmp 44) (.tmp 47) (.const (.bool false)),4,"",⟨[]⟩,none⟩,none,false⟩]) (.cond (.tmp 48) (.seq (.ops false [⟨⟨(some 50),.fieldAddr 24 (.tmp 4) 0,0,"",⟨[]⟩,none⟩,none,false⟩,⟨⟨(some 51),.load 22 (.tmp 50),22,"",⟨[]⟩,none⟩,none,false⟩,⟨⟨(some 52),.move (.tmp 11),22,"",⟨[]⟩,none⟩,none,false⟩,⟨⟨(some 53),.fieldAddr 24 (.tmp 4) 1,0,"",⟨[]⟩,none⟩,none,false⟩,⟨⟨(some 54),.load 22 (.tmp 53),22,"",⟨[]⟩,none⟩,none,false⟩,⟨⟨(some 55),.call ⟨.value (.func 39),⟨[(.tmp 51),(.tmp 52),(.tmp 54)]⟩,⟨[22,22,22]⟩⟩,66,"",⟨[]⟩,none⟩,none,false⟩,⟨⟨(some 49),.move (.tmp 55),66,"",⟨[]⟩,none⟩,none,false⟩,⟨⟨(some 56),.extract (.tmp 49) 0,3,"",⟨[]⟩,none⟩,none,false⟩,⟨⟨(some 57),.extract (.tmp 49) 1,4,"",⟨[]⟩,none⟩,none,false⟩,⟨⟨(some 13),.assign (.tmp 56),3,"",⟨[]⟩,none⟩,none,false⟩,⟨⟨(some 14),.assign (.tmp 57),4,"",⟨[]⟩,none⟩,none,false⟩]) (.seq (.ops false [⟨⟨(some 58),.move (.tmp 12),26,"",⟨[]⟩,none⟩,none,false⟩,⟨⟨(some 59),.binOp .neq 26 (.tmp 58) (.const (.int .i64 0)) 26,4,"",⟨[]⟩,none⟩,none,false⟩,⟨⟨(some 60),.move (.tmp 59),4,"",⟨[]⟩,none⟩,none,false⟩,⟨⟨(some 61),.move (.tmp 14),4,"",⟨[]⟩,none⟩,some ((some 60),false),false⟩,⟨⟨(some 62),.unOp .not 4 (.tmp 61),4,"",⟨[]⟩,none⟩,some ((some 60),false),false⟩,⟨⟨(some 63),.pick (.tmp 60) (.const (.bool true)) (.tmp 62),4,"",⟨[]⟩,none⟩,none,false⟩,⟨⟨(some 64),.move (.tmp 63),4,"",⟨[]⟩,none⟩,none,false⟩,⟨⟨(some 65),.move (.tmp 13),3,"",⟨[]⟩,none⟩,some ((some 64),false),false⟩,⟨⟨(some 66),.move (.tmp 9),3,"",⟨[]⟩,none⟩,some ((some 64),false),false⟩,⟨⟨(some 67),.binOp .neq 3 (.tmp 65) (.tmp 66) 3,4,"",⟨[]⟩,none⟩,some ((some 64),false),false⟩,⟨⟨(some 68),.pick (.tmp 64) (.const (.bool true)) (.tmp 67),4,"",⟨[]⟩,none⟩,none,false⟩,⟨⟨(some 69),.move (.tmp 68),4,"",⟨[]⟩,none⟩,none,false⟩,⟨⟨(some 70),.move (.tmp 11),22,"",⟨[]⟩,none⟩,some ((some 69),false),false⟩,⟨⟨(some 71),.call ⟨.value (.func 41),⟨[(.tmp 70)]⟩,⟨[22]⟩⟩,3,"",⟨[]⟩,none⟩,some ((some 69),false),false⟩,⟨⟨(some 72),.move (.tmp 2),22,"",⟨[]⟩,none⟩,some ((some 69),false),false⟩,⟨⟨(some 73),.call ⟨.value (.func 41),⟨[(.tmp 72)]⟩,⟨[22]⟩⟩,3,"",⟨[]⟩,none⟩,some ((some 69),false),false⟩,⟨⟨(some 74),.binOp .gtr 3 (.tmp 71) (.tmp 73) 3,4,"",⟨[]⟩,none⟩,some ((some 69),false),false⟩,⟨⟨(some 75),.pick (.tmp 69) (.const (.bool true)) (.tmp 74),4,"",⟨[]⟩,none⟩,none,false⟩,⟨⟨(some 76),.move (.tmp 75),4,"",⟨[]⟩,none⟩,none,false⟩,⟨⟨(some 77),.move (.tmp 11),22,"",⟨[]⟩,none⟩,some ((some 76),false),false⟩,⟨⟨(some 78),.call ⟨.value (.func 41),⟨[(.tmp 77)]⟩,⟨[22]⟩⟩,3,"",⟨[]⟩,none⟩,some ((some 76),false),false⟩,⟨⟨(some 79),.move (.tmp 2),22,"",⟨[]⟩,none⟩,some ((some 76),false),false⟩,⟨⟨(some 80),.call ⟨.value (.func 41),⟨[(.tmp 79)]⟩,⟨[22]⟩⟩,3,"",⟨[]⟩,none⟩,some ((some 76),false),false⟩,⟨⟨(some 81),.binOp .eql 3 (.tmp 78) (.tmp 80) 3,4,"",⟨[]⟩,none⟩,some ((some 76),false),false⟩,⟨⟨(some 82),.move (.tmp 81),4,"",⟨[]⟩,none⟩,some ((some 76),false),false⟩,⟨⟨(some 83),.move (.tmp 11),22,"",⟨[]⟩,none⟩,some ((some 82),true),false⟩,⟨⟨(some 84),.move (.tmp 2),22,"",⟨[]⟩,none⟩,some ((some 82),true),false⟩,⟨⟨(some 85),.call ⟨.value (.func 42),⟨[(.tmp 83),(.tmp 84)]⟩,⟨[22,22]⟩⟩,4,"",⟨[]⟩,none⟩,some ((some 82),true),false⟩,⟨⟨(some 86),.pick (.tmp 82) (.tmp 85) (.const (.bool false)),4,"",⟨[]⟩,none⟩,some ((some 76),false),false⟩,⟨⟨(some 87),.pick (.tmp 76) (.const (.bool true)) (.tmp 86),4,"",⟨[]⟩,none⟩,none,false⟩]) (.cond (.tmp 87) (.seq (.ops false [⟨⟨(some 8),.assign (.const (.bool false)),4,"",⟨[]⟩,none⟩,none,false⟩]) .ret) .skip))) .skip)) Tryz.s7_c89))))
theorem Tryz.s7L_eq : Tryz.f7.body.map sOf = some Tryz.s7L := by kernel_rfl
end Go.Proofs

namespace Go.Proofs
open Go Go.RowKit Go.Sim
set_option maxRecDepth 100000
theorem fine_zip {C H : List Int} (d : DIn C H) : Fine (C.zip H) := by
  intro x hx
  obtain ⟨i, hi, rfl⟩ := List.getElem_of_mem hx
  rw [List.length_zip] at hi
  simp only [List.getElem_zip]
  exact ⟨(d.c _ (List.getElem_mem _)).1, (d.h _ (List.getElem_mem _)).1⟩
theorem pay_is {C H : List Int} (d : DIn C H) {s : Int} (h0 : 0 ≤ s) (hb : (bestV (C.zip H) s).2 < 1048576) : (payL (C.zip H) s C.length).length = C.length ∧ valB C (payL (C.zip H) s C.length) H = true ∧ worth C (payL (C.zip H) s C.length) C.length = s ∧ (payL (C.zip H) s C.length).sum = (bestV (C.zip H) s).2 ∧ ∀ x ∈ payL (C.zip H) s C.length, 0 ≤ x ∧ x ≤ 100 := by
  have hz : (C.zip H).length = C.length := by rw [List.length_zip, d.len, Nat.min_self]
  have hp := payL_payR (C.zip H) s
  rw [hz] at hp
  obtain ⟨h1, h2⟩ := payR_is (fine_zip d) h0 hb
  rw [hp]
  obtain ⟨a1, a2, a3⟩ := h1.out d.len
  have hH : ∀ i, i < C.length → 0 ≤ H.getD i 0 ∧ H.getD i 0 ≤ 100 := fun i hi => by
    have hi' : i < H.length := by rw [d.len]; exact hi
    rw [getD_of hi']; exact d.h _ (List.getElem_mem hi')
  refine ⟨a1, ?_, by rw [← a1]; exact a2.symm, h2, fun x hx => ?_⟩
  · unfold valB okTo
    rw [Bool.and_eq_true, List.all_eq_true, decide_eq_true_eq]
    refine ⟨fun i hi => ?_, a1⟩
    rw [List.mem_range] at hi
    have hiC : i < C.length := by omega
    have hc := d.c _ (List.getElem_mem hiC)
    have b := a3 i hi
    have hh := hH i hiC
    unfold okAt
    rw [decide_eq_true hiC, decide_eq_true (by rw [d.len]; exact hiC : i < H.length), (inR_iff _ _ _).2 b, (inR_iff _ _ _).2 (by rw [getD_of hiC]; exact hc), decide_eq_true (by omega : (payR (C.zip H) s).getD i 0 ≤ 100)]
    rfl
  · obtain ⟨i, hi, rfl⟩ := List.getElem_of_mem hx
    have b := a3 i hi
    have hh := hH i (by omega)
    rw [getD_of hi] at b
    omega
theorem payE_in {C H : List Int} {s : Int} (h : payE C H s = 0) : 0 ≤ s ∧ s ≤ 2000 ∧ (bestV (C.zip H) s).2 < 1048576 := by
  unfold payE at h
  cases hr : inR 0 s 2000 with
  | false => rw [if_pos hr] at h; cases h
  | true =>
    rw [if_neg (by rw [hr]; simp)] at h
    have := (inR_iff _ _ _).1 hr
    split at h
    · cases h
    · rename_i q
      have := bestV_in (C.zip H) s
      omega
theorem changeE_in {C H G : List Int} {P : Int} (h : changeE C H G P = 0) : drawE C H = 0 ∧ haveB C G = true ∧ 0 ≤ P ∧ payE C (both H G G.length) (worth C G G.length - P) = 0 := by
  unfold changeE at h
  by_cases h1 : drawE C H = 0
  · rw [if_neg (by rw [h1]; simp)] at h
    cases h2 : haveB C G with
    | false => rw [if_pos h2] at h; cases h
    | true =>
      rw [if_neg (by rw [h2]; simp)] at h
      by_cases h3 : P < 0
      · rw [if_pos h3] at h; cases h
      · rw [if_neg h3] at h
        split at h
        · cases h
        · exact ⟨h1, rfl, by omega, h⟩
  · rw [if_pos h1] at h; exact absurd h h1
theorem worth_both (C H G : List Int) (N : Nat) : ∀ n, n ≤ N → worth C (both H G N) n = worth C H n + worth C G n
  | 0, _ => by simp [worth]
  | n + 1, h => by
    rw [worth_step, worth_step, worth_step, worth_both C H G N n (by omega)]
    have : (both H G N).getD n 0 = H.getD n 0 + G.getD n 0 := by
      rw [getD_of (by rw [both_len]; omega)]
      unfold both; simp
    rw [this, Int.add_mul]; omega
theorem val_self {C H : List Int} (d : DIn C H) : valB C H H = true := by
  unfold valB okTo
  rw [Bool.and_eq_true, List.all_eq_true, decide_eq_true_eq]
  refine ⟨fun i hi => ?_, d.len⟩
  rw [List.mem_range] at hi
  have hiC : i < C.length := by rw [← d.len]; exact hi
  have hc := d.c _ (List.getElem_mem hiC)
  have hh := d.h _ (List.getElem_mem hi)
  unfold okAt
  rw [decide_eq_true hiC, decide_eq_true hi, (inR_iff _ _ _).2 (by rw [getD_of hi]; omega), (inR_iff _ _ _).2 (by rw [getD_of hiC]; exact hc), decide_eq_true (by rw [getD_of hi]; omega)]
  rfl
set_option maxHeartbeats 16000000 in
theorem rest_ok (C H G : List Int) (P : Int) (hP : P ≤ 9223372036854775807) (p q pg : Option Addr) (cC cH cG : Nat) (w : AW) (hC : ArrOf w 1 icells (.slice p C.length cC) C) (hH : ArrOf w 1 icells (.slice q H.length cH) H) (hG : ArrOf w 1 icells (.slice pg G.length cG) G) (b : Nat) (t : Tmps) (w2 : AW) (g2 : Grown w w2) (O2 : Own w2 b 24 [.slice p C.length cC, .slice q H.length cH])
    (e4 : ev t (.tmp 4) = .pointer (some ⟨b, 0, none⟩)) (e1 : ev t (.tmp 1) = .slice pg G.length cG) (e3 : ev t (.tmp 3) = .int .i64 P) :
    CodeR Tryz.prog Tryz.T1 { fn := 7, round := none } Tryz.s7_c89 t [] w2 (fun e t ds w' => Sim.Left (P := Tryz.prog) Tryz.f7.results.toList e t ds w' fun v _ => v = .bool true) .mk := by
  have d0 := O2.cell (o := 0) rfl rfl
  have d1 := O2.cell (o := 1) rfl rfl
  unfold Tryz.s7_c89
  simp -dsimp -implicitDefEqProofs (maxSteps := 2000000) (disch := first | assumption | omega | (simp only [nx]; omega) | ((repeat refine Fresh.push ?_ _); assumption) | (simp only [smA]; done) | (simp [oneCell, AW.next_push]; done) | fail) only [go_sem, Nat.reduceEqDiff, reduceIte, Nat.reduceAdd, Int.toNat_natCast, Nat.add_zero, Owes_true, e4, e1, e3, Nat.zero_add, d0, d1]
  apply callV_of (e := rfl)
  · exact Change_ok C H G _ _ _ P hP w2 g2.2 (hC.grown g2) (hH.grown g2) (hG.grown g2)
  rintro _ w3 ⟨v, rfl, hc0, hc1, hg3⟩
  by_cases hE : changeE C H G P = 0
  case neg =>
    obtain rfl := hc1 hE
    have hed : decide (changeE C H G P = 0) = false := decide_eq_false hE
    have hz0 : decide ((((0 : Nat)) : Int) = 0) = true := rfl
    simp -dsimp -implicitDefEqProofs (maxSteps := 2000000) (disch := first | assumption | omega | (simp only [nx]; omega) | ((repeat refine Fresh.push ?_ _); assumption) | (simp only [smA]; done) | (simp [oneCell, AW.next_push]; done) | fail) only [go_sem, Nat.reduceEqDiff, reduceIte, Nat.reduceAdd, Int.toNat_natCast, Nat.add_zero, Owes_true, hed, hz0]
    apply callV_of (e := rfl)
    · exact callT_told (Q := fun v w' => v = .bool true ∧ w3 = w') (v := .bool true) (w' := w3) rfl ⟨rfl, rfl⟩
    rintro _ _ ⟨rfl, rfl⟩
    simp -dsimp -implicitDefEqProofs (maxSteps := 2000000) (disch := first | assumption | omega | (simp only [nx]; omega) | ((repeat refine Fresh.push ?_ _); assumption) | (simp only [smA]; done) | (simp [oneCell, AW.next_push]; done) | fail) only [go_sem, Nat.reduceEqDiff, reduceIte, Nat.reduceAdd, Int.toNat_natCast, Nat.add_zero, Owes_true, Tryz.results7]
  have hed : decide (changeE C H G P = 0) = true := decide_eq_true hE
  have hA := hc0 hE
  obtain ⟨hdr, hbg, hp0, hpe⟩ := changeE_in hE
  obtain ⟨d, h8⟩ := drawE_in hdr
  have hGl := (haveB_in hbg).1
  have hHl := d.len
  have db := both_in hdr hbg
  obtain ⟨s0, s1, sb⟩ := payE_in hpe
  obtain ⟨i1, i2, i3, i4, i5⟩ := pay_is db s0 sb
  have hw1 := val_self d
  have hw2 := val_self db
  have O3 := O2.keep hg3.1
  have f0 := O3.cell (o := 0) rfl rfl
  have f1 := O3.cell (o := 1) rfl rfl
  have hdl1 : decide ((G.length : Int) = (H.length : Int)) = true := decide_eq_true (by omega)
  have hdl2 : decide ((G.length : Int) = (C.length : Int)) = true := decide_eq_true (by omega)
  have g3 := g2.trans hg3
  generalize payL (C.zip (both H G G.length)) (worth C G G.length - P) C.length = X at *
  obtain ⟨px, cx, rfl, _⟩ := id hA.open
  simp -dsimp -implicitDefEqProofs (maxSteps := 2000000) (disch := first | assumption | omega | (simp only [nx]; omega) | ((repeat refine Fresh.push ?_ _); assumption) | (simp only [smA]; done) | (simp [oneCell, AW.next_push]; done) | fail) only [go_sem, Nat.reduceEqDiff, reduceIte, Nat.reduceAdd, Int.toNat_natCast, Nat.add_zero, Owes_true, hed, e4, e1, e3, Nat.zero_add, f0, f1, hdl1, hdl2]
  refine loopR (fun k t ds w4 => ∃ i : Nat, i ≤ G.length ∧ k = G.length - i ∧ ds = [] ∧ ev t (.tmp 1) = .slice pg G.length cG ∧ ev t (.tmp 3) = .int .i64 P ∧ ev t (.tmp 4) = .pointer (some ⟨b, 0, none⟩) ∧ ev t (.tmp 15) = .slice px X.length cx ∧ ev t (.tmp 17) = .int .i64 (i : Int) ∧ (∃ u4, ev t (.tmp 16) = u4 ∧ AOwn w3.next w4 3 1 u4 (both H G i).length ((both H G i).flatMap icells)) ∧ Keep w3.next w3 w4 ∧ Fresh w4) (G.length) ?_ ?_
  · refine ⟨0, by omega, by omega, rfl, ?_, ?_, ?_, ?_, ?_, ⟨_, (by simp -dsimp -implicitDefEqProofs (maxSteps := 2000000) (disch := first | assumption | omega | (simp only [nx]; omega) | ((repeat refine Fresh.push ?_ _); assumption) | (simp only [smA]; done) | (simp [oneCell, AW.next_push]; done) | fail) only [go_sem, Nat.reduceEqDiff, reduceIte, Nat.reduceAdd, Int.toNat_natCast, Nat.add_zero, Owes_true]; try rfl), .inl ⟨rfl, rfl, rfl⟩⟩, Keep.refl _ _, g3.2⟩ <;> simp -dsimp -implicitDefEqProofs (maxSteps := 2000000) (disch := first | assumption | omega | (simp only [nx]; omega) | ((repeat refine Fresh.push ?_ _); assumption) | (simp only [smA]; done) | (simp [oneCell, AW.next_push]; done) | fail) only [go_sem, Nat.reduceEqDiff, reduceIte, Nat.reduceAdd, Int.toNat_natCast, Nat.add_zero, Owes_true, e4, e1, e3] <;> rfl
  rintro k t ds w4 ⟨i, hii, rfl, rfl, e1, e3, e4, e15, e17, hT, hk4, hf4⟩
  obtain ⟨u4, e16, hA4⟩ := hT
  have hnn4 := hk4.next
  have g4 : Grown w w4 := g3.trans ⟨hk4, hf4⟩
  have O4 := O3.keep hk4
  have y0 := O4.cell (o := 0) rfl rfl
  have y1 := O4.cell (o := 1) rfl rfl
  obtain ⟨pu, nu, ku, rfl⟩ := AOwn.slice hA4
  by_cases hlt : (i : Int) < (G.length : Int)
  case pos =>
    have hlt' : i < G.length := by omega
    have hiH : i < H.length := by omega
    have hiH' : (i : Int) < (H.length : Int) := by omega
    obtain ⟨pH, ch, eH, _, _, hatH⟩ := hH.open
    injection eH with eH1 eH2 eH3
    subst eH1
    obtain ⟨pG, cg, eG, _, _, hatG⟩ := hG.open
    injection eG with eG1 eG2 eG3
    subst eG1
    obtain ⟨bH, oH, rfl, hbH, hcH⟩ := hatH i hiH
    obtain ⟨bG, oG, rfl, hbG, hcG⟩ := hatG i hlt'
    have aH := hcH _ g4.1 0 _ rfl
    have aG := hcG _ g4.1 0 _ rfl
    simp only [Nat.add_zero] at aH aG
    have hbs := both_succ (H := H) (G := G) hiH hlt'
    have hgi := (haveB_in hbg).2 _ (List.getElem_mem hlt')
    have hhi := d.h _ (List.getElem_mem hiH)
    obtain ⟨u5, w5, happ, hA5, hk5, hf5, hn5, _⟩ := append_one (e' := 3) Tryz.ty22 Tryz.ty3 rfl (by omega) (by omega) hA4 hf4 (by omega) (icells_len (H[i] + G[i])) (icells_one _) (by rw [both_len]; omega)
    simp only [icells] at happ
    obtain ⟨pv, nv, kv, rfl⟩ := AOwn.slice hA5
    generalize G[i] = gi at *
    generalize H[i] = hi0 at *
    simp -dsimp -implicitDefEqProofs (maxSteps := 2000000) (disch := first | assumption | omega | (simp only [nx]; omega) | ((repeat refine Fresh.push ?_ _); assumption) | (simp only [smA]; done) | (simp [oneCell, AW.next_push]; done) | fail) only [go_sem, Nat.reduceEqDiff, reduceIte, Nat.reduceAdd, Int.toNat_natCast, Nat.add_zero, Owes_true, e1, e3, e4, e15, e16, e17, hlt, hiH', indexV_eq, aH, aG, y0, y1, Nat.zero_add, happ]
    refine ⟨_, by omega, i + 1, by omega, rfl, rfl, by (simp -dsimp -implicitDefEqProofs (maxSteps := 2000000) (disch := first | assumption | omega | (simp only [nx]; omega) | ((repeat refine Fresh.push ?_ _); assumption) | (simp only [smA]; done) | (simp [oneCell, AW.next_push]; done) | fail) only [go_sem, Nat.reduceEqDiff, reduceIte, Nat.reduceAdd, Int.toNat_natCast, Nat.add_zero, Owes_true, e1]; try rfl), by (simp -dsimp -implicitDefEqProofs (maxSteps := 2000000) (disch := first | assumption | omega | (simp only [nx]; omega) | ((repeat refine Fresh.push ?_ _); assumption) | (simp only [smA]; done) | (simp [oneCell, AW.next_push]; done) | fail) only [go_sem, Nat.reduceEqDiff, reduceIte, Nat.reduceAdd, Int.toNat_natCast, Nat.add_zero, Owes_true, e3]; try rfl), by (simp -dsimp -implicitDefEqProofs (maxSteps := 2000000) (disch := first | assumption | omega | (simp only [nx]; omega) | ((repeat refine Fresh.push ?_ _); assumption) | (simp only [smA]; done) | (simp [oneCell, AW.next_push]; done) | fail) only [go_sem, Nat.reduceEqDiff, reduceIte, Nat.reduceAdd, Int.toNat_natCast, Nat.add_zero, Owes_true, e4]; try rfl), by (simp -dsimp -implicitDefEqProofs (maxSteps := 2000000) (disch := first | assumption | omega | (simp only [nx]; omega) | ((repeat refine Fresh.push ?_ _); assumption) | (simp only [smA]; done) | (simp [oneCell, AW.next_push]; done) | fail) only [go_sem, Nat.reduceEqDiff, reduceIte, Nat.reduceAdd, Int.toNat_natCast, Nat.add_zero, Owes_true, e15]; try rfl), by (simp -dsimp -implicitDefEqProofs (maxSteps := 2000000) (disch := first | assumption | omega | (simp only [nx]; omega) | ((repeat refine Fresh.push ?_ _); assumption) | (simp only [smA]; done) | (simp [oneCell, AW.next_push]; done) | fail) only [go_sem, Nat.reduceEqDiff, reduceIte, Nat.reduceAdd, Int.toNat_natCast, Nat.add_zero, Owes_true, e17]; try rfl), ⟨_, (by simp -dsimp -implicitDefEqProofs (maxSteps := 2000000) (disch := first | assumption | omega | (simp only [nx]; omega) | ((repeat refine Fresh.push ?_ _); assumption) | (simp only [smA]; done) | (simp [oneCell, AW.next_push]; done) | fail) only [go_sem, Nat.reduceEqDiff, reduceIte, Nat.reduceAdd, Int.toNat_natCast, Nat.add_zero, Owes_true]; try rfl), (by rw [hbs, List.length_append, List.flatMap_append]; exact hA5)⟩, hk4.trans hk5, hf5⟩
  obtain rfl : i = G.length := by omega
  have hAr := hA4.arr icells_len (by rw [both_len]; omega)
  simp -dsimp -implicitDefEqProofs (maxSteps := 2000000) (disch := first | assumption | omega | (simp only [nx]; omega) | ((repeat refine Fresh.push ?_ _); assumption) | (simp only [smA]; done) | (simp [oneCell, AW.next_push]; done) | fail) only [go_sem, Nat.reduceEqDiff, reduceIte, Nat.reduceAdd, Int.toNat_natCast, Nat.add_zero, Owes_true, e1, e3, e4, e15, e16, e17, hlt, y0, y1, Nat.zero_add]
  have hA4' := hA.grown ⟨hk4, hf4⟩
  apply callV_of (e := rfl)
  · exact value_ok C H H _ _ _ w4 (hC.grown g4) (hH.grown g4) (hH.grown g4)
  rintro _ _ ⟨rfl, n1, rfl, hv1⟩
  have hv1 := hv1 hw1 (by omega)
  simp -dsimp -implicitDefEqProofs (maxSteps := 2000000) (disch := first | assumption | omega | (simp only [nx]; omega) | ((repeat refine Fresh.push ?_ _); assumption) | (simp only [smA]; done) | (simp [oneCell, AW.next_push]; done) | fail) only [go_sem, Nat.reduceEqDiff, reduceIte, Nat.reduceAdd, Int.toNat_natCast, Nat.add_zero, Owes_true, e1, e3, e4, e15, e16, e17, y0, y1, Nat.zero_add]
  apply callV_of (e := rfl)
  · exact value_ok C (both H G G.length) (both H G G.length) _ _ _ w4 (hC.grown g4) hAr hAr
  rintro _ _ ⟨rfl, n2, rfl, hv2⟩
  have hv2 := hv2 hw2 (by rw [both_len]; omega)
  simp -dsimp -implicitDefEqProofs (maxSteps := 2000000) (disch := first | assumption | omega | (simp only [nx]; omega) | ((repeat refine Fresh.push ?_ _); assumption) | (simp only [smA]; done) | (simp [oneCell, AW.next_push]; done) | fail) only [go_sem, Nat.reduceEqDiff, reduceIte, Nat.reduceAdd, Int.toNat_natCast, Nat.add_zero, Owes_true, e1, e3, e4, e15, e16, e17, y0, y1, Nat.zero_add]
  apply callV_of (e := rfl)
  · exact value_ok C X (both H G G.length) _ _ _ w4 (hC.grown g4) hA4' hAr
  rintro _ _ ⟨rfl, n3, rfl, hv3⟩
  have hv3 := hv3 i2 (by omega)
  rw [hw2, i2, hw1] at *
  have hwb := worth_both C H G G.length G.length (Nat.le_refl _)
  rw [both_len] at hv2
  rw [i1] at hv3
  have hH0 := worth_in (m := 100) d.c d.h (by omega) C.length (by omega) (by omega)
  have hG0 := worth_in (m := 50) d.c (haveB_in hbg).2 (by omega) C.length (by omega) (by omega)
  rw [hHl] at hv1
  rw [hGl] at hv2 hwb i3 s0 s1
  have hfin : n2 - n3 = n1 + P := by omega
  have hdf : decide (n2 - n3 = n1 + P) = true := decide_eq_true hfin
  have hb1 : -9223372036854775808 ≤ n2 - n3 ∧ n2 - n3 ≤ 9223372036854775807 := by omega
  have hb2 : -9223372036854775808 ≤ n1 + P ∧ n1 + P ≤ 9223372036854775807 := by omega
  have hw3 := wrap64 hb1.1 hb1.2
  have hw4 := wrap64 hb2.1 hb2.2
  simp -dsimp -implicitDefEqProofs (maxSteps := 2000000) (disch := first | assumption | omega | (simp only [nx]; omega) | ((repeat refine Fresh.push ?_ _); assumption) | (simp only [smA]; done) | (simp [oneCell, AW.next_push]; done) | fail) only [go_sem, Nat.reduceEqDiff, reduceIte, Nat.reduceAdd, Int.toNat_natCast, Nat.add_zero, Owes_true, e1, e3, e4, e15, e16, e17, hw3, hw4, hdf]
  apply callV_of (e := rfl)
  · exact callT_told (Q := fun v w' => v = .bool true ∧ w4 = w') (v := .bool true) (w' := w4) rfl ⟨rfl, rfl⟩
  rintro _ _ ⟨rfl, rfl⟩
  simp -dsimp -implicitDefEqProofs (maxSteps := 2000000) (disch := first | assumption | omega | (simp only [nx]; omega) | ((repeat refine Fresh.push ?_ _); assumption) | (simp only [smA]; done) | (simp [oneCell, AW.next_push]; done) | fail) only [go_sem, Nat.reduceEqDiff, reduceIte, Nat.reduceAdd, Int.toNat_natCast, Nat.add_zero, Owes_true, Tryz.results7]
end Go.Proofs

namespace Go.Proofs
open Go Go.RowKit Go.Sim
set_option maxRecDepth 100000
set_option maxHeartbeats 32000000 in
theorem fewest_law (w : AW) (xs : List Value) (f : Fresh w) (h : HdAll Tryz.prog w [24, 22, 22, 3] xs) : CallT Tryz.prog Tryz.T1 (.fn (.func 7) #[]) xs.toArray w fun v _ => v = .bool true := by
  cases h with
  | cons n1 h1 h =>
  cases h with
  | cons n2 h2 h =>
  cases h with
  | cons n3 h3 h =>
  cases h with
  | cons n4 h4 h =>
  cases h
  rename_i v1 v2 v3 v4
  obtain ⟨u, x, rfl, ⟨C, hC⟩, H, hH⟩ := given_drawer h1
  obtain ⟨G, hG⟩ := given_intsV h2
  obtain ⟨L, hL⟩ := given_intsV h3
  obtain ⟨P, rfl, hP0, hP1⟩ := given_num h4
  clear h1 h2 h3 h4
  obtain ⟨p, cC, rfl, _⟩ := id hC.open
  obtain ⟨q, cH, rfl, _⟩ := id hH.open
  obtain ⟨pg, cG, rfl, _⟩ := id hG.open
  obtain ⟨pl, cL, rfl, _⟩ := id hL.open
  show CallT Tryz.prog Tryz.T1 (.fn (.func 7) #[]) #[.agg #[.slice p C.length cC, .slice q H.length cH], .slice pg G.length cG, .slice pl L.length cL, .int .i64 P] w _
  have g1 := (Grown.refl f).push (.cells [.slice p C.length cC, .slice q H.length cH] 24 w.next 0 0)
  have O1 := Own.new f 24 [.slice p C.length cC, .slice q H.length cH]
  have c0 := O1.cell (o := 0) rfl rfl
  have c1 := O1.cell (o := 1) rfl rfl
  refine callT_code rfl Tryz.func7 rfl Tryz.s7L_eq rfl ?_
  unfold Tryz.s7L
  simp -dsimp -implicitDefEqProofs (maxSteps := 2000000) (disch := first | assumption | omega | (simp only [nx]; omega) | ((repeat refine Fresh.push ?_ _); assumption) | (simp only [smA]; done) | (simp [oneCell, AW.next_push]; done) | fail) only [go_sem, Nat.reduceEqDiff, reduceIte, Nat.reduceAdd, Int.toNat_natCast, Nat.add_zero, Owes_true, Tryz.results7, Nat.zero_add, c0, c1]
  apply callV_of (e := rfl)
  · exact value_ok C L H _ _ _ _ (hC.grown g1) (hL.grown g1) (hH.grown g1)
  rintro _ _ ⟨rfl, n, rfl, hval⟩
  simp -dsimp -implicitDefEqProofs (maxSteps := 2000000) (disch := first | assumption | omega | (simp only [nx]; omega) | ((repeat refine Fresh.push ?_ _); assumption) | (simp only [smA]; done) | (simp [oneCell, AW.next_push]; done) | fail) only [go_sem, Nat.reduceEqDiff, reduceIte, Nat.reduceAdd, Int.toNat_natCast, Nat.add_zero, Owes_true, Nat.zero_add, c0, c1]
  apply callV_of (e := rfl)
  · exact Pay_ok C H _ _ n _ g1.2 (hC.grown g1) (hH.grown g1)
  rintro _ w1 ⟨v, rfl, hv0, hv1, hg1⟩
  have gg := g1.trans hg1
  have O2 := O1.keep hg1.1
  have d0 := O2.cell (o := 0) rfl rfl
  have d1 := O2.cell (o := 1) rfl rfl
  have hsv : ∃ pv nv cv, v = .slice pv nv cv := by
    by_cases hz : PayE C H n = 0
    · obtain ⟨pv, cv, e, _⟩ := (hv0 hz).open; exact ⟨_, _, _, e⟩
    · exact ⟨_, _, _, hv1 hz⟩
  obtain ⟨pv, nv, cv, rfl⟩ := hsv
  cases hB : valB C L H with
  | false =>
    simp -dsimp -implicitDefEqProofs (maxSteps := 2000000) (disch := first | assumption | omega | (simp only [nx]; omega) | ((repeat refine Fresh.push ?_ _); assumption) | (simp only [smA]; done) | (simp [oneCell, AW.next_push]; done) | fail) only [go_sem, Nat.reduceEqDiff, reduceIte, Nat.reduceAdd, Int.toNat_natCast, Nat.add_zero, Owes_true, Nat.zero_add, d0, d1, hB]
    exact rest_ok C H G P hP1 p q pg cC cH cG w hC hH hG w.next _ w1 gg O2 (by simp -dsimp -implicitDefEqProofs (maxSteps := 2000000) (disch := first | assumption | omega | (simp only [nx]; omega) | ((repeat refine Fresh.push ?_ _); assumption) | (simp only [smA]; done) | (simp [oneCell, AW.next_push]; done) | fail) only [go_sem, Nat.reduceEqDiff, reduceIte, Nat.reduceAdd, Int.toNat_natCast, Nat.add_zero, Owes_true]; try rfl) (by simp -dsimp -implicitDefEqProofs (maxSteps := 2000000) (disch := first | assumption | omega | (simp only [nx]; omega) | ((repeat refine Fresh.push ?_ _); assumption) | (simp only [smA]; done) | (simp [oneCell, AW.next_push]; done) | fail) only [go_sem, Nat.reduceEqDiff, reduceIte, Nat.reduceAdd, Int.toNat_natCast, Nat.add_zero, Owes_true]; try rfl) (by simp -dsimp -implicitDefEqProofs (maxSteps := 2000000) (disch := first | assumption | omega | (simp only [nx]; omega) | ((repeat refine Fresh.push ?_ _); assumption) | (simp only [smA]; done) | (simp [oneCell, AW.next_push]; done) | fail) only [go_sem, Nat.reduceEqDiff, reduceIte, Nat.reduceAdd, Int.toNat_natCast, Nat.add_zero, Owes_true]; try rfl)
  | true =>
  have hE := hB
  unfold valB at hE
  rw [Bool.and_eq_true, decide_eq_true_eq] at hE
  have hoks := hE.1
  have hLl := hE.2
  simp -dsimp -implicitDefEqProofs (maxSteps := 2000000) (disch := first | assumption | omega | (simp only [nx]; omega) | ((repeat refine Fresh.push ?_ _); assumption) | (simp only [smA]; done) | (simp [oneCell, AW.next_push]; done) | fail) only [go_sem, Nat.reduceEqDiff, reduceIte, Nat.reduceAdd, Int.toNat_natCast, Nat.add_zero, Owes_true, Nat.zero_add, d0, d1, hB]
  apply callV_of (e := rfl)
  · exact From_ok 0 n 2000 w1
  rintro _ _ ⟨rfl, rfl⟩
  cases hr : inR 0 n 2000 with
  | false =>
    simp -dsimp -implicitDefEqProofs (maxSteps := 2000000) (disch := first | assumption | omega | (simp only [nx]; omega) | ((repeat refine Fresh.push ?_ _); assumption) | (simp only [smA]; done) | (simp [oneCell, AW.next_push]; done) | fail) only [go_sem, Nat.reduceEqDiff, reduceIte, Nat.reduceAdd, Int.toNat_natCast, Nat.add_zero, Owes_true, hr]
    exact rest_ok C H G P hP1 p q pg cC cH cG w hC hH hG w.next _ w1 gg O2 (by simp -dsimp -implicitDefEqProofs (maxSteps := 2000000) (disch := first | assumption | omega | (simp only [nx]; omega) | ((repeat refine Fresh.push ?_ _); assumption) | (simp only [smA]; done) | (simp [oneCell, AW.next_push]; done) | fail) only [go_sem, Nat.reduceEqDiff, reduceIte, Nat.reduceAdd, Int.toNat_natCast, Nat.add_zero, Owes_true]; try rfl) (by simp -dsimp -implicitDefEqProofs (maxSteps := 2000000) (disch := first | assumption | omega | (simp only [nx]; omega) | ((repeat refine Fresh.push ?_ _); assumption) | (simp only [smA]; done) | (simp [oneCell, AW.next_push]; done) | fail) only [go_sem, Nat.reduceEqDiff, reduceIte, Nat.reduceAdd, Int.toNat_natCast, Nat.add_zero, Owes_true]; try rfl) (by simp -dsimp -implicitDefEqProofs (maxSteps := 2000000) (disch := first | assumption | omega | (simp only [nx]; omega) | ((repeat refine Fresh.push ?_ _); assumption) | (simp only [smA]; done) | (simp [oneCell, AW.next_push]; done) | fail) only [go_sem, Nat.reduceEqDiff, reduceIte, Nat.reduceAdd, Int.toNat_natCast, Nat.add_zero, Owes_true]; try rfl)
  | true =>
  simp -dsimp -implicitDefEqProofs (maxSteps := 2000000) (disch := first | assumption | omega | (simp only [nx]; omega) | ((repeat refine Fresh.push ?_ _); assumption) | (simp only [smA]; done) | (simp [oneCell, AW.next_push]; done) | fail) only [go_sem, Nat.reduceEqDiff, reduceIte, Nat.reduceAdd, Int.toNat_natCast, Nat.add_zero, Owes_true, hr, Nat.zero_add, d0, d1]
  apply callV_of (e := rfl)
  · exact Check_ok C H _ _ w1 gg.2 (hC.grown gg) (hH.grown gg)
  rintro _ w2 ⟨rfl, hg2⟩
  have gg2 := gg.trans hg2
  have O3 := O2.keep hg2.1
  by_cases hD : drawE C H = 0
  case neg =>
    have hDd : decide (drawE C H = 0) = false := decide_eq_false hD
    simp -dsimp -implicitDefEqProofs (maxSteps := 2000000) (disch := first | assumption | omega | (simp only [nx]; omega) | ((repeat refine Fresh.push ?_ _); assumption) | (simp only [smA]; done) | (simp [oneCell, AW.next_push]; done) | fail) only [go_sem, Nat.reduceEqDiff, reduceIte, Nat.reduceAdd, Int.toNat_natCast, Nat.add_zero, Owes_true, hDd]
    exact rest_ok C H G P hP1 p q pg cC cH cG w hC hH hG w.next _ w2 gg2 O3 (by simp -dsimp -implicitDefEqProofs (maxSteps := 2000000) (disch := first | assumption | omega | (simp only [nx]; omega) | ((repeat refine Fresh.push ?_ _); assumption) | (simp only [smA]; done) | (simp [oneCell, AW.next_push]; done) | fail) only [go_sem, Nat.reduceEqDiff, reduceIte, Nat.reduceAdd, Int.toNat_natCast, Nat.add_zero, Owes_true]; try rfl) (by simp -dsimp -implicitDefEqProofs (maxSteps := 2000000) (disch := first | assumption | omega | (simp only [nx]; omega) | ((repeat refine Fresh.push ?_ _); assumption) | (simp only [smA]; done) | (simp [oneCell, AW.next_push]; done) | fail) only [go_sem, Nat.reduceEqDiff, reduceIte, Nat.reduceAdd, Int.toNat_natCast, Nat.add_zero, Owes_true]; try rfl) (by simp -dsimp -implicitDefEqProofs (maxSteps := 2000000) (disch := first | assumption | omega | (simp only [nx]; omega) | ((repeat refine Fresh.push ?_ _); assumption) | (simp only [smA]; done) | (simp [oneCell, AW.next_push]; done) | fail) only [go_sem, Nat.reduceEqDiff, reduceIte, Nat.reduceAdd, Int.toNat_natCast, Nat.add_zero, Owes_true]; try rfl)
  have hDd : decide (drawE C H = 0) = true := decide_eq_true hD
  obtain ⟨d, h8⟩ := drawE_in hD
  have hn := hval hB (by omega)
  have hs := (inR_iff _ _ _).1 hr
  have hat : ∀ i, i < L.length → okAt C L H i = true := fun i hi => by
    unfold okTo at hoks; rw [List.all_eq_true] at hoks; exact hoks i (List.mem_range.2 hi)
  have hLin : ∀ x ∈ L, 0 ≤ x ∧ x ≤ 100 := fun x hx => by
    obtain ⟨i, hi, rfl⟩ := List.getElem_of_mem hx
    obtain ⟨_, _, a1, _, _, _, a5⟩ := okAt_in (hat i hi)
    rw [getD_of hi] at a1 a5; exact ⟨a1, a5⟩
  have hpo := payOf_of (C := C) (H := H) (L := L) d.len hLl fun i hi => by
    obtain ⟨_, _, a1, a2, _⟩ := okAt_in (hat i hi); exact ⟨a1, a2⟩
  rw [← hn] at hpo
  have hmin := best_min hpo (fine_zip d)
  have hLs := sum_take_in hLin (by omega) L.length (Nat.le_refl _)
  rw [List.take_of_length_le (Nat.le_refl _)] at hLs
  have hnev : (bestV (C.zip H) n).2 < 1048576 := by omega
  have hPE : PayE C H n = 0 := by
    unfold PayE payE
    rw [if_neg (by rw [hD]; simp), if_neg (by rw [hr]; simp), if_neg (by omega)]
  have hX := hv0 hPE
  obtain ⟨i1, i2, i3, i4, i5⟩ := pay_is d hs.1 hnev
  have hz : (C.zip H).length = C.length := by rw [List.length_zip, d.len, Nat.min_self]
  have hpr := payL_payR (C.zip H) n
  rw [hz] at hpr
  have hfirst := fun he => payR_first hpo (fine_zip d) he hnev
  rw [← hpr] at hfirst
  generalize payL (C.zip H) n C.length = X at *
  obtain ⟨px, cx, eX, _⟩ := id hX.open
  injection eX with eX1 eX2 eX3
  subst eX1 eX2 eX3
  have f0 := O3.cell (o := 0) rfl rfl
  have f1 := O3.cell (o := 1) rfl rfl
  have hX2 := hX.grown hg2
  rw [hPE] at *
  simp -dsimp -implicitDefEqProofs (maxSteps := 2000000) (disch := first | assumption | omega | (simp only [nx]; omega) | ((repeat refine Fresh.push ?_ _); assumption) | (simp only [smA]; done) | (simp [oneCell, AW.next_push]; done) | fail) only [go_sem, Nat.reduceEqDiff, reduceIte, Nat.reduceAdd, Int.toNat_natCast, Nat.add_zero, Owes_true, hDd, Nat.zero_add, f0, f1]
  apply callV_of (e := rfl)
  · exact value_ok C X H _ _ _ w2 (hC.grown gg2) hX2 (hH.grown gg2)
  rintro _ _ ⟨rfl, n2, rfl, hval2⟩
  have hn2 := hval2 i2 (by omega)
  rw [i1, i3] at hn2
  subst hn2
  rw [i2]
  have hz1 : decide ((0 : Int) = 0) = true := rfl
  have hz2 : decide (n2 = n2) = true := decide_eq_true rfl
  simp -dsimp -implicitDefEqProofs (maxSteps := 2000000) (disch := first | assumption | omega | (simp only [nx]; omega) | ((repeat refine Fresh.push ?_ _); assumption) | (simp only [smA]; done) | (simp [oneCell, AW.next_push]; done) | fail) only [go_sem, Nat.reduceEqDiff, reduceIte, Nat.reduceAdd, Int.toNat_natCast, Nat.add_zero, Owes_true, hz1, hz2]
  apply callV_of (e := rfl)
  · exact Sum_ok X _ w2 hX2 i5 (by omega)
  rintro _ _ ⟨rfl, rfl⟩
  simp -dsimp -implicitDefEqProofs (maxSteps := 2000000) (disch := first | assumption | omega | (simp only [nx]; omega) | ((repeat refine Fresh.push ?_ _); assumption) | (simp only [smA]; done) | (simp [oneCell, AW.next_push]; done) | fail) only [go_sem, Nat.reduceEqDiff, reduceIte, Nat.reduceAdd, Int.toNat_natCast, Nat.add_zero, Owes_true]
  apply callV_of (e := rfl)
  · exact Sum_ok L _ w2 (hL.grown gg2) hLin (by omega)
  rintro _ _ ⟨rfl, rfl⟩
  have hgt : decide (L.sum < X.sum) = false := decide_eq_false (by omega)
  simp -dsimp -implicitDefEqProofs (maxSteps := 2000000) (disch := first | assumption | omega | (simp only [nx]; omega) | ((repeat refine Fresh.push ?_ _); assumption) | (simp only [smA]; done) | (simp [oneCell, AW.next_push]; done) | fail) only [go_sem, Nat.reduceEqDiff, reduceIte, Nat.reduceAdd, Int.toNat_natCast, Nat.add_zero, Owes_true, hgt]
  apply callV_of (e := rfl)
  · exact Sum_ok X _ w2 hX2 i5 (by omega)
  rintro _ _ ⟨rfl, rfl⟩
  simp -dsimp -implicitDefEqProofs (maxSteps := 2000000) (disch := first | assumption | omega | (simp only [nx]; omega) | ((repeat refine Fresh.push ?_ _); assumption) | (simp only [smA]; done) | (simp [oneCell, AW.next_push]; done) | fail) only [go_sem, Nat.reduceEqDiff, reduceIte, Nat.reduceAdd, Int.toNat_natCast, Nat.add_zero, Owes_true]
  apply callV_of (e := rfl)
  · exact Sum_ok L _ w2 (hL.grown gg2) hLin (by omega)
  rintro _ _ ⟨rfl, rfl⟩
  by_cases hq : X.sum = L.sum
  · have hqd : decide (X.sum = L.sum) = true := decide_eq_true hq
    have hff := hfirst (by omega)
    simp -dsimp -implicitDefEqProofs (maxSteps := 2000000) (disch := first | assumption | omega | (simp only [nx]; omega) | ((repeat refine Fresh.push ?_ _); assumption) | (simp only [smA]; done) | (simp [oneCell, AW.next_push]; done) | fail) only [go_sem, Nat.reduceEqDiff, reduceIte, Nat.reduceAdd, Int.toNat_natCast, Nat.add_zero, Owes_true, hqd]
    apply callV_of (e := rfl)
    · exact Ahead_ok X L _ _ w2 hX2 (hL.grown gg2)
    rintro _ _ ⟨rfl, rfl⟩
    rw [hff]
    simp -dsimp -implicitDefEqProofs (maxSteps := 2000000) (disch := first | assumption | omega | (simp only [nx]; omega) | ((repeat refine Fresh.push ?_ _); assumption) | (simp only [smA]; done) | (simp [oneCell, AW.next_push]; done) | fail) only [go_sem, Nat.reduceEqDiff, reduceIte, Nat.reduceAdd, Int.toNat_natCast, Nat.add_zero, Owes_true]
    exact rest_ok C H G P hP1 p q pg cC cH cG w hC hH hG w.next _ w2 gg2 O3 (by simp -dsimp -implicitDefEqProofs (maxSteps := 2000000) (disch := first | assumption | omega | (simp only [nx]; omega) | ((repeat refine Fresh.push ?_ _); assumption) | (simp only [smA]; done) | (simp [oneCell, AW.next_push]; done) | fail) only [go_sem, Nat.reduceEqDiff, reduceIte, Nat.reduceAdd, Int.toNat_natCast, Nat.add_zero, Owes_true]; try rfl) (by simp -dsimp -implicitDefEqProofs (maxSteps := 2000000) (disch := first | assumption | omega | (simp only [nx]; omega) | ((repeat refine Fresh.push ?_ _); assumption) | (simp only [smA]; done) | (simp [oneCell, AW.next_push]; done) | fail) only [go_sem, Nat.reduceEqDiff, reduceIte, Nat.reduceAdd, Int.toNat_natCast, Nat.add_zero, Owes_true]; try rfl) (by simp -dsimp -implicitDefEqProofs (maxSteps := 2000000) (disch := first | assumption | omega | (simp only [nx]; omega) | ((repeat refine Fresh.push ?_ _); assumption) | (simp only [smA]; done) | (simp [oneCell, AW.next_push]; done) | fail) only [go_sem, Nat.reduceEqDiff, reduceIte, Nat.reduceAdd, Int.toNat_natCast, Nat.add_zero, Owes_true]; try rfl)
  · have hqd : decide (X.sum = L.sum) = false := decide_eq_false hq
    simp -dsimp -implicitDefEqProofs (maxSteps := 2000000) (disch := first | assumption | omega | (simp only [nx]; omega) | ((repeat refine Fresh.push ?_ _); assumption) | (simp only [smA]; done) | (simp [oneCell, AW.next_push]; done) | fail) only [go_sem, Nat.reduceEqDiff, reduceIte, Nat.reduceAdd, Int.toNat_natCast, Nat.add_zero, Owes_true, hqd]
    exact rest_ok C H G P hP1 p q pg cC cH cG w hC hH hG w.next _ w2 gg2 O3 (by simp -dsimp -implicitDefEqProofs (maxSteps := 2000000) (disch := first | assumption | omega | (simp only [nx]; omega) | ((repeat refine Fresh.push ?_ _); assumption) | (simp only [smA]; done) | (simp [oneCell, AW.next_push]; done) | fail) only [go_sem, Nat.reduceEqDiff, reduceIte, Nat.reduceAdd, Int.toNat_natCast, Nat.add_zero, Owes_true]; try rfl) (by simp -dsimp -implicitDefEqProofs (maxSteps := 2000000) (disch := first | assumption | omega | (simp only [nx]; omega) | ((repeat refine Fresh.push ?_ _); assumption) | (simp only [smA]; done) | (simp [oneCell, AW.next_push]; done) | fail) only [go_sem, Nat.reduceEqDiff, reduceIte, Nat.reduceAdd, Int.toNat_natCast, Nat.add_zero, Owes_true]; try rfl) (by simp -dsimp -implicitDefEqProofs (maxSteps := 2000000) (disch := first | assumption | omega | (simp only [nx]; omega) | ((repeat refine Fresh.push ?_ _); assumption) | (simp only [smA]; done) | (simp [oneCell, AW.next_push]; done) | fail) only [go_sem, Nat.reduceEqDiff, reduceIte, Nat.reduceAdd, Int.toNat_natCast, Nat.add_zero, Owes_true]; try rfl)
end Go.Proofs

namespace Go.Proofs
open Go Go.RowKit Go.Sim Go.ChangeShapes Go.WideShapes Go.ChangeAt
set_option maxRecDepth 100000
theorem Tryz.own : ownKnob Tryz.prog.godebug = none := by kernel_rfl
theorem Tryz.laidOut : laidOutB Tryz.prog = true := by kernel_rfl
end Go.Proofs
