/- This program: its code, contracts, numbers, part 2. -/
import Derived.Test.YthnpnooiidnbeaaGreatPaa
import Derived.Test.YthnpnooiidnbeaaGreatNc
import Derived.Test.YthnpnooiidnbeaaGreatNa
set_option linter.unusedVariables false
set_option linter.unusedSimpArgs false
namespace Go.Proofs
open Go Go.RowKit Go.Sim
set_option maxRecDepth 100000
theorem bld24a (q : Option Addr) (n c : Nat) : bldQ [(0, 1), (1, 1)] [.slice none 0 0, .slice none 0 0] [(0, .slice q n c)] = some (.agg #[.slice q n c, .slice none 0 0]) := by kernel_rfl
attribute [go_sem] bld24a
theorem Own.keepB {w w' : AW} {B c : Nat} {e : TypeId} {l : List Value} (h : Own w c e l) (k : Keep B w w') (q : c < B) : Own w' c e l :=
  ⟨by rw [k.blk _ q]; exact h.blk, by rw [k.fam _ q]; exact h.fam, by have := h.lt; have := k.next; omega⟩
theorem AOwn.slice {B : Nat} {w : AW} {e : TypeId} {size n : Nat} {v : Value} {cells : List Value} (h : AOwn B w e size v n cells) : ∃ p m c, v = .slice p m c := by
  rcases h with ⟨rfl, _⟩ | ⟨b, r, rfl, _⟩
  · exact ⟨_, _, _, rfl⟩
  · exact ⟨_, _, _, rfl⟩
def worth (C L : List Int) (n : Nat) : Int := ((List.range n).map fun i => L.getD i 0 * C.getD i 0).sum
theorem worth_succ {C L : List Int} {n : Nat} (h : n < L.length) (k : n < C.length) : worth C L (n + 1) = worth C L n + L[n] * C[n] := by
  unfold worth
  rw [List.range_succ, List.map_append, List.sum_append_int]
  simp [List.getD_eq_getElem?_getD, List.getElem?_eq_getElem h, List.getElem?_eq_getElem k]
theorem worth_in {C L : List Int} {m : Int} (hC : ∀ c ∈ C, 1 ≤ c ∧ c ≤ 50000) (hL : ∀ x ∈ L, 0 ≤ x ∧ x ≤ m) (hm : 0 ≤ m) : ∀ n, n ≤ C.length → n ≤ L.length → 0 ≤ worth C L n ∧ worth C L n ≤ (n : Int) * (m * 50000)
  | 0, _, _ => by simp [worth]
  | n + 1, h1, h2 => by
    have ih := worth_in hC hL hm n (by omega) (by omega)
    rw [worth_succ (by omega) (by omega)]
    have a := hC _ (List.getElem_mem (show n < C.length by omega))
    have b := hL _ (List.getElem_mem (show n < L.length by omega))
    have p0 : 0 ≤ L[n] * C[n] := Int.mul_nonneg b.1 (by omega)
    have p1 : L[n] * C[n] ≤ m * 50000 := Int.mul_le_mul b.2 a.2 (by omega) hm
    have e : (((n + 1 : Nat) : Int)) * (m * 50000) = (n : Int) * (m * 50000) + m * 50000 := by rw [Int.natCast_succ, Int.add_mul, Int.one_mul]
    rw [e]; omega
def both (H G : List Int) (n : Nat) : List Int := (List.range n).map fun i => H.getD i 0 + G.getD i 0
theorem both_succ {H G : List Int} {n : Nat} (h : n < H.length) (k : n < G.length) : both H G (n + 1) = both H G n ++ [H[n] + G[n]] := by
  unfold both
  rw [List.range_succ, List.map_append]
  simp [List.getD_eq_getElem?_getD, List.getElem?_eq_getElem h, List.getElem?_eq_getElem k]
theorem both_len (H G : List Int) (n : Nat) : (both H G n).length = n := by unfold both; simp
def changeE (C H G : List Int) (p : Int) : Int := if drawE C H ≠ 0 then drawE C H else if haveB C G = false then 7 else if p < 0 then 7 else if worth C G G.length - p < 0 then 81 else payE C (both H G G.length) (worth C G G.length - p)
theorem haveB_in {C H : List Int} (g : haveB C H = true) : H.length = C.length ∧ ∀ x ∈ H, 0 ≤ x ∧ x ≤ 50 := by
  simp only [haveB, Bool.and_eq_true, decide_eq_true_eq, List.all_eq_true] at g
  exact ⟨g.1, fun x hx => (inR_iff _ _ _).1 (g.2 x hx)⟩
theorem drawE_have {C H : List Int} (h : drawE C H = 0) : haveB C H = true := by
  unfold drawE at h
  cases hq : haveB C H with
  | true => rfl
  | false => rw [hq, Bool.and_false] at h; cases h
theorem both_in {C H G : List Int} (d : drawE C H = 0) (g : haveB C G = true) : DIn C (both H G G.length) := by
  have h1 := haveB_in (drawE_have d)
  have h2 := haveB_in g
  refine ⟨by rw [both_len]; exact h2.1, (drawE_in d).1.c, fun x hx => ?_⟩
  unfold both at hx
  obtain ⟨i, hi, rfl⟩ := List.mem_map.1 hx
  rw [List.mem_range] at hi
  have hi1 : i < H.length := by omega
  have a := h1.2 _ (List.getElem_mem hi1)
  have b := h2.2 _ (List.getElem_mem hi)
  simp only [List.getD_eq_getElem?_getD, List.getElem?_eq_getElem hi, List.getElem?_eq_getElem hi1, Option.getD_some]
  omega
set_option maxHeartbeats 16000000 in
theorem Change_ok (C H G : List Int) (u h g : Value) (P : Int) (hP : P ≤ 9223372036854775807) (w : AW) (f : Fresh w) (hC : ArrOf w 1 icells u C) (hH : ArrOf w 1 icells h H) (hG : ArrOf w 1 icells g G) :
    CallT Tryz.prog Tryz.T1 (.fn (.func 19) #[]) #[.agg #[u, h], g, .int .i64 P] w (fun rv w' => ∃ v, rv = .tuple #[v, .int .i64 (changeE C H G P)] ∧ (changeE C H G P = 0 → ArrOf w' 1 icells v (payL (C.zip (both H G G.length)) (worth C G G.length - P) C.length)) ∧ (changeE C H G P ≠ 0 → v = .slice none 0 0) ∧ Grown w w') := by
  obtain ⟨p, cC, rfl, _⟩ := id hC.open
  obtain ⟨q, cH, rfl, _⟩ := id hH.open
  obtain ⟨pg, cG, rfl, _⟩ := id hG.open
  have g1 := (Grown.refl f).push (.cells [.slice p C.length cC, .slice q H.length cH] 24 w.next 0 0)
  have O1 := Own.new f 24 [.slice p C.length cC, .slice q H.length cH]
  have c0 := O1.cell (o := 0) rfl rfl
  have c1 := O1.cell (o := 1) rfl rfl
  refine callT_code rfl Tryz.func19 rfl Tryz.s19_eq rfl ?_
  unfold Tryz.s19
  simp -dsimp -implicitDefEqProofs (maxSteps := 2000000) (disch := first | assumption | omega | (simp only [nx]; omega) | ((repeat refine Fresh.push ?_ _); assumption) | (simp only [smA]; done) | (simp [oneCell, AW.next_push]; done) | fail) only [go_sem, Nat.reduceEqDiff, reduceIte, Nat.reduceAdd, Int.toNat_natCast, Nat.add_zero, Owes_true, Tryz.results19, Nat.zero_add, c0, c1]
  apply callV_of (e := rfl)
  · exact Check_ok C H _ _ _ g1.2 (hC.grown g1) (hH.grown g1)
  rintro _ w1 ⟨rfl, hg1⟩
  have gg := g1.trans hg1
  have O2 := O1.keep hg1.1
  have d0 := O2.cell (o := 0) rfl rfl
  have d1 := O2.cell (o := 1) rfl rfl
  by_cases he : drawE C H = 0
  case neg =>
    have hed : decide (drawE C H = 0) = false := decide_eq_false he
    have hE : changeE C H G P = drawE C H := by unfold changeE; rw [if_pos he]
    simp -dsimp -implicitDefEqProofs (maxSteps := 2000000) (disch := first | assumption | omega | (simp only [nx]; omega) | ((repeat refine Fresh.push ?_ _); assumption) | (simp only [smA]; done) | (simp [oneCell, AW.next_push]; done) | fail) only [go_sem, Nat.reduceEqDiff, reduceIte, Nat.reduceAdd, Int.toNat_natCast, Nat.add_zero, Owes_true, Tryz.results19, hed]
    exact ⟨_, by rw [hE], fun q => absurd (hE ▸ q) he, fun _ => rfl, gg⟩
  have hed : decide (drawE C H = 0) = true := decide_eq_true he
  obtain ⟨d, h8⟩ := drawE_in he
  simp -dsimp -implicitDefEqProofs (maxSteps := 2000000) (disch := first | assumption | omega | (simp only [nx]; omega) | ((repeat refine Fresh.push ?_ _); assumption) | (simp only [smA]; done) | (simp [oneCell, AW.next_push]; done) | fail) only [go_sem, Nat.reduceEqDiff, reduceIte, Nat.reduceAdd, Int.toNat_natCast, Nat.add_zero, Owes_true, Tryz.results19, hed, Nat.zero_add, d0, d1]
  apply callV_of (e := rfl)
  · exact arePieces_ok C G _ _ _ w1 gg.2 (hC.grown gg) (hG.grown gg) ⟨_, _, _, rfl⟩
  rintro _ w2 ⟨rfl, hg2⟩
  have gg2 := gg.trans hg2
  cases hb : haveB C G with
  | false =>
    have hE : changeE C H G P = 7 := by unfold changeE; rw [if_neg (by rw [he]; simp), if_pos hb]
    simp -dsimp -implicitDefEqProofs (maxSteps := 2000000) (disch := first | assumption | omega | (simp only [nx]; omega) | ((repeat refine Fresh.push ?_ _); assumption) | (simp only [smA]; done) | (simp [oneCell, AW.next_push]; done) | fail) only [go_sem, Nat.reduceEqDiff, reduceIte, Nat.reduceAdd, Int.toNat_natCast, Nat.add_zero, Owes_true, Tryz.results19]
    exact ⟨_, by rw [hE], fun q => by rw [hE] at q; exact absurd q (by decide), fun _ => rfl, gg2⟩
  | true =>
  by_cases hp0 : P < 0
  · have hE : changeE C H G P = 7 := by unfold changeE; rw [if_neg (by rw [he]; simp), if_neg (by rw [hb]; simp), if_pos hp0]
    simp -dsimp -implicitDefEqProofs (maxSteps := 2000000) (disch := first | assumption | omega | (simp only [nx]; omega) | ((repeat refine Fresh.push ?_ _); assumption) | (simp only [smA]; done) | (simp [oneCell, AW.next_push]; done) | fail) only [go_sem, Nat.reduceEqDiff, reduceIte, Nat.reduceAdd, Int.toNat_natCast, Nat.add_zero, Owes_true, Tryz.results19, hp0]
    exact ⟨_, by rw [hE], fun q => by rw [hE] at q; exact absurd q (by decide), fun _ => rfl, gg2⟩
  have hGl : G.length = C.length := by
    simp only [haveB, Bool.and_eq_true, decide_eq_true_eq] at hb; exact hb.1
  have hGi : ∀ x ∈ G, 0 ≤ x ∧ x ≤ 50 := by
    simp only [haveB, Bool.and_eq_true, List.all_eq_true] at hb
    exact fun x hx => (inR_iff _ _ _).1 (hb.2 x hx)
  have hHi : ∀ x ∈ H, 0 ≤ x ∧ x ≤ 100 := d.h
  have O3 := O2.keep hg2.1
  have f0 := O3.cell (o := 0) rfl rfl
  have f1 := O3.cell (o := 1) rfl rfl
  have g3 := gg2.push (.cells [.slice none 0 0, .slice none 0 0] 24 w2.next 0 0)
  have OT := Own.new hg2.2 24 [.slice none 0 0, .slice none 0 0]
  have hst := storeV_own (o := 0) (l := [.slice p C.length cC, .slice none 0 0]) (size := 2) OT rfl (by omega) (by simp) (by rfl)
  simp only [setsL, setL] at hst
  simp -dsimp -implicitDefEqProofs (maxSteps := 2000000) (disch := first | assumption | omega | (simp only [nx]; omega) | ((repeat refine Fresh.push ?_ _); assumption) | (simp only [smA]; done) | (simp [oneCell, AW.next_push]; done) | fail) only [go_sem, Nat.reduceEqDiff, reduceIte, Nat.reduceAdd, Int.toNat_natCast, Nat.add_zero, Owes_true, Tryz.results19, hp0, Nat.zero_add, f0, f1, hst]
  have OT2 := OT.put [.slice p C.length cC, .slice none 0 0]
  have m3 := MutS.put (S := fun j => j = w2.next) (hg2.2.push (.cells [.slice none 0 0, .slice none 0 0] 24 w2.next 0 0)) rfl OT.lt (.cells [.slice p C.length cC, .slice none 0 0] 24 w2.next 0 0)
  have k3 : Keep w2.next w2 _ := ((Grown.refl hg2.2).push (.cells [.slice none 0 0, .slice none 0 0] 24 w2.next 0 0)).1.put (b := w2.next) (Nat.le_refl _) (.cells [.slice p C.length cC, .slice none 0 0] 24 w2.next 0 0)
  have hn3 : w2.next + 1 ≤ ((w2.push (.cells [.slice none 0 0, .slice none 0 0] 24 w2.next 0 0)).put w2.next (.cells [.slice p C.length cC, .slice none 0 0] 24 w2.next 0 0)).next := by rw [AW.next_put, AW.next_push]; omega
  have hw2 : w.next < w2.next := by have := O3.lt; omega
  refine loopR (fun k t ds w4 => ∃ i : Nat, i ≤ G.length ∧ k = G.length - i ∧ ds = [] ∧ ev t (.tmp 3) = .pointer (some ⟨w.next, 0, none⟩) ∧ ev t (.tmp 10) = .pointer (some ⟨w2.next, 0, none⟩) ∧ ev t (.tmp 9) = .int .i64 (worth C G i - P) ∧ ev t (.tmp 31) = .slice pg G.length cG ∧ ev t (.tmp 32) = .int .i64 (G.length : Int) ∧ ev t (.tmp 33) = .int .i64 (i : Int) ∧ (∃ u4, Own w4 w2.next 24 [.slice p C.length cC, u4] ∧ AOwn (w2.next + 1) w4 3 1 u4 (both H G i).length ((both H G i).flatMap icells)) ∧ Keep w2.next w2 w4 ∧ Fresh w4 ∧ w2.next + 1 ≤ w4.next) (G.length) ?_ ?_
  · refine ⟨0, by omega, by omega, rfl, ?_, ?_, ?_, ?_, ?_, ?_, ⟨_, OT2, .inl ⟨rfl, rfl, rfl⟩⟩, k3, m3.fresh, hn3⟩ <;> simp -dsimp -implicitDefEqProofs (maxSteps := 2000000) (disch := first | assumption | omega | (simp only [nx]; omega) | ((repeat refine Fresh.push ?_ _); assumption) | (simp only [smA]; done) | (simp [oneCell, AW.next_push]; done) | fail) only [go_sem, Nat.reduceEqDiff, reduceIte, Nat.reduceAdd, Int.toNat_natCast, Nat.add_zero, Owes_true] <;> rfl
  rintro k t ds w4 ⟨i, hii, rfl, rfl, e3, e10, e9, e31, e32, e33, hT, hk4, hf4, hn4⟩
  obtain ⟨u4, hO4, hA4⟩ := hT
  have gw4 : Grown w w4 := gg2.trans ⟨hk4, hf4⟩
  have hwi := worth_in (m := 50) d.c hGi (by omega) i (by omega) (by omega)
  obtain ⟨pu, nu, ku, rfl⟩ := AOwn.slice hA4
  have x0 := hO4.cell (o := 0) rfl rfl
  have x1 := hO4.cell (o := 1) rfl rfl
  by_cases hlt : (i : Int) < (G.length : Int)
  case neg =>
    obtain rfl : i = G.length := by omega
    have hAr := hA4.arr icells_len (by rw [both_len]; omega)
    by_cases hov : worth C G G.length - P < 0
    · have hE : changeE C H G P = 81 := by unfold changeE; rw [if_neg (by rw [he]; simp), if_neg (by rw [hb]; simp), if_neg hp0, if_pos hov]
      simp -dsimp -implicitDefEqProofs (maxSteps := 2000000) (disch := first | assumption | omega | (simp only [nx]; omega) | ((repeat refine Fresh.push ?_ _); assumption) | (simp only [smA]; done) | (simp [oneCell, AW.next_push]; done) | fail) only [go_sem, Nat.reduceEqDiff, reduceIte, Nat.reduceAdd, Int.toNat_natCast, Nat.add_zero, Owes_true, Tryz.results19, e3, e9, e10, e31, e32, e33, hlt, hov]
      exact ⟨_, by rw [hE], fun q => by rw [hE] at q; exact absurd q (by decide), fun _ => rfl, gw4⟩
    · have hE : changeE C H G P = payE C (both H G G.length) (worth C G G.length - P) := by unfold changeE; rw [if_neg (by rw [he]; simp), if_neg (by rw [hb]; simp), if_neg hp0, if_neg hov]
      simp -dsimp -implicitDefEqProofs (maxSteps := 2000000) (disch := first | assumption | omega | (simp only [nx]; omega) | ((repeat refine Fresh.push ?_ _); assumption) | (simp only [smA]; done) | (simp [oneCell, AW.next_push]; done) | fail) only [go_sem, Nat.reduceEqDiff, reduceIte, Nat.reduceAdd, Int.toNat_natCast, Nat.add_zero, Owes_true, Tryz.results19, e3, e9, e10, e31, e32, e33, hlt, hov, Nat.zero_add, x0, x1]
      apply callV_of (e := rfl)
      · exact pay_ok C (both H G G.length) _ _ (worth C G G.length - P) w4 hf4 (hC.grown gw4) hAr (both_in he hb) (by omega)
      rintro _ w5 ⟨v, rfl, h1, h2, hg5⟩
      simp -dsimp -implicitDefEqProofs (maxSteps := 2000000) (disch := first | assumption | omega | (simp only [nx]; omega) | ((repeat refine Fresh.push ?_ _); assumption) | (simp only [smA]; done) | (simp [oneCell, AW.next_push]; done) | fail) only [go_sem, Nat.reduceEqDiff, reduceIte, Nat.reduceAdd, Int.toNat_natCast, Nat.add_zero, Owes_true, Tryz.results19]
      exact ⟨_, by rw [hE], fun q => h1 (hE ▸ q), fun q => h2 (hE ▸ q), gw4.trans hg5⟩
  have hlt' : i < G.length := by omega
  have hiC : (i : Int) < (C.length : Int) := by omega
  have hiH : (i : Int) < (H.length : Int) := by have := d.len; omega
  have hiC' : i < C.length := by omega
  have hiH' : i < H.length := by omega
  obtain ⟨pC, cc, eC, _, _, hatC⟩ := hC.open
  injection eC with eC1 eC2 eC3
  subst eC1
  obtain ⟨pH, ch, eH, _, _, hatH⟩ := hH.open
  injection eH with eH1 eH2 eH3
  subst eH1
  obtain ⟨pG, cg, eG, _, _, hatG⟩ := hG.open
  injection eG with eG1 eG2 eG3
  subst eG1
  obtain ⟨bC, oC, rfl, hbC, hcC⟩ := hatC i hiC'
  obtain ⟨bH, oH, rfl, hbH, hcH⟩ := hatH i hiH'
  obtain ⟨bG, oG, rfl, hbG, hcG⟩ := hatG i hlt'
  have aC := hcC _ gw4.1 0 _ rfl
  have aH := hcH _ gw4.1 0 _ rfl
  have aG := hcG _ gw4.1 0 _ rfl
  simp only [Nat.add_zero] at aC aH aG
  have O4 := Own.keepB O3 hk4 hw2
  have y0 := O4.cell (o := 0) rfl rfl
  have y1 := O4.cell (o := 1) rfl rfl
  have hws := worth_succ (C := C) (L := G) hlt' hiC'
  have hbs := both_succ (H := H) (G := G) hiH' hlt'
  have hgi := hGi _ (List.getElem_mem hlt')
  have hhi := hHi _ (List.getElem_mem hiH')
  have hci := d.c _ (List.getElem_mem hiC')
  have hmul0 : 0 ≤ G[i] * C[i] := Int.mul_nonneg hgi.1 (by omega)
  have hmul1 : G[i] * C[i] ≤ 50 * 50000 := Int.mul_le_mul hgi.2 hci.2 (by omega) (by omega)
  obtain ⟨u5, w5, happ, hA5, hk5, hf5, hn5, _⟩ := append_one (e' := 3) Tryz.ty22 Tryz.ty3 rfl (by omega) (by omega) hA4 hf4 hn4 (icells_len (H[i] + G[i])) (icells_one _) (by rw [both_len]; omega)
  simp only [icells] at happ
  have hO5 := Own.keepB hO4 hk5 (by omega)
  have hone := hA5.one
  have hst5 := storeV_own1 (o := 1) (v := u5) hO5 (by simp) hone
  simp only [setL] at hst5
  have m6 := MutS.put (S := fun j => j = w2.next) hf5 rfl hO5.lt (.cells [.slice (some ⟨bC, oC, none⟩) C.length cC, u5] 24 w2.next 0 0)
  have hO6 := hO5.put [.slice (some ⟨bC, oC, none⟩) C.length cC, u5]
  have hA6 := AOwn.mut hA5 m6 (by omega)
  have hk6 : Keep w2.next w2 _ := (hk4.trans (hk5.mono (by omega))).put (b := w2.next) (Nat.le_refl _) (.cells [.slice (some ⟨bC, oC, none⟩) C.length cC, u5] 24 w2.next 0 0)
  generalize hg0 : G[i] = gi at *
  generalize hc0' : C[i] = ci at *
  generalize hh0 : H[i] = hi0 at *
  generalize hmm : gi * ci = gc at *
  have hsum : worth C G i - P + gc = worth C G (i + 1) - P := by omega
  obtain ⟨pv, nv, kv, rfl⟩ := AOwn.slice hA5
  simp -dsimp -implicitDefEqProofs (maxSteps := 2000000) (disch := first | assumption | omega | (simp only [nx]; omega) | ((repeat refine Fresh.push ?_ _); assumption) | (simp only [smA]; done) | (simp [oneCell, AW.next_push]; done) | fail) only [go_sem, Nat.reduceEqDiff, reduceIte, Nat.reduceAdd, Int.toNat_natCast, Nat.add_zero, Owes_true, e3, e9, e10, e31, e32, e33, hlt, hiC, hiH, indexV_eq, aC, aH, aG, Nat.zero_add, x0, x1, y0, y1, hmm, hsum, happ, hst5]
  refine ⟨_, by omega, i + 1, by omega, rfl, rfl, by (simp -dsimp -implicitDefEqProofs (maxSteps := 2000000) (disch := first | assumption | omega | (simp only [nx]; omega) | ((repeat refine Fresh.push ?_ _); assumption) | (simp only [smA]; done) | (simp [oneCell, AW.next_push]; done) | fail) only [go_sem, Nat.reduceEqDiff, reduceIte, Nat.reduceAdd, Int.toNat_natCast, Nat.add_zero, Owes_true, e3, hsum]; try rfl), by (simp -dsimp -implicitDefEqProofs (maxSteps := 2000000) (disch := first | assumption | omega | (simp only [nx]; omega) | ((repeat refine Fresh.push ?_ _); assumption) | (simp only [smA]; done) | (simp [oneCell, AW.next_push]; done) | fail) only [go_sem, Nat.reduceEqDiff, reduceIte, Nat.reduceAdd, Int.toNat_natCast, Nat.add_zero, Owes_true, e10, hsum]; try rfl), by (simp -dsimp -implicitDefEqProofs (maxSteps := 2000000) (disch := first | assumption | omega | (simp only [nx]; omega) | ((repeat refine Fresh.push ?_ _); assumption) | (simp only [smA]; done) | (simp [oneCell, AW.next_push]; done) | fail) only [go_sem, Nat.reduceEqDiff, reduceIte, Nat.reduceAdd, Int.toNat_natCast, Nat.add_zero, Owes_true, e9, hsum]; try rfl), by (simp -dsimp -implicitDefEqProofs (maxSteps := 2000000) (disch := first | assumption | omega | (simp only [nx]; omega) | ((repeat refine Fresh.push ?_ _); assumption) | (simp only [smA]; done) | (simp [oneCell, AW.next_push]; done) | fail) only [go_sem, Nat.reduceEqDiff, reduceIte, Nat.reduceAdd, Int.toNat_natCast, Nat.add_zero, Owes_true, e31, hsum]; try rfl), by (simp -dsimp -implicitDefEqProofs (maxSteps := 2000000) (disch := first | assumption | omega | (simp only [nx]; omega) | ((repeat refine Fresh.push ?_ _); assumption) | (simp only [smA]; done) | (simp [oneCell, AW.next_push]; done) | fail) only [go_sem, Nat.reduceEqDiff, reduceIte, Nat.reduceAdd, Int.toNat_natCast, Nat.add_zero, Owes_true, e32, hsum]; try rfl), by (simp -dsimp -implicitDefEqProofs (maxSteps := 2000000) (disch := first | assumption | omega | (simp only [nx]; omega) | ((repeat refine Fresh.push ?_ _); assumption) | (simp only [smA]; done) | (simp [oneCell, AW.next_push]; done) | fail) only [go_sem, Nat.reduceEqDiff, reduceIte, Nat.reduceAdd, Int.toNat_natCast, Nat.add_zero, Owes_true, e33, hsum]; try rfl), ⟨_, hO6, (by rw [hbs, List.length_append, List.flatMap_append]; exact hA6)⟩, hk6, m6.fresh, (by rw [AW.next_put]; omega)⟩
end Go.Proofs

namespace Go.Proofs
open Go Go.RowKit Go.Sim
set_option maxRecDepth 100000
def okAt (C L H : List Int) (i : Nat) : Bool := decide (i < C.length) && decide (i < H.length) && inR 0 (L.getD i 0) (H.getD i 0) && inR 1 (C.getD i 0) 50000 && decide (L.getD i 0 ≤ 100)
end Go.Proofs

namespace Go.Proofs
open Go Go.RowKit Go.Sim
set_option maxRecDepth 100000
def PayOf : List (Int × Int) → List Int → Int → Prop
  | [], [], s => s = 0
  | (c, h) :: D, n :: L, s => 0 ≤ n ∧ n ≤ h ∧ PayOf D L (s - n * c)
  | _, _, _ => False
theorem foldTo_is {l : List (Int × Int)} {c s : Int} : ∀ m, foldTo l c s m = (0, 1048576) ∨ ∃ n, n < m ∧ foldTo l c s m = ((n : Int), (n : Int) + (bestV l (s - (n : Int) * c)).2)
  | 0 => .inl rfl
  | m + 1 => by
    rw [foldTo_succ]
    split
    · exact .inr ⟨m, by omega, rfl⟩
    · rcases foldTo_is (l := l) (c := c) (s := s) m with q | ⟨n, h, q⟩
      · exact .inl q
      · exact .inr ⟨n, by omega, q⟩
theorem foldTo_last {l : List (Int × Int)} {c s : Int} : ∀ {m n : Nat}, n < m → (n : Int) + (bestV l (s - (n : Int) * c)).2 = (foldTo l c s m).2 → (n : Int) ≤ (foldTo l c s m).1
  | 0, _, h, _ => by omega
  | m + 1, n, h, he => by
    rw [foldTo_succ] at he ⊢
    split at he
    · rename_i q
      rw [if_pos q]; simp only; omega
    · rename_i q
      rw [if_neg q]
      rcases Nat.lt_or_ge n m with q1 | q1
      · exact foldTo_last q1 he
      · obtain rfl : n = m := by omega
        omega
theorem head_in {c x s n : Int} (hs : 0 ≤ s - n * c) (hn0 : 0 ≤ n) (hc : 1 ≤ c) (hx : n ≤ x) : n.toNat < (min x (s.tdiv c)).toNat + 1 := by
  have h0 : 0 ≤ n * c := Int.mul_nonneg hn0 (by omega)
  have htd : s.tdiv c = s / c := Int.tdiv_eq_ediv_of_nonneg (by omega)
  have : n ≤ s / c := (Int.le_ediv_iff_mul_le (by omega)).2 (by omega)
  omega
theorem worth_cons (c n : Int) (C L : List Int) (k : Nat) : worth (c :: C) (n :: L) (k + 1) = n * c + worth C L k := by
  unfold worth
  rw [List.range_succ_eq_map, List.map_cons, List.map_map, List.sum_cons]
  simp [Function.comp_def]
theorem PayOf.out : ∀ {C H L : List Int} {s : Int}, PayOf (C.zip H) L s → H.length = C.length → L.length = C.length ∧ s = worth C L L.length ∧ ∀ i, i < L.length → 0 ≤ L.getD i 0 ∧ L.getD i 0 ≤ H.getD i 0
  | [], [], [], s, h, _ => by simp only [List.zip_nil_left, PayOf] at h; subst h; simp [worth]
  | c :: C, h :: H, n :: L, s, hp, hl => by
    simp only [List.zip_cons_cons, PayOf] at hp
    have ih := PayOf.out hp.2.2 (by simpa using hl)
    refine ⟨by simp [ih.1], ?_, fun i hi => ?_⟩
    · rw [List.length_cons, worth_cons]; omega
    · cases i with
      | zero => simp only [List.getD_cons_zero]; omega
      | succ i => have := ih.2.2 i (by simpa using hi); simpa using this
  | [], [], _ :: _, _, h, _ => h.elim
  | c :: C, x :: H, [], _, h, _ => h.elim
  | [], _ :: _, _, _, _, h => by simp at h
  | _ :: _, [], _, _, _, h => by simp at h
end Go.Proofs

namespace Go.Proofs
open Go Go.RowKit Go.Sim
set_option maxRecDepth 100000
theorem Tryz.und3 : Tryz.prog.underlying 3 = some (.int .i64) := by kernel_rfl
theorem Tryz.und4 : Tryz.prog.underlying 4 = some .bool := by kernel_rfl
theorem Tryz.und22 : Tryz.prog.underlying 22 = some (.slice 3) := by kernel_rfl
theorem Tryz.cells3 : Tryz.prog.cellsOf 3 = 1 := by kernel_rfl
theorem given_int {w : AW} {n : Nat} {cs : List Value} (h : Hd Tryz.prog w n 3 cs) : ∃ x : Int, cs = icells x ∧ -9223372036854775808 ≤ x ∧ x ≤ 9223372036854775807 := by
  cases n with
  | zero => exact h.elim
  | succ n =>
    simp only [Hd, Tryz.und3] at h
    obtain ⟨i, rfl, h1, h2⟩ := h
    exact ⟨i, rfl, h1, h2⟩
theorem rows_of {rows : List (List Value)} (h : ∀ r ∈ rows, ∃ x : Int, r = icells x) : ∃ xs : List Int, rows = xs.map icells := by
  induction rows with
  | nil => exact ⟨[], rfl⟩
  | cons r rows ih =>
    obtain ⟨x, hx⟩ := h r List.mem_cons_self
    obtain ⟨xs, hxs⟩ := ih fun q hq => h q (List.mem_cons_of_mem _ hq)
    exact ⟨x :: xs, by rw [hx, hxs]; rfl⟩
theorem given_ints {w : AW} {n : Nat} {cs : List Value} (h : Hd Tryz.prog w n 22 cs) : ∃ v, cs = [v] ∧ ∃ xs, ArrOf w 1 icells v xs := by
  cases n with
  | zero => exact h.elim
  | succ n =>
    simp only [Hd, Tryz.und22, Tryz.cells3] at h
    obtain ⟨v, rows, rfl, ha, hr, hgv⟩ := h
    obtain ⟨xs, rfl⟩ := rows_of fun r hq => by obtain ⟨x, hx, _⟩ := given_int (hr r hq); exact ⟨x, hx⟩
    exact ⟨v, rfl, xs, ha⟩
theorem given_intsV {w : AW} {n : Nat} {v : Value} (h : HdV Tryz.prog w n 22 v) : ∃ xs, ArrOf w 1 icells v xs := by
  simp only [HdV, Tryz.und22] at h
  obtain ⟨u, e, xs, hx⟩ := given_ints h
  injection e with e
  subst e
  exact ⟨xs, hx⟩
theorem given_drawer {w : AW} {n : Nat} {v : Value} (h : HdV Tryz.prog w n 24 v) : ∃ u h : Value, v = .agg #[u, h] ∧ (∃ xs, ArrOf w 1 icells u xs) ∧ ∃ xs, ArrOf w 1 icells h xs := by
  simp only [HdV, Tryz.underlying24] at h
  obtain ⟨cs, rfl, h⟩ := h
  cases n with
  | zero => exact h.elim
  | succ n =>
    simp only [Hd, Tryz.underlying24] at h
    obtain ⟨parts, hc, hl, hp⟩ := h
    match parts, hl with
    | [p0, p1], _ =>
      obtain ⟨u, rfl, hu⟩ := given_ints (hp 0 _ p0 rfl rfl)
      obtain ⟨x, rfl, hx⟩ := given_ints (hp 1 _ p1 rfl rfl)
      refine ⟨u, x, ?_, hu, hx⟩
      rw [show cs = cs.toList.toArray from rfl, hc]; rfl
end Go.Proofs

namespace Go.Proofs
open Go Go.RowKit Go.Sim
set_option maxRecDepth 100000
end Go.Proofs

namespace Go.Proofs
open Go Go.RowKit Go.Sim
set_option maxRecDepth 100000
end Go.Proofs

namespace Go.Proofs
open Go Go.RowKit Go.Sim
set_option maxRecDepth 100000
def Tryz.s3 : SC := (.seq (.ops false [⟨⟨(some 3),.box 24 (.tmp 0),0,"",⟨[]⟩,none⟩,none,false⟩,⟨⟨(some 5),.box 25 (.tmp 2),0,"",⟨[]⟩,none⟩,none,false⟩,⟨⟨(some 6),.assign (.const (.bool false)),4,"",⟨[]⟩,none⟩,none,false⟩]) (.seq (.ops false [⟨⟨(some 12),.load 24 (.tmp 3),24,"",⟨[]⟩,none⟩,none,false⟩,⟨⟨(some 13),.indexAddr 25 (.tmp 5) (.const (.int .i64 0)),0,"",⟨[]⟩,none⟩,none,false⟩,⟨⟨(some 14),.load 3 (.tmp 13),3,"",⟨[]⟩,none⟩,none,false⟩,⟨⟨(some 15),.call ⟨.value (.func 14),⟨[(.tmp 12),(.tmp 14)]⟩,⟨[24,3]⟩⟩,27,"",⟨[]⟩,none⟩,none,false⟩,⟨⟨(some 11),.move (.tmp 15),27,"",⟨[]⟩,none⟩,none,false⟩,⟨⟨(some 16),.extract (.tmp 11) 0,22,"",⟨[]⟩,none⟩,none,false⟩,⟨⟨(some 17),.extract (.tmp 11) 1,26,"",⟨[]⟩,none⟩,none,false⟩,⟨⟨(some 7),.assign (.tmp 16),22,"",⟨[]⟩,none⟩,none,false⟩,⟨⟨(some 8),.assign (.tmp 17),26,"",⟨[]⟩,none⟩,none,false⟩]) (.seq (.ops false [⟨⟨(some 19),.load 24 (.tmp 3),24,"",⟨[]⟩,none⟩,none,false⟩,⟨⟨(some 20),.indexAddr 25 (.tmp 5) (.const (.int .i64 0)),0,"",⟨[]⟩,none⟩,none,false⟩,⟨⟨(some 21),.load 3 (.tmp 20),3,"",⟨[]⟩,none⟩,none,false⟩,⟨⟨(some 22),.call ⟨.value (.func 15),⟨[(.tmp 19),(.tmp 21)]⟩,⟨[24,3]⟩⟩,27,"",⟨[]⟩,none⟩,none,false⟩,⟨⟨(some 18),.move (.tmp 22),27,"",⟨[]⟩,none⟩,none,false⟩,⟨⟨(some 23),.extract (.tmp 18) 0,22,"",⟨[]⟩,none⟩,none,false⟩,⟨⟨(some 24),.extract (.tmp 18) 1,26,"",⟨[]⟩,none⟩,none,false⟩,⟨⟨(some 9),.assign (.tmp 23),22,"",⟨[]⟩,none⟩,none,false⟩,⟨⟨(some 10),.assign (.tmp 24),26,"",⟨[]⟩,none⟩,none,false⟩]) (.seq (.seq (.ops true [⟨⟨(some 25),.move (.tmp 7),22,"",⟨[]⟩,none⟩,none,true⟩,⟨⟨(some 26),.move (.tmp 9),22,"",⟨[]⟩,none⟩,none,true⟩,⟨⟨(some 27),.call ⟨.value (.func 16),⟨[(.tmp 25),(.tmp 26)]⟩,⟨[22,22]⟩⟩,4,"",⟨[]⟩,none⟩,none,false⟩,⟨⟨(some 28),.unOp .not 4 (.tmp 27),4,"",⟨[]⟩,none⟩,none,true⟩,⟨⟨(some 29),.move (.tmp 28),4,"",⟨[]⟩,none⟩,none,true⟩,⟨⟨(some 30),.move (.tmp 8),26,"",⟨[]⟩,none⟩,some ((some 29),false),true⟩,⟨⟨(some 31),.move (.tmp 10),26,"",⟨[]⟩,none⟩,some ((some 29),false),true⟩,⟨⟨(some 32),.binOp .neq 26 (.tmp 30) (.tmp 31) 26,4,"",⟨[]⟩,none⟩,some ((some 29),false),true⟩,⟨⟨(some 33),.pick (.tmp 29) (.const (.bool true)) (.tmp 32),4,"",⟨[]⟩,none⟩,none,true⟩,⟨⟨(some 34),.move (.tmp 33),4,"",⟨[]⟩,none⟩,none,true⟩,⟨⟨(some 35),.load 24 (.tmp 3),24,"",⟨[]⟩,none⟩,some ((some 34),false),true⟩,⟨⟨(some 37),.load 24 (.tmp 3),24,"",⟨[]⟩,none⟩,some ((some 34),false),true⟩,⟨⟨(some 36),.call ⟨.value (.func 17),⟨[(.tmp 35)]⟩,⟨[24]⟩⟩,26,"",⟨[]⟩,none⟩,some ((some 34),false),true⟩,⟨⟨(some 38),.call ⟨.value (.func 18),⟨[(.tmp 37)]⟩,⟨[24]⟩⟩,26,"",⟨[]⟩,none⟩,some ((some 34),false),false⟩,⟨⟨(some 39),.binOp .neq 26 (.tmp 36) (.tmp 38) 26,4,"",⟨[]⟩,none⟩,some ((some 34),false),true⟩,⟨⟨(some 40),.pick (.tmp 34) (.const (.bool true)) (.tmp 39),4,"",⟨[]⟩,none⟩,none,true⟩]) (.cond (.tmp 40) (.seq (.ops false [⟨⟨(some 6),.assign (.const (.bool false)),4,"",⟨[]⟩,none⟩,none,false⟩]) .ret) .skip)) (.seq (.ops false [⟨⟨(some 42),.load 24 (.tmp 3),24,"",⟨[]⟩,none⟩,none,false⟩,⟨⟨(some 43),.move (.tmp 1),22,"",⟨[]⟩,none⟩,none,false⟩,⟨⟨(some 44),.indexAddr 25 (.tmp 5) (.const (.int .i64 1)),0,"",⟨[]⟩,none⟩,none,false⟩,⟨⟨(some 45),.load 3 (.tmp 44),3,"",⟨[]⟩,none⟩,none,false⟩,⟨⟨(some 46),.call ⟨.value (.func 19),⟨[(.tmp 42),(.tmp 43),(.tmp 45)]⟩,⟨[24,22,3]⟩⟩,27,"",⟨[]⟩,none⟩,none,false⟩,⟨⟨(some 41),.move (.tmp 46),27,"",⟨[]⟩,none⟩,none,false⟩,⟨⟨(some 47),.extract (.tmp 41) 0,22,"",⟨[]⟩,none⟩,none,false⟩,⟨⟨(some 48),.extract (.tmp 41) 1,26,"",⟨[]⟩,none⟩,none,false⟩,⟨⟨(some 7),.assign (.tmp 47),22,"",⟨[]⟩,none⟩,none,false⟩,⟨⟨(some 8),.assign (.tmp 48),26,"",⟨[]⟩,none⟩,none,false⟩]) (.seq (.ops false [⟨⟨(some 50),.load 24 (.tmp 3),24,"",⟨[]⟩,none⟩,none,false⟩,⟨⟨(some 51),.move (.tmp 1),22,"",⟨[]⟩,none⟩,none,false⟩,⟨⟨(some 52),.indexAddr 25 (.tmp 5) (.const (.int .i64 1)),0,"",⟨[]⟩,none⟩,none,false⟩,⟨⟨(some 53),.load 3 (.tmp 52),3,"",⟨[]⟩,none⟩,none,false⟩,⟨⟨(some 54),.call ⟨.value (.func 20),⟨[(.tmp 50),(.tmp 51),(.tmp 53)]⟩,⟨[24,22,3]⟩⟩,27,"",⟨[]⟩,none⟩,none,false⟩,⟨⟨(some 49),.move (.tmp 54),27,"",⟨[]⟩,none⟩,none,false⟩,⟨⟨(some 55),.extract (.tmp 49) 0,22,"",⟨[]⟩,none⟩,none,false⟩,⟨⟨(some 56),.extract (.tmp 49) 1,26,"",⟨[]⟩,none⟩,none,false⟩,⟨⟨(some 9),.assign (.tmp 55),22,"",⟨[]⟩,none⟩,none,false⟩,⟨⟨(some 10),.assign (.tmp 56),26,"",⟨[]⟩,none⟩,none,false⟩]) (.seq (.ops false [⟨⟨(some 57),.move (.tmp 7),22,"",⟨[]⟩,none⟩,none,false⟩,⟨⟨(some 58),.move (.tmp 9),22,"",⟨[]⟩,none⟩,none,false⟩,⟨⟨(some 59),.call ⟨.value (.func 16),⟨[(.tmp 57),(.tmp 58)]⟩,⟨[22,22]⟩⟩,4,"",⟨[]⟩,none⟩,none,false⟩,⟨⟨(some 60),.move (.tmp 59),4,"",⟨[]⟩,none⟩,none,false⟩,⟨⟨(some 61),.move (.tmp 8),26,"",⟨[]⟩,none⟩,some ((some 60),true),false⟩,⟨⟨(some 62),.move (.tmp 10),26,"",⟨[]⟩,none⟩,some ((some 60),true),false⟩,⟨⟨(some 63),.binOp .eql 26 (.tmp 61) (.tmp 62) 26,4,"",⟨[]⟩,none⟩,some ((some 60),true),false⟩,⟨⟨(some 64),.pick (.tmp 60) (.tmp 63) (.const (.bool false)),4,"",⟨[]⟩,none⟩,none,false⟩,⟨⟨(some 65),.move (.tmp 64),4,"",⟨[]⟩,none⟩,none,false⟩,⟨⟨(some 66),.call ⟨.value (.func 21),⟨[]⟩,⟨[]⟩⟩,4,"",⟨[]⟩,none⟩,some ((some 65),true),false⟩,⟨⟨(some 67),.pick (.tmp 65) (.tmp 66) (.const (.bool false)),4,"",⟨[]⟩,none⟩,none,false⟩,⟨⟨(some 6),.assign (.tmp 67),4,"",⟨[]⟩,none⟩,none,false⟩]) .ret)))))))
def Tryz.s15 : SC := (.seq (.ops false [⟨⟨(some 2),.box 24 (.tmp 0),0,"",⟨[]⟩,none⟩,none,false⟩,⟨⟨(some 4),.assign (.const (.slice none 0 0)),22,"",⟨[]⟩,none⟩,none,false⟩,⟨⟨(some 5),.assign (.const (.int .i64 0)),26,"",⟨[]⟩,none⟩,none,false⟩]) (.seq (.seq (.ops false [⟨⟨(some 9),.load 24 (.tmp 2),24,"",⟨[]⟩,none⟩,none,false⟩,⟨⟨(some 10),.call ⟨.value (.func 18),⟨[(.tmp 9)]⟩,⟨[24]⟩⟩,26,"",⟨[]⟩,none⟩,none,false⟩,⟨⟨(some 6),.assign (.tmp 10),26,"",⟨[]⟩,none⟩,none,false⟩]) (.seq (.ops false [⟨⟨(some 11),.move (.tmp 6),26,"",⟨[]⟩,none⟩,none,false⟩,⟨⟨(some 12),.binOp .neq 26 (.tmp 11) (.const (.int .i64 0)) 26,4,"",⟨[]⟩,none⟩,none,false⟩]) (.cond (.tmp 12) (.seq (.ops false [⟨⟨(some 13),.move (.tmp 6),26,"",⟨[]⟩,none⟩,none,false⟩,⟨⟨(some 4),.assign (.const (.slice none 0 0)),22,"",⟨[]⟩,none⟩,none,false⟩,⟨⟨(some 5),.assign (.tmp 13),26,"",⟨[]⟩,none⟩,none,false⟩]) .ret) .skip))) (.seq (.seq (.ops false [⟨⟨(some 14),.move (.tmp 1),3,"",⟨[]⟩,none⟩,none,false⟩,⟨⟨(some 15),.call ⟨.value (.func 40),⟨[(.const (.int .i64 0)),(.tmp 14),(.const (.int .i64 2000))]⟩,⟨[3,3,3]⟩⟩,4,"",⟨[]⟩,none⟩,none,false⟩,⟨⟨(some 16),.unOp .not 4 (.tmp 15),4,"",⟨[]⟩,none⟩,none,false⟩]) (.cond (.tmp 16) (.seq (.ops false [⟨⟨(some 4),.assign (.const (.slice none 0 0)),22,"",⟨[]⟩,none⟩,none,false⟩,⟨⟨(some 5),.assign (.const (.int .i64 7)),26,"",⟨[]⟩,none⟩,none,false⟩]) .ret) .skip)) (.seq (.ops false [⟨⟨(some 18),.fieldAddr 24 (.tmp 2) 0,0,"",⟨[]⟩,none⟩,none,false⟩,⟨⟨(some 19),.load 22 (.tmp 18),22,"",⟨[]⟩,none⟩,none,false⟩,⟨⟨(some 20),.fieldAddr 24 (.tmp 2) 1,0,"",⟨[]⟩,none⟩,none,false⟩,⟨⟨(some 21),.load 22 (.tmp 20),22,"",⟨[]⟩,none⟩,none,false⟩,⟨⟨(some 22),.move (.tmp 1),3,"",⟨[]⟩,none⟩,none,false⟩,⟨⟨(some 23),.call ⟨.value (.func 53),⟨[(.tmp 19),(.tmp 21),(.tmp 22)]⟩,⟨[22,22,3]⟩⟩,93,"",⟨[]⟩,none⟩,none,false⟩,⟨⟨(some 17),.move (.tmp 23),93,"",⟨[]⟩,none⟩,none,false⟩,⟨⟨(some 24),.extract (.tmp 17) 0,22,"",⟨[]⟩,none⟩,none,false⟩,⟨⟨(some 25),.extract (.tmp 17) 1,4,"",⟨[]⟩,none⟩,none,false⟩,⟨⟨(some 7),.assign (.tmp 24),22,"",⟨[]⟩,none⟩,none,false⟩,⟨⟨(some 8),.assign (.tmp 25),4,"",⟨[]⟩,none⟩,none,false⟩]) (.seq (.seq (.ops false [⟨⟨(some 26),.move (.tmp 8),4,"",⟨[]⟩,none⟩,none,false⟩,⟨⟨(some 27),.unOp .not 4 (.tmp 26),4,"",⟨[]⟩,none⟩,none,false⟩]) (.cond (.tmp 27) (.seq (.ops false [⟨⟨(some 4),.assign (.const (.slice none 0 0)),22,"",⟨[]⟩,none⟩,none,false⟩,⟨⟨(some 5),.assign (.const (.int .i64 4)),26,"",⟨[]⟩,none⟩,none,false⟩]) .ret) .skip)) (.seq (.ops false [⟨⟨(some 28),.move (.tmp 7),22,"",⟨[]⟩,none⟩,none,false⟩,⟨⟨(some 4),.assign (.tmp 28),22,"",⟨[]⟩,none⟩,none,false⟩,⟨⟨(some 5),.assign (.const (.int .i64 0)),26,"",⟨[]⟩,none⟩,none,false⟩]) .ret))))))
def Tryz.s16 : SC := (.seq (.ops false [⟨⟨(some 4),.assign (.const (.bool false)),4,"",⟨[]⟩,none⟩,none,false⟩]) (.seq (.ops false [⟨⟨(some 7),.move (.tmp 0),22,"",⟨[]⟩,none⟩,none,false⟩,⟨⟨(some 8),.call ⟨.builtin .len,⟨[(.tmp 7)]⟩,⟨[22]⟩⟩,3,"",⟨[]⟩,none⟩,none,false⟩,⟨⟨(some 9),.move (.tmp 1),22,"",⟨[]⟩,none⟩,none,false⟩,⟨⟨(some 10),.call ⟨.builtin .len,⟨[(.tmp 9)]⟩,⟨[22]⟩⟩,3,"",⟨[]⟩,none⟩,none,false⟩,⟨⟨(some 11),.binOp .eql 3 (.tmp 8) (.tmp 10) 3,4,"",⟨[]⟩,none⟩,none,false⟩,⟨⟨(some 5),.assign (.tmp 11),4,"",⟨[]⟩,none⟩,none,false⟩]) (.seq (.seq (.ops false [⟨⟨(some 6),.assign (.const (.int .i64 0)),3,"",⟨[]⟩,none⟩,none,false⟩]) (.block 0 (.loop (.seq (.seq (.ops false [⟨⟨(some 12),.move (.tmp 5),4,"",⟨[]⟩,none⟩,none,false⟩,⟨⟨(some 13),.move (.tmp 12),4,"",⟨[]⟩,none⟩,none,false⟩,⟨⟨(some 14),.move (.tmp 6),3,"",⟨[]⟩,none⟩,some ((some 13),true),false⟩,⟨⟨(some 15),.move (.tmp 0),22,"",⟨[]⟩,none⟩,some ((some 13),true),false⟩,⟨⟨(some 16),.call ⟨.builtin .len,⟨[(.tmp 15)]⟩,⟨[22]⟩⟩,3,"",⟨[]⟩,none⟩,some ((some 13),true),false⟩,⟨⟨(some 17),.binOp .lss 3 (.tmp 14) (.tmp 16) 3,4,"",⟨[]⟩,none⟩,some ((some 13),true),false⟩,⟨⟨(some 18),.pick (.tmp 13) (.tmp 17) (.const (.bool false)),4,"",⟨[]⟩,none⟩,none,false⟩]) (.cond (.tmp 18) .skip (.exit 0))) (.seq (.block 1 (.ops true [⟨⟨(some 21),.move (.tmp 0),22,"",⟨[]⟩,none⟩,none,true⟩,⟨⟨(some 22),.move (.tmp 6),3,"",⟨[]⟩,none⟩,none,true⟩,⟨⟨(some 23),.indexAddr 22 (.tmp 21) (.tmp 22),0,"",⟨[]⟩,none⟩,none,true⟩,⟨⟨(some 24),.load 3 (.tmp 23),3,"",⟨[]⟩,none⟩,none,true⟩,⟨⟨(some 25),.move (.tmp 1),22,"",⟨[]⟩,none⟩,none,true⟩,⟨⟨(some 26),.move (.tmp 6),3,"",⟨[]⟩,none⟩,none,true⟩,⟨⟨(some 27),.indexAddr 22 (.tmp 25) (.tmp 26),0,"",⟨[]⟩,none⟩,none,true⟩,⟨⟨(some 28),.load 3 (.tmp 27),3,"",⟨[]⟩,none⟩,none,true⟩,⟨⟨(some 29),.binOp .eql 3 (.tmp 24) (.tmp 28) 3,4,"",⟨[]⟩,none⟩,none,true⟩,⟨⟨(some 5),.assign (.tmp 29),4,"",⟨[]⟩,none⟩,none,true⟩])) (.ops false [⟨⟨(some 19),.move (.tmp 6),3,"",⟨[]⟩,none⟩,none,false⟩,⟨⟨(some 20),.binOp .add 3 (.tmp 19) (.const (.int .i64 1)) 3,3,"",⟨[]⟩,none⟩,none,false⟩,⟨⟨(some 6),.assign (.tmp 20),3,"",⟨[]⟩,none⟩,none,false⟩])))))) (.seq (.ops false [⟨⟨(some 30),.move (.tmp 5),4,"",⟨[]⟩,none⟩,none,false⟩,⟨⟨(some 4),.assign (.tmp 30),4,"",⟨[]⟩,none⟩,none,false⟩]) .ret))))
def Tryz.s18 : SC := (.seq (.ops false [⟨⟨(some 1),.box 24 (.tmp 0),0,"",⟨[]⟩,none⟩,none,false⟩,⟨⟨(some 2),.assign (.const (.int .i64 0)),26,"",⟨[]⟩,none⟩,none,false⟩]) (.seq (.ops false [⟨⟨(some 5),.fieldAddr 24 (.tmp 1) 0,0,"",⟨[]⟩,none⟩,none,false⟩,⟨⟨(some 6),.load 22 (.tmp 5),22,"",⟨[]⟩,none⟩,none,false⟩,⟨⟨(some 7),.call ⟨.builtin .len,⟨[(.tmp 6)]⟩,⟨[22]⟩⟩,3,"",⟨[]⟩,none⟩,none,false⟩,⟨⟨(some 8),.call ⟨.value (.func 40),⟨[(.const (.int .i64 1)),(.tmp 7),(.const (.int .i64 8))]⟩,⟨[3,3,3]⟩⟩,4,"",⟨[]⟩,none⟩,none,false⟩,⟨⟨(some 9),.move (.tmp 8),4,"",⟨[]⟩,none⟩,none,false⟩,⟨⟨(some 10),.fieldAddr 24 (.tmp 1) 1,0,"",⟨[]⟩,none⟩,some ((some 9),true),false⟩,⟨⟨(some 11),.load 22 (.tmp 10),22,"",⟨[]⟩,none⟩,some ((some 9),true),false⟩,⟨⟨(some 12),.call ⟨.builtin .len,⟨[(.tmp 11)]⟩,⟨[22]⟩⟩,3,"",⟨[]⟩,none⟩,some ((some 9),true),false⟩,⟨⟨(some 13),.fieldAddr 24 (.tmp 1) 0,0,"",⟨[]⟩,none⟩,some ((some 9),true),false⟩,⟨⟨(some 14),.load 22 (.tmp 13),22,"",⟨[]⟩,none⟩,some ((some 9),true),false⟩,⟨⟨(some 15),.call ⟨.builtin .len,⟨[(.tmp 14)]⟩,⟨[22]⟩⟩,3,"",⟨[]⟩,none⟩,some ((some 9),true),false⟩,⟨⟨(some 16),.binOp .eql 3 (.tmp 12) (.tmp 15) 3,4,"",⟨[]⟩,none⟩,some ((some 9),true),false⟩,⟨⟨(some 17),.pick (.tmp 9) (.tmp 16) (.const (.bool false)),4,"",⟨[]⟩,none⟩,none,false⟩,⟨⟨(some 3),.assign (.tmp 17),4,"",⟨[]⟩,none⟩,none,false⟩]) (.seq (.seq (.ops false [⟨⟨(some 4),.assign (.const (.int .i64 0)),3,"",⟨[]⟩,none⟩,none,false⟩]) (.block 0 (.loop (.seq (.seq (.ops false [⟨⟨(some 18),.move (.tmp 3),4,"",⟨[]⟩,none⟩,none,false⟩,⟨⟨(some 19),.move (.tmp 18),4,"",⟨[]⟩,none⟩,none,false⟩,⟨⟨(some 20),.move (.tmp 4),3,"",⟨[]⟩,none⟩,some ((some 19),true),false⟩,⟨⟨(some 21),.fieldAddr 24 (.tmp 1) 0,0,"",⟨[]⟩,none⟩,some ((some 19),true),false⟩,⟨⟨(some 22),.load 22 (.tmp 21),22,"",⟨[]⟩,none⟩,some ((some 19),true),false⟩,⟨⟨(some 23),.call ⟨.builtin .len,⟨[(.tmp 22)]⟩,⟨[22]⟩⟩,3,"",⟨[]⟩,none⟩,some ((some 19),true),false⟩,⟨⟨(some 24),.binOp .lss 3 (.tmp 20) (.tmp 23) 3,4,"",⟨[]⟩,none⟩,some ((some 19),true),false⟩,⟨⟨(some 25),.pick (.tmp 19) (.tmp 24) (.const (.bool false)),4,"",⟨[]⟩,none⟩,none,false⟩]) (.cond (.tmp 25) .skip (.exit 0))) (.seq (.block 1 (.ops true [⟨⟨(some 28),.fieldAddr 24 (.tmp 1) 0,0,"",⟨[]⟩,none⟩,none,true⟩,⟨⟨(some 29),.load 22 (.tmp 28),22,"",⟨[]⟩,none⟩,none,true⟩,⟨⟨(some 30),.move (.tmp 4),3,"",⟨[]⟩,none⟩,none,true⟩,⟨⟨(some 31),.indexAddr 22 (.tmp 29) (.tmp 30),0,"",⟨[]⟩,none⟩,none,true⟩,⟨⟨(some 32),.load 3 (.tmp 31),3,"",⟨[]⟩,none⟩,none,true⟩,⟨⟨(some 33),.call ⟨.value (.func 40),⟨[(.const (.int .i64 1)),(.tmp 32),(.const (.int .i64 50000))]⟩,⟨[3,3,3]⟩⟩,4,"",⟨[]⟩,none⟩,none,false⟩,⟨⟨(some 34),.move (.tmp 33),4,"",⟨[]⟩,none⟩,none,true⟩,⟨⟨(some 35),.fieldAddr 24 (.tmp 1) 1,0,"",⟨[]⟩,none⟩,some ((some 34),true),true⟩,⟨⟨(some 36),.load 22 (.tmp 35),22,"",⟨[]⟩,none⟩,some ((some 34),true),true⟩,⟨⟨(some 37),.move (.tmp 4),3,"",⟨[]⟩,none⟩,some ((some 34),true),true⟩,⟨⟨(some 38),.indexAddr 22 (.tmp 36) (.tmp 37),0,"",⟨[]⟩,none⟩,some ((some 34),true),true⟩,⟨⟨(some 39),.load 3 (.tmp 38),3,"",⟨[]⟩,none⟩,some ((some 34),true),true⟩,⟨⟨(some 40),.call ⟨.value (.func 40),⟨[(.const (.int .i64 0)),(.tmp 39),(.const (.int .i64 50))]⟩,⟨[3,3,3]⟩⟩,4,"",⟨[]⟩,none⟩,some ((some 34),true),false⟩,⟨⟨(some 41),.pick (.tmp 34) (.tmp 40) (.const (.bool false)),4,"",⟨[]⟩,none⟩,none,true⟩,⟨⟨(some 42),.move (.tmp 41),4,"",⟨[]⟩,none⟩,none,true⟩,⟨⟨(some 43),.move (.tmp 4),3,"",⟨[]⟩,none⟩,some ((some 42),true),true⟩,⟨⟨(some 44),.binOp .eql 3 (.tmp 43) (.const (.int .i64 0)) 3,4,"",⟨[]⟩,none⟩,some ((some 42),true),true⟩,⟨⟨(some 45),.move (.tmp 44),4,"",⟨[]⟩,none⟩,some ((some 42),true),true⟩,⟨⟨(some 46),.fieldAddr 24 (.tmp 1) 0,0,"",⟨[]⟩,none⟩,some ((some 45),false),true⟩,⟨⟨(some 47),.load 22 (.tmp 46),22,"",⟨[]⟩,none⟩,some ((some 45),false),true⟩,⟨⟨(some 48),.move (.tmp 4),3,"",⟨[]⟩,none⟩,some ((some 45),false),true⟩,⟨⟨(some 49),.binOp .sub 3 (.tmp 48) (.const (.int .i64 1)) 3,3,"",⟨[]⟩,none⟩,some ((some 45),false),true⟩,⟨⟨(some 50),.indexAddr 22 (.tmp 47) (.tmp 49),0,"",⟨[]⟩,none⟩,some ((some 45),false),true⟩,⟨⟨(some 51),.load 3 (.tmp 50),3,"",⟨[]⟩,none⟩,some ((some 45),false),true⟩,⟨⟨(some 52),.fieldAddr 24 (.tmp 1) 0,0,"",⟨[]⟩,none⟩,some ((some 45),false),true⟩,⟨⟨(some 53),.load 22 (.tmp 52),22,"",⟨[]⟩,none⟩,some ((some 45),false),true⟩,⟨⟨(some 54),.move (.tmp 4),3,"",⟨[]⟩,none⟩,some ((some 45),false),true⟩,⟨⟨(some 55),.indexAddr 22 (.tmp 53) (.tmp 54),0,"",⟨[]⟩,none⟩,some ((some 45),false),true⟩,⟨⟨(some 56),.load 3 (.tmp 55),3,"",⟨[]⟩,none⟩,some ((some 45),false),true⟩,⟨⟨(some 57),.binOp .gtr 3 (.tmp 51) (.tmp 56) 3,4,"",⟨[]⟩,none⟩,some ((some 45),false),true⟩,⟨⟨(some 58),.pick (.tmp 45) (.const (.bool true)) (.tmp 57),4,"",⟨[]⟩,none⟩,some ((some 42),true),true⟩,⟨⟨(some 59),.pick (.tmp 42) (.tmp 58) (.const (.bool false)),4,"",⟨[]⟩,none⟩,none,true⟩,⟨⟨(some 3),.assign (.tmp 59),4,"",⟨[]⟩,none⟩,none,true⟩])) (.ops false [⟨⟨(some 26),.move (.tmp 4),3,"",⟨[]⟩,none⟩,none,false⟩,⟨⟨(some 27),.binOp .add 3 (.tmp 26) (.const (.int .i64 1)) 3,3,"",⟨[]⟩,none⟩,none,false⟩,⟨⟨(some 4),.assign (.tmp 27),3,"",⟨[]⟩,none⟩,none,false⟩])))))) (.seq (.seq (.ops false [⟨⟨(some 60),.move (.tmp 3),4,"",⟨[]⟩,none⟩,none,false⟩,⟨⟨(some 61),.unOp .not 4 (.tmp 60),4,"",⟨[]⟩,none⟩,none,false⟩]) (.cond (.tmp 61) (.seq (.ops false [⟨⟨(some 2),.assign (.const (.int .i64 80)),26,"",⟨[]⟩,none⟩,none,false⟩]) .ret) .skip)) (.seq (.ops false [⟨⟨(some 2),.assign (.const (.int .i64 0)),26,"",⟨[]⟩,none⟩,none,false⟩]) .ret)))))
def Tryz.s20 : SC := (.seq (.ops false [⟨⟨(some 3),.box 24 (.tmp 0),0,"",⟨[]⟩,none⟩,none,false⟩,⟨⟨(some 6),.assign (.const (.slice none 0 0)),22,"",⟨[]⟩,none⟩,none,false⟩,⟨⟨(some 7),.assign (.const (.int .i64 0)),26,"",⟨[]⟩,none⟩,none,false⟩]) (.seq (.seq (.ops false [⟨⟨(some 16),.load 24 (.tmp 3),24,"",⟨[]⟩,none⟩,none,false⟩,⟨⟨(some 17),.call ⟨.value (.func 18),⟨[(.tmp 16)]⟩,⟨[24]⟩⟩,26,"",⟨[]⟩,none⟩,none,false⟩,⟨⟨(some 8),.assign (.tmp 17),26,"",⟨[]⟩,none⟩,none,false⟩]) (.seq (.ops false [⟨⟨(some 18),.move (.tmp 8),26,"",⟨[]⟩,none⟩,none,false⟩,⟨⟨(some 19),.binOp .neq 26 (.tmp 18) (.const (.int .i64 0)) 26,4,"",⟨[]⟩,none⟩,none,false⟩]) (.cond (.tmp 19) (.seq (.ops false [⟨⟨(some 20),.move (.tmp 8),26,"",⟨[]⟩,none⟩,none,false⟩,⟨⟨(some 6),.assign (.const (.slice none 0 0)),22,"",⟨[]⟩,none⟩,none,false⟩,⟨⟨(some 7),.assign (.tmp 20),26,"",⟨[]⟩,none⟩,none,false⟩]) .ret) .skip))) (.seq (.ops false [⟨⟨(some 21),.move (.tmp 1),22,"",⟨[]⟩,none⟩,none,false⟩,⟨⟨(some 22),.call ⟨.builtin .len,⟨[(.tmp 21)]⟩,⟨[22]⟩⟩,3,"",⟨[]⟩,none⟩,none,false⟩,⟨⟨(some 23),.fieldAddr 24 (.tmp 3) 0,0,"",⟨[]⟩,none⟩,none,false⟩,⟨⟨(some 24),.load 22 (.tmp 23),22,"",⟨[]⟩,none⟩,none,false⟩,⟨⟨(some 25),.call ⟨.builtin .len,⟨[(.tmp 24)]⟩,⟨[22]⟩⟩,3,"",⟨[]⟩,none⟩,none,false⟩,⟨⟨(some 26),.binOp .eql 3 (.tmp 22) (.tmp 25) 3,4,"",⟨[]⟩,none⟩,none,false⟩,⟨⟨(some 27),.move (.tmp 26),4,"",⟨[]⟩,none⟩,none,false⟩,⟨⟨(some 28),.move (.tmp 2),3,"",⟨[]⟩,none⟩,some ((some 27),true),false⟩,⟨⟨(some 29),.binOp .geq 3 (.tmp 28) (.const (.int .i64 0)) 3,4,"",⟨[]⟩,none⟩,some ((some 27),true),false⟩,⟨⟨(some 30),.pick (.tmp 27) (.tmp 29) (.const (.bool false)),4,"",⟨[]⟩,none⟩,none,false⟩,⟨⟨(some 9),.assign (.tmp 30),4,"",⟨[]⟩,none⟩,none,false⟩]) (.seq (.seq (.ops false [⟨⟨(some 10),.assign (.const (.int .i64 0)),3,"",⟨[]⟩,none⟩,none,false⟩]) (.block 0 (.loop (.seq (.seq (.ops false [⟨⟨(some 31),.move (.tmp 10),3,"",⟨[]⟩,none⟩,none,false⟩,⟨⟨(some 32),.move (.tmp 1),22,"",⟨[]⟩,none⟩,none,false⟩,⟨⟨(some 33),.call ⟨.builtin .len,⟨[(.tmp 32)]⟩,⟨[22]⟩⟩,3,"",⟨[]⟩,none⟩,none,false⟩,⟨⟨(some 34),.binOp .lss 3 (.tmp 31) (.tmp 33) 3,4,"",⟨[]⟩,none⟩,none,false⟩]) (.cond (.tmp 34) .skip (.exit 0))) (.seq (.block 1 (.ops false [⟨⟨(some 37),.move (.tmp 9),4,"",⟨[]⟩,none⟩,none,false⟩,⟨⟨(some 38),.move (.tmp 37),4,"",⟨[]⟩,none⟩,none,false⟩,⟨⟨(some 39),.move (.tmp 1),22,"",⟨[]⟩,none⟩,some ((some 38),true),false⟩,⟨⟨(some 40),.move (.tmp 10),3,"",⟨[]⟩,none⟩,some ((some 38),true),false⟩,⟨⟨(some 41),.indexAddr 22 (.tmp 39) (.tmp 40),0,"",⟨[]⟩,none⟩,some ((some 38),true),false⟩,⟨⟨(some 42),.load 3 (.tmp 41),3,"",⟨[]⟩,none⟩,some ((some 38),true),false⟩,⟨⟨(some 43),.call ⟨.value (.func 40),⟨[(.const (.int .i64 0)),(.tmp 42),(.const (.int .i64 50))]⟩,⟨[3,3,3]⟩⟩,4,"",⟨[]⟩,none⟩,some ((some 38),true),false⟩,⟨⟨(some 44),.pick (.tmp 38) (.tmp 43) (.const (.bool false)),4,"",⟨[]⟩,none⟩,none,false⟩,⟨⟨(some 9),.assign (.tmp 44),4,"",⟨[]⟩,none⟩,none,false⟩])) (.ops false [⟨⟨(some 35),.move (.tmp 10),3,"",⟨[]⟩,none⟩,none,false⟩,⟨⟨(some 36),.binOp .add 3 (.tmp 35) (.const (.int .i64 1)) 3,3,"",⟨[]⟩,none⟩,none,false⟩,⟨⟨(some 10),.assign (.tmp 36),3,"",⟨[]⟩,none⟩,none,false⟩])))))) (.seq (.seq (.ops false [⟨⟨(some 45),.move (.tmp 9),4,"",⟨[]⟩,none⟩,none,false⟩,⟨⟨(some 46),.unOp .not 4 (.tmp 45),4,"",⟨[]⟩,none⟩,none,false⟩]) (.cond (.tmp 46) (.seq (.ops false [⟨⟨(some 6),.assign (.const (.slice none 0 0)),22,"",⟨[]⟩,none⟩,none,false⟩,⟨⟨(some 7),.assign (.const (.int .i64 7)),26,"",⟨[]⟩,none⟩,none,false⟩]) .ret) .skip)) (.seq (.ops false [⟨⟨(some 47),.fieldAddr 24 (.tmp 3) 0,0,"",⟨[]⟩,none⟩,none,false⟩,⟨⟨(some 48),.load 22 (.tmp 47),22,"",⟨[]⟩,none⟩,none,false⟩,⟨⟨(some 49),.move (.tmp 1),22,"",⟨[]⟩,none⟩,none,false⟩,⟨⟨(some 50),.call ⟨.value (.func 56),⟨[(.tmp 48),(.tmp 49)]⟩,⟨[22,22]⟩⟩,3,"",⟨[]⟩,none⟩,none,false⟩,⟨⟨(some 51),.move (.tmp 2),3,"",⟨[]⟩,none⟩,none,false⟩,⟨⟨(some 52),.binOp .sub 3 (.tmp 50) (.tmp 51) 3,3,"",⟨[]⟩,none⟩,none,false⟩,⟨⟨(some 11),.assign (.tmp 52),3,"",⟨[]⟩,none⟩,none,false⟩]) (.seq (.seq (.ops false [⟨⟨(some 53),.move (.tmp 11),3,"",⟨[]⟩,none⟩,none,false⟩,⟨⟨(some 54),.binOp .lss 3 (.tmp 53) (.const (.int .i64 0)) 3,4,"",⟨[]⟩,none⟩,none,false⟩]) (.cond (.tmp 54) (.seq (.ops false [⟨⟨(some 6),.assign (.const (.slice none 0 0)),22,"",⟨[]⟩,none⟩,none,false⟩,⟨⟨(some 7),.assign (.const (.int .i64 81)),26,"",⟨[]⟩,none⟩,none,false⟩]) .ret) .skip)) (.seq (.seq (.ops false [⟨⟨(some 55),.move (.tmp 11),3,"",⟨[]⟩,none⟩,none,false⟩,⟨⟨(some 56),.binOp .gtr 3 (.tmp 55) (.const (.int .i64 2000)) 3,4,"",⟨[]⟩,none⟩,none,false⟩]) (.cond (.tmp 56) (.seq (.ops false [⟨⟨(some 6),.assign (.const (.slice none 0 0)),22,"",⟨[]⟩,none⟩,none,false⟩,⟨⟨(some 7),.assign (.const (.int .i64 7)),26,"",⟨[]⟩,none⟩,none,false⟩]) .ret) .skip)) (.seq (.ops false [⟨⟨(some 12),.assign (.const (.slice none 0 0)),22,"",⟨[]⟩,none⟩,none,false⟩]) (.seq (.seq (.ops false [⟨⟨(some 13),.assign (.const (.int .i64 0)),3,"",⟨[]⟩,none⟩,none,false⟩]) (.block 2 (.loop (.seq (.seq (.ops false [⟨⟨(some 57),.move (.tmp 13),3,"",⟨[]⟩,none⟩,none,false⟩,⟨⟨(some 58),.move (.tmp 1),22,"",⟨[]⟩,none⟩,none,false⟩,⟨⟨(some 59),.call ⟨.builtin .len,⟨[(.tmp 58)]⟩,⟨[22]⟩⟩,3,"",⟨[]⟩,none⟩,none,false⟩,⟨⟨(some 60),.binOp .lss 3 (.tmp 57) (.tmp 59) 3,4,"",⟨[]⟩,none⟩,none,false⟩]) (.cond (.tmp 60) .skip (.exit 2))) (.seq (.block 3 (.ops true [⟨⟨(some 63),.move (.tmp 12),22,"",⟨[]⟩,none⟩,none,true⟩,⟨⟨(some 64),.fieldAddr 24 (.tmp 3) 1,0,"",⟨[]⟩,none⟩,none,true⟩,⟨⟨(some 65),.load 22 (.tmp 64),22,"",⟨[]⟩,none⟩,none,true⟩,⟨⟨(some 66),.move (.tmp 13),3,"",⟨[]⟩,none⟩,none,true⟩,⟨⟨(some 67),.indexAddr 22 (.tmp 65) (.tmp 66),0,"",⟨[]⟩,none⟩,none,true⟩,⟨⟨(some 68),.load 3 (.tmp 67),3,"",⟨[]⟩,none⟩,none,true⟩,⟨⟨(some 69),.move (.tmp 1),22,"",⟨[]⟩,none⟩,none,true⟩,⟨⟨(some 70),.move (.tmp 13),3,"",⟨[]⟩,none⟩,none,true⟩,⟨⟨(some 71),.indexAddr 22 (.tmp 69) (.tmp 70),0,"",⟨[]⟩,none⟩,none,true⟩,⟨⟨(some 72),.load 3 (.tmp 71),3,"",⟨[]⟩,none⟩,none,true⟩,⟨⟨(some 73),.binOp .add 3 (.tmp 68) (.tmp 72) 3,3,"",⟨[]⟩,none⟩,none,true⟩,⟨⟨(some 74),.buildSlice 22 1 ⟨[(0,(.tmp 73))]⟩,22,"",⟨[]⟩,none⟩,none,true⟩,⟨⟨(some 75),.call ⟨.builtin .append,⟨[(.tmp 63),(.tmp 74)]⟩,⟨[22,22]⟩⟩,22,"",⟨[]⟩,none⟩,none,false⟩,⟨⟨(some 12),.assign (.tmp 75),22,"",⟨[]⟩,none⟩,none,true⟩])) (.ops false [⟨⟨(some 61),.move (.tmp 13),3,"",⟨[]⟩,none⟩,none,false⟩,⟨⟨(some 62),.binOp .add 3 (.tmp 61) (.const (.int .i64 1)) 3,3,"",⟨[]⟩,none⟩,none,false⟩,⟨⟨(some 13),.assign (.tmp 62),3,"",⟨[]⟩,none⟩,none,false⟩])))))) (.seq (.ops false [⟨⟨(some 77),.fieldAddr 24 (.tmp 3) 0,0,"",⟨[]⟩,none⟩,none,false⟩,⟨⟨(some 78),.load 22 (.tmp 77),22,"",⟨[]⟩,none⟩,none,false⟩,⟨⟨(some 79),.move (.tmp 12),22,"",⟨[]⟩,none⟩,none,false⟩,⟨⟨(some 80),.move (.tmp 11),3,"",⟨[]⟩,none⟩,none,false⟩,⟨⟨(some 81),.call ⟨.value (.func 53),⟨[(.tmp 78),(.tmp 79),(.tmp 80)]⟩,⟨[22,22,3]⟩⟩,93,"",⟨[]⟩,none⟩,none,false⟩,⟨⟨(some 76),.move (.tmp 81),93,"",⟨[]⟩,none⟩,none,false⟩,⟨⟨(some 82),.extract (.tmp 76) 0,22,"",⟨[]⟩,none⟩,none,false⟩,⟨⟨(some 83),.extract (.tmp 76) 1,4,"",⟨[]⟩,none⟩,none,false⟩,⟨⟨(some 14),.assign (.tmp 82),22,"",⟨[]⟩,none⟩,none,false⟩,⟨⟨(some 15),.assign (.tmp 83),4,"",⟨[]⟩,none⟩,none,false⟩]) (.seq (.seq (.ops false [⟨⟨(some 84),.move (.tmp 15),4,"",⟨[]⟩,none⟩,none,false⟩,⟨⟨(some 85),.unOp .not 4 (.tmp 84),4,"",⟨[]⟩,none⟩,none,false⟩]) (.cond (.tmp 85) (.seq (.ops false [⟨⟨(some 6),.assign (.const (.slice none 0 0)),22,"",⟨[]⟩,none⟩,none,false⟩,⟨⟨(some 7),.assign (.const (.int .i64 4)),26,"",⟨[]⟩,none⟩,none,false⟩]) .ret) .skip)) (.seq (.ops false [⟨⟨(some 86),.move (.tmp 14),22,"",⟨[]⟩,none⟩,none,false⟩,⟨⟨(some 6),.assign (.tmp 86),22,"",⟨[]⟩,none⟩,none,false⟩,⟨⟨(some 7),.assign (.const (.int .i64 0)),26,"",⟨[]⟩,none⟩,none,false⟩]) .ret)))))))))))))
def Tryz.s53 : SC := (.seq (.ops false [⟨⟨(some 6),.assign (.const (.slice none 0 0)),22,"",⟨[]⟩,none⟩,none,false⟩,⟨⟨(some 7),.assign (.const (.bool false)),4,"",⟨[]⟩,none⟩,none,false⟩]) (.seq (.ops false [⟨⟨(some 13),.move (.tmp 0),22,"",⟨[]⟩,none⟩,none,false⟩,⟨⟨(some 14),.move (.tmp 1),22,"",⟨[]⟩,none⟩,none,false⟩,⟨⟨(some 15),.move (.tmp 2),3,"",⟨[]⟩,none⟩,none,false⟩,⟨⟨(some 16),.call ⟨.value (.func 96),⟨[(.tmp 13),(.tmp 14),(.const (.int .i64 0)),(.tmp 15)]⟩,⟨[22,22,3,3]⟩⟩,22,"",⟨[]⟩,none⟩,none,false⟩,⟨⟨(some 17),.move (.tmp 2),3,"",⟨[]⟩,none⟩,none,false⟩,⟨⟨(some 18),.indexAddr 22 (.tmp 16) (.tmp 17),0,"",⟨[]⟩,none⟩,none,false⟩,⟨⟨(some 19),.load 3 (.tmp 18),3,"",⟨[]⟩,none⟩,none,false⟩,⟨⟨(some 8),.assign (.tmp 19),3,"",⟨[]⟩,none⟩,none,false⟩]) (.seq (.seq (.ops false [⟨⟨(some 20),.move (.tmp 8),3,"",⟨[]⟩,none⟩,none,false⟩,⟨⟨(some 21),.binOp .lss 3 (.tmp 20) (.const (.int .i64 0)) 3,4,"",⟨[]⟩,none⟩,none,false⟩]) (.cond (.tmp 21) (.seq (.ops false [⟨⟨(some 6),.assign (.const (.slice none 0 0)),22,"",⟨[]⟩,none⟩,none,false⟩,⟨⟨(some 7),.assign (.const (.bool false)),4,"",⟨[]⟩,none⟩,none,false⟩]) .ret) .skip)) (.seq (.ops false [⟨⟨(some 9),.assign (.const (.slice none 0 0)),22,"",⟨[]⟩,none⟩,none,false⟩]) (.seq (.seq (.ops false [⟨⟨(some 10),.assign (.const (.int .i64 0)),3,"",⟨[]⟩,none⟩,none,false⟩]) (.block 0 (.loop (.seq (.seq (.ops false [⟨⟨(some 22),.move (.tmp 10),3,"",⟨[]⟩,none⟩,none,false⟩,⟨⟨(some 23),.move (.tmp 0),22,"",⟨[]⟩,none⟩,none,false⟩,⟨⟨(some 24),.call ⟨.builtin .len,⟨[(.tmp 23)]⟩,⟨[22]⟩⟩,3,"",⟨[]⟩,none⟩,none,false⟩,⟨⟨(some 25),.binOp .lss 3 (.tmp 22) (.tmp 24) 3,4,"",⟨[]⟩,none⟩,none,false⟩]) (.cond (.tmp 25) .skip (.exit 0))) (.seq (.block 1 (.seq (.ops false [⟨⟨(some 28),.move (.tmp 0),22,"",⟨[]⟩,none⟩,none,false⟩,⟨⟨(some 29),.move (.tmp 1),22,"",⟨[]⟩,none⟩,none,false⟩,⟨⟨(some 30),.move (.tmp 10),3,"",⟨[]⟩,none⟩,none,false⟩,⟨⟨(some 31),.binOp .add 3 (.tmp 30) (.const (.int .i64 1)) 3,3,"",⟨[]⟩,none⟩,none,false⟩,⟨⟨(some 32),.move (.tmp 2),3,"",⟨[]⟩,none⟩,none,false⟩,⟨⟨(some 33),.call ⟨.value (.func 96),⟨[(.tmp 28),(.tmp 29),(.tmp 31),(.tmp 32)]⟩,⟨[22,22,3,3]⟩⟩,22,"",⟨[]⟩,none⟩,none,false⟩,⟨⟨(some 11),.assign (.tmp 33),22,"",⟨[]⟩,none⟩,none,false⟩]) (.seq (.ops false [⟨⟨(some 34),.move (.tmp 1),22,"",⟨[]⟩,none⟩,none,false⟩,⟨⟨(some 35),.move (.tmp 10),3,"",⟨[]⟩,none⟩,none,false⟩,⟨⟨(some 36),.indexAddr 22 (.tmp 34) (.tmp 35),0,"",⟨[]⟩,none⟩,none,false⟩,⟨⟨(some 37),.load 3 (.tmp 36),3,"",⟨[]⟩,none⟩,none,false⟩,⟨⟨(some 12),.assign (.tmp 37),3,"",⟨[]⟩,none⟩,none,false⟩]) (.seq (.block 2 (.loop (.seq (.seq (.ops false [⟨⟨(some 38),.move (.tmp 12),3,"",⟨[]⟩,none⟩,none,false⟩,⟨⟨(some 39),.move (.tmp 0),22,"",⟨[]⟩,none⟩,none,false⟩,⟨⟨(some 40),.move (.tmp 10),3,"",⟨[]⟩,none⟩,none,false⟩,⟨⟨(some 41),.indexAddr 22 (.tmp 39) (.tmp 40),0,"",⟨[]⟩,none⟩,none,false⟩,⟨⟨(some 42),.load 3 (.tmp 41),3,"",⟨[]⟩,none⟩,none,false⟩,⟨⟨(some 43),.binOp .mul 3 (.tmp 38) (.tmp 42) 3,3,"",⟨[]⟩,none⟩,none,false⟩,⟨⟨(some 44),.move (.tmp 2),3,"",⟨[]⟩,none⟩,none,false⟩,⟨⟨(some 45),.binOp .gtr 3 (.tmp 43) (.tmp 44) 3,4,"",⟨[]⟩,none⟩,none,false⟩,⟨⟨(some 46),.move (.tmp 45),4,"",⟨[]⟩,none⟩,none,false⟩,⟨⟨(some 47),.move (.tmp 11),22,"",⟨[]⟩,none⟩,some ((some 46),false),false⟩,⟨⟨(some 48),.move (.tmp 2),3,"",⟨[]⟩,none⟩,some ((some 46),false),false⟩,⟨⟨(some 49),.move (.tmp 12),3,"",⟨[]⟩,none⟩,some ((some 46),false),false⟩,⟨⟨(some 50),.move (.tmp 0),22,"",⟨[]⟩,none⟩,some ((some 46),false),false⟩,⟨⟨(some 51),.move (.tmp 10),3,"",⟨[]⟩,none⟩,some ((some 46),false),false⟩,⟨⟨(some 52),.indexAddr 22 (.tmp 50) (.tmp 51),0,"",⟨[]⟩,none⟩,some ((some 46),false),false⟩,⟨⟨(some 53),.load 3 (.tmp 52),3,"",⟨[]⟩,none⟩,some ((some 46),false),false⟩,⟨⟨(some 54),.binOp .mul 3 (.tmp 49) (.tmp 53) 3,3,"",⟨[]⟩,none⟩,some ((some 46),false),false⟩,⟨⟨(some 55),.binOp .sub 3 (.tmp 48) (.tmp 54) 3,3,"",⟨[]⟩,none⟩,some ((some 46),false),false⟩,⟨⟨(some 56),.indexAddr 22 (.tmp 47) (.tmp 55),0,"",⟨[]⟩,none⟩,some ((some 46),false),false⟩,⟨⟨(some 57),.load 3 (.tmp 56),3,"",⟨[]⟩,none⟩,some ((some 46),false),false⟩,⟨⟨(some 58),.move (.tmp 8),3,"",⟨[]⟩,none⟩,some ((some 46),false),false⟩,⟨⟨(some 59),.move (.tmp 12),3,"",⟨[]⟩,none⟩,some ((some 46),false),false⟩,⟨⟨(some 60),.binOp .sub 3 (.tmp 58) (.tmp 59) 3,3,"",⟨[]⟩,none⟩,some ((some 46),false),false⟩,⟨⟨(some 61),.binOp .neq 3 (.tmp 57) (.tmp 60) 3,4,"",⟨[]⟩,none⟩,some ((some 46),false),false⟩,⟨⟨(some 62),.pick (.tmp 46) (.const (.bool true)) (.tmp 61),4,"",⟨[]⟩,none⟩,none,false⟩]) (.cond (.tmp 62) .skip (.exit 2))) (.block 3 (.ops false [⟨⟨(some 63),.move (.tmp 12),3,"",⟨[]⟩,none⟩,none,false⟩,⟨⟨(some 64),.binOp .sub 3 (.tmp 63) (.const (.int .i64 1)) 3,3,"",⟨[]⟩,none⟩,none,false⟩,⟨⟨(some 12),.assign (.tmp 64),3,"",⟨[]⟩,none⟩,none,false⟩]))))) (.seq (.ops false [⟨⟨(some 65),.move (.tmp 9),22,"",⟨[]⟩,none⟩,none,false⟩,⟨⟨(some 66),.move (.tmp 12),3,"",⟨[]⟩,none⟩,none,false⟩,⟨⟨(some 67),.buildSlice 22 1 ⟨[(0,(.tmp 66))]⟩,22,"",⟨[]⟩,none⟩,none,false⟩,⟨⟨(some 68),.call ⟨.builtin .append,⟨[(.tmp 65),(.tmp 67)]⟩,⟨[22,22]⟩⟩,22,"",⟨[]⟩,none⟩,none,false⟩,⟨⟨(some 9),.assign (.tmp 68),22,"",⟨[]⟩,none⟩,none,false⟩]) (.ops false [⟨⟨(some 69),.move (.tmp 2),3,"",⟨[]⟩,none⟩,none,false⟩,⟨⟨(some 70),.move (.tmp 12),3,"",⟨[]⟩,none⟩,none,false⟩,⟨⟨(some 71),.move (.tmp 0),22,"",⟨[]⟩,none⟩,none,false⟩,⟨⟨(some 72),.move (.tmp 10),3,"",⟨[]⟩,none⟩,none,false⟩,⟨⟨(some 73),.indexAddr 22 (.tmp 71) (.tmp 72),0,"",⟨[]⟩,none⟩,none,false⟩,⟨⟨(some 74),.load 3 (.tmp 73),3,"",⟨[]⟩,none⟩,none,false⟩,⟨⟨(some 75),.binOp .mul 3 (.tmp 70) (.tmp 74) 3,3,"",⟨[]⟩,none⟩,none,false⟩,⟨⟨(some 76),.binOp .sub 3 (.tmp 69) (.tmp 75) 3,3,"",⟨[]⟩,none⟩,none,false⟩,⟨⟨(some 77),.move (.tmp 8),3,"",⟨[]⟩,none⟩,none,false⟩,⟨⟨(some 78),.move (.tmp 12),3,"",⟨[]⟩,none⟩,none,false⟩,⟨⟨(some 79),.binOp .sub 3 (.tmp 77) (.tmp 78) 3,3,"",⟨[]⟩,none⟩,none,false⟩,⟨⟨(some 2),.assign (.tmp 76),3,"",⟨[]⟩,none⟩,none,false⟩,⟨⟨(some 8),.assign (.tmp 79),3,"",⟨[]⟩,none⟩,none,false⟩])))))) (.ops false [⟨⟨(some 26),.move (.tmp 10),3,"",⟨[]⟩,none⟩,none,false⟩,⟨⟨(some 27),.binOp .add 3 (.tmp 26) (.const (.int .i64 1)) 3,3,"",⟨[]⟩,none⟩,none,false⟩,⟨⟨(some 10),.assign (.tmp 27),3,"",⟨[]⟩,none⟩,none,false⟩])))))) (.seq (.ops false [⟨⟨(some 80),.move (.tmp 9),22,"",⟨[]⟩,none⟩,none,false⟩,⟨⟨(some 6),.assign (.tmp 80),22,"",⟨[]⟩,none⟩,none,false⟩,⟨⟨(some 7),.assign (.const (.bool true)),4,"",⟨[]⟩,none⟩,none,false⟩]) .ret))))))
def Tryz.s56 : SC := (.seq (.ops false [⟨⟨(some 4),.assign (.const (.int .i64 0)),3,"",⟨[]⟩,none⟩,none,false⟩]) (.seq (.ops false [⟨⟨(some 5),.assign (.const (.int .i64 0)),3,"",⟨[]⟩,none⟩,none,false⟩]) (.seq (.seq (.ops false [⟨⟨(some 6),.assign (.const (.int .i64 0)),3,"",⟨[]⟩,none⟩,none,false⟩]) (.block 0 (.loop (.seq (.seq (.ops false [⟨⟨(some 7),.move (.tmp 6),3,"",⟨[]⟩,none⟩,none,false⟩,⟨⟨(some 8),.move (.tmp 1),22,"",⟨[]⟩,none⟩,none,false⟩,⟨⟨(some 9),.call ⟨.builtin .len,⟨[(.tmp 8)]⟩,⟨[22]⟩⟩,3,"",⟨[]⟩,none⟩,none,false⟩,⟨⟨(some 10),.binOp .lss 3 (.tmp 7) (.tmp 9) 3,4,"",⟨[]⟩,none⟩,none,false⟩,⟨⟨(some 11),.move (.tmp 10),4,"",⟨[]⟩,none⟩,none,false⟩,⟨⟨(some 12),.move (.tmp 6),3,"",⟨[]⟩,none⟩,some ((some 11),true),false⟩,⟨⟨(some 13),.move (.tmp 0),22,"",⟨[]⟩,none⟩,some ((some 11),true),false⟩,⟨⟨(some 14),.call ⟨.builtin .len,⟨[(.tmp 13)]⟩,⟨[22]⟩⟩,3,"",⟨[]⟩,none⟩,some ((some 11),true),false⟩,⟨⟨(some 15),.binOp .lss 3 (.tmp 12) (.tmp 14) 3,4,"",⟨[]⟩,none⟩,some ((some 11),true),false⟩,⟨⟨(some 16),.pick (.tmp 11) (.tmp 15) (.const (.bool false)),4,"",⟨[]⟩,none⟩,none,false⟩]) (.cond (.tmp 16) .skip (.exit 0))) (.seq (.block 1 (.ops true [⟨⟨(some 19),.move (.tmp 5),3,"",⟨[]⟩,none⟩,none,true⟩,⟨⟨(some 20),.move (.tmp 1),22,"",⟨[]⟩,none⟩,none,true⟩,⟨⟨(some 21),.move (.tmp 6),3,"",⟨[]⟩,none⟩,none,true⟩,⟨⟨(some 22),.indexAddr 22 (.tmp 20) (.tmp 21),0,"",⟨[]⟩,none⟩,none,true⟩,⟨⟨(some 23),.load 3 (.tmp 22),3,"",⟨[]⟩,none⟩,none,true⟩,⟨⟨(some 24),.move (.tmp 0),22,"",⟨[]⟩,none⟩,none,true⟩,⟨⟨(some 25),.move (.tmp 6),3,"",⟨[]⟩,none⟩,none,true⟩,⟨⟨(some 26),.indexAddr 22 (.tmp 24) (.tmp 25),0,"",⟨[]⟩,none⟩,none,true⟩,⟨⟨(some 27),.load 3 (.tmp 26),3,"",⟨[]⟩,none⟩,none,true⟩,⟨⟨(some 28),.binOp .mul 3 (.tmp 23) (.tmp 27) 3,3,"",⟨[]⟩,none⟩,none,true⟩,⟨⟨(some 29),.binOp .add 3 (.tmp 19) (.tmp 28) 3,3,"",⟨[]⟩,none⟩,none,true⟩,⟨⟨(some 5),.assign (.tmp 29),3,"",⟨[]⟩,none⟩,none,true⟩])) (.ops false [⟨⟨(some 17),.move (.tmp 6),3,"",⟨[]⟩,none⟩,none,false⟩,⟨⟨(some 18),.binOp .add 3 (.tmp 17) (.const (.int .i64 1)) 3,3,"",⟨[]⟩,none⟩,none,false⟩,⟨⟨(some 6),.assign (.tmp 18),3,"",⟨[]⟩,none⟩,none,false⟩])))))) (.seq (.ops false [⟨⟨(some 30),.move (.tmp 5),3,"",⟨[]⟩,none⟩,none,false⟩,⟨⟨(some 4),.assign (.tmp 30),3,"",⟨[]⟩,none⟩,none,false⟩]) .ret))))
def Tryz.s96 : SC := (.seq (.ops false [⟨⟨(some 8),.assign (.const (.slice none 0 0)),22,"",⟨[]⟩,none⟩,none,false⟩]) (.seq (.seq (.ops false [⟨⟨(some 17),.move (.tmp 2),3,"",⟨[]⟩,none⟩,none,false⟩,⟨⟨(some 18),.move (.tmp 0),22,"",⟨[]⟩,none⟩,none,false⟩,⟨⟨(some 19),.call ⟨.builtin .len,⟨[(.tmp 18)]⟩,⟨[22]⟩⟩,3,"",⟨[]⟩,none⟩,none,false⟩,⟨⟨(some 20),.binOp .eql 3 (.tmp 17) (.tmp 19) 3,4,"",⟨[]⟩,none⟩,none,false⟩]) (.cond (.tmp 20) (.seq (.ops false [⟨⟨(some 21),.buildSlice 22 1 ⟨[(0,(.const (.int .i64 0)))]⟩,22,"",⟨[]⟩,none⟩,none,false⟩,⟨⟨(some 9),.assign (.tmp 21),22,"",⟨[]⟩,none⟩,none,false⟩]) (.seq (.seq (.ops false [⟨⟨(some 10),.assign (.const (.int .i64 1)),3,"",⟨[]⟩,none⟩,none,false⟩]) (.block 0 (.loop (.seq (.seq (.ops false [⟨⟨(some 22),.move (.tmp 10),3,"",⟨[]⟩,none⟩,none,false⟩,⟨⟨(some 23),.move (.tmp 3),3,"",⟨[]⟩,none⟩,none,false⟩,⟨⟨(some 24),.binOp .leq 3 (.tmp 22) (.tmp 23) 3,4,"",⟨[]⟩,none⟩,none,false⟩]) (.cond (.tmp 24) .skip (.exit 0))) (.seq (.block 1 (.ops false [⟨⟨(some 27),.move (.tmp 9),22,"",⟨[]⟩,none⟩,none,false⟩,⟨⟨(some 28),.buildSlice 22 1 ⟨[(0,(.const (.int .i64 (-1))))]⟩,22,"",⟨[]⟩,none⟩,none,false⟩,⟨⟨(some 29),.call ⟨.builtin .append,⟨[(.tmp 27),(.tmp 28)]⟩,⟨[22,22]⟩⟩,22,"",⟨[]⟩,none⟩,none,false⟩,⟨⟨(some 9),.assign (.tmp 29),22,"",⟨[]⟩,none⟩,none,false⟩])) (.ops false [⟨⟨(some 25),.move (.tmp 10),3,"",⟨[]⟩,none⟩,none,false⟩,⟨⟨(some 26),.binOp .add 3 (.tmp 25) (.const (.int .i64 1)) 3,3,"",⟨[]⟩,none⟩,none,false⟩,⟨⟨(some 10),.assign (.tmp 26),3,"",⟨[]⟩,none⟩,none,false⟩])))))) (.seq (.ops false [⟨⟨(some 30),.move (.tmp 9),22,"",⟨[]⟩,none⟩,none,false⟩,⟨⟨(some 8),.assign (.tmp 30),22,"",⟨[]⟩,none⟩,none,false⟩]) .ret))) .skip)) (.seq (.ops false [⟨⟨(some 31),.move (.tmp 0),22,"",⟨[]⟩,none⟩,none,false⟩,⟨⟨(some 32),.move (.tmp 1),22,"",⟨[]⟩,none⟩,none,false⟩,⟨⟨(some 33),.move (.tmp 2),3,"",⟨[]⟩,none⟩,none,false⟩,⟨⟨(some 34),.binOp .add 3 (.tmp 33) (.const (.int .i64 1)) 3,3,"",⟨[]⟩,none⟩,none,false⟩,⟨⟨(some 35),.move (.tmp 3),3,"",⟨[]⟩,none⟩,none,false⟩,⟨⟨(some 36),.call ⟨.value (.func 96),⟨[(.tmp 31),(.tmp 32),(.tmp 34),(.tmp 35)]⟩,⟨[22,22,3,3]⟩⟩,22,"",⟨[]⟩,none⟩,none,false⟩,⟨⟨(some 11),.assign (.tmp 36),22,"",⟨[]⟩,none⟩,none,false⟩]) (.seq (.ops false [⟨⟨(some 12),.assign (.const (.slice none 0 0)),22,"",⟨[]⟩,none⟩,none,false⟩]) (.seq (.seq (.ops false [⟨⟨(some 13),.assign (.const (.int .i64 0)),3,"",⟨[]⟩,none⟩,none,false⟩]) (.block 2 (.loop (.seq (.seq (.ops false [⟨⟨(some 37),.move (.tmp 13),3,"",⟨[]⟩,none⟩,none,false⟩,⟨⟨(some 38),.move (.tmp 3),3,"",⟨[]⟩,none⟩,none,false⟩,⟨⟨(some 39),.binOp .leq 3 (.tmp 37) (.tmp 38) 3,4,"",⟨[]⟩,none⟩,none,false⟩]) (.cond (.tmp 39) .skip (.exit 2))) (.seq (.block 3 (.seq (.ops false [⟨⟨(some 14),.assign (.const (.int .i64 (-1))),3,"",⟨[]⟩,none⟩,none,false⟩]) (.seq (.seq (.ops false [⟨⟨(some 15),.assign (.const (.int .i64 0)),3,"",⟨[]⟩,none⟩,none,false⟩]) (.block 4 (.loop (.seq (.seq (.ops false [⟨⟨(some 42),.move (.tmp 15),3,"",⟨[]⟩,none⟩,none,false⟩,⟨⟨(some 43),.move (.tmp 1),22,"",⟨[]⟩,none⟩,none,false⟩,⟨⟨(some 44),.move (.tmp 2),3,"",⟨[]⟩,none⟩,none,false⟩,⟨⟨(some 45),.indexAddr 22 (.tmp 43) (.tmp 44),0,"",⟨[]⟩,none⟩,none,false⟩,⟨⟨(some 46),.load 3 (.tmp 45),3,"",⟨[]⟩,none⟩,none,false⟩,⟨⟨(some 47),.binOp .leq 3 (.tmp 42) (.tmp 46) 3,4,"",⟨[]⟩,none⟩,none,false⟩,⟨⟨(some 48),.move (.tmp 47),4,"",⟨[]⟩,none⟩,none,false⟩,⟨⟨(some 49),.move (.tmp 15),3,"",⟨[]⟩,none⟩,some ((some 48),true),false⟩,⟨⟨(some 50),.move (.tmp 0),22,"",⟨[]⟩,none⟩,some ((some 48),true),false⟩,⟨⟨(some 51),.move (.tmp 2),3,"",⟨[]⟩,none⟩,some ((some 48),true),false⟩,⟨⟨(some 52),.indexAddr 22 (.tmp 50) (.tmp 51),0,"",⟨[]⟩,none⟩,some ((some 48),true),false⟩,⟨⟨(some 53),.load 3 (.tmp 52),3,"",⟨[]⟩,none⟩,some ((some 48),true),false⟩,⟨⟨(some 54),.binOp .mul 3 (.tmp 49) (.tmp 53) 3,3,"",⟨[]⟩,none⟩,some ((some 48),true),false⟩,⟨⟨(some 55),.move (.tmp 13),3,"",⟨[]⟩,none⟩,some ((some 48),true),false⟩,⟨⟨(some 56),.binOp .leq 3 (.tmp 54) (.tmp 55) 3,4,"",⟨[]⟩,none⟩,some ((some 48),true),false⟩,⟨⟨(some 57),.pick (.tmp 48) (.tmp 56) (.const (.bool false)),4,"",⟨[]⟩,none⟩,none,false⟩]) (.cond (.tmp 57) .skip (.exit 4))) (.seq (.block 5 (.seq (.ops false [⟨⟨(some 60),.move (.tmp 11),22,"",⟨[]⟩,none⟩,none,false⟩,⟨⟨(some 61),.move (.tmp 13),3,"",⟨[]⟩,none⟩,none,false⟩,⟨⟨(some 62),.move (.tmp 15),3,"",⟨[]⟩,none⟩,none,false⟩,⟨⟨(some 63),.move (.tmp 0),22,"",⟨[]⟩,none⟩,none,false⟩,⟨⟨(some 64),.move (.tmp 2),3,"",⟨[]⟩,none⟩,none,false⟩,⟨⟨(some 65),.indexAddr 22 (.tmp 63) (.tmp 64),0,"",⟨[]⟩,none⟩,none,false⟩,⟨⟨(some 66),.load 3 (.tmp 65),3,"",⟨[]⟩,none⟩,none,false⟩,⟨⟨(some 67),.binOp .mul 3 (.tmp 62) (.tmp 66) 3,3,"",⟨[]⟩,none⟩,none,false⟩,⟨⟨(some 68),.binOp .sub 3 (.tmp 61) (.tmp 67) 3,3,"",⟨[]⟩,none⟩,none,false⟩,⟨⟨(some 69),.indexAddr 22 (.tmp 60) (.tmp 68),0,"",⟨[]⟩,none⟩,none,false⟩,⟨⟨(some 70),.load 3 (.tmp 69),3,"",⟨[]⟩,none⟩,none,false⟩,⟨⟨(some 16),.assign (.tmp 70),3,"",⟨[]⟩,none⟩,none,false⟩]) (.seq (.ops false [⟨⟨(some 71),.move (.tmp 16),3,"",⟨[]⟩,none⟩,none,false⟩,⟨⟨(some 72),.binOp .geq 3 (.tmp 71) (.const (.int .i64 0)) 3,4,"",⟨[]⟩,none⟩,none,false⟩,⟨⟨(some 73),.move (.tmp 72),4,"",⟨[]⟩,none⟩,none,false⟩,⟨⟨(some 74),.move (.tmp 14),3,"",⟨[]⟩,none⟩,some ((some 73),true),false⟩,⟨⟨(some 75),.binOp .lss 3 (.tmp 74) (.const (.int .i64 0)) 3,4,"",⟨[]⟩,none⟩,some ((some 73),true),false⟩,⟨⟨(some 76),.move (.tmp 75),4,"",⟨[]⟩,none⟩,some ((some 73),true),false⟩,⟨⟨(some 77),.move (.tmp 16),3,"",⟨[]⟩,none⟩,some ((some 76),false),false⟩,⟨⟨(some 78),.move (.tmp 15),3,"",⟨[]⟩,none⟩,some ((some 76),false),false⟩,⟨⟨(some 79),.binOp .add 3 (.tmp 77) (.tmp 78) 3,3,"",⟨[]⟩,none⟩,some ((some 76),false),false⟩,⟨⟨(some 80),.move (.tmp 14),3,"",⟨[]⟩,none⟩,some ((some 76),false),false⟩,⟨⟨(some 81),.binOp .lss 3 (.tmp 79) (.tmp 80) 3,4,"",⟨[]⟩,none⟩,some ((some 76),false),false⟩,⟨⟨(some 82),.pick (.tmp 76) (.const (.bool true)) (.tmp 81),4,"",⟨[]⟩,none⟩,some ((some 73),true),false⟩,⟨⟨(some 83),.pick (.tmp 73) (.tmp 82) (.const (.bool false)),4,"",⟨[]⟩,none⟩,none,false⟩]) (.cond (.tmp 83) (.ops false [⟨⟨(some 84),.move (.tmp 16),3,"",⟨[]⟩,none⟩,none,false⟩,⟨⟨(some 85),.move (.tmp 15),3,"",⟨[]⟩,none⟩,none,false⟩,⟨⟨(some 86),.binOp .add 3 (.tmp 84) (.tmp 85) 3,3,"",⟨[]⟩,none⟩,none,false⟩,⟨⟨(some 14),.assign (.tmp 86),3,"",⟨[]⟩,none⟩,none,false⟩]) .skip)))) (.ops false [⟨⟨(some 58),.move (.tmp 15),3,"",⟨[]⟩,none⟩,none,false⟩,⟨⟨(some 59),.binOp .add 3 (.tmp 58) (.const (.int .i64 1)) 3,3,"",⟨[]⟩,none⟩,none,false⟩,⟨⟨(some 15),.assign (.tmp 59),3,"",⟨[]⟩,none⟩,none,false⟩])))))) (.ops false [⟨⟨(some 87),.move (.tmp 12),22,"",⟨[]⟩,none⟩,none,false⟩,⟨⟨(some 88),.move (.tmp 14),3,"",⟨[]⟩,none⟩,none,false⟩,⟨⟨(some 89),.buildSlice 22 1 ⟨[(0,(.tmp 88))]⟩,22,"",⟨[]⟩,none⟩,none,false⟩,⟨⟨(some 90),.call ⟨.builtin .append,⟨[(.tmp 87),(.tmp 89)]⟩,⟨[22,22]⟩⟩,22,"",⟨[]⟩,none⟩,none,false⟩,⟨⟨(some 12),.assign (.tmp 90),22,"",⟨[]⟩,none⟩,none,false⟩])))) (.ops false [⟨⟨(some 40),.move (.tmp 13),3,"",⟨[]⟩,none⟩,none,false⟩,⟨⟨(some 41),.binOp .add 3 (.tmp 40) (.const (.int .i64 1)) 3,3,"",⟨[]⟩,none⟩,none,false⟩,⟨⟨(some 13),.assign (.tmp 41),3,"",⟨[]⟩,none⟩,none,false⟩])))))) (.seq (.ops false [⟨⟨(some 91),.move (.tmp 12),22,"",⟨[]⟩,none⟩,none,false⟩,⟨⟨(some 8),.assign (.tmp 91),22,"",⟨[]⟩,none⟩,none,false⟩]) .ret))))))
theorem Tryz.s3_eq : Tryz.f3.body.map sOf = some Tryz.s3 := by kernel_rfl
theorem Tryz.s15_eq : Tryz.f15.body.map sOf = some Tryz.s15 := by kernel_rfl
theorem Tryz.s16_eq : Tryz.f16.body.map sOf = some Tryz.s16 := by kernel_rfl
theorem Tryz.s18_eq : Tryz.f18.body.map sOf = some Tryz.s18 := by kernel_rfl
theorem Tryz.s20_eq : Tryz.f20.body.map sOf = some Tryz.s20 := by kernel_rfl
theorem Tryz.s53_eq : Tryz.f53.body.map sOf = some Tryz.s53 := by kernel_rfl
theorem Tryz.s56_eq : Tryz.f56.body.map sOf = some Tryz.s56 := by kernel_rfl
theorem Tryz.s96_eq : Tryz.f96.body.map sOf = some Tryz.s96 := by kernel_rfl
end Go.Proofs

namespace Go.Proofs
open Go Go.RowKit Go.Sim
set_option maxRecDepth 100000
def drawTo (C H : List Int) (n : Nat) : Bool := coinsTo C n && (H.take n).all (fun n => inR 0 n 50)
theorem drawTo_succ {C H : List Int} {i : Nat} (h : i < C.length) (k : i < H.length) : drawTo C H (i + 1) = (drawTo C H i && (inR 1 C[i] 50000 && inR 0 H[i] 50 && (i == 0 || match C[i - 1]? with
    | some d => decide (C[i] < d)
    | none => false))) := by
  unfold drawTo
  rw [coinsTo_succ h, List.take_succ_eq_append_getElem k, List.all_append]
  simp only [List.all_cons, List.all_nil, Bool.and_true]
  cases coinsTo C i <;> cases inR 1 C[i] 50000 <;> cases (H.take i).all (fun n => inR 0 n 50) <;> cases inR 0 H[i] 50 <;> first | rfl | (simp; done) | (simp; rfl)
theorem drawE_to {C H : List Int} (h : drawE C H = 0) : inR 1 (C.length : Int) 8 = true ∧ H.length = C.length ∧ ∀ i, i ≤ C.length → drawTo C H i = true := by
  unfold drawE at h
  cases hq : (coinsB C && haveB C H) with
  | false => rw [hq] at h; cases h
  | true =>
    simp only [coinsB, haveB, Bool.and_eq_true, decide_eq_true_eq] at hq
    obtain ⟨⟨h1, h2⟩, h3, h4⟩ := hq
    refine ⟨h2, h3, fun i hi => ?_⟩
    unfold drawTo
    rw [Bool.and_eq_true]
    constructor
    · cases hb : coinsTo C i with
      | true => rfl
      | false =>
        cases i with
        | zero => unfold coinsTo at hb; simp at hb
        | succ i => rw [coinsTo_bad (i := i) (n := C.length) (by omega) hb] at h1; cases h1
    · rw [List.all_eq_true] at h4 ⊢
      exact fun x hx => h4 x (List.mem_of_mem_take hx)
theorem drawE_of {C H : List Int} (h1 : inR 1 (C.length : Int) 8 = true) (h2 : H.length = C.length) (h : drawTo C H C.length = true) : drawE C H = 0 := by
  unfold drawTo at h
  rw [Bool.and_eq_true, List.take_of_length_le (by omega)] at h
  unfold drawE coinsB haveB
  rw [h.1, h.2, h1, decide_eq_true h2]; rfl
theorem drawE_80 {C H : List Int} (h : drawE C H ≠ 0) : drawE C H = 80 := by
  unfold drawE at h ⊢
  split
  · rename_i q; rw [if_pos q] at h; exact absurd rfl h
  · rfl
set_option maxHeartbeats 4000000 in
theorem refCheck_ok (C H : List Int) (u v : Value) (w : AW) (f : Fresh w) (hC : ArrOf w 1 icells u C) (hH : ArrOf w 1 icells v H) :
    CallT Tryz.prog Tryz.T1 (.fn (.func 18) #[]) #[.agg #[u, v]] w (Ret (.int .i64 (drawE C H)) (Grown w)) := by
  obtain ⟨p, cap, rfl, _, _, hatC⟩ := id hC.open
  obtain ⟨q, cq, rfl, _, _, hatH⟩ := id hH.open
  have g := (Grown.refl f).push (.cells [.slice p C.length cap, .slice q H.length cq] 24 w.next 0 0)
  have hO := Own.new f 24 [.slice p C.length cap, .slice q H.length cq]
  have c0 := hO.cell (o := 0) rfl rfl
  have c1 := hO.cell (o := 1) rfl rfl
  refine callT_code rfl Tryz.func18 rfl Tryz.s18_eq rfl ?_
  unfold Tryz.s18
  simp -dsimp -implicitDefEqProofs (maxSteps := 2000000) (disch := first | assumption | omega | (simp only [nx]; omega) | ((repeat refine Fresh.push ?_ _); assumption) | (simp only [smA]; done) | (simp [oneCell, AW.next_push]; done) | fail) only [go_sem, Nat.reduceEqDiff, reduceIte, Nat.reduceAdd, Int.toNat_natCast, Nat.add_zero, Owes_true, Tryz.results18, Nat.zero_add, c0, c1]
  apply callV_of (e := rfl)
  · exact From_ok _ _ _ _
  rintro _ _ ⟨rfl, rfl⟩
  cases hq : inR 1 (C.length : Int) 8 with
  | false =>
    have hE : drawE C H = 80 := drawE_80 fun e => by rw [(drawE_to e).1] at hq; cases hq
    simp -dsimp -implicitDefEqProofs (maxSteps := 2000000) (disch := first | assumption | omega | (simp only [nx]; omega) | ((repeat refine Fresh.push ?_ _); assumption) | (simp only [smA]; done) | (simp [oneCell, AW.next_push]; done) | fail) only [go_sem, Nat.reduceEqDiff, reduceIte, Nat.reduceAdd, Int.toNat_natCast, Nat.add_zero, Owes_true, Tryz.results18, hq, Nat.zero_add, c0, c1]
    refine loopR (fun k t ds w1 => ∃ i : Nat, i ≤ 0 ∧ k = 0 - i ∧ ds = [] ∧ ev t (.tmp 3) = .bool false ∧ w1 = w.push (.cells [.slice p C.length cap, .slice q H.length cq] 24 w.next 0 0)) (0) ?_ ?_
    · refine ⟨0, by omega, by omega, rfl, ?_, rfl⟩ <;> simp -dsimp -implicitDefEqProofs (maxSteps := 2000000) (disch := first | assumption | omega | (simp only [nx]; omega) | ((repeat refine Fresh.push ?_ _); assumption) | (simp only [smA]; done) | (simp [oneCell, AW.next_push]; done) | fail) only [go_sem, Nat.reduceEqDiff, reduceIte, Nat.reduceAdd, Int.toNat_natCast, Nat.add_zero, Owes_true] <;> rfl
    rintro k t ds w1 ⟨i, hii, rfl, rfl, e3, hw⟩
    subst hw
    simp -dsimp -implicitDefEqProofs (maxSteps := 2000000) (disch := first | assumption | omega | (simp only [nx]; omega) | ((repeat refine Fresh.push ?_ _); assumption) | (simp only [smA]; done) | (simp [oneCell, AW.next_push]; done) | fail) only [go_sem, Nat.reduceEqDiff, reduceIte, Nat.reduceAdd, Int.toNat_natCast, Nat.add_zero, Owes_true, Tryz.results18, e3]
    exact ⟨by rw [hE], g⟩
  | true =>
  by_cases hl : (H.length : Int) = (C.length : Int)
  case neg =>
    have hd : decide ((H.length : Int) = (C.length : Int)) = false := decide_eq_false hl
    have hE : drawE C H = 80 := drawE_80 fun e => hl (by have := (drawE_to e).2.1; omega)
    simp -dsimp -implicitDefEqProofs (maxSteps := 2000000) (disch := first | assumption | omega | (simp only [nx]; omega) | ((repeat refine Fresh.push ?_ _); assumption) | (simp only [smA]; done) | (simp [oneCell, AW.next_push]; done) | fail) only [go_sem, Nat.reduceEqDiff, reduceIte, Nat.reduceAdd, Int.toNat_natCast, Nat.add_zero, Owes_true, Tryz.results18, hq, Nat.zero_add, c0, c1, hd]
    refine loopR (fun k t ds w1 => ∃ i : Nat, i ≤ 0 ∧ k = 0 - i ∧ ds = [] ∧ ev t (.tmp 3) = .bool false ∧ w1 = w.push (.cells [.slice p C.length cap, .slice q H.length cq] 24 w.next 0 0)) (0) ?_ ?_
    · refine ⟨0, by omega, by omega, rfl, ?_, rfl⟩ <;> simp -dsimp -implicitDefEqProofs (maxSteps := 2000000) (disch := first | assumption | omega | (simp only [nx]; omega) | ((repeat refine Fresh.push ?_ _); assumption) | (simp only [smA]; done) | (simp [oneCell, AW.next_push]; done) | fail) only [go_sem, Nat.reduceEqDiff, reduceIte, Nat.reduceAdd, Int.toNat_natCast, Nat.add_zero, Owes_true] <;> rfl
    rintro k t ds w1 ⟨i, hii, rfl, rfl, e3, hw⟩
    subst hw
    simp -dsimp -implicitDefEqProofs (maxSteps := 2000000) (disch := first | assumption | omega | (simp only [nx]; omega) | ((repeat refine Fresh.push ?_ _); assumption) | (simp only [smA]; done) | (simp [oneCell, AW.next_push]; done) | fail) only [go_sem, Nat.reduceEqDiff, reduceIte, Nat.reduceAdd, Int.toNat_natCast, Nat.add_zero, Owes_true, Tryz.results18, e3]
    exact ⟨by rw [hE], g⟩
  have hd : decide ((H.length : Int) = (C.length : Int)) = true := decide_eq_true hl
  simp -dsimp -implicitDefEqProofs (maxSteps := 2000000) (disch := first | assumption | omega | (simp only [nx]; omega) | ((repeat refine Fresh.push ?_ _); assumption) | (simp only [smA]; done) | (simp [oneCell, AW.next_push]; done) | fail) only [go_sem, Nat.reduceEqDiff, reduceIte, Nat.reduceAdd, Int.toNat_natCast, Nat.add_zero, Owes_true, Tryz.results18, hq, Nat.zero_add, c0, c1, hd]
  refine loopR (fun k t ds w1 => ∃ i : Nat, i ≤ C.length ∧ k = C.length - i ∧ ds = [] ∧ ev t (.tmp 1) = .pointer (some ⟨w.next, 0, none⟩) ∧ ev t (.tmp 4) = .int .i64 (i : Int) ∧ w1 = w.push (.cells [.slice p C.length cap, .slice q H.length cq] 24 w.next 0 0) ∧ ∃ B, ev t (.tmp 3) = .bool B ∧ (B = true → drawTo C H i = true) ∧ (B = false → drawE C H ≠ 0)) (C.length) ?_ ?_
  · refine ⟨0, by omega, by omega, rfl, ?_, ?_, rfl, ⟨true, (by simp -dsimp -implicitDefEqProofs (maxSteps := 2000000) (disch := first | assumption | omega | (simp only [nx]; omega) | ((repeat refine Fresh.push ?_ _); assumption) | (simp only [smA]; done) | (simp [oneCell, AW.next_push]; done) | fail) only [go_sem, Nat.reduceEqDiff, reduceIte, Nat.reduceAdd, Int.toNat_natCast, Nat.add_zero, Owes_true]; try rfl), (fun _ => rfl), fun h => by cases h⟩⟩ <;> simp -dsimp -implicitDefEqProofs (maxSteps := 2000000) (disch := first | assumption | omega | (simp only [nx]; omega) | ((repeat refine Fresh.push ?_ _); assumption) | (simp only [smA]; done) | (simp [oneCell, AW.next_push]; done) | fail) only [go_sem, Nat.reduceEqDiff, reduceIte, Nat.reduceAdd, Int.toNat_natCast, Nat.add_zero, Owes_true] <;> rfl
  rintro k t ds w1 ⟨i, hii, rfl, rfl, e1, e4, hw, hB⟩
  subst hw
  obtain ⟨B, e3, hB1, hB2⟩ := hB
  cases B with
  | false =>
    simp -dsimp -implicitDefEqProofs (maxSteps := 2000000) (disch := first | assumption | omega | (simp only [nx]; omega) | ((repeat refine Fresh.push ?_ _); assumption) | (simp only [smA]; done) | (simp [oneCell, AW.next_push]; done) | fail) only [go_sem, Nat.reduceEqDiff, reduceIte, Nat.reduceAdd, Int.toNat_natCast, Nat.add_zero, Owes_true, Tryz.results18, e3]
    exact ⟨by rw [drawE_80 (hB2 rfl)], g⟩
  | true =>
  have ha := hB1 rfl
  by_cases hlt : (i : Int) < (C.length : Int)
  case neg =>
    obtain rfl : i = C.length := by omega
    simp -dsimp -implicitDefEqProofs (maxSteps := 2000000) (disch := first | assumption | omega | (simp only [nx]; omega) | ((repeat refine Fresh.push ?_ _); assumption) | (simp only [smA]; done) | (simp [oneCell, AW.next_push]; done) | fail) only [go_sem, Nat.reduceEqDiff, reduceIte, Nat.reduceAdd, Int.toNat_natCast, Nat.add_zero, Owes_true, Tryz.results18, e1, e3, e4, hlt, Nat.zero_add, c0, c1]
    exact ⟨by rw [drawE_of hq (by omega) ha], g⟩
  have hlt' : i < C.length := by omega
  have hltH' : i < H.length := by omega
  have hltH : (i : Int) < (H.length : Int) := by omega
  have hsc := drawTo_succ hlt' hltH'
  rw [ha, Bool.true_and] at hsc
  have bad : drawTo C H (i + 1) = false → drawE C H ≠ 0 := fun h e => by rw [(drawE_to e).2.2 (i + 1) (by omega)] at h; cases h
  obtain ⟨b1, o1, rfl, hb1, hcell⟩ := hatC i hlt'
  have a0 := hcell _ g.1 0 _ rfl
  rw [Nat.add_zero] at a0
  obtain ⟨b2, o2, rfl, hb2, hcellH⟩ := hatH i hltH'
  have x0 := hcellH _ g.1 0 _ rfl
  rw [Nat.add_zero] at x0
  simp -dsimp -implicitDefEqProofs (maxSteps := 2000000) (disch := first | assumption | omega | (simp only [nx]; omega) | ((repeat refine Fresh.push ?_ _); assumption) | (simp only [smA]; done) | (simp [oneCell, AW.next_push]; done) | fail) only [go_sem, Nat.reduceEqDiff, reduceIte, Nat.reduceAdd, Int.toNat_natCast, Nat.add_zero, Owes_true, Tryz.results18, e1, e3, e4, hlt, hltH, Nat.zero_add, c0, c1, indexV_eq, a0, x0]
  apply callV_of (e := rfl)
  · exact From_ok _ _ _ _
  rintro _ _ ⟨rfl, rfl⟩
  cases h1 : inR 1 C[i] 50000 with
  | false =>
    rw [h1, Bool.false_and, Bool.false_and] at hsc
    simp -dsimp -implicitDefEqProofs (maxSteps := 2000000) (disch := first | assumption | omega | (simp only [nx]; omega) | ((repeat refine Fresh.push ?_ _); assumption) | (simp only [smA]; done) | (simp [oneCell, AW.next_push]; done) | fail) only [go_sem, Nat.reduceEqDiff, reduceIte, Nat.reduceAdd, Int.toNat_natCast, Nat.add_zero, Owes_true, Tryz.results18, h1, e1, e3, e4]
    refine ⟨_, by omega, i + 1, by omega, rfl, rfl, by (simp -dsimp -implicitDefEqProofs (maxSteps := 2000000) (disch := first | assumption | omega | (simp only [nx]; omega) | ((repeat refine Fresh.push ?_ _); assumption) | (simp only [smA]; done) | (simp [oneCell, AW.next_push]; done) | fail) only [go_sem, Nat.reduceEqDiff, reduceIte, Nat.reduceAdd, Int.toNat_natCast, Nat.add_zero, Owes_true, e1]; try rfl), by (simp -dsimp -implicitDefEqProofs (maxSteps := 2000000) (disch := first | assumption | omega | (simp only [nx]; omega) | ((repeat refine Fresh.push ?_ _); assumption) | (simp only [smA]; done) | (simp [oneCell, AW.next_push]; done) | fail) only [go_sem, Nat.reduceEqDiff, reduceIte, Nat.reduceAdd, Int.toNat_natCast, Nat.add_zero, Owes_true, e4]; try rfl), rfl, ⟨false, (by simp -dsimp -implicitDefEqProofs (maxSteps := 2000000) (disch := first | assumption | omega | (simp only [nx]; omega) | ((repeat refine Fresh.push ?_ _); assumption) | (simp only [smA]; done) | (simp [oneCell, AW.next_push]; done) | fail) only [go_sem, Nat.reduceEqDiff, reduceIte, Nat.reduceAdd, Int.toNat_natCast, Nat.add_zero, Owes_true]; try rfl), (fun h => by cases h), fun _ => bad hsc⟩⟩
  | true =>
  simp -dsimp -implicitDefEqProofs (maxSteps := 2000000) (disch := first | assumption | omega | (simp only [nx]; omega) | ((repeat refine Fresh.push ?_ _); assumption) | (simp only [smA]; done) | (simp [oneCell, AW.next_push]; done) | fail) only [go_sem, Nat.reduceEqDiff, reduceIte, Nat.reduceAdd, Int.toNat_natCast, Nat.add_zero, Owes_true, Tryz.results18, h1, e1, e3, e4, hlt, hltH, Nat.zero_add, c0, c1, indexV_eq, a0, x0]
  apply callV_of (e := rfl)
  · exact From_ok _ _ _ _
  rintro _ _ ⟨rfl, rfl⟩
  cases h2 : inR 0 H[i] 50 with
  | false =>
    rw [h1, h2, Bool.true_and, Bool.false_and] at hsc
    simp -dsimp -implicitDefEqProofs (maxSteps := 2000000) (disch := first | assumption | omega | (simp only [nx]; omega) | ((repeat refine Fresh.push ?_ _); assumption) | (simp only [smA]; done) | (simp [oneCell, AW.next_push]; done) | fail) only [go_sem, Nat.reduceEqDiff, reduceIte, Nat.reduceAdd, Int.toNat_natCast, Nat.add_zero, Owes_true, Tryz.results18, h2, e1, e3, e4]
    refine ⟨_, by omega, i + 1, by omega, rfl, rfl, by (simp -dsimp -implicitDefEqProofs (maxSteps := 2000000) (disch := first | assumption | omega | (simp only [nx]; omega) | ((repeat refine Fresh.push ?_ _); assumption) | (simp only [smA]; done) | (simp [oneCell, AW.next_push]; done) | fail) only [go_sem, Nat.reduceEqDiff, reduceIte, Nat.reduceAdd, Int.toNat_natCast, Nat.add_zero, Owes_true, e1]; try rfl), by (simp -dsimp -implicitDefEqProofs (maxSteps := 2000000) (disch := first | assumption | omega | (simp only [nx]; omega) | ((repeat refine Fresh.push ?_ _); assumption) | (simp only [smA]; done) | (simp [oneCell, AW.next_push]; done) | fail) only [go_sem, Nat.reduceEqDiff, reduceIte, Nat.reduceAdd, Int.toNat_natCast, Nat.add_zero, Owes_true, e4]; try rfl), rfl, ⟨false, (by simp -dsimp -implicitDefEqProofs (maxSteps := 2000000) (disch := first | assumption | omega | (simp only [nx]; omega) | ((repeat refine Fresh.push ?_ _); assumption) | (simp only [smA]; done) | (simp [oneCell, AW.next_push]; done) | fail) only [go_sem, Nat.reduceEqDiff, reduceIte, Nat.reduceAdd, Int.toNat_natCast, Nat.add_zero, Owes_true]; try rfl), (fun h => by cases h), fun _ => bad hsc⟩⟩
  | true =>
  rw [h1, h2, Bool.true_and, Bool.true_and] at hsc
  by_cases h0 : i = 0
  · have hz : decide ((i : Int) = 0) = true := decide_eq_true (by omega)
    have hsc : drawTo C H (i + 1) = true := by rw [hsc, show (i == 0) = true from by simpa using h0]; rfl
    simp -dsimp -implicitDefEqProofs (maxSteps := 2000000) (disch := first | assumption | omega | (simp only [nx]; omega) | ((repeat refine Fresh.push ?_ _); assumption) | (simp only [smA]; done) | (simp [oneCell, AW.next_push]; done) | fail) only [go_sem, Nat.reduceEqDiff, reduceIte, Nat.reduceAdd, Int.toNat_natCast, Nat.add_zero, Owes_true, Tryz.results18, h2, e1, e3, e4, hz]
    refine ⟨_, by omega, i + 1, by omega, rfl, rfl, by (simp -dsimp -implicitDefEqProofs (maxSteps := 2000000) (disch := first | assumption | omega | (simp only [nx]; omega) | ((repeat refine Fresh.push ?_ _); assumption) | (simp only [smA]; done) | (simp [oneCell, AW.next_push]; done) | fail) only [go_sem, Nat.reduceEqDiff, reduceIte, Nat.reduceAdd, Int.toNat_natCast, Nat.add_zero, Owes_true, e1]; try rfl), by (simp -dsimp -implicitDefEqProofs (maxSteps := 2000000) (disch := first | assumption | omega | (simp only [nx]; omega) | ((repeat refine Fresh.push ?_ _); assumption) | (simp only [smA]; done) | (simp [oneCell, AW.next_push]; done) | fail) only [go_sem, Nat.reduceEqDiff, reduceIte, Nat.reduceAdd, Int.toNat_natCast, Nat.add_zero, Owes_true, e4]; try rfl), rfl, ⟨true, (by simp -dsimp -implicitDefEqProofs (maxSteps := 2000000) (disch := first | assumption | omega | (simp only [nx]; omega) | ((repeat refine Fresh.push ?_ _); assumption) | (simp only [smA]; done) | (simp [oneCell, AW.next_push]; done) | fail) only [go_sem, Nat.reduceEqDiff, reduceIte, Nat.reduceAdd, Int.toNat_natCast, Nat.add_zero, Owes_true]; try rfl), (fun _ => hsc), fun h => by cases h⟩⟩
  · have hz : decide ((i : Int) = 0) = false := decide_eq_false (by omega)
    have hi1 : i - 1 < C.length := by omega
    rw [List.getElem?_eq_getElem hi1, show (i == 0) = false from by simpa using h0, Bool.false_or] at hsc
    obtain ⟨b3, o3, e3', hb3, hcell3⟩ := hatC (i - 1) hi1
    injection e3' with e3'
    injection e3' with e3a e3b
    subst e3a e3b
    have a1 := hcell3 _ g.1 0 _ rfl
    rw [Nat.add_zero] at a1
    have hcast : (i : Int) - 1 = ((i - 1 : Nat) : Int) := by omega
    have hlt1 : ((i - 1 : Nat) : Int) < (C.length : Int) := by omega
    by_cases hd : C[i] < C[i - 1]
    · have hd1 : decide (C[i] < C[i - 1]) = true := decide_eq_true hd
      simp -dsimp -implicitDefEqProofs (maxSteps := 2000000) (disch := first | assumption | omega | (simp only [nx]; omega) | ((repeat refine Fresh.push ?_ _); assumption) | (simp only [smA]; done) | (simp [oneCell, AW.next_push]; done) | fail) only [go_sem, Nat.reduceEqDiff, reduceIte, Nat.reduceAdd, Int.toNat_natCast, Nat.add_zero, Owes_true, Tryz.results18, h2, e1, e3, e4, hz, hlt, hcast, hlt1, Nat.zero_add, c0, c1, indexV_eq, a0, a1, hd1]
      refine ⟨_, by omega, i + 1, by omega, rfl, rfl, by (simp -dsimp -implicitDefEqProofs (maxSteps := 2000000) (disch := first | assumption | omega | (simp only [nx]; omega) | ((repeat refine Fresh.push ?_ _); assumption) | (simp only [smA]; done) | (simp [oneCell, AW.next_push]; done) | fail) only [go_sem, Nat.reduceEqDiff, reduceIte, Nat.reduceAdd, Int.toNat_natCast, Nat.add_zero, Owes_true, e1]; try rfl), by (simp -dsimp -implicitDefEqProofs (maxSteps := 2000000) (disch := first | assumption | omega | (simp only [nx]; omega) | ((repeat refine Fresh.push ?_ _); assumption) | (simp only [smA]; done) | (simp [oneCell, AW.next_push]; done) | fail) only [go_sem, Nat.reduceEqDiff, reduceIte, Nat.reduceAdd, Int.toNat_natCast, Nat.add_zero, Owes_true, e4]; try rfl), rfl, ⟨true, (by simp -dsimp -implicitDefEqProofs (maxSteps := 2000000) (disch := first | assumption | omega | (simp only [nx]; omega) | ((repeat refine Fresh.push ?_ _); assumption) | (simp only [smA]; done) | (simp [oneCell, AW.next_push]; done) | fail) only [go_sem, Nat.reduceEqDiff, reduceIte, Nat.reduceAdd, Int.toNat_natCast, Nat.add_zero, Owes_true]; try rfl), (fun _ => by rw [hsc]; exact hd1), fun h => by cases h⟩⟩
    · have hd1 : decide (C[i] < C[i - 1]) = false := decide_eq_false hd
      simp -dsimp -implicitDefEqProofs (maxSteps := 2000000) (disch := first | assumption | omega | (simp only [nx]; omega) | ((repeat refine Fresh.push ?_ _); assumption) | (simp only [smA]; done) | (simp [oneCell, AW.next_push]; done) | fail) only [go_sem, Nat.reduceEqDiff, reduceIte, Nat.reduceAdd, Int.toNat_natCast, Nat.add_zero, Owes_true, Tryz.results18, h2, e1, e3, e4, hz, hlt, hcast, hlt1, Nat.zero_add, c0, c1, indexV_eq, a0, a1, hd1]
      refine ⟨_, by omega, i + 1, by omega, rfl, rfl, by (simp -dsimp -implicitDefEqProofs (maxSteps := 2000000) (disch := first | assumption | omega | (simp only [nx]; omega) | ((repeat refine Fresh.push ?_ _); assumption) | (simp only [smA]; done) | (simp [oneCell, AW.next_push]; done) | fail) only [go_sem, Nat.reduceEqDiff, reduceIte, Nat.reduceAdd, Int.toNat_natCast, Nat.add_zero, Owes_true, e1]; try rfl), by (simp -dsimp -implicitDefEqProofs (maxSteps := 2000000) (disch := first | assumption | omega | (simp only [nx]; omega) | ((repeat refine Fresh.push ?_ _); assumption) | (simp only [smA]; done) | (simp [oneCell, AW.next_push]; done) | fail) only [go_sem, Nat.reduceEqDiff, reduceIte, Nat.reduceAdd, Int.toNat_natCast, Nat.add_zero, Owes_true, e4]; try rfl), rfl, ⟨false, (by simp -dsimp -implicitDefEqProofs (maxSteps := 2000000) (disch := first | assumption | omega | (simp only [nx]; omega) | ((repeat refine Fresh.push ?_ _); assumption) | (simp only [smA]; done) | (simp [oneCell, AW.next_push]; done) | fail) only [go_sem, Nat.reduceEqDiff, reduceIte, Nat.reduceAdd, Int.toNat_natCast, Nat.add_zero, Owes_true]; try rfl), (fun h => by cases h), fun _ => bad (by rw [hsc]; exact hd1)⟩⟩
end Go.Proofs

namespace Go.Proofs
open Go Go.RowKit Go.Sim
def numOf (x : Int) : Int := if x < 1048576 then x else -1
theorem best_fin : ∀ (l : List (Int × Int)), (∀ d ∈ l, 0 ≤ d.2 ∧ d.2 ≤ 100) → ∀ s, (bestV l s).2 = 1048576 ∨ (bestV l s).2 ≤ 100 * (l.length : Int)
  | [], _, s => by simp only [bestV]; split <;> simp
  | (c, h) :: l, hl, s => by
    rw [bestV_cons]
    have hh := hl (c, h) List.mem_cons_self
    have hin := foldTo_in (l := l) (c := c) (s := s) (fun s => bestV_in l s) ((min h (s.tdiv c)).toNat + 1)
    rcases foldTo_is (l := l) (c := c) (s := s) ((min h (s.tdiv c)).toNat + 1) with e | ⟨n, hn, e⟩
    · rw [e]; exact .inl rfl
    · have hb := best_fin l (fun d hd => hl d (List.mem_cons_of_mem _ hd)) (s - (n : Int) * c)
      rw [e] at hin ⊢
      simp only at hin ⊢
      rw [List.length_cons]
      simp only at hh
      rcases hb with hb | hb
      · left; omega
      · right; omega
theorem num_step {l : List (Int × Int)} {c s : Int} {m : Nat} (hl : ∀ d ∈ l, 0 ≤ d.2 ∧ d.2 ≤ 100) (h8 : l.length ≤ 1000) (hm : m ≤ 100) :
    numOf (foldTo l c s (m + 1)).2 = if numOf (bestV l (s - (m : Int) * c)).2 ≥ 0 ∧ (numOf (foldTo l c s m).2 < 0 ∨ numOf (bestV l (s - (m : Int) * c)).2 + (m : Int) < numOf (foldTo l c s m).2) then numOf (bestV l (s - (m : Int) * c)).2 + (m : Int) else numOf (foldTo l c s m).2 := by
  rw [foldTo_succ]
  have hb := best_fin l hl (s - (m : Int) * c)
  have hb2 := bestV_in l (s - (m : Int) * c)
  have hf := foldTo_in (l := l) (c := c) (s := s) (fun s => bestV_in l s) m
  generalize (bestV l (s - (m : Int) * c)).2 = X at *
  generalize hF : foldTo l c s m = F at *
  unfold numOf
  by_cases h1 : (m : Int) + X ≤ F.2
  · rw [if_pos h1]
    simp only
    split <;> split <;> rename_i a b <;> (try split at b) <;> (try split at b) <;> omega
  · rw [if_neg h1]
    split <;> split <;> rename_i a b <;> (try split at b) <;> (try split at b) <;> omega
def tab (D : List (Int × Int)) (k n : Nat) : List Int := (List.range n).map fun (s : Nat) => numOf (bestV (D.drop k) (s : Int)).2
theorem tab_len (D : List (Int × Int)) (k n : Nat) : (tab D k n).length = n := by unfold tab; simp
theorem tab_succ (D : List (Int × Int)) (k n : Nat) : tab D k (n + 1) = tab D k n ++ [numOf (bestV (D.drop k) (n : Int)).2] := by
  unfold tab; rw [List.range_succ, List.map_append]; rfl
theorem tab_at (D : List (Int × Int)) (k n i : Nat) (h : i < n) : (tab D k n)[i]'(by rw [tab_len]; exact h) = numOf (bestV (D.drop k) (i : Int)).2 := by
  unfold tab; simp
theorem num_in {l : List (Int × Int)} (hl : ∀ d ∈ l, 0 ≤ d.2 ∧ d.2 ≤ 100) (h8 : l.length ≤ 1000) (s : Int) : -1 ≤ numOf (bestV l s).2 ∧ numOf (bestV l s).2 ≤ 100000 := by
  have hb := best_fin l hl s
  have hb2 := bestV_in l s
  unfold numOf
  split <;> omega
theorem zip_in {C H : List Int} (d : DIn C H) (k : Nat) : ∀ x ∈ (C.zip H).drop k, 0 ≤ x.2 ∧ x.2 ≤ 100 := fun x hx => by
  have := List.mem_of_mem_drop hx
  exact d.h _ (List.of_mem_zip this).2
end Go.Proofs

namespace Go.Proofs
open Go Go.RowKit Go.Sim
set_option maxRecDepth 100000
def RowI (B : Nat) (w : AW) (u : Value) (L : List Int) : Prop := AOwn B w 3 1 u L.length (L.flatMap icells) ∨ ∃ b a, u = .slice (some ⟨b, 0, none⟩) 1 1 ∧ L = [a] ∧ B ≤ b ∧ Own w b 3 [.int .i64 a]
theorem RowI.arr {B : Nat} {w : AW} {u : Value} {L : List Int} (h : RowI B w u L) (hl : L.length ≤ 1048576) : ArrOf w 1 icells u L := by
  rcases h with h | ⟨b, a, rfl, rfl, hb, hO⟩
  · exact h.arr icells_len hl
  · refine ⟨_, _, _, rfl, by simp, Nat.le_refl _, by omega, fun _ => ⟨b, 0, rfl, hO.lt, fun i j r x hi hx => ?_⟩⟩
    match i, hi with
    | 0, hi =>
      simp only [List.map_cons, List.map_nil, List.getElem?_cons_zero, Option.some.injEq] at hi
      subst hi
      match j, hx with
      | 0, hx =>
        simp only [icells, List.getElem?_cons_zero, Option.some.injEq] at hx
        subst hx
        exact hO.cell (o := 0) rfl rfl
theorem RowI.one {B : Nat} {w : AW} {u : Value} {L : List Int} (h : RowI B w u L) : oneCell u = true := by
  rcases h with h | ⟨b, a, rfl, _⟩
  · exact h.one
  · rfl
theorem RowI.app {B : Nat} {w : AW} {u : Value} {L : List Int} (h : RowI B w u L) (f : Fresh w) (hB : B ≤ w.next) (hl : L.length + 1 ≤ 1048576) (x : Int) :
    ∃ u' w', append (prg Tryz.prog) (w.push (.cells [.int .i64 x] 3 w.next 0 0)) 22 22 u (.slice (some ⟨w.next, 0, none⟩) 1 1) = some (u', w') ∧ RowI B w' u' (L ++ [x]) ∧ Keep B w w' ∧ Fresh w' ∧ w.next < w'.next := by
  rcases h with h | ⟨b, a, rfl, rfl, hb, hO⟩
  · obtain ⟨u5, w5, happ, hA5, hk5, hf5, hn5, _⟩ := append_one (e' := 3) Tryz.ty22 Tryz.ty3 rfl (by omega) (by omega) h f hB (icells_len x) (icells_one _) (by omega)
    exact ⟨u5, w5, happ, .inl (by rw [List.length_append, List.flatMap_append]; simpa using hA5), hk5, hf5, hn5⟩
  · have g1 := (Grown.refl f).push (.cells [.int .i64 x] 3 w.next 0 0)
    have O1 := Own.new f 3 [.int .i64 x]
    have hO1 := hO.keep g1.1
    have ho : aFirst (w.push (.cells [.int .i64 x] 3 w.next 0 0)) 1 1 (.slice (some ⟨b, 0, none⟩) 1 1) = some [.int .i64 a] := aCells_of [.int .i64 a] 0 fun k v hv => by rw [Nat.zero_add]; exact hO1.cell hv (by
      match k, hv with
      | 0, hv => simp only [List.getElem?_cons_zero, Option.some.injEq] at hv; subst hv; rfl)
    have hn : aFirst (w.push (.cells [.int .i64 x] 3 w.next 0 0)) 1 1 (.slice (some ⟨w.next, 0, none⟩) 1 1) = some [.int .i64 x] := aCells_of [.int .i64 x] 0 fun k v hv => by rw [Nat.zero_add]; exact O1.cell hv (by
      match k, hv with
      | 0, hv => simp only [List.getElem?_cons_zero, Option.some.injEq] at hv; subst hv; rfl)
    have hnx := AW.next_push w (.cells [.int .i64 x] 3 w.next 0 0)
    have hfull : (w.push (.cells [.int .i64 x] 3 w.next 0 0)).full = false := rfl
    have hbb := hO1.blk
    generalize hw1 : w.push (.cells [.int .i64 x] 3 w.next 0 0) = w1 at *
    have g2 := (Grown.refl g1.2).push (.cells [.int .i64 a, .int .i64 x] 3 w1.next 0 1)
    refine ⟨.slice (some ⟨w1.next, 0, none⟩) 2 2, w1.push (.cells [.int .i64 a, .int .i64 x] 3 w1.next 0 1), ?_, .inl (.inr ⟨w1.next, w1.next, rfl, by omega, by rw [AW.next_push]; omega, by omega, by rw [AW.next_push]; omega, blk_push_top _ _, rfl, by intro y hy; simp [icells] at hy; rcases hy with rfl | rfl <;> rfl, fun j hj => ?_⟩), (g1.1.trans (g2.1.mono (by omega))).mono hB, g2.2, by rw [AW.next_push]; omega⟩
    · have c1 : (Nat.beq (Value.int .i64 0).cells.size 1 && Nat.ble (1 + 1) room && Nat.ble ((1 + 1) * 8) room && Nat.ble 1 1 && Nat.beq 22 22) = true := by kernel_rfl
      have c2 : Nat.ble (1 + 1) 1 = false := rfl
      unfold append
      simp only [Tryz.ty22, Tryz.ty3, c1, aNew, hn, c2, ho, AW.grow, hfull, hbb]
      rfl
    · rw [AW.family_push, g1.2.2 _ (Nat.le_refl _)] at hj
      simp only [members, List.mem_singleton] at hj
      subst hj
      exact ⟨by omega, by rw [AW.next_push]; omega, _, _, blk_push_top _ _, by simp⟩
end Go.Proofs
