/- Acts that are given; what surpluses become. -/
import Derived.Test.YtbmgalmnjaimeaaRd
import Derived.Test.YtbmgalmnjaimeaaPc
import Derived.Test.YtbmgalmnjaimeaaTe
import Derived.Test.YtbmgalmnjaimeaaCz
set_option linter.unusedVariables false
set_option linter.unusedSimpArgs false
namespace Go.Proofs
open Go Go.RowKit Go.Sim
set_option maxRecDepth 100000
noncomputable def actsTo (T : Int) (ac : List ActV) (n : Nat) : PurN := (ac.take n).foldl actX ⟨T, [], 0, []⟩
theorem actsTo_succ {T : Int} {ac : List ActV} {n : Nat} (h : n < ac.length) : actsTo T ac (n + 1) = actX (actsTo T ac n) ac[n] := by
  unfold actsTo; rw [List.take_succ_eq_append_getElem h, List.foldl_append]; rfl
theorem new_inv {T : Int} (h : newB T = true) : PInv ⟨T, [], 0, []⟩ := by
  have hT := (inR_iff _ _ _).1 h
  exact ⟨⟨hT, by simp [heldS], fun y hy => by simp at hy, by simp⟩, by simp [lastDay]⟩
theorem acts_inv {T : Int} {ac : List ActV} (h : newB T = true) (ha : ∀ a ∈ ac, a.Ds.length = a.xs.length) : ∀ n, n ≤ ac.length → PInv (actsTo T ac n) ∧ (actsTo T ac n).N.length ≤ n
  | 0, _ => ⟨by unfold actsTo; exact new_inv h, by simp [actsTo]⟩
  | n + 1, hn => by
    obtain ⟨h1, h2⟩ := acts_inv h ha n (by omega)
    rw [actsTo_succ (by omega)]
    have := act_inv h1 ac[n] (ha _ (List.getElem_mem _))
    exact ⟨this.1, by omega⟩
end Go.Proofs

namespace Go.Proofs
open Go Go.RowKit Go.Sim
set_option maxRecDepth 100000
theorem Try.und38 : Try.prog.underlying 38 = some (.slice 48) := by kernel_rfl
theorem Try.cells48 : Try.prog.cellsOf 48 = 6 := by kernel_rfl
def acells (a : ActV) : List Value := [.int .i64 a.k, .int .i64 a.d, .int .i64 a.p, a.lv, .string a.s, a.wv]
theorem given_lots {w : AW} {n : Nat} {cs : List Value} (h : Hd Try.prog w n 32 cs) : ∃ v, cs = [v] ∧ ∃ (xs : List PartV) (Ds : List (List DueN)), PartsAt w v xs Ds := by
  cases n with
  | zero => exact h.elim
  | succ n =>
    simp only [Hd, Try.und32, Try.cells79] at h
    obtain ⟨u, rows, rfl, ha, hr, hgv⟩ := h
    obtain ⟨xs, Ds, rfl, h2, h3, h4⟩ := parts_of fun r hq => given_part (hr r hq)
    exact ⟨u, rfl, xs, Ds, ha, h2, h3⟩
theorem given_act {w : AW} {n : Nat} {cs : List Value} (h : Hd Try.prog w n 48 cs) : ∃ a : ActV, cs = acells a ∧ ActAt w a := by
  cases n with
  | zero => exact h.elim
  | succ n =>
    simp only [Hd, Try.underlying48] at h
    obtain ⟨parts, rfl, hl, hp⟩ := h
    match parts, hl with
    | [p0, p1, p2, p3, p4, p5], _ =>
      obtain ⟨k, rfl⟩ := given_int (hp 0 _ p0 rfl rfl)
      obtain ⟨d, rfl⟩ := given_int (hp 1 _ p1 rfl rfl)
      obtain ⟨p, rfl⟩ := given_int (hp 2 _ p2 rfl rfl)
      obtain ⟨s, rfl, hs⟩ := given_text (hp 4 _ p4 rfl rfl)
      obtain ⟨lv, rfl, xs, Ds, hL⟩ := given_lots (hp 3 _ p3 rfl rfl)
      obtain ⟨wv, rfl, ws, hW⟩ := given_ints (hp 5 _ p5 rfl rfl)
      exact ⟨⟨k, d, p, lv, xs, Ds, s, wv, ws⟩, rfl, hL, hW⟩
theorem acts_of {w : AW} : ∀ {rows : List (List Value)}, (∀ r ∈ rows, ∃ a : ActV, r = acells a ∧ ActAt w a) → ∃ ac : List ActV, rows = ac.map acells ∧ ∀ a ∈ ac, ActAt w a
  | [], _ => ⟨[], rfl, fun a h => by simp at h⟩
  | r :: rows, h => by
    obtain ⟨a, ha, hA⟩ := h r List.mem_cons_self
    obtain ⟨ac, h1, h2⟩ := acts_of fun q hq => h q (List.mem_cons_of_mem _ hq)
    refine ⟨a :: ac, by rw [ha, h1]; rfl, fun y hy => ?_⟩
    rcases List.mem_cons.mp hy with rfl | q
    · exact hA
    · exact h2 y q
theorem given_acts {w : AW} {n : Nat} {v : Value} (h : HdV Try.prog w n 38 v) : ∃ ac : List ActV, ArrOf w 6 acells v ac ∧ ∀ a ∈ ac, ActAt w a := by
  simp only [HdV, Try.und38] at h
  cases n with
  | zero => exact h.elim
  | succ n =>
    simp only [Hd, Try.und38, Try.cells48] at h
    obtain ⟨u, rows, e, ha, hr, hgv⟩ := h
    injection e with e
    subst e
    obtain ⟨ac, rfl, h2⟩ := acts_of fun r hq => given_act (hr r hq)
    exact ⟨ac, ha, h2⟩
end Go.Proofs

namespace Go.Proofs
open Go Go.RowKit Go.Sim
set_option maxRecDepth 100000
theorem Try.ty83 : (prg Try.prog).ty 83 = some ⟨true, (.struct #[{ name := "Left", type := 3, offset := 0, embedded := false, tag := "", pkgPath := "", byteOffset := 0 }, { name := "Paid", type := 3, offset := 1, embedded := false, tag := "", pkgPath := "", byteOffset := 8 }, { name := "Passed", type := 3, offset := 2, embedded := false, tag := "", pkgPath := "", byteOffset := 16 }, { name := "Given", type := 3, offset := 3, embedded := false, tag := "", pkgPath := "", byteOffset := 24 }]), 4, 32, .agg #[.int .i64 0, .int .i64 0, .int .i64 0, .int .i64 0]⟩ := by kernel_rfl
attribute [go_sem] Try.ty83
theorem Try.fa83x0 (t : Tmps) (w : AW) (x : Operand) : fast (prg Try.prog) t w (.fieldAddr 83 x 0) = fieldOff (ev t x) 0 := fast_fieldAddr (fd := { name := "Left", type := 3, offset := 0, embedded := false, tag := "", pkgPath := "", byteOffset := 0 }) Try.ty83 rfl Try.ty3 rfl
attribute [go_sem] Try.fa83x0
theorem Try.fa83x1 (t : Tmps) (w : AW) (x : Operand) : fast (prg Try.prog) t w (.fieldAddr 83 x 1) = fieldOff (ev t x) 1 := fast_fieldAddr (fd := { name := "Paid", type := 3, offset := 1, embedded := false, tag := "", pkgPath := "", byteOffset := 8 }) Try.ty83 rfl Try.ty3 rfl
attribute [go_sem] Try.fa83x1
theorem Try.fa83x2 (t : Tmps) (w : AW) (x : Operand) : fast (prg Try.prog) t w (.fieldAddr 83 x 2) = fieldOff (ev t x) 2 := fast_fieldAddr (fd := { name := "Passed", type := 3, offset := 2, embedded := false, tag := "", pkgPath := "", byteOffset := 16 }) Try.ty83 rfl Try.ty3 rfl
attribute [go_sem] Try.fa83x2
theorem Try.fa83x3 (t : Tmps) (w : AW) (x : Operand) : fast (prg Try.prog) t w (.fieldAddr 83 x 3) = fieldOff (ev t x) 3 := fast_fieldAddr (fd := { name := "Given", type := 3, offset := 3, embedded := false, tag := "", pkgPath := "", byteOffset := 24 }) Try.ty83 rfl Try.ty3 rfl
attribute [go_sem] Try.fa83x3
end Go.Proofs

namespace Go.Proofs
open Go Go.RowKit Go.Sim
set_option maxRecDepth 100000
noncomputable def Try.s41r4 : Array Oper := match Try.f41.body with
  | some c => regionAt 4 c
  | none => #[]
noncomputable def Try.s41r7 : Array Oper := match Try.f41.body with
  | some c => regionAt 7 c
  | none => #[]
noncomputable def Try.s41x : SC :=
 (.seq
  (.ops false [
    ⟨⟨(some 8), .assign (.const (.bool false)), 4, "", ⟨[]⟩, none⟩, none, false⟩])
  (.seq
   (.seq
    (.ops false [
      ⟨⟨(some 9), .assign (.const (.int .i64 0)), 3, "", ⟨[]⟩, none⟩, none, false⟩])
    (.block 0
     (.loop
      (.seq
       (.seq
        (.ops false [
          ⟨⟨(some 15), .move (.tmp 9), 3, "", ⟨[]⟩, none⟩, none, false⟩,
          ⟨⟨(some 16), .move (.tmp 0), 57, "", ⟨[]⟩, none⟩, none, false⟩,
          ⟨⟨(some 17), .call ⟨.builtin .len, ⟨[(.tmp 16)]⟩, ⟨[57]⟩⟩, 3, "", ⟨[]⟩, none⟩, none, false⟩,
          ⟨⟨(some 18), .binOp .lss 3 (.tmp 15) (.tmp 17) 3, 4, "", ⟨[]⟩, none⟩, none, false⟩])
        (.cond (.tmp 18)
         .skip
         (.exit 0)))
       (.seq
        (.block 1
         (.seq
          (.raw (.region 4 Try.s41r4 true))
          (.seq
           (.seq
            (.ops false [
              ⟨⟨(some 29), .load 53 (.tmp 10), 53, "", ⟨[]⟩, none⟩, none, false⟩,
              ⟨⟨(some 30), .load 53 (.tmp 11), 53, "", ⟨[]⟩, none⟩, none, false⟩,
              ⟨⟨(some 31), .binOp .eql 53 (.tmp 29) (.tmp 30) 53, 4, "", ⟨[]⟩, none⟩, none, false⟩])
            (.cond (.tmp 31)
             (.exit 1)
             .skip))
           (.seq
            (.ops false [
              ⟨⟨(some 32), .load 53 (.tmp 11), 53, "", ⟨[]⟩, none⟩, none, false⟩,
              ⟨⟨(some 12), .alloc 53, 0, "", ⟨[]⟩, none⟩, none, false⟩,
              ⟨⟨none, .store 53 (.tmp 12) (.tmp 32), 0, "", ⟨[]⟩, none⟩, none, false⟩])
            (.seq
             (.raw (.region 7 Try.s41r7 true))
             (.seq
              (.ops true [
                ⟨⟨(some 39), .fieldAddr 53 (.tmp 11) 3, 0, "", ⟨[]⟩, none⟩, none, true⟩,
                ⟨⟨(some 40), .load 3 (.tmp 39), 3, "", ⟨[]⟩, none⟩, none, true⟩,
                ⟨⟨(some 41), .binOp .eql 3 (.tmp 40) (.const (.int .i64 2)) 3, 4, "", ⟨[]⟩, none⟩, none, true⟩,
                ⟨⟨(some 42), .move (.tmp 41), 4, "", ⟨[]⟩, none⟩, none, true⟩,
                ⟨⟨(some 43), .move (.tmp 3), 3, "", ⟨[]⟩, none⟩, some ((some 42), true), true⟩,
                ⟨⟨(some 44), .fieldAddr 53 (.tmp 10) 2, 0, "", ⟨[]⟩, none⟩, some ((some 42), true), true⟩,
                ⟨⟨(some 45), .load 3 (.tmp 44), 3, "", ⟨[]⟩, none⟩, some ((some 42), true), true⟩,
                ⟨⟨(some 46), .move (.tmp 2), 3, "", ⟨[]⟩, none⟩, some ((some 42), true), true⟩,
                ⟨⟨(some 47), .binOp .add 3 (.tmp 45) (.tmp 46) 3, 3, "", ⟨[]⟩, none⟩, some ((some 42), true), true⟩,
                ⟨⟨(some 48), .binOp .lss 3 (.tmp 43) (.tmp 47) 3, 4, "", ⟨[]⟩, none⟩, some ((some 42), true), true⟩,
                ⟨⟨(some 49), .pick (.tmp 42) (.tmp 48) (.const (.bool false)), 4, "", ⟨[]⟩, none⟩, none, true⟩,
                ⟨⟨(some 50), .fieldAddr 53 (.tmp 11) 3, 0, "", ⟨[]⟩, none⟩, none, true⟩,
                ⟨⟨(some 51), .load 3 (.tmp 50), 3, "", ⟨[]⟩, none⟩, none, true⟩,
                ⟨⟨(some 52), .binOp .eql 3 (.tmp 51) (.const (.int .i64 3)) 3, 4, "", ⟨[]⟩, none⟩, none, true⟩,
                ⟨⟨(some 53), .move (.tmp 52), 4, "", ⟨[]⟩, none⟩, none, true⟩,
                ⟨⟨(some 54), .move (.tmp 3), 3, "", ⟨[]⟩, none⟩, some ((some 53), true), true⟩,
                ⟨⟨(some 55), .fieldAddr 53 (.tmp 10) 2, 0, "", ⟨[]⟩, none⟩, some ((some 53), true), true⟩,
                ⟨⟨(some 56), .load 3 (.tmp 55), 3, "", ⟨[]⟩, none⟩, some ((some 53), true), true⟩,
                ⟨⟨(some 57), .move (.tmp 2), 3, "", ⟨[]⟩, none⟩, some ((some 53), true), true⟩,
                ⟨⟨(some 58), .binOp .add 3 (.tmp 56) (.tmp 57) 3, 3, "", ⟨[]⟩, none⟩, some ((some 53), true), true⟩,
                ⟨⟨(some 59), .binOp .geq 3 (.tmp 54) (.tmp 58) 3, 4, "", ⟨[]⟩, none⟩, some ((some 53), true), true⟩,
                ⟨⟨(some 60), .pick (.tmp 53) (.tmp 59) (.const (.bool false)), 4, "", ⟨[]⟩, none⟩, none, true⟩,
                ⟨⟨(some 13), .assign (.tmp 49), 4, "", ⟨[]⟩, none⟩, none, true⟩,
                ⟨⟨(some 14), .assign (.tmp 60), 4, "", ⟨[]⟩, none⟩, none, true⟩])
              (.seq
               (.ops false [
                 ⟨⟨(some 61), .load 53 (.tmp 12), 53, "", ⟨[]⟩, none⟩, none, false⟩,
                 ⟨⟨(some 62), .load 53 (.tmp 10), 53, "", ⟨[]⟩, none⟩, none, false⟩,
                 ⟨⟨(some 63), .binOp .neq 53 (.tmp 61) (.tmp 62) 53, 4, "", ⟨[]⟩, none⟩, none, false⟩,
                 ⟨⟨(some 64), .move (.tmp 63), 4, "", ⟨[]⟩, none⟩, none, false⟩,
                 ⟨⟨(some 65), .fieldAddr 53 (.tmp 10) 3, 0, "", ⟨[]⟩, none⟩, some ((some 64), false), false⟩,
                 ⟨⟨(some 66), .load 3 (.tmp 65), 3, "", ⟨[]⟩, none⟩, some ((some 64), false), false⟩,
                 ⟨⟨(some 67), .binOp .neq 3 (.tmp 66) (.const (.int .i64 1)) 3, 4, "", ⟨[]⟩, none⟩, some ((some 64), false), false⟩,
                 ⟨⟨(some 68), .pick (.tmp 64) (.const (.bool true)) (.tmp 67), 4, "", ⟨[]⟩, none⟩, none, false⟩,
                 ⟨⟨(some 69), .move (.tmp 68), 4, "", ⟨[]⟩, none⟩, none, false⟩,
                 ⟨⟨(some 70), .fieldAddr 53 (.tmp 11) 4, 0, "", ⟨[]⟩, none⟩, some ((some 69), false), false⟩,
                 ⟨⟨(some 71), .load 3 (.tmp 70), 3, "", ⟨[]⟩, none⟩, some ((some 69), false), false⟩,
                 ⟨⟨(some 72), .move (.tmp 3), 3, "", ⟨[]⟩, none⟩, some ((some 69), false), false⟩,
                 ⟨⟨(some 73), .binOp .neq 3 (.tmp 71) (.tmp 72) 3, 4, "", ⟨[]⟩, none⟩, some ((some 69), false), false⟩,
                 ⟨⟨(some 74), .pick (.tmp 69) (.const (.bool true)) (.tmp 73), 4, "", ⟨[]⟩, none⟩, none, false⟩,
                 ⟨⟨(some 75), .move (.tmp 74), 4, "", ⟨[]⟩, none⟩, none, false⟩,
                 ⟨⟨(some 76), .move (.tmp 13), 4, "", ⟨[]⟩, none⟩, some ((some 75), false), false⟩,
                 ⟨⟨(some 77), .unOp .not 4 (.tmp 76), 4, "", ⟨[]⟩, none⟩, some ((some 75), false), false⟩,
                 ⟨⟨(some 78), .move (.tmp 77), 4, "", ⟨[]⟩, none⟩, some ((some 75), false), false⟩,
                 ⟨⟨(some 79), .move (.tmp 14), 4, "", ⟨[]⟩, none⟩, some ((some 78), true), false⟩,
                 ⟨⟨(some 80), .unOp .not 4 (.tmp 79), 4, "", ⟨[]⟩, none⟩, some ((some 78), true), false⟩,
                 ⟨⟨(some 81), .pick (.tmp 78) (.tmp 80) (.const (.bool false)), 4, "", ⟨[]⟩, none⟩, some ((some 75), false), false⟩,
                 ⟨⟨(some 82), .pick (.tmp 75) (.const (.bool true)) (.tmp 81), 4, "", ⟨[]⟩, none⟩, none, false⟩])
               (.cond (.tmp 82)
                (.seq
                 (.ops false [
                   ⟨⟨(some 8), .assign (.const (.bool false)), 4, "", ⟨[]⟩, none⟩, none, false⟩])
                 .ret)
                .skip))))))))
        (.ops false [
          ⟨⟨(some 19), .move (.tmp 9), 3, "", ⟨[]⟩, none⟩, none, false⟩,
          ⟨⟨(some 20), .binOp .add 3 (.tmp 19) (.const (.int .i64 1)) 3, 3, "", ⟨[]⟩, none⟩, none, false⟩,
          ⟨⟨(some 9), .assign (.tmp 20), 3, "", ⟨[]⟩, none⟩, none, false⟩]))))))
   (.seq
    (.ops false [
      ⟨⟨(some 8), .assign (.const (.bool true)), 4, "", ⟨[]⟩, none⟩, none, false⟩])
    .ret)))
def Try.x41r4 : List XOp := [
  ⟨⟨⟨(some 21), .move (.tmp 0), 57, "", ⟨[]⟩, none⟩, none, false⟩, 0, 0, false, none⟩,
  ⟨⟨⟨(some 22), .move (.tmp 9), 3, "", ⟨[]⟩, none⟩, none, false⟩, 1, 0, false, none⟩,
  ⟨⟨⟨(some 23), .indexAddr 57 (.tmp 21) (.tmp 22), 0, "", ⟨[]⟩, none⟩, none, false⟩, 2, 0, false, none⟩,
  ⟨⟨⟨(some 24), .load 53 (.tmp 23), 53, "", ⟨[]⟩, none⟩, none, false⟩, 3, 0, false, some (53, (.tmp 23))⟩,
  ⟨⟨⟨(some 25), .move (.tmp 1), 57, "", ⟨[]⟩, none⟩, none, false⟩, 4, 0, false, none⟩,
  ⟨⟨⟨(some 26), .move (.tmp 9), 3, "", ⟨[]⟩, none⟩, none, false⟩, 5, 0, false, none⟩,
  ⟨⟨⟨(some 27), .indexAddr 57 (.tmp 25) (.tmp 26), 0, "", ⟨[]⟩, none⟩, none, false⟩, 6, 0, false, none⟩,
  ⟨⟨⟨(some 28), .load 53 (.tmp 27), 53, "", ⟨[]⟩, none⟩, none, false⟩, 7, 0, false, some (53, (.tmp 27))⟩,
  ⟨⟨⟨(some 10), .alloc 53, 0, "", ⟨[]⟩, none⟩, none, false⟩, 8, 0, false, none⟩,
  ⟨⟨⟨(some 11), .alloc 53, 0, "", ⟨[]⟩, none⟩, none, false⟩, 9, 0, false, none⟩,
  ⟨⟨⟨none, .store 53 (.tmp 10) (.tmp 24), 0, "", ⟨[]⟩, none⟩, none, false⟩, 10, 783, true, none⟩,
  ⟨⟨⟨none, .store 53 (.tmp 11) (.tmp 28), 0, "", ⟨[]⟩, none⟩, none, false⟩, 11, 2047, true, none⟩]
def Try.x41r7 : List XOp := [
  ⟨⟨⟨(some 33), .fieldAddr 53 (.tmp 10) 3, 0, "", ⟨[]⟩, none⟩, none, false⟩, 0, 0, false, none⟩,
  ⟨⟨⟨(some 34), .load 3 (.tmp 33), 3, "", ⟨[]⟩, none⟩, none, false⟩, 1, 0, false, some (3, (.tmp 33))⟩,
  ⟨⟨⟨(some 35), .fieldAddr 53 (.tmp 10) 4, 0, "", ⟨[]⟩, none⟩, none, false⟩, 2, 0, false, none⟩,
  ⟨⟨⟨(some 36), .load 3 (.tmp 35), 3, "", ⟨[]⟩, none⟩, none, false⟩, 3, 0, false, some (3, (.tmp 35))⟩,
  ⟨⟨⟨(some 37), .fieldAddr 53 (.tmp 12) 3, 0, "", ⟨[]⟩, none⟩, none, false⟩, 4, 0, false, none⟩,
  ⟨⟨⟨none, .store 3 (.tmp 37) (.tmp 34), 0, "", ⟨[]⟩, none⟩, none, false⟩, 5, 19, true, none⟩,
  ⟨⟨⟨(some 38), .fieldAddr 53 (.tmp 12) 4, 0, "", ⟨[]⟩, none⟩, none, false⟩, 6, 0, false, none⟩,
  ⟨⟨⟨none, .store 3 (.tmp 38) (.tmp 36), 0, "", ⟨[]⟩, none⟩, none, false⟩, 7, 127, true, none⟩]
theorem Try.s41x_eq : Try.f41.body.map (sOfX [4, 7]) = some Try.s41x := by kernel_rfl
theorem Try.x41r4_eq : xRegion Try.s41r4 = some Try.x41r4 := by kernel_rfl
theorem Try.x41r4_kinds : xkinds Try.x41r4 = true := by kernel_rfl
theorem Try.x41r7_eq : xRegion Try.s41r7 = some Try.x41r7 := by kernel_rfl
theorem Try.x41r7_kinds : xkinds Try.x41r7 = true := by kernel_rfl
end Go.Proofs

namespace Go.Proofs
open Go Go.RowKit Go.Sim
set_option maxRecDepth 100000
def SteadyP (L0 L1 : List SurN) (T d : Int) : Prop := L0.length ≤ L1.length ∧ ∀ (i : Nat) (y : SurN), L0[i]? = some y → ∃ z : SurN, L1[i]? = some z ∧ (z = y ∨ (y.st = 1 ∧ d < y.d + T ∧ z = endS y 2 d) ∨ (y.st = 1 ∧ y.d + T ≤ d ∧ z = endS y 3 d))
theorem SteadyP.refl (L : List SurN) (T d : Int) : SteadyP L L T d := ⟨Nat.le_refl _, fun _ y h => ⟨y, h, .inl rfl⟩⟩
theorem stepP_get (day : Int) (S : List SurN) (i j : Nat) : (stepP day S i)[j]? = if i = j then (S[j]?).map (fun y => endS y 3 day) else S[j]? := by
  unfold stepP
  cases hs : S[i]? with
  | none =>
    simp only
    split
    · rename_i h; subst h; rw [hs]; rfl
    · rfl
  | some y =>
    simp only
    rw [List.getElem?_set]
    have hl := (List.getElem?_eq_some_iff.1 hs).1
    split
    · rename_i h; subst h; rw [hs]; simp [hl]
    · rfl
theorem passS_get (day : Int) : ∀ (is : List Nat) (S : List SurN) (j : Nat), (passS S day is)[j]? = if j ∈ is then (S[j]?).map (fun y => endS y 3 day) else S[j]?
  | [], S, j => by simp [passS]
  | i :: is, S, j => by
    rw [passS, List.foldl_cons, ← passS, passS_get day is, stepP_get]
    by_cases h1 : i = j
    · subst h1
      rw [if_pos rfl, if_pos List.mem_cons_self]
      split
      · cases S[i]? <;> rfl
      · rfl
    · rw [if_neg h1]
      have : (j ∈ i :: is) = (j ∈ is) := by simp; omega
      simp only [this]
theorem pay_steady {x : PurN} {day : Int} {k : ByteArray} (h : payB x day k = true) : SteadyP x.S (payX x day k).S x.T day := by
  unfold payB at h
  unfold payX
  cases hs : x.S[plc (x.S.map SurN.s) k]? with
  | none => exact SteadyP.refl _ _ _
  | some y =>
    rw [hs] at h
    simp only [Bool.and_eq_true, Bool.not_eq_true', decide_eq_true_eq, decide_eq_false_iff_not] at h
    refine ⟨by simp, fun i z hz => ?_⟩
    simp only
    rw [List.getElem?_set]
    split
    · rename_i he
      subst he
      rw [hs] at hz
      injection hz with hz
      subst hz
      have hl := (List.getElem?_eq_some_iff.1 hs).1
      rw [if_pos hl]
      exact ⟨_, rfl, .inr (.inl ⟨h.1.2, by omega, rfl⟩)⟩
    · exact ⟨z, hz, .inl rfl⟩
theorem pass_steady (x : PurN) (day : Int) : SteadyP x.S (passX x day).S x.T day := by
  refine ⟨by show x.S.length ≤ (passS x.S day (passL x day)).length; rw [passS_len]; omega, fun i y hy => ?_⟩
  show ∃ z : SurN, (passS x.S day (passL x day))[i]? = some z ∧ _
  rw [passS_get, hy]
  split
  · rename_i hm
    have h1 := (pick_lt hm).1
    have h2 := (pick_lt hm).2
    rw [late_of h1, Bool.and_eq_true, decide_eq_true_eq, decide_eq_true_eq] at h2
    have he : x.S[i] = y := (List.getElem?_eq_some_iff.1 hy).2
    rw [he] at h2
    exact ⟨_, rfl, .inr (.inr ⟨h2.1, h2.2, rfl⟩)⟩
  · exact ⟨y, rfl, .inl rfl⟩
theorem sell_steady (x : PurN) (p : Int) (xs : List PartV) (Ds : List (List DueN)) (day : Int) : SteadyP x.S (sellX x p xs Ds day).S x.T day := by
  refine ⟨by show x.S.length ≤ (x.S ++ _).length; rw [List.length_append]; omega, fun i y hy => ⟨y, ?_, .inl rfl⟩⟩
  show (x.S ++ _)[i]? = _
  rw [List.getElem?_append_left (List.getElem?_eq_some_iff.1 hy).1]; exact hy
theorem act_steady (x : PurN) (a : ActV) : SteadyP x.S (actX x a).S x.T a.d := by
  unfold actX
  by_cases hE : actE x a = 0
  · rw [if_neg (by rw [hE]; simp)]
    have hr : inR (lastDay x.N) a.d 36500 = true := by
      cases hq : inR (lastDay x.N) a.d 36500 with
      | true => rfl
      | false => unfold actE at hE; rw [if_pos hq] at hE; cases hE
    unfold actE at hE
    rw [if_neg (by rw [hr]; simp)] at hE
    by_cases h1 : a.k = 1
    · rw [if_pos h1]; exact sell_steady _ _ _ _ _
    · rw [if_neg h1] at hE ⊢
      by_cases h2 : a.k = 2
      · rw [if_pos h2] at hE ⊢
        refine pay_steady ?_
        cases hp : payB x a.d a.s with
        | true => rfl
        | false => rw [hp] at hE; simp at hE
      · rw [if_neg h2]
        by_cases h3 : a.k = 3
        · rw [if_pos h3]; exact pass_steady _ _
        · rw [if_neg h3]; exact SteadyP.refl _ _ _
  · rw [if_pos hE]; exact SteadyP.refl _ _ _
theorem act_T (x : PurN) (a : ActV) : (actX x a).T = x.T := by
  unfold actX
  split
  · rfl
  split
  · rfl
  split
  · show (payX x a.d a.s).T = x.T
    unfold payX; split <;> rfl
  split <;> rfl
theorem heldM_eq (x : PurN) : heldM x = heldS x.S := by
  rw [heldS_def, ← pick_sum (p := heldQ x.S) (l := x.S.map hv), heldM, List.length_map]
  · congr 1
    refine List.map_congr_left fun i hi => ?_
    have h := pick_lt hi
    have h2 := h.2
    rw [W_map hv h.1]
    unfold heldQ at h2
    rw [List.getElem?_eq_getElem h.1] at h2
    have h3 := of_decide_eq_true h2
    unfold mOf hv
    rw [List.getElem?_eq_getElem h.1]
    simp only [h3, if_pos]
  · intro i hi
    rcases Nat.lt_or_ge i x.S.length with q | q
    · rw [W_map hv q]
      unfold heldQ at hi
      rw [List.getElem?_eq_getElem q] at hi
      have h3 := of_decide_eq_false hi
      unfold hv; rw [if_neg h3]
    · unfold W; rw [List.getD_eq_getElem?_getD, List.getElem?_eq_none (by simpa using q)]; rfl
noncomputable def leftSum (p : Int) (xs : List PartV) (Ds : List (List DueN)) : Int := ((List.range xs.length).map (leftM p xs Ds)).sum
theorem left_nn {price : Int} {xs : List PartV} {Ds : List (List DueN)} (hI : PortIn price xs Ds) (hl : Ds.length = xs.length) {i : Nat} (hi : i < xs.length) : 0 ≤ leftM price xs Ds i := by
  have hp := hI.pr
  obtain ⟨hsh, hsum⟩ := share_is hI.wgt.nn hI.wgt.sum.1 hp.1
  have hq0 := hsh.nn i
  have hd : Ds.getD i [] = Ds[i]'(by omega) := getD_at (by omega)
  have hD := (hI.dues _ (List.getElem_mem (show i < Ds.length by omega))).1
  unfold leftM
  rw [hd]
  exact leftN_nn hD.nn hq0 10
theorem W_range (f : Nat → Int) {n i : Nat} (h : i < n) : W ((List.range n).map f) i = f i := by
  rw [W_map f (by simpa using h)]; simp
theorem held_sell {price : Int} {xs : List PartV} {Ds : List (List DueN)} (hI : PortIn price xs Ds) (hl : Ds.length = xs.length) (day : Int) : heldS (sellL price xs Ds day) = leftSum price xs Ds := by
  unfold leftSum
  rw [← pick_sum (p := fun i => decide (0 < leftM price xs Ds i)) (l := (List.range xs.length).map (leftM price xs Ds)), List.length_map, List.length_range]
  · rw [heldS_def, sellL, List.map_map]
    congr 1
    refine List.map_congr_left fun i hi => ?_
    rw [W_range _ (pick_lt hi).1]
    rfl
  · intro i hi
    rcases Nat.lt_or_ge i xs.length with q | q
    · rw [W_range _ q]
      have := of_decide_eq_false hi
      have := left_nn hI hl q
      omega
    · unfold W; rw [List.getD_eq_getElem?_getD, List.getElem?_eq_none (by simpa using q)]; rfl
theorem sum_range_le {f : Nat → Int} {m : Int} : ∀ n, (∀ i, i < n → 0 ≤ f i ∧ f i ≤ m) → 0 ≤ ((List.range n).map f).sum ∧ ((List.range n).map f).sum ≤ (n : Int) * m
  | 0, _ => by simp
  | n + 1, h => by
    have ih := sum_range_le n fun i hi => h i (by omega)
    have := h n (by omega)
    rw [List.range_succ, List.map_append, List.sum_append_int]
    have e : (((n + 1 : Nat) : Int)) * m = (n : Int) * m + m := by rw [Int.natCast_succ, Int.add_mul, Int.one_mul]
    rw [e]
    simp only [List.map_cons, List.map_nil, List.sum_cons, List.sum_nil]
    omega
theorem leftSum_in {price : Int} {xs : List PartV} {Ds : List (List DueN)} (hI : PortIn price xs Ds) (hl : Ds.length = xs.length) (n : Nat) (hn : n ≤ xs.length) : 0 ≤ ((List.range n).map (leftM price xs Ds)).sum ∧ ((List.range n).map (leftM price xs Ds)).sum ≤ 536870912 := by
  have h8 := hI.len
  have := sum_range_le (f := leftM price xs Ds) (m := 67108864) n fun i hi => ⟨left_nn hI hl (by omega), left_in hI hl (by omega)⟩
  omega
structure BookN where
  l : Int
  p : Int
  s : Int
  g : Int
noncomputable def bookX (b : BookN) (x : PurN) (a : ActV) : BookN := if actE x a ≠ 0 then b else if a.k = 1 then { b with l := b.l + leftSum a.p a.xs a.Ds } else if a.k = 2 then { b with p := b.p + payM x a.s } else if a.k = 3 then { b with s := b.s + passM x a.d } else { b with g := b.g + (shareL a.ws x.W).sum }
structure BInv (b : BookN) (x : PurN) (n : Nat) : Prop where
  e1 : b.l = b.p + heldS x.S + x.W + b.g
  e2 : b.s = x.W + b.g
  nn : 0 ≤ b.l ∧ 0 ≤ b.p ∧ 0 ≤ b.s ∧ 0 ≤ b.g
  le : b.l ≤ (n : Int) * 536870912
theorem book_step {b : BookN} {x : PurN} {n : Nat} (h : PInv x) (hb : BInv b x n) (a : ActV) (hl : a.Ds.length = a.xs.length) : BInv (bookX b x a) (actX x a) (n + 1) := by
  have e : (((n + 1 : Nat) : Int)) * 536870912 = (n : Int) * 536870912 + 536870912 := by rw [Int.natCast_succ, Int.add_mul, Int.one_mul]
  have hle := hb.le
  have e1 := hb.e1
  have e2 := hb.e2
  have nn := hb.nn
  have hW := h.good.w.1
  have hS := heldS_nn fun y hy => (h.good.s y hy).2.2.1
  unfold bookX actX
  by_cases hE : actE x a = 0
  · have hEn : ¬ actE x a ≠ 0 := by rw [hE]; simp
    rw [if_neg hEn, if_neg hEn]
    have hr : inR (lastDay x.N) a.d 36500 = true := by
      cases hq : inR (lastDay x.N) a.d 36500 with
      | true => rfl
      | false => unfold actE at hE; rw [if_pos hq] at hE; cases hE
    unfold actE at hE
    rw [if_neg (by rw [hr]; simp)] at hE
    by_cases h1 : a.k = 1
    · rw [if_pos h1] at hE ⊢
      rw [if_pos h1]
      have hI := portE_in (sellE_in hE).1
      have hs := held_sell hI hl a.d
      have hin := leftSum_in hI hl _ (Nat.le_refl _)
      have hq : ((List.range a.xs.length).map (leftM a.p a.xs a.Ds)).sum = leftSum a.p a.xs a.Ds := rfl
      have hx : heldS (x.S ++ sellL a.p a.xs a.Ds a.d) = heldS x.S + leftSum a.p a.xs a.Ds := by rw [heldS_app, hs]
      exact ⟨by show b.l + leftSum a.p a.xs a.Ds = b.p + heldS (x.S ++ sellL a.p a.xs a.Ds a.d) + x.W + b.g; omega, e2, by simp only; omega, by simp only; omega⟩
    · rw [if_neg h1] at hE ⊢
      rw [if_neg h1]
      by_cases h2 : a.k = 2
      · rw [if_pos h2] at hE ⊢
        rw [if_pos h2]
        have hp : payB x a.d a.s = true := by
          cases hp : payB x a.d a.s with
          | true => rfl
          | false => rw [hp] at hE; simp at hE
        unfold payB at hp
        unfold payX payM
        cases hs : x.S[plc (x.S.map SurN.s) a.s]? with
        | none => rw [hs] at hp; cases hp
        | some y =>
          rw [hs] at hp
          simp only [Bool.and_eq_true, decide_eq_true_eq] at hp
          have hi := (List.getElem?_eq_some_iff.1 hs).1
          have he : x.S[plc (x.S.map SurN.s) a.s] = y := (List.getElem?_eq_some_iff.1 hs).2
          have hx : heldS (x.S.set (plc (x.S.map SurN.s) a.s) (endS y 2 a.d)) = heldS x.S - y.m := by
            rw [heldS_set hi, hv_end _ _ _ (by decide), he]
            unfold hv; rw [if_pos hp.1.2]; omega
          have hm := (h.good.s y (List.mem_of_getElem? hs)).2.2.1
          exact ⟨by simp only; rw [hx]; omega, e2, by simp only; omega, by simp only; omega⟩
      · rw [if_neg h2] at hE ⊢
        rw [if_neg h2]
        by_cases h3 : a.k = 3
        · rw [if_pos h3, if_pos h3]
          have hh := passS_held a.d (passL x a.d) x.S (pick_order _ _) fun i hi => by
            have h1 := (pick_lt hi).1
            have h2 := (pick_lt hi).2
            rw [late_of h1, Bool.and_eq_true] at h2
            exact ⟨_, List.getElem?_eq_getElem h1, of_decide_eq_true h2.1⟩
          have hm : ((passL x a.d).map (mOf x.S)).sum = passM x a.d := rfl
          have hp := passM_good h.good a.d
          exact ⟨by show b.l = b.p + heldS (passS x.S a.d (passL x a.d)) + (x.W + passM x a.d) + b.g; omega, by show b.s + passM x a.d = x.W + passM x a.d + b.g; omega, by simp only; omega, by simp only; omega⟩
        · rw [if_neg h3, if_neg h3]
          rw [if_neg h3] at hE
          obtain ⟨hw, h0, _⟩ := shareE_in hE
          have hs := (share_is hw.nn hw.sum.1 h0).2
          rw [hs]
          exact ⟨by show b.l = b.p + heldS x.S + 0 + (b.g + x.W); omega, by show b.s = 0 + (b.g + x.W); omega, by simp only; omega, by simp only; omega⟩
  · rw [if_pos hE, if_pos hE]
    exact ⟨e1, e2, nn, by omega⟩
end Go.Proofs

namespace Go.Proofs
open Go Go.RowKit Go.Sim
set_option maxRecDepth 100000
theorem Try.eq53 (s : ByteArray) (a b c d c' d' : Int) : eqQ Try.prog .eql 53 (.agg #[.string s, .int .i64 a, .int .i64 b, .int .i64 c, .int .i64 d]) (.agg #[.string s, .int .i64 a, .int .i64 b, .int .i64 c', .int .i64 d']) = some (.bool ((c == c') && (d == d'))) := by
  have h := eqQ_eql (P := Try.prog) (ty := 53) (xs := #[.string s, .int .i64 a, .int .i64 b, .int .i64 c, .int .i64 d]) (ys := #[.string s, .int .i64 a, .int .i64 b, .int .i64 c', .int .i64 d']) (by kernel_rfl) rfl (eqStruct Try.underlying53 (by kernel_rfl) (n := 9999) (.cons (eqF_string (by decide) Try.underlying9 Try.agg9 rfl rfl) (.cons (eqF_int (k := .i64) (by decide) Try.underlying3 Try.agg3 rfl rfl) (.cons (eqF_int (k := .i64) (by decide) Try.underlying3 Try.agg3 rfl rfl) (.cons (eqF_int (k := .i64) (by decide) Try.underlying3 Try.agg3 rfl rfl) (.cons (eqF_int (k := .i64) (by decide) Try.underlying3 Try.agg3 rfl rfl) .nil))))))
  rw [h]; simp
theorem new_two {w1 : AW} (f1 : Fresh w1) (A B : SurN) : ∃ w2 w3, storeV ((w1.push (.cells [.string ⟨#[]⟩, .int .i64 0, .int .i64 0, .int .i64 0, .int .i64 0] 53 w1.next 0 0)).push (.cells [.string ⟨#[]⟩, .int .i64 0, .int .i64 0, .int .i64 0, .int .i64 0] 53 (w1.next + 1) 0 0)) true 5 (.pointer (some ⟨w1.next, 0, none⟩)) (.agg #[.string A.s, .int .i64 A.m, .int .i64 A.d, .int .i64 A.st, .int .i64 A.ov]) = some w2 ∧
    storeV w2 true 5 (.pointer (some ⟨w1.next + 1, 0, none⟩)) (.agg #[.string B.s, .int .i64 B.m, .int .i64 B.d, .int .i64 B.st, .int .i64 B.ov]) = some w3 ∧ Own w3 w1.next 53 (surc A) ∧ Own w3 (w1.next + 1) 53 (surc B) ∧ Grown w1 w2 ∧ Grown w1 w3 := by
  have hX := (Own.new f1 53 [.string ⟨#[]⟩, .int .i64 0, .int .i64 0, .int .i64 0, .int .i64 0]).push (.cells [.string ⟨#[]⟩, .int .i64 0, .int .i64 0, .int .i64 0, .int .i64 0] 53 (w1.next + 1) 0 0)
  have gX := (Grown.refl f1).push (.cells [.string ⟨#[]⟩, .int .i64 0, .int .i64 0, .int .i64 0, .int .i64 0] 53 w1.next 0 0)
  have gY := gX.push (.cells [.string ⟨#[]⟩, .int .i64 0, .int .i64 0, .int .i64 0, .int .i64 0] 53 (w1.next + 1) 0 0)
  have hY := Own.new gX.2 53 [.string ⟨#[]⟩, .int .i64 0, .int .i64 0, .int .i64 0, .int .i64 0]
  rw [AW.next_push] at hY
  have s1 := storeV_own (o := 0) (l := surc A) (size := 5) hX rfl (by omega) (by simp [surc]) (by rfl)
  simp only [surc, setsL, setL] at s1
  have m1 := MutS.put (S := fun j => j = w1.next) gY.2 rfl hX.lt (.cells (surc A) 53 w1.next 0 0)
  have hX2 := hX.put (surc A)
  have hY2 := m1.own hY (by omega)
  have s2 := storeV_own (o := 0) (l := surc B) (size := 5) hY2 rfl (by omega) (by simp [surc]) (by rfl)
  simp only [surc, setsL, setL] at s2
  have m2 := MutS.put (S := fun j => j = w1.next + 1) m1.fresh rfl hY2.lt (.cells (surc B) 53 (w1.next + 1) 0 0)
  have hX3 := m2.own hX2 (by omega)
  have hY3 := hY2.put (surc B)
  have g2 : Grown w1 _ := ⟨gY.1.put (b := w1.next) (Nat.le_refl _) (.cells (surc A) 53 w1.next 0 0), m1.fresh⟩
  have g3 : Grown w1 _ := ⟨g2.1.put (b := w1.next + 1) (by omega) (.cells (surc B) 53 (w1.next + 1) 0 0), m2.fresh⟩
  exact ⟨_, _, s1, s2, hX3, hY3, g2, g3⟩
theorem new_surO {w1 : AW} (f1 : Fresh w1) (A : SurN) : ∃ w2, storeV (w1.push (.cells [.string ⟨#[]⟩, .int .i64 0, .int .i64 0, .int .i64 0, .int .i64 0] 53 w1.next 0 0)) true 5 (.pointer (some ⟨w1.next, 0, none⟩)) (.agg #[.string A.s, .int .i64 A.m, .int .i64 A.d, .int .i64 A.st, .int .i64 A.ov]) = some w2 ∧ Own w2 w1.next 53 (surc A) ∧ Grown w1 w2 := by
  have hX := Own.new f1 53 [.string ⟨#[]⟩, .int .i64 0, .int .i64 0, .int .i64 0, .int .i64 0]
  have gX := (Grown.refl f1).push (.cells [.string ⟨#[]⟩, .int .i64 0, .int .i64 0, .int .i64 0, .int .i64 0] 53 w1.next 0 0)
  have s1 := storeV_own (o := 0) (l := surc A) (size := 5) hX rfl (by omega) (by simp [surc]) (by rfl)
  simp only [surc, setsL, setL] at s1
  have m1 := MutS.put (S := fun j => j = w1.next) gX.2 rfl hX.lt (.cells (surc A) 53 w1.next 0 0)
  exact ⟨_, s1, hX.put (surc A), ⟨gX.1.put (b := w1.next) (Nat.le_refl _) (.cells (surc A) 53 w1.next 0 0), m1.fresh⟩⟩
theorem set_two {w1 : AW} {b : Nat} (f1 : Fresh w1) (A : SurN) (h : Own w1 b 53 (surc A)) (st ov : Int) : ∃ w2 w3, storeV w1 false 1 (.pointer (some ⟨b, 3, none⟩)) (.int .i64 st) = some w2 ∧ storeV w2 false 1 (.pointer (some ⟨b, 4, none⟩)) (.int .i64 ov) = some w3 ∧ MutS (fun j => j = b) w1 w2 ∧ MutS (fun j => j = b) w1 w3 ∧ Own w3 b 53 (surc { A with st := st, ov := ov }) := by
  have s1 := storeV_own1 (o := 3) (v := .int .i64 st) h (by simp [surc]) rfl
  simp only [surc, setL] at s1
  have m1 := MutS.put (S := fun j => j = b) f1 rfl h.lt (.cells (surc { A with st := st }) 53 b 0 0)
  have h1 := h.put (surc { A with st := st })
  have s2 := storeV_own1 (o := 4) (v := .int .i64 ov) h1 (by simp [surc]) rfl
  simp only [surc, setL] at s2
  have m2 := MutS.put (S := fun j => j = b) m1.fresh rfl h1.lt (.cells (surc { A with st := st, ov := ov }) 53 b 0 0)
  exact ⟨_, _, s1, s2, m1, m1.trans m2 (Within.refl _ _), h1.put _⟩
set_option maxHeartbeats 16000000 in
theorem steady_ok (L0 L1 : List SurN) (T d : Int) (u v : Value) (w : AW) (f : Fresh w) (hA : ArrOf w 5 surc u L0) (hB : ArrOf w 5 surc v L1) (h : SteadyP L0 L1 T d) (hT : 0 ≤ T ∧ T ≤ 12000) (hd : ∀ y ∈ L0, 0 ≤ y.d ∧ y.d ≤ 36500) :
    CallT Try.prog Try.T1 (.fn (.func 41) #[]) #[u, v, .int .i64 T, .int .i64 d] w (Ret (.bool true) (Grown w)) := by
  obtain ⟨p, c, rfl, _, _, hat⟩ := hA.open
  obtain ⟨p', c', rfl, _, _, hat'⟩ := hB.open
  refine callT_codeX [4, 7] rfl Try.func41 rfl Try.s41x_eq rfl ?_
  unfold Try.s41x
  simp -dsimp -implicitDefEqProofs (maxSteps := 2000000) (disch := first | assumption | omega | (simp only [nx]; omega) | ((repeat refine Fresh.push ?_ _); assumption) | (simp only [smA]; done) | (simp [oneCell, AW.next_push]; done) | fail) only [go_sem, Nat.reduceEqDiff, reduceIte, Nat.reduceAdd, Int.toNat_natCast, Nat.add_zero, Owes_true, Try.results41]
  refine loopR (fun k t ds w1 => ∃ i : Nat, i ≤ L0.length ∧ k = L0.length - i ∧ ds = [] ∧ ev t (.tmp 0) = .slice p L0.length c ∧ ev t (.tmp 1) = .slice p' L1.length c' ∧ ev t (.tmp 2) = .int .i64 T ∧ ev t (.tmp 3) = .int .i64 d ∧ ev t (.tmp 9) = .int .i64 (i : Int) ∧ Grown w w1) (L0.length) ?_ ?_
  · refine ⟨0, by omega, by omega, rfl, ?_, ?_, ?_, ?_, ?_, Grown.refl f⟩ <;> simp -dsimp -implicitDefEqProofs (maxSteps := 2000000) (disch := first | assumption | omega | (simp only [nx]; omega) | ((repeat refine Fresh.push ?_ _); assumption) | (simp only [smA]; done) | (simp [oneCell, AW.next_push]; done) | fail) only [go_sem, Nat.reduceEqDiff, reduceIte, Nat.reduceAdd, Int.toNat_natCast, Nat.add_zero, Owes_true] <;> rfl
  rintro k t ds w1 ⟨i, hii, rfl, rfl, e0, e1, e2, e3, e9, hg⟩
  by_cases hlt : (i : Int) < (L0.length : Int)
  case neg =>
    simp -dsimp -implicitDefEqProofs (maxSteps := 2000000) (disch := first | assumption | omega | (simp only [nx]; omega) | ((repeat refine Fresh.push ?_ _); assumption) | (simp only [smA]; done) | (simp [oneCell, AW.next_push]; done) | fail) only [go_sem, Nat.reduceEqDiff, reduceIte, Nat.reduceAdd, Int.toNat_natCast, Nat.add_zero, Owes_true, Try.results41, e0, e1, e2, e3, e9, hlt]
    exact ⟨rfl, hg⟩
  have hlt' : i < L0.length := by omega
  obtain ⟨z, hz, hor⟩ := h.2 i _ (List.getElem?_eq_getElem hlt')
  obtain ⟨hi1, hz⟩ := List.getElem?_eq_some_iff.1 hz
  have hi2 : (i : Int) < (L1.length : Int) := by omega
  obtain ⟨b1, o1, rfl, hb1, hcell⟩ := hat i hlt'
  obtain ⟨b2, o2, rfl, hb2, hcell2⟩ := hat' i hi1
  have hn := hg.1.next
  have hb1' : b1 < w1.next := by omega
  have hb2' : b2 < w1.next := by omega
  have f1 := hg.2
  have hdy := hd _ (List.getElem_mem hlt')
  have a0 := hcell w1 hg.1 0 _ rfl
  have a1 := hcell w1 hg.1 1 _ rfl
  have a2 := hcell w1 hg.1 2 _ rfl
  have a3 := hcell w1 hg.1 3 _ rfl
  have a4 := hcell w1 hg.1 4 _ rfl
  have d0 := hcell2 w1 hg.1 0 _ rfl
  have d1 := hcell2 w1 hg.1 1 _ rfl
  have d2 := hcell2 w1 hg.1 2 _ rfl
  have d3 := hcell2 w1 hg.1 3 _ rfl
  have d4 := hcell2 w1 hg.1 4 _ rfl
  rw [Nat.add_zero] at a0 d0
  rw [hz] at d0 d1 d2 d3 d4
  generalize L0[i] = y at *
  obtain ⟨s, m, dd, st, ov⟩ := y
  simp only at a0 a1 a2 a3 a4 hdy hor
  rcases hor with rfl | ⟨rfl, hlt2, rfl⟩ | ⟨rfl, hge, rfl⟩
  · simp only at d0 d1 d2 d3 d4
    have hq := Try.eq53 s m dd st ov st ov
    have hq1 : ((st == st) && (ov == ov)) = true := by simp
    rw [hq1] at hq
    have hsm := same_sur s m dd st ov
    have hsm2 := hsm
    obtain ⟨w2, w3, k2, k3, hX, hY, g2, g3⟩ := new_two f1 ⟨s, m, dd, st, ov⟩ ⟨s, m, dd, st, ov⟩
    simp only [surc] at k2 k3 hX hY
    have x0 := hcell2 w2 (hg.trans g2).1 0 _ rfl
    have x1 := hcell2 w2 (hg.trans g2).1 1 _ rfl
    have x2 := hcell2 w2 (hg.trans g2).1 2 _ rfl
    have x3 := hcell2 w2 (hg.trans g2).1 3 _ rfl
    have x4 := hcell2 w2 (hg.trans g2).1 4 _ rfl
    rw [hz, Nat.add_zero] at x0
    rw [hz] at x1 x2 x3 x4
    simp only [endS] at x0 x1 x2 x3 x4
    simp -dsimp -implicitDefEqProofs (maxSteps := 2000000) (disch := first | assumption | omega | (simp only [nx]; omega) | ((repeat refine Fresh.push ?_ _); assumption) | (simp only [smA]; done) | (simp [oneCell, AW.next_push]; done) | fail) only [go_sem, Nat.reduceEqDiff, reduceIte, Nat.reduceAdd, Int.toNat_natCast, Nat.add_zero, Owes_true, Try.results41, e0, e1, e2, e3, e9, hlt]
    refine codeT_regX Try.x41r4_eq Try.x41r4_kinds ?_
    unfold Try.x41r4
    simp -dsimp -implicitDefEqProofs (maxSteps := 2000000) (disch := first | assumption | omega | (simp only [nx]; omega) | ((repeat refine Fresh.push ?_ _); assumption) | (simp only [smA]; done) | (simp [oneCell, AW.next_push]; done) | fail) only [go_sem, Nat.reduceEqDiff, reduceIte, Nat.reduceAdd, Int.toNat_natCast, Nat.add_zero, Owes_true, e0, e1, e9, hlt, hi2, indexV_eq, a0, a1, a2, a3, a4, d0, d1, d2, d3, d4, hsm, hsm2, Nat.zero_add, k2]
    refine ⟨⟨.inr fun inf hinf => ?_, .inl (show Nat.testBit 783 3 = true by decide), trivial⟩, ?_⟩
    · rw [Try.ty53] at hinf
      injection hinf with hinf
      subst hinf
      simp -dsimp -implicitDefEqProofs (maxSteps := 2000000) (disch := first | assumption | omega | (simp only [nx]; omega) | ((repeat refine Fresh.push ?_ _); assumption) | (simp only [smA]; done) | (simp [oneCell, AW.next_push]; done) | fail) only [go_sem, Nat.reduceEqDiff, reduceIte, Nat.reduceAdd, Int.toNat_natCast, Nat.add_zero, Owes_true, d0, d1, d2, d3, d4, x0, x1, x2, x3, x4]
    simp -dsimp -implicitDefEqProofs (maxSteps := 2000000) (disch := first | assumption | omega | (simp only [nx]; omega) | ((repeat refine Fresh.push ?_ _); assumption) | (simp only [smA]; done) | (simp [oneCell, AW.next_push]; done) | fail) only [go_sem, Nat.reduceEqDiff, reduceIte, Nat.reduceAdd, Int.toNat_natCast, Nat.add_zero, Owes_true, Nat.zero_add, k3]
    refine ⟨⟨.inl (show Nat.testBit 2047 7 = true by decide), .inl (show Nat.testBit 2047 3 = true by decide), trivial⟩, ?_⟩
    have u0 := hX.cell (o := 0) rfl rfl
    have u1 := hX.cell (o := 1) rfl rfl
    have u2 := hX.cell (o := 2) rfl rfl
    have u3 := hX.cell (o := 3) rfl rfl
    have u4 := hX.cell (o := 4) rfl rfl
    have v0 := hY.cell (o := 0) rfl rfl
    have v1 := hY.cell (o := 1) rfl rfl
    have v2 := hY.cell (o := 2) rfl rfl
    have v3 := hY.cell (o := 3) rfl rfl
    have v4 := hY.cell (o := 4) rfl rfl
    simp -dsimp -implicitDefEqProofs (maxSteps := 2000000) (disch := first | assumption | omega | (simp only [nx]; omega) | ((repeat refine Fresh.push ?_ _); assumption) | (simp only [smA]; done) | (simp [oneCell, AW.next_push]; done) | fail) only [go_sem, Nat.reduceEqDiff, reduceIte, Nat.reduceAdd, Int.toNat_natCast, Nat.add_zero, Owes_true, Nat.zero_add, u0, u1, u2, u3, u4, v0, v1, v2, v3, v4, hq]
    simp -dsimp -implicitDefEqProofs (maxSteps := 2000000) (disch := first | assumption | omega | (simp only [nx]; omega) | ((repeat refine Fresh.push ?_ _); assumption) | (simp only [smA]; done) | (simp [oneCell, AW.next_push]; done) | fail) only [go_sem, Nat.reduceEqDiff, reduceIte, Nat.reduceAdd, Int.toNat_natCast, Nat.add_zero, Owes_true, e0, e1, e2, e3, e9]
    refine ⟨_, by omega, i + 1, by omega, rfl, rfl, by (simp -dsimp -implicitDefEqProofs (maxSteps := 2000000) (disch := first | assumption | omega | (simp only [nx]; omega) | ((repeat refine Fresh.push ?_ _); assumption) | (simp only [smA]; done) | (simp [oneCell, AW.next_push]; done) | fail) only [go_sem, Nat.reduceEqDiff, reduceIte, Nat.reduceAdd, Int.toNat_natCast, Nat.add_zero, Owes_true, e0]; try rfl), by (simp -dsimp -implicitDefEqProofs (maxSteps := 2000000) (disch := first | assumption | omega | (simp only [nx]; omega) | ((repeat refine Fresh.push ?_ _); assumption) | (simp only [smA]; done) | (simp [oneCell, AW.next_push]; done) | fail) only [go_sem, Nat.reduceEqDiff, reduceIte, Nat.reduceAdd, Int.toNat_natCast, Nat.add_zero, Owes_true, e1]; try rfl), by (simp -dsimp -implicitDefEqProofs (maxSteps := 2000000) (disch := first | assumption | omega | (simp only [nx]; omega) | ((repeat refine Fresh.push ?_ _); assumption) | (simp only [smA]; done) | (simp [oneCell, AW.next_push]; done) | fail) only [go_sem, Nat.reduceEqDiff, reduceIte, Nat.reduceAdd, Int.toNat_natCast, Nat.add_zero, Owes_true, e2]; try rfl), by (simp -dsimp -implicitDefEqProofs (maxSteps := 2000000) (disch := first | assumption | omega | (simp only [nx]; omega) | ((repeat refine Fresh.push ?_ _); assumption) | (simp only [smA]; done) | (simp [oneCell, AW.next_push]; done) | fail) only [go_sem, Nat.reduceEqDiff, reduceIte, Nat.reduceAdd, Int.toNat_natCast, Nat.add_zero, Owes_true, e3]; try rfl), by (simp -dsimp -implicitDefEqProofs (maxSteps := 2000000) (disch := first | assumption | omega | (simp only [nx]; omega) | ((repeat refine Fresh.push ?_ _); assumption) | (simp only [smA]; done) | (simp [oneCell, AW.next_push]; done) | fail) only [go_sem, Nat.reduceEqDiff, reduceIte, Nat.reduceAdd, Int.toNat_natCast, Nat.add_zero, Owes_true, e9]; try rfl), (hg.trans g3)⟩
  · have hdc : decide (d < dd + T) = true := decide_eq_true hlt2
    have hq := Try.eq53 s m dd 1 ov 2 d
    have hq1 : (((1 : Int) == 2) && (ov == d)) = false := by simp
    rw [hq1] at hq
    have hsm := same_sur s m dd 1 ov
    have hsm2 := same_sur s m dd 2 d
    simp only [endS] at d0 d1 d2 d3 d4
    obtain ⟨w2, w3, k2, k3, hX, hY, g2, g3⟩ := new_two f1 ⟨s, m, dd, 1, ov⟩ ⟨s, m, dd, 2, d⟩
    simp only [surc] at k2 k3 hX hY
    have x0 := hcell2 w2 (hg.trans g2).1 0 _ rfl
    have x1 := hcell2 w2 (hg.trans g2).1 1 _ rfl
    have x2 := hcell2 w2 (hg.trans g2).1 2 _ rfl
    have x3 := hcell2 w2 (hg.trans g2).1 3 _ rfl
    have x4 := hcell2 w2 (hg.trans g2).1 4 _ rfl
    rw [hz, Nat.add_zero] at x0
    rw [hz] at x1 x2 x3 x4
    simp only [endS] at x0 x1 x2 x3 x4
    simp -dsimp -implicitDefEqProofs (maxSteps := 2000000) (disch := first | assumption | omega | (simp only [nx]; omega) | ((repeat refine Fresh.push ?_ _); assumption) | (simp only [smA]; done) | (simp [oneCell, AW.next_push]; done) | fail) only [go_sem, Nat.reduceEqDiff, reduceIte, Nat.reduceAdd, Int.toNat_natCast, Nat.add_zero, Owes_true, Try.results41, e0, e1, e2, e3, e9, hlt]
    refine codeT_regX Try.x41r4_eq Try.x41r4_kinds ?_
    unfold Try.x41r4
    simp -dsimp -implicitDefEqProofs (maxSteps := 2000000) (disch := first | assumption | omega | (simp only [nx]; omega) | ((repeat refine Fresh.push ?_ _); assumption) | (simp only [smA]; done) | (simp [oneCell, AW.next_push]; done) | fail) only [go_sem, Nat.reduceEqDiff, reduceIte, Nat.reduceAdd, Int.toNat_natCast, Nat.add_zero, Owes_true, e0, e1, e9, hlt, hi2, indexV_eq, a0, a1, a2, a3, a4, d0, d1, d2, d3, d4, hsm, hsm2, Nat.zero_add, k2]
    refine ⟨⟨.inr fun inf hinf => ?_, .inl (show Nat.testBit 783 3 = true by decide), trivial⟩, ?_⟩
    · rw [Try.ty53] at hinf
      injection hinf with hinf
      subst hinf
      simp -dsimp -implicitDefEqProofs (maxSteps := 2000000) (disch := first | assumption | omega | (simp only [nx]; omega) | ((repeat refine Fresh.push ?_ _); assumption) | (simp only [smA]; done) | (simp [oneCell, AW.next_push]; done) | fail) only [go_sem, Nat.reduceEqDiff, reduceIte, Nat.reduceAdd, Int.toNat_natCast, Nat.add_zero, Owes_true, d0, d1, d2, d3, d4, x0, x1, x2, x3, x4]
    simp -dsimp -implicitDefEqProofs (maxSteps := 2000000) (disch := first | assumption | omega | (simp only [nx]; omega) | ((repeat refine Fresh.push ?_ _); assumption) | (simp only [smA]; done) | (simp [oneCell, AW.next_push]; done) | fail) only [go_sem, Nat.reduceEqDiff, reduceIte, Nat.reduceAdd, Int.toNat_natCast, Nat.add_zero, Owes_true, Nat.zero_add, k3]
    refine ⟨⟨.inl (show Nat.testBit 2047 7 = true by decide), .inl (show Nat.testBit 2047 3 = true by decide), trivial⟩, ?_⟩
    have u0 := hX.cell (o := 0) rfl rfl
    have u1 := hX.cell (o := 1) rfl rfl
    have u2 := hX.cell (o := 2) rfl rfl
    have u3 := hX.cell (o := 3) rfl rfl
    have u4 := hX.cell (o := 4) rfl rfl
    have v0 := hY.cell (o := 0) rfl rfl
    have v1 := hY.cell (o := 1) rfl rfl
    have v2 := hY.cell (o := 2) rfl rfl
    have v3 := hY.cell (o := 3) rfl rfl
    have v4 := hY.cell (o := 4) rfl rfl
    obtain ⟨w4, k4, hZ, g4⟩ := new_surO g3.2 ⟨s, m, dd, 2, d⟩
    obtain ⟨w5, w6, k5, k6, m5, m6, hZ6⟩ := set_two g4.2 ⟨s, m, dd, 2, d⟩ hZ 1 ov
    have hX4 := hX.keep g4.1
    have hX6 := m6.own hX4 (by have := hX.lt; omega)
    have hX5 := m5.own hX4 (by have := hX.lt; omega)
    have hY6 := m6.own (hY.keep g4.1) (by have := hY.lt; omega)
    have t3 := hX4.cell (o := 3) rfl rfl
    have t4 := hX4.cell (o := 4) rfl rfl
    have s4 := hX5.cell (o := 4) rfl rfl
    have p0 := hX6.cell (o := 0) rfl rfl
    have p1 := hX6.cell (o := 1) rfl rfl
    have p2 := hX6.cell (o := 2) rfl rfl
    have p3 := hX6.cell (o := 3) rfl rfl
    have p4 := hX6.cell (o := 4) rfl rfl
    have q3 := hY6.cell (o := 3) rfl rfl
    have q4 := hY6.cell (o := 4) rfl rfl
    simp only [surc] at hZ6
    have r0 := hZ6.cell (o := 0) rfl rfl
    have r1 := hZ6.cell (o := 1) rfl rfl
    have r2 := hZ6.cell (o := 2) rfl rfl
    have r3 := hZ6.cell (o := 3) rfl rfl
    have r4 := hZ6.cell (o := 4) rfl rfl
    simp -dsimp -implicitDefEqProofs (maxSteps := 2000000) (disch := first | assumption | omega | (simp only [nx]; omega) | ((repeat refine Fresh.push ?_ _); assumption) | (simp only [smA]; done) | (simp [oneCell, AW.next_push]; done) | fail) only [go_sem, Nat.reduceEqDiff, reduceIte, Nat.reduceAdd, Int.toNat_natCast, Nat.add_zero, Owes_true, Nat.zero_add, u0, u1, u2, u3, u4, v0, v1, v2, v3, v4, hq, k4]
    refine codeT_regX Try.x41r7_eq Try.x41r7_kinds ?_
    unfold Try.x41r7
    simp -dsimp -implicitDefEqProofs (maxSteps := 2000000) (disch := first | assumption | omega | (simp only [nx]; omega) | ((repeat refine Fresh.push ?_ _); assumption) | (simp only [smA]; done) | (simp [oneCell, AW.next_push]; done) | fail) only [go_sem, Nat.reduceEqDiff, reduceIte, Nat.reduceAdd, Int.toNat_natCast, Nat.add_zero, Owes_true, Nat.zero_add, t3, t4, k5]
    refine ⟨⟨.inr fun inf hinf => ?_, .inl (show Nat.testBit 19 1 = true by decide), trivial⟩, ?_⟩
    · rw [Try.ty3] at hinf
      injection hinf with hinf
      subst hinf
      simp -dsimp -implicitDefEqProofs (maxSteps := 2000000) (disch := first | assumption | omega | (simp only [nx]; omega) | ((repeat refine Fresh.push ?_ _); assumption) | (simp only [smA]; done) | (simp [oneCell, AW.next_push]; done) | fail) only [go_sem, Nat.reduceEqDiff, reduceIte, Nat.reduceAdd, Int.toNat_natCast, Nat.add_zero, Owes_true, Nat.zero_add, t4, s4]
    simp -dsimp -implicitDefEqProofs (maxSteps := 2000000) (disch := first | assumption | omega | (simp only [nx]; omega) | ((repeat refine Fresh.push ?_ _); assumption) | (simp only [smA]; done) | (simp [oneCell, AW.next_push]; done) | fail) only [go_sem, Nat.reduceEqDiff, reduceIte, Nat.reduceAdd, Int.toNat_natCast, Nat.add_zero, Owes_true, Nat.zero_add, k6]
    refine ⟨⟨.inl (show Nat.testBit 127 3 = true by decide), .inl (show Nat.testBit 127 1 = true by decide), trivial⟩, ?_⟩
    have h23 : ¬ (2 : Int) = 3 := by decide
    have h32 : ¬ (3 : Int) = 2 := by decide
    simp -dsimp -implicitDefEqProofs (maxSteps := 2000000) (disch := first | assumption | omega | (simp only [nx]; omega) | ((repeat refine Fresh.push ?_ _); assumption) | (simp only [smA]; done) | (simp [oneCell, AW.next_push]; done) | fail) only [go_sem, Nat.reduceEqDiff, reduceIte, Nat.reduceAdd, Int.toNat_natCast, Nat.add_zero, Owes_true, h23, h32, Nat.zero_add, p0, p1, p2, p3, p4, q3, q4, r0, r1, r2, r3, r4, e2, e3, hdc, Try.nq53]
    have gz : Grown w w6 := ⟨(hg.trans g3).1.trans ((g4.1.mono (by have := (hg.trans g3).1.next; omega)).trans (m6.keep (fun j q => by have := (hg.trans g3).1.next; omega) (by have := ((hg.trans g3).trans g4).1.next; omega))), m6.fresh⟩
    simp -dsimp -implicitDefEqProofs (maxSteps := 2000000) (disch := first | assumption | omega | (simp only [nx]; omega) | ((repeat refine Fresh.push ?_ _); assumption) | (simp only [smA]; done) | (simp [oneCell, AW.next_push]; done) | fail) only [go_sem, Nat.reduceEqDiff, reduceIte, Nat.reduceAdd, Int.toNat_natCast, Nat.add_zero, Owes_true, e0, e1, e2, e3, e9]
    refine ⟨_, by omega, i + 1, by omega, rfl, rfl, by (simp -dsimp -implicitDefEqProofs (maxSteps := 2000000) (disch := first | assumption | omega | (simp only [nx]; omega) | ((repeat refine Fresh.push ?_ _); assumption) | (simp only [smA]; done) | (simp [oneCell, AW.next_push]; done) | fail) only [go_sem, Nat.reduceEqDiff, reduceIte, Nat.reduceAdd, Int.toNat_natCast, Nat.add_zero, Owes_true, e0]; try rfl), by (simp -dsimp -implicitDefEqProofs (maxSteps := 2000000) (disch := first | assumption | omega | (simp only [nx]; omega) | ((repeat refine Fresh.push ?_ _); assumption) | (simp only [smA]; done) | (simp [oneCell, AW.next_push]; done) | fail) only [go_sem, Nat.reduceEqDiff, reduceIte, Nat.reduceAdd, Int.toNat_natCast, Nat.add_zero, Owes_true, e1]; try rfl), by (simp -dsimp -implicitDefEqProofs (maxSteps := 2000000) (disch := first | assumption | omega | (simp only [nx]; omega) | ((repeat refine Fresh.push ?_ _); assumption) | (simp only [smA]; done) | (simp [oneCell, AW.next_push]; done) | fail) only [go_sem, Nat.reduceEqDiff, reduceIte, Nat.reduceAdd, Int.toNat_natCast, Nat.add_zero, Owes_true, e2]; try rfl), by (simp -dsimp -implicitDefEqProofs (maxSteps := 2000000) (disch := first | assumption | omega | (simp only [nx]; omega) | ((repeat refine Fresh.push ?_ _); assumption) | (simp only [smA]; done) | (simp [oneCell, AW.next_push]; done) | fail) only [go_sem, Nat.reduceEqDiff, reduceIte, Nat.reduceAdd, Int.toNat_natCast, Nat.add_zero, Owes_true, e3]; try rfl), by (simp -dsimp -implicitDefEqProofs (maxSteps := 2000000) (disch := first | assumption | omega | (simp only [nx]; omega) | ((repeat refine Fresh.push ?_ _); assumption) | (simp only [smA]; done) | (simp [oneCell, AW.next_push]; done) | fail) only [go_sem, Nat.reduceEqDiff, reduceIte, Nat.reduceAdd, Int.toNat_natCast, Nat.add_zero, Owes_true, e9]; try rfl), gz⟩
  · have hdc : decide (d ≥ dd + T) = true := decide_eq_true hge
    have hq := Try.eq53 s m dd 1 ov 3 d
    have hq1 : (((1 : Int) == 3) && (ov == d)) = false := by simp
    rw [hq1] at hq
    have hsm := same_sur s m dd 1 ov
    have hsm2 := same_sur s m dd 3 d
    simp only [endS] at d0 d1 d2 d3 d4
    obtain ⟨w2, w3, k2, k3, hX, hY, g2, g3⟩ := new_two f1 ⟨s, m, dd, 1, ov⟩ ⟨s, m, dd, 3, d⟩
    simp only [surc] at k2 k3 hX hY
    have x0 := hcell2 w2 (hg.trans g2).1 0 _ rfl
    have x1 := hcell2 w2 (hg.trans g2).1 1 _ rfl
    have x2 := hcell2 w2 (hg.trans g2).1 2 _ rfl
    have x3 := hcell2 w2 (hg.trans g2).1 3 _ rfl
    have x4 := hcell2 w2 (hg.trans g2).1 4 _ rfl
    rw [hz, Nat.add_zero] at x0
    rw [hz] at x1 x2 x3 x4
    simp only [endS] at x0 x1 x2 x3 x4
    simp -dsimp -implicitDefEqProofs (maxSteps := 2000000) (disch := first | assumption | omega | (simp only [nx]; omega) | ((repeat refine Fresh.push ?_ _); assumption) | (simp only [smA]; done) | (simp [oneCell, AW.next_push]; done) | fail) only [go_sem, Nat.reduceEqDiff, reduceIte, Nat.reduceAdd, Int.toNat_natCast, Nat.add_zero, Owes_true, Try.results41, e0, e1, e2, e3, e9, hlt]
    refine codeT_regX Try.x41r4_eq Try.x41r4_kinds ?_
    unfold Try.x41r4
    simp -dsimp -implicitDefEqProofs (maxSteps := 2000000) (disch := first | assumption | omega | (simp only [nx]; omega) | ((repeat refine Fresh.push ?_ _); assumption) | (simp only [smA]; done) | (simp [oneCell, AW.next_push]; done) | fail) only [go_sem, Nat.reduceEqDiff, reduceIte, Nat.reduceAdd, Int.toNat_natCast, Nat.add_zero, Owes_true, e0, e1, e9, hlt, hi2, indexV_eq, a0, a1, a2, a3, a4, d0, d1, d2, d3, d4, hsm, hsm2, Nat.zero_add, k2]
    refine ⟨⟨.inr fun inf hinf => ?_, .inl (show Nat.testBit 783 3 = true by decide), trivial⟩, ?_⟩
    · rw [Try.ty53] at hinf
      injection hinf with hinf
      subst hinf
      simp -dsimp -implicitDefEqProofs (maxSteps := 2000000) (disch := first | assumption | omega | (simp only [nx]; omega) | ((repeat refine Fresh.push ?_ _); assumption) | (simp only [smA]; done) | (simp [oneCell, AW.next_push]; done) | fail) only [go_sem, Nat.reduceEqDiff, reduceIte, Nat.reduceAdd, Int.toNat_natCast, Nat.add_zero, Owes_true, d0, d1, d2, d3, d4, x0, x1, x2, x3, x4]
    simp -dsimp -implicitDefEqProofs (maxSteps := 2000000) (disch := first | assumption | omega | (simp only [nx]; omega) | ((repeat refine Fresh.push ?_ _); assumption) | (simp only [smA]; done) | (simp [oneCell, AW.next_push]; done) | fail) only [go_sem, Nat.reduceEqDiff, reduceIte, Nat.reduceAdd, Int.toNat_natCast, Nat.add_zero, Owes_true, Nat.zero_add, k3]
    refine ⟨⟨.inl (show Nat.testBit 2047 7 = true by decide), .inl (show Nat.testBit 2047 3 = true by decide), trivial⟩, ?_⟩
    have u0 := hX.cell (o := 0) rfl rfl
    have u1 := hX.cell (o := 1) rfl rfl
    have u2 := hX.cell (o := 2) rfl rfl
    have u3 := hX.cell (o := 3) rfl rfl
    have u4 := hX.cell (o := 4) rfl rfl
    have v0 := hY.cell (o := 0) rfl rfl
    have v1 := hY.cell (o := 1) rfl rfl
    have v2 := hY.cell (o := 2) rfl rfl
    have v3 := hY.cell (o := 3) rfl rfl
    have v4 := hY.cell (o := 4) rfl rfl
    obtain ⟨w4, k4, hZ, g4⟩ := new_surO g3.2 ⟨s, m, dd, 3, d⟩
    obtain ⟨w5, w6, k5, k6, m5, m6, hZ6⟩ := set_two g4.2 ⟨s, m, dd, 3, d⟩ hZ 1 ov
    have hX4 := hX.keep g4.1
    have hX6 := m6.own hX4 (by have := hX.lt; omega)
    have hX5 := m5.own hX4 (by have := hX.lt; omega)
    have hY6 := m6.own (hY.keep g4.1) (by have := hY.lt; omega)
    have t3 := hX4.cell (o := 3) rfl rfl
    have t4 := hX4.cell (o := 4) rfl rfl
    have s4 := hX5.cell (o := 4) rfl rfl
    have p0 := hX6.cell (o := 0) rfl rfl
    have p1 := hX6.cell (o := 1) rfl rfl
    have p2 := hX6.cell (o := 2) rfl rfl
    have p3 := hX6.cell (o := 3) rfl rfl
    have p4 := hX6.cell (o := 4) rfl rfl
    have q3 := hY6.cell (o := 3) rfl rfl
    have q4 := hY6.cell (o := 4) rfl rfl
    simp only [surc] at hZ6
    have r0 := hZ6.cell (o := 0) rfl rfl
    have r1 := hZ6.cell (o := 1) rfl rfl
    have r2 := hZ6.cell (o := 2) rfl rfl
    have r3 := hZ6.cell (o := 3) rfl rfl
    have r4 := hZ6.cell (o := 4) rfl rfl
    simp -dsimp -implicitDefEqProofs (maxSteps := 2000000) (disch := first | assumption | omega | (simp only [nx]; omega) | ((repeat refine Fresh.push ?_ _); assumption) | (simp only [smA]; done) | (simp [oneCell, AW.next_push]; done) | fail) only [go_sem, Nat.reduceEqDiff, reduceIte, Nat.reduceAdd, Int.toNat_natCast, Nat.add_zero, Owes_true, Nat.zero_add, u0, u1, u2, u3, u4, v0, v1, v2, v3, v4, hq, k4]
    refine codeT_regX Try.x41r7_eq Try.x41r7_kinds ?_
    unfold Try.x41r7
    simp -dsimp -implicitDefEqProofs (maxSteps := 2000000) (disch := first | assumption | omega | (simp only [nx]; omega) | ((repeat refine Fresh.push ?_ _); assumption) | (simp only [smA]; done) | (simp [oneCell, AW.next_push]; done) | fail) only [go_sem, Nat.reduceEqDiff, reduceIte, Nat.reduceAdd, Int.toNat_natCast, Nat.add_zero, Owes_true, Nat.zero_add, t3, t4, k5]
    refine ⟨⟨.inr fun inf hinf => ?_, .inl (show Nat.testBit 19 1 = true by decide), trivial⟩, ?_⟩
    · rw [Try.ty3] at hinf
      injection hinf with hinf
      subst hinf
      simp -dsimp -implicitDefEqProofs (maxSteps := 2000000) (disch := first | assumption | omega | (simp only [nx]; omega) | ((repeat refine Fresh.push ?_ _); assumption) | (simp only [smA]; done) | (simp [oneCell, AW.next_push]; done) | fail) only [go_sem, Nat.reduceEqDiff, reduceIte, Nat.reduceAdd, Int.toNat_natCast, Nat.add_zero, Owes_true, Nat.zero_add, t4, s4]
    simp -dsimp -implicitDefEqProofs (maxSteps := 2000000) (disch := first | assumption | omega | (simp only [nx]; omega) | ((repeat refine Fresh.push ?_ _); assumption) | (simp only [smA]; done) | (simp [oneCell, AW.next_push]; done) | fail) only [go_sem, Nat.reduceEqDiff, reduceIte, Nat.reduceAdd, Int.toNat_natCast, Nat.add_zero, Owes_true, Nat.zero_add, k6]
    refine ⟨⟨.inl (show Nat.testBit 127 3 = true by decide), .inl (show Nat.testBit 127 1 = true by decide), trivial⟩, ?_⟩
    have h23 : ¬ (2 : Int) = 3 := by decide
    have h32 : ¬ (3 : Int) = 2 := by decide
    simp -dsimp -implicitDefEqProofs (maxSteps := 2000000) (disch := first | assumption | omega | (simp only [nx]; omega) | ((repeat refine Fresh.push ?_ _); assumption) | (simp only [smA]; done) | (simp [oneCell, AW.next_push]; done) | fail) only [go_sem, Nat.reduceEqDiff, reduceIte, Nat.reduceAdd, Int.toNat_natCast, Nat.add_zero, Owes_true, h23, h32, Nat.zero_add, p0, p1, p2, p3, p4, q3, q4, r0, r1, r2, r3, r4, e2, e3, hdc, Try.nq53]
    have gz : Grown w w6 := ⟨(hg.trans g3).1.trans ((g4.1.mono (by have := (hg.trans g3).1.next; omega)).trans (m6.keep (fun j q => by have := (hg.trans g3).1.next; omega) (by have := ((hg.trans g3).trans g4).1.next; omega))), m6.fresh⟩
    simp -dsimp -implicitDefEqProofs (maxSteps := 2000000) (disch := first | assumption | omega | (simp only [nx]; omega) | ((repeat refine Fresh.push ?_ _); assumption) | (simp only [smA]; done) | (simp [oneCell, AW.next_push]; done) | fail) only [go_sem, Nat.reduceEqDiff, reduceIte, Nat.reduceAdd, Int.toNat_natCast, Nat.add_zero, Owes_true, e0, e1, e2, e3, e9]
    refine ⟨_, by omega, i + 1, by omega, rfl, rfl, by (simp -dsimp -implicitDefEqProofs (maxSteps := 2000000) (disch := first | assumption | omega | (simp only [nx]; omega) | ((repeat refine Fresh.push ?_ _); assumption) | (simp only [smA]; done) | (simp [oneCell, AW.next_push]; done) | fail) only [go_sem, Nat.reduceEqDiff, reduceIte, Nat.reduceAdd, Int.toNat_natCast, Nat.add_zero, Owes_true, e0]; try rfl), by (simp -dsimp -implicitDefEqProofs (maxSteps := 2000000) (disch := first | assumption | omega | (simp only [nx]; omega) | ((repeat refine Fresh.push ?_ _); assumption) | (simp only [smA]; done) | (simp [oneCell, AW.next_push]; done) | fail) only [go_sem, Nat.reduceEqDiff, reduceIte, Nat.reduceAdd, Int.toNat_natCast, Nat.add_zero, Owes_true, e1]; try rfl), by (simp -dsimp -implicitDefEqProofs (maxSteps := 2000000) (disch := first | assumption | omega | (simp only [nx]; omega) | ((repeat refine Fresh.push ?_ _); assumption) | (simp only [smA]; done) | (simp [oneCell, AW.next_push]; done) | fail) only [go_sem, Nat.reduceEqDiff, reduceIte, Nat.reduceAdd, Int.toNat_natCast, Nat.add_zero, Owes_true, e2]; try rfl), by (simp -dsimp -implicitDefEqProofs (maxSteps := 2000000) (disch := first | assumption | omega | (simp only [nx]; omega) | ((repeat refine Fresh.push ?_ _); assumption) | (simp only [smA]; done) | (simp [oneCell, AW.next_push]; done) | fail) only [go_sem, Nat.reduceEqDiff, reduceIte, Nat.reduceAdd, Int.toNat_natCast, Nat.add_zero, Owes_true, e3]; try rfl), by (simp -dsimp -implicitDefEqProofs (maxSteps := 2000000) (disch := first | assumption | omega | (simp only [nx]; omega) | ((repeat refine Fresh.push ?_ _); assumption) | (simp only [smA]; done) | (simp [oneCell, AW.next_push]; done) | fail) only [go_sem, Nat.reduceEqDiff, reduceIte, Nat.reduceAdd, Int.toNat_natCast, Nat.add_zero, Owes_true, e9]; try rfl), gz⟩
end Go.Proofs
