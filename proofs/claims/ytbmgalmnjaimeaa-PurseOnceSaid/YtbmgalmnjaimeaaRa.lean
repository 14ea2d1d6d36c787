/- A purse in memory; its day; what is done or refused. -/
import Derived.Test.YtbmgalmnjaimeaaTe
import Derived.Test.YtbmgalmnjaimeaaPc
import Derived.Test.YtbmgalmnjaimeaaSf
set_option linter.unusedVariables false
set_option linter.unusedSimpArgs false
namespace Go.Proofs
open Go Go.RowKit Go.Sim
set_option maxRecDepth 100000
theorem Try.if24 (t : Tmps) (w : AW) (x : Operand) : fast (prg Try.prog) t w (.makeInterface 24 x) = some (.iface 24 (ev t x)) := by simp only [fast, Try.ty24]
theorem eqQ_ptr {P : Program} {op : BinOp} {ty : TypeId} {a : Option Addr} {y : Value} : eqQ P op ty (.pointer a) y = none := by cases y <;> rfl
def fast0 := fast
def nilPQ (d : Option Value) : Value → Option Value
  | .pointer none => some (.bool true)
  | .pointer (some _) => some (.bool false)
  | _ => d
theorem nilPQ_some (d : Option Value) (a : Addr) : nilPQ d (.pointer (some a)) = some (.bool false) := rfl
theorem ptr_nil {t : Tmps} {w : AW} {ty r e : TypeId} {x : Operand} {a : Bool} {n b : Nat} {z : Value} (h : (prg Try.prog).ty ty = some ⟨a, .pointer e, n, b, z⟩) : fast (prg Try.prog) t w (.binOp .eql ty x (.const (.pointer none)) r) = nilPQ (fast0 (prg Try.prog) t w (.binOp .eql ty x (.const (.pointer none)) r)) (ev t x) := by
  generalize hv : ev t x = v
  cases v <;> try rfl
  rename_i q
  cases q <;> simp only [nilPQ, fast, hv, h, ev_const] <;> rfl
theorem Try.pn39 (t : Tmps) (w : AW) (x : Operand) (r : TypeId) : fast (prg Try.prog) t w (.binOp .eql 39 x (.const (.pointer none)) r) = nilPQ (fast0 (prg Try.prog) t w (.binOp .eql 39 x (.const (.pointer none)) r)) (ev t x) := ptr_nil Try.ty39
theorem Try.pn91 (t : Tmps) (w : AW) (x : Operand) (r : TypeId) : fast (prg Try.prog) t w (.binOp .eql 91 x (.const (.pointer none)) r) = nilPQ (fast0 (prg Try.prog) t w (.binOp .eql 91 x (.const (.pointer none)) r)) (ev t x) := ptr_nil Try.ty91
def nilIQ (d : Option Value) : Value → Option Value
  | .nilIface => some (.bool true)
  | .iface _ _ => some (.bool false)
  | _ => d
theorem nilIQ_some (d : Option Value) (a : TypeId) (v : Value) : nilIQ d (.iface a v) = some (.bool false) := rfl
theorem nilIQ_none (d : Option Value) : nilIQ d .nilIface = some (.bool true) := rfl
def isI (x : Option TI) : Bool := match x with
  | some ⟨_, .interface _, _, _, _⟩ => true
  | _ => false
theorem Try.ty20 : isI ((prg Try.prog).ty 20) = true := by kernel_rfl
theorem isI_ex {x : Option TI} (h : isI x = true) : ∃ a ms n b z, x = some ⟨a, .interface ms, n, b, z⟩ := by
  unfold isI at h
  split at h
  · exact ⟨_, _, _, _, _, rfl⟩
  · cases h
theorem Try.in20 (t : Tmps) (w : AW) (x : Operand) (r : TypeId) : fast (prg Try.prog) t w (.binOp .eql 20 x (.const .nilIface) r) = nilIQ (fast0 (prg Try.prog) t w (.binOp .eql 20 x (.const .nilIface) r)) (ev t x) := by
  obtain ⟨a, ms, n, b, z, e⟩ := isI_ex Try.ty20
  generalize hv : ev t x = v
  cases v <;> first | rfl | (simp only [nilIQ, fast, hv, e, ev_const]; done) | (simp only [nilIQ, fast, hv, e, ev_const]; rfl)
theorem eqQ_if {P : Program} {op : BinOp} {ty a : TypeId} {v y : Value} : eqQ P op ty (.iface a v) y = none := by cases y <;> rfl
theorem eqQ_nif {P : Program} {op : BinOp} {ty : TypeId} {y : Value} : eqQ P op ty .nilIface y = none := by cases y <;> rfl
theorem Try.as24 (v : Value) : assertV (prg Try.prog) (.iface 24 v) 24 true = some (.tuple #[v, .bool true]) := by simp only [assertV, Try.ty24, nbeq]
attribute [go_sem] Try.pn39 Try.pn91 nilPQ_some Try.in20 nilIQ_some nilIQ_none eqQ_if eqQ_nif Try.as24
attribute [go_sem] Try.if24 eqQ_ptr
theorem require_ok (b : Bool) (e : Int) (w : AW) : CallX Try.prog Try.T1 (.fn (.func 105) #[]) #[.bool b, .int .i64 e] w (fun _ w' => b = true ∧ w = w') (fun v w' => b = false ∧ v = .iface 24 (.int .i64 e) ∧ w = w') := by
  refine callX_code rfl Try.func105 rfl Try.s105_eq rfl ?_
  unfold Try.s105
  cases b
  · simp -dsimp -implicitDefEqProofs (maxSteps := 2000000) (disch := first | assumption | omega | (simp only [nx]; omega) | ((repeat refine Fresh.push ?_ _); assumption) | (simp only [smA]; done) | (simp [oneCell, AW.next_push]; done) | fail) only [go_sem, Nat.reduceEqDiff, reduceIte, Nat.reduceAdd, Int.toNat_natCast, Nat.add_zero, Owes_true, Try.results105]
    exact ⟨trivial, trivial, trivial⟩
  · simp -dsimp -implicitDefEqProofs (maxSteps := 2000000) (disch := first | assumption | omega | (simp only [nx]; omega) | ((repeat refine Fresh.push ?_ _); assumption) | (simp only [smA]; done) | (simp [oneCell, AW.next_push]; done) | fail) only [go_sem, Nat.reduceEqDiff, reduceIte, Nat.reduceAdd, Int.toNat_natCast, Nat.add_zero, Owes_true, Try.results105]
    exact ⟨trivial, trivial⟩
theorem isNil_ok (bp bb : Nat) (w : AW) (hO : Own w bp 93 [.pointer (some ⟨bb, 0, none⟩)]) : CallT Try.prog Try.T1 (.fn (.func 70) #[]) #[.pointer (some ⟨bp, 0, none⟩)] w (Ret (.bool false) fun w' => w = w') := by
  have c0 := hO.cell (o := 0) rfl rfl
  refine callT_code rfl Try.func70 rfl Try.s70_eq rfl ?_
  unfold Try.s70
  simp -dsimp -implicitDefEqProofs (maxSteps := 2000000) (disch := first | assumption | omega | (simp only [nx]; omega) | ((repeat refine Fresh.push ?_ _); assumption) | (simp only [smA]; done) | (simp [oneCell, AW.next_push]; done) | fail) only [go_sem, Nat.reduceEqDiff, reduceIte, Nat.reduceAdd, Int.toNat_natCast, Nat.add_zero, Owes_true, Try.results70, c0]
  exact ⟨rfl, rfl⟩
end Go.Proofs

namespace Go.Proofs
open Go Go.RowKit Go.Sim
set_option maxRecDepth 100000
def fstRegion (f : Func) : Nat × Array Oper := match f.body with
  | some (.seq (.region id ops _) _) => (id, ops)
  | _ => (0, #[])
def restOf (f : Func) : Code := match f.body with
  | some (.seq _ b) => b
  | _ => .skip
noncomputable def Try.s75 : SC :=
 (.seq
  (.ops false [
    ⟨⟨(some 8), .assign (.const (.int .i64 0)), 3, "", ⟨[]⟩, none⟩, none, false⟩,
    ⟨⟨(some 9), .alloc 24, 0, "", ⟨[]⟩, none⟩, none, false⟩])
  (.seq
   (.raw (.region 1 (dfOps Try.f75) false))
   (.seq
    (.ops false [
      ⟨⟨(some 11), .move (.tmp 0), 39, "", ⟨[]⟩, none⟩, none, false⟩,
      ⟨⟨(some 12), .call ⟨.value (.func 70), ⟨[(.tmp 11)]⟩, ⟨[39]⟩⟩, 4, "", ⟨[]⟩, none⟩, none, false⟩,
      ⟨⟨(some 13), .unOp .not 4 (.tmp 12), 4, "", ⟨[]⟩, none⟩, none, false⟩,
      ⟨⟨(some 14), .call ⟨.value (.func 105), ⟨[(.tmp 13), (.const (.int .i64 1))]⟩, ⟨[4, 24]⟩⟩, 0, "", ⟨[]⟩, none⟩, none, false⟩])
    (.seq
     (.ops false [
       ⟨⟨(some 15), .move (.tmp 2), 3, "", ⟨[]⟩, none⟩, none, false⟩,
       ⟨⟨(some 16), .move (.tmp 0), 39, "", ⟨[]⟩, none⟩, none, false⟩,
       ⟨⟨(some 17), .nilCheck (.tmp 16), 0, "", ⟨[]⟩, none⟩, none, false⟩,
       ⟨⟨(some 18), .fieldAddr 93 (.tmp 17) 0, 0, "", ⟨[]⟩, none⟩, none, false⟩,
       ⟨⟨(some 19), .load 91 (.tmp 18), 91, "", ⟨[]⟩, none⟩, none, false⟩,
       ⟨⟨(some 20), .call ⟨.value (.func 106), ⟨[(.tmp 19)]⟩, ⟨[91]⟩⟩, 3, "", ⟨[]⟩, none⟩, none, false⟩,
       ⟨⟨(some 21), .call ⟨.value (.func 65), ⟨[(.tmp 15), (.tmp 20), (.const (.int .i64 36500))]⟩, ⟨[3, 3, 3]⟩⟩, 4, "", ⟨[]⟩, none⟩, none, false⟩,
       ⟨⟨(some 22), .call ⟨.value (.func 105), ⟨[(.tmp 21), (.const (.int .i64 34))]⟩, ⟨[4, 24]⟩⟩, 0, "", ⟨[]⟩, none⟩, none, false⟩])
     (.seq
      (.ops false [
        ⟨⟨(some 23), .move (.tmp 3), 56, "", ⟨[]⟩, none⟩, none, false⟩,
        ⟨⟨(some 24), .call ⟨.value (.tmp 23), ⟨[]⟩, ⟨[]⟩⟩, 3, "", ⟨[]⟩, none⟩, none, false⟩,
        ⟨⟨(some 8), .assign (.tmp 24), 3, "", ⟨[]⟩, none⟩, none, false⟩])
      (.seq
       (.ops true [
         ⟨⟨(some 25), .move (.tmp 0), 39, "", ⟨[]⟩, none⟩, none, true⟩,
         ⟨⟨(some 26), .nilCheck (.tmp 25), 0, "", ⟨[]⟩, none⟩, none, true⟩,
         ⟨⟨(some 27), .fieldAddr 93 (.tmp 26) 0, 0, "", ⟨[]⟩, none⟩, none, true⟩,
         ⟨⟨(some 28), .load 91 (.tmp 27), 91, "", ⟨[]⟩, none⟩, none, true⟩,
         ⟨⟨(some 29), .move (.tmp 0), 39, "", ⟨[]⟩, none⟩, none, true⟩,
         ⟨⟨(some 30), .nilCheck (.tmp 29), 0, "", ⟨[]⟩, none⟩, none, true⟩,
         ⟨⟨(some 31), .fieldAddr 93 (.tmp 30) 0, 0, "", ⟨[]⟩, none⟩, none, true⟩,
         ⟨⟨(some 32), .load 91 (.tmp 31), 91, "", ⟨[]⟩, none⟩, none, true⟩,
         ⟨⟨(some 33), .nilCheck (.tmp 32), 0, "", ⟨[]⟩, none⟩, none, true⟩,
         ⟨⟨(some 34), .fieldAddr 117 (.tmp 33) 4, 0, "", ⟨[]⟩, none⟩, none, true⟩,
         ⟨⟨(some 35), .load 58 (.tmp 34), 58, "", ⟨[]⟩, none⟩, none, true⟩,
         ⟨⟨(some 36), .move (.tmp 1), 3, "", ⟨[]⟩, none⟩, none, true⟩,
         ⟨⟨(some 37), .move (.tmp 2), 3, "", ⟨[]⟩, none⟩, none, true⟩,
         ⟨⟨(some 38), .move (.tmp 8), 3, "", ⟨[]⟩, none⟩, none, true⟩,
         ⟨⟨(some 39), .build 87 ⟨[(0, (.tmp 36)), (1, (.tmp 37)), (2, (.tmp 38))]⟩, 87, "", ⟨[]⟩, none⟩, none, true⟩,
         ⟨⟨(some 40), .buildSlice 58 1 ⟨[(0, (.tmp 39))]⟩, 58, "", ⟨[]⟩, none⟩, none, true⟩,
         ⟨⟨(some 41), .call ⟨.builtin .append, ⟨[(.tmp 35), (.tmp 40)]⟩, ⟨[58, 58]⟩⟩, 58, "", ⟨[]⟩, none⟩, none, true⟩,
         ⟨⟨(some 42), .nilCheck (.tmp 28), 0, "", ⟨[]⟩, none⟩, none, true⟩,
         ⟨⟨(some 43), .fieldAddr 117 (.tmp 42) 4, 0, "", ⟨[]⟩, none⟩, none, true⟩,
         ⟨⟨none, .store 58 (.tmp 43) (.tmp 41), 0, "", ⟨[]⟩, none⟩, none, false⟩])
       (.seq
        (.ops false [
          ⟨⟨(some 44), .move (.tmp 8), 3, "", ⟨[]⟩, none⟩, none, false⟩,
          ⟨⟨(some 8), .assign (.tmp 44), 3, "", ⟨[]⟩, none⟩, none, false⟩,
          ⟨⟨none, .store 24 (.tmp 9) (.const (.int .i64 0)), 0, "", ⟨[]⟩, none⟩, none, false⟩])
        .ret)))))))
def Try.s104r : SC := (.block 0 (.seq (.ops false [⟨⟨(some 5),.binOp .eql 20 (.tmp 4) (.const .nilIface) 20,4,"",⟨[]⟩,none⟩,none,false⟩]) (.cond (.tmp 5) (.ops false [⟨⟨(some 1),.assign (.tmp 4),20,"",⟨[]⟩,none⟩,none,false⟩]) (.seq (.ops false [⟨⟨(some 6),.typeAssert (.tmp 4) 20 24 true,0,"",⟨[]⟩,none⟩,none,false⟩,⟨⟨(some 7),.extract (.tmp 6) 1,4,"",⟨[]⟩,none⟩,none,false⟩,⟨⟨(some 8),.extract (.tmp 6) 0,24,"",⟨[]⟩,none⟩,none,false⟩]) (.cond (.tmp 7) (.seq (.ops false [⟨⟨(some 2),.assign (.tmp 8),24,"",⟨[]⟩,none⟩,none,false⟩]) (.ops false [⟨⟨(some 9),.move (.tmp 2),24,"",⟨[]⟩,none⟩,none,false⟩,⟨⟨none,.store 24 (.tmp 0) (.tmp 9),0,"",⟨[]⟩,none⟩,none,false⟩])) (.seq (.ops false [⟨⟨(some 3),.assign (.tmp 4),20,"",⟨[]⟩,none⟩,none,false⟩]) (.ops false [⟨⟨none,.store 24 (.tmp 0) (.const (.int .i64 2)),0,"",⟨[]⟩,none⟩,none,false⟩])))))))
theorem Try.s104r_eq : sOf (restOf Try.f104) = Try.s104r := by kernel_rfl
theorem Try.b104 : Try.f104.body = some (.seq (.region (fstRegion Try.f104).1 (fstRegion Try.f104).2 false) (restOf Try.f104)) := by kernel_rfl
theorem Try.s75_eq : Try.f75.body.map sOf = some Try.s75 := by kernel_rfl
theorem Try.hd75 : hasDefer (dfOps Try.f75).toList = true := by kernel_rfl
theorem Try.ld75 : ((dfOps Try.f75).toList.map fun o => (⟨Go.Sim.bare o, Go.Sim.guardOf (dfOps Try.f75) o, false⟩ : SOp)) = [⟨⟨some 10, .makeFunc (.func 104) ⟨[]⟩ ⟨[.tmp 9]⟩, 1, "", ⟨[]⟩, none⟩, none, false⟩, ⟨⟨none, .defer ⟨.value (.tmp 10), ⟨[]⟩, ⟨[]⟩⟩, 0, "", ⟨[]⟩, none⟩, none, false⟩] := by kernel_rfl
end Go.Proofs

namespace Go.Proofs
open Go Go.RowKit Go.Sim
set_option maxRecDepth 100000
structure SurN where
  s : ByteArray
  m : Int
  d : Int
  st : Int
  ov : Int
structure NotN where
  k : Int
  d : Int
  m : Int
structure PurN where
  T : Int
  S : List SurN
  W : Int
  N : List NotN
def surc (x : SurN) : List Value := [.string x.s, .int .i64 x.m, .int .i64 x.d, .int .i64 x.st, .int .i64 x.ov]
def notc (x : NotN) : List Value := [.int .i64 x.k, .int .i64 x.d, .int .i64 x.m]
theorem surc_len (x : SurN) : (surc x).length = 5 := rfl
theorem notc_len (x : NotN) : (notc x).length = 3 := rfl
theorem notc_one (x : NotN) : ∀ v ∈ notc x, oneCell v = true := by intro v hv; simp [notc] at hv; rcases hv with rfl | rfl | rfl <;> rfl
theorem surc_one (x : SurN) : ∀ v ∈ surc x, oneCell v = true := by intro v hv; simp [surc] at hv; rcases hv with rfl | rfl | rfl | rfl | rfl <;> rfl
structure BooksAt (w : AW) (F : Nat → Prop) (bp bb r : Nat) (x : PurN) (vs vn : Value) (S1 S2 : Nat → Prop) : Prop where
  own : Own w bp 93 [.pointer (some ⟨bb, 0, none⟩)]
  bk : Own w bb 117 [.int .i64 x.T, vs, .map (some r), .int .i64 x.W, vn]
  sur : AOwnS S1 w 53 5 vs x.S.length (x.S.flatMap surc)
  not : AOwnS S2 w 87 3 vn x.N.length (x.N.flatMap notc)
  map : MapN w r (x.S.map SurN.s)
  f : F bp ∧ F bb ∧ F r
  f1 : ∀ j, S1 j → F j ∧ ¬ S2 j ∧ j ≠ bp ∧ j ≠ bb ∧ j ≠ r
  f2 : ∀ j, S2 j → F j ∧ j ≠ bp ∧ j ≠ bb ∧ j ≠ r
  ne : bp ≠ bb ∧ bp ≠ r ∧ bb ≠ r
  lt : ∀ j, F j → j < w.next
def PurAt (w : AW) (F : Nat → Prop) (bp bb r : Nat) (x : PurN) : Prop := ∃ vs vn S1 S2, BooksAt w F bp bb r x vs vn S1 S2
theorem BooksAt.other {w w' : AW} {F T : Nat → Prop} {bp bb r : Nat} {x : PurN} {vs vn : Value} {S1 S2 : Nat → Prop} (h : BooksAt w F bp bb r x vs vn S1 S2) (k : MutS T w w') (hd : ∀ j, F j → ¬ T j) : BooksAt w' F bp bb r x vs vn S1 S2 :=
  ⟨k.own h.own (hd _ h.f.1), k.own h.bk (hd _ h.f.2.1), h.sur.other k fun j hj => hd _ (h.f1 j hj).1, h.not.other k fun j hj => hd _ (h.f2 j hj).1, h.map.other k (hd _ h.f.2.2), h.f, h.f1, h.f2, h.ne, fun j hj => by have := h.lt j hj; have := k.next; omega⟩
theorem BooksAt.grown {w w' : AW} {F : Nat → Prop} {bp bb r : Nat} {x : PurN} {vs vn : Value} {S1 S2 : Nat → Prop} (h : BooksAt w F bp bb r x vs vn S1 S2) (k : Grown w w') : BooksAt w' F bp bb r x vs vn S1 S2 :=
  h.other (T := fun _ => False) (.of k) fun _ _ q => q
def lastDay (N : List NotN) : Int := match N.getLast? with
  | some n => n.d
  | none => 0
theorem today_ok (bp bb r : Nat) (x : PurN) (vs vn : Value) (F S1 S2 : Nat → Prop) (w : AW) (h : BooksAt w F bp bb r x vs vn S1 S2) (hl : x.N.length ≤ 1000) : CallT Try.prog Try.T1 (.fn (.func 106) #[]) #[.pointer (some ⟨bb, 0, none⟩)] w (Ret (.int .i64 (lastDay x.N)) fun w' => w = w') := by
  by_cases h0 : x.N.length = 0
  · have hN : x.N = [] := List.length_eq_zero_iff.mp h0
    have hn : ∃ p c, vn = .slice p 0 c := by
      rcases h.not with ⟨rfl, _, _⟩ | ⟨b, _, rfl, _⟩
      · exact ⟨_, _, rfl⟩
      · rw [h0]; exact ⟨_, _, rfl⟩
    obtain ⟨p, c, rfl⟩ := hn
    have c4 := h.bk.cell (o := 4) rfl rfl
    refine callT_code rfl Try.func106 rfl Try.s106_eq rfl ?_
    unfold Try.s106
    simp -dsimp -implicitDefEqProofs (maxSteps := 2000000) (disch := first | assumption | omega | (simp only [nx]; omega) | ((repeat refine Fresh.push ?_ _); assumption) | (simp only [smA]; done) | (simp [oneCell, AW.next_push]; done) | fail) only [go_sem, Nat.reduceEqDiff, reduceIte, Nat.reduceAdd, Int.toNat_natCast, Nat.add_zero, Owes_true, Try.results106, c4, Nat.zero_add]
    have hz : decide ((0 : Int) < ((0 : Nat) : Int)) = false := rfl
    simp -dsimp -implicitDefEqProofs (maxSteps := 2000000) (disch := first | assumption | omega | (simp only [nx]; omega) | ((repeat refine Fresh.push ?_ _); assumption) | (simp only [smA]; done) | (simp [oneCell, AW.next_push]; done) | fail) only [go_sem, Nat.reduceEqDiff, reduceIte, Nat.reduceAdd, Int.toNat_natCast, Nat.add_zero, Owes_true, Try.results106, hz]
    exact ⟨by rw [hN]; rfl, rfl⟩
  · obtain ⟨b, rfl, _, _, hcell⟩ := h.not.cells notc_len (by omega)
    have c4 := h.bk.cell (o := 4) rfl rfl
    obtain ⟨m, hm⟩ : ∃ m, x.N.length = m + 1 := ⟨x.N.length - 1, by omega⟩
    have hlast : lastDay x.N = (x.N[m]'(by omega)).d := by
      have : x.N.getLast? = some (x.N[m]'(by omega)) := by
        rw [List.getLast?_eq_getElem?]
        have h1 : x.N.length - 1 = m := by omega
        rw [h1]; exact List.getElem?_eq_getElem _
      rw [lastDay, this]
    have a1 := hcell (m * 3 + 1) (.int .i64 (x.N[m]'(by omega)).d) (by
      have := flatMap_get notc_len x.N m 1 (x.N[m]'(by omega)) (List.getElem?_eq_getElem _) (by omega)
      rw [this]; rfl)
    have hpos : (0 : Int) < (x.N.length : Int) := by omega
    have hmi : (x.N.length : Int) - 1 = (m : Int) := by omega
    have hml : (m : Int) < (x.N.length : Int) := by omega
    rw [hlast]
    generalize (x.N[m]'(by omega)).d = dd at *
    refine callT_code rfl Try.func106 rfl Try.s106_eq rfl ?_
    unfold Try.s106
    simp -dsimp -implicitDefEqProofs (maxSteps := 2000000) (disch := first | assumption | omega | (simp only [nx]; omega) | ((repeat refine Fresh.push ?_ _); assumption) | (simp only [smA]; done) | (simp [oneCell, AW.next_push]; done) | fail) only [go_sem, Nat.reduceEqDiff, reduceIte, Nat.reduceAdd, Int.toNat_natCast, Nat.add_zero, Owes_true, Try.results106, c4, Nat.zero_add, hpos, hmi, hml, indexV_eq, a1]
    exact ⟨rfl, rfl⟩
def isRec : List Oper → Option (Option Tmp × List Oper)
  | ⟨dst, .call ⟨.builtin .recover, _, _⟩, _, _, _, none⟩ :: l => some (dst, l)
  | _ => none
theorem isRec_eq {ops : List Oper} {dst : Option Tmp} {l : List Oper} (h : isRec ops = some (dst, l)) : ∃ a tys ty pos af, ops = ⟨dst, .call ⟨.builtin .recover, a, tys⟩, ty, pos, af, none⟩ :: l := by
  unfold isRec at h
  split at h
  · simp only [Option.some.injEq, Prod.mk.injEq] at h
    obtain ⟨rfl, rfl⟩ := h
    exact ⟨_, _, _, _, _, rfl⟩
  · cases h
theorem Try.rec104 : (isRec (fstRegion Try.f104).2.toList).map (fun p => (p.1, p.2.length)) = some (some 4, 0) := by kernel_rfl
theorem rec104 : ∃ a tys ty pos af, (fstRegion Try.f104).2.toList = [⟨some 4, .call ⟨.builtin .recover, a, tys⟩, ty, pos, af, none⟩] := by
  have h := Try.rec104
  cases q : isRec (fstRegion Try.f104).2.toList with
  | none => rw [q] at h; cases h
  | some p =>
    obtain ⟨d, l⟩ := p
    rw [q] at h
    simp only [Option.map_some, Option.some.injEq, Prod.mk.injEq] at h
    obtain ⟨rfl, hl⟩ := h
    obtain rfl := List.length_eq_zero_iff.mp hl
    exact isRec_eq q
theorem codeT_ofR {P : Program} {told : ToldF} {env : Env} {c : Code} {s : SC} {t : Tmps} {ds : List DI} {w : AW} {Q : Post} (hs : sOf c = s) (h : CodeR P told env s t ds w Q .mk) : CodeT P told env c t ds w Q := by
  subst hs; exact codeR_codeT c h
theorem defer_ok (be : Nat) (e : Int) (pan : Option Value) (w : AW) (hO : Own w be 24 [.int .i64 0]) (hp : pan = none ∨ pan = some (.iface 24 (.int .i64 e))) : DefT Try.prog Try.T1 104 #[.pointer (some ⟨be, 0, none⟩)] pan w (fun b w' => (pan = none ∧ b = false ∧ w = w') ∨ (pan = some (.iface 24 (.int .i64 e)) ∧ b = true ∧ w' = w.put be (.cells [.int .i64 e] 24 be 0 0))) := by
  have hst := storeV_own1 (o := 0) (v := .int .i64 e) hO (by simp) rfl
  simp only [setL] at hst
  obtain ⟨a, tys, ty, pos, af, ho⟩ := rec104
  refine defT_code Try.func104 rfl Try.b104 ho rfl ?_
  refine opsT_nil ?_
  refine codeT_ofR Try.s104r_eq ?_
  unfold Try.s104r
  rcases hp with rfl | rfl
  · simp -dsimp -implicitDefEqProofs (maxSteps := 2000000) (disch := first | assumption | omega | (simp only [nx]; omega) | ((repeat refine Fresh.push ?_ _); assumption) | (simp only [smA]; done) | (simp [oneCell, AW.next_push]; done) | fail) only [go_sem, Nat.reduceEqDiff, reduceIte, Nat.reduceAdd, Int.toNat_natCast, Nat.add_zero, Owes_true, Try.results104, Option.getD]
    exact ⟨.inl trivial, trivial, [], rfl, .inl ⟨trivial, rfl, trivial⟩⟩
  · simp -dsimp -implicitDefEqProofs (maxSteps := 2000000) (disch := first | assumption | omega | (simp only [nx]; omega) | ((repeat refine Fresh.push ?_ _); assumption) | (simp only [smA]; done) | (simp [oneCell, AW.next_push]; done) | fail) only [go_sem, Nat.reduceEqDiff, reduceIte, Nat.reduceAdd, Int.toNat_natCast, Nat.add_zero, Owes_true, Try.results104, Option.getD, hst]
    exact ⟨.inl trivial, trivial, [], rfl, .inr ⟨trivial, rfl, trivial⟩⟩
end Go.Proofs

namespace Go.Proofs
open Go Go.RowKit Go.Sim
set_option maxRecDepth 100000
theorem leftX_recovered {P : Program} {told : ToldF} {rs : List ResultVar} {v : Value} {t : Tmps} {f : FuncId} {args cap : Array Value} {w : AW} {Q R : Value → AW → Prop} (h : DefT P told f (args ++ cap) (some v) w fun b w' => b = true ∧ ∃ vs, aresults (prg P) false t w' rs = some vs ∧ Q (tupled vs) w') : LeftX P told rs (.pan v) t [.call f args cap] w Q R := by
  refine ⟨(by intro id q; cases q), DefersT.call ?_⟩
  obtain ⟨N, b, w', h1, rfl, vs, h2, h3⟩ := h
  exact ⟨N, true, w', h1, by show DefersT P told none [] w' _; rw [DefersT.nil]; exact ⟨vs, h2, h3⟩⟩
theorem leftX_done {P : Program} {told : ToldF} {rs : List ResultVar} {t : Tmps} {f : FuncId} {args cap : Array Value} {w : AW} {Q R : Value → AW → Prop} (h : DefT P told f (args ++ cap) none w fun b w' => b = false ∧ ∃ vs, aresults (prg P) true t w' rs = some vs ∧ Q (tupled vs) w') : LeftX P told rs .ret t [.call f args cap] w Q R := by
  refine ⟨(by intro id q; cases q), DefersT.call ?_⟩
  obtain ⟨N, b, w', h1, rfl, vs, h2, h3⟩ := h
  exact ⟨N, false, w', h1, by show DefersT P told none [] w' _; rw [DefersT.nil]; exact ⟨vs, h2, h3⟩⟩
theorem DefT.mono {P : Program} {told : ToldF} {f : FuncId} {args : Array Value} {pan : Option Value} {w : AW} {K L : Bool → AW → Prop} (h : DefT P told f args pan w K) (k : ∀ b w', K b w' → L b w') : DefT P told f args pan w L :=
  let ⟨N, b, w', a, c⟩ := h; ⟨N, b, w', a, k _ _ c⟩
theorem bsQ_13 {e : TypeId} {z0 z1 z2 : Value} (a b c : Int) : bsQ e 1 3 [z0, z1, z2] [(0, .agg #[.int .i64 a, .int .i64 b, .int .i64 c])] = some ([.int .i64 a, .int .i64 b, .int .i64 c], e, fun n => .slice (some ⟨n, 0, none⟩) 1 1) := by
  simp [bsQ, Instr.fill, Value.cells]
theorem Try.bs58 (t : Tmps) (l : List (Nat × Operand)) : makes (prg Try.prog) t (.buildSlice 58 1 ⟨l⟩) = bsQ 87 1 3 [.int .i64 0, .int .i64 0, .int .i64 0] (l.map fun p => (p.1, ev t p.2)) := makes_bs Try.ty58 Try.ty87 rfl (by kernel_rfl)
theorem bld87 (a b c : Int) : bldQ [(0, 1), (1, 1), (2, 1)] [.int .i64 0, .int .i64 0, .int .i64 0] [(0, .int .i64 a), (1, .int .i64 b), (2, .int .i64 c)] = some (.agg #[.int .i64 a, .int .i64 b, .int .i64 c]) := by kernel_rfl
theorem same_agg3 (a b c : Int) : same 12 (.agg #[.int .i64 a, .int .i64 b, .int .i64 c]) (.agg #[.int .i64 a, .int .i64 b, .int .i64 c]) = true := by simp [same, same.all, intEq_eq]
attribute [go_sem] bsQ_13 Try.bs58 bld87
def Doing (bp bb r : Nat) (x : PurN) (F G : Nat → Prop) (g : Nat) (cap : Array Value) (w : AW) (QQ : Int → PurN → (Nat → Prop) → AW → Prop) (EE : Int → AW → Prop) : Prop :=
  ∀ w1, Grown w w1 → PurAt w1 F bp bb r x → CallX Try.prog Try.T1 (.fn (.func g) cap) #[] w1
    (fun rv w' => ∃ sum F' x', rv = .int .i64 sum ∧ PurAt w' F' bp bb r x' ∧ MutS (fun j => F j ∨ G j) w1 w' ∧ Within F w1 F' ∧ x'.N = x.N ∧ QQ sum x' F' w')
    (fun pv w' => ∃ e, pv = .iface 24 (.int .i64 e) ∧ PurAt w' F bp bb r x ∧ MutS (fun j => F j ∨ G j) w1 w' ∧ EE e w')
set_option maxHeartbeats 8000000 in
theorem do_ok (kind day : Int) (g : Nat) (cap : Array Value) (bp bb r : Nat) (x : PurN) (F G : Nat → Prop) (w : AW) (f : Fresh w) (QQ : Int → PurN → (Nat → Prop) → AW → Prop) (QR : Int → PurN → AW → Prop) (EE : Int → AW → Prop) (hEE : ∀ e w1 w', EE e w1 → MutS (fun j => j = w.next) w1 w' → EE e w') (hx : PurAt w F bp bb r x) (hl : x.N.length < 1000)
    (hG : ∀ j, G j → j < w.next ∧ ¬ F j) (hcall : Doing bp bb r x F G g cap w QQ EE) (hQ : ∀ sum x' F' w1 w', QQ sum x' F' w1 → MutS F' w1 w' → QR sum x' w') :
    CallT Try.prog Try.T1 (.fn (.func 75) #[]) #[.pointer (some ⟨bp, 0, none⟩), .int .i64 kind, .int .i64 day, .func (.func g) #[] cap] w (fun rv w' => ∃ sum e F' x', rv = .tuple #[.int .i64 sum, .int .i64 e] ∧ PurAt w' F' bp bb r x' ∧ MutS (fun j => F j ∨ G j) w w' ∧ Within F w F' ∧
      ((inR (lastDay x.N) day 36500 = false ∧ sum = 0 ∧ e = 34 ∧ x' = x ∧ Grown w w') ∨ (inR (lastDay x.N) day 36500 = true ∧ sum = 0 ∧ EE e w' ∧ x' = x) ∨ (inR (lastDay x.N) day 36500 = true ∧ e = 0 ∧ ∃ x1, x' = { x1 with N := x.N ++ [⟨kind, day, sum⟩] } ∧ QR sum x1 w'))) := by
  apply CallX.t
  have gE := (Grown.refl f).push (.cells [.int .i64 0] 24 w.next 0 0)
  have hE := Own.new f 24 [.int .i64 0]
  obtain ⟨vs, vn, S1, S2, hB⟩ := hx
  have hB1 := hB.grown gE
  have ho := hB1.own.cell (o := 0) rfl rfl
  refine callX_code rfl Try.func75 rfl Try.s75_eq rfl ?_
  unfold Try.s75
  simp -dsimp -implicitDefEqProofs (maxSteps := 2000000) (disch := first | assumption | omega | (simp only [nx]; omega) | ((repeat refine Fresh.push ?_ _); assumption) | (simp only [smA]; done) | (simp [oneCell, AW.next_push]; done) | fail) only [go_sem, Nat.reduceEqDiff, reduceIte, Nat.reduceAdd, Int.toNat_natCast, Nat.add_zero, Owes_true, Try.results75]
  refine codeT_defer Try.hd75 Try.ld75 ?_
  simp only [AdS, wants_none]
  refine ⟨rfl, rfl, .func (.func 104) #[] #[.pointer (some ⟨w.next, 0, none⟩)], ?_, trivial, 104, #[], #[.pointer (some ⟨w.next, 0, none⟩)], ?_, ?_⟩
  · simp only [QV]
    simp -dsimp -implicitDefEqProofs (maxSteps := 2000000) (disch := first | assumption | omega | (simp only [nx]; omega) | ((repeat refine Fresh.push ?_ _); assumption) | (simp only [smA]; done) | (simp [oneCell, AW.next_push]; done) | fail) only [go_sem, Nat.reduceEqDiff, reduceIte, Nat.reduceAdd, Int.toNat_natCast, Nat.add_zero, Owes_true]
  · simp -dsimp -implicitDefEqProofs (maxSteps := 2000000) (disch := first | assumption | omega | (simp only [nx]; omega) | ((repeat refine Fresh.push ?_ _); assumption) | (simp only [smA]; done) | (simp [oneCell, AW.next_push]; done) | fail) only [go_sem, Nat.reduceEqDiff, reduceIte, Nat.reduceAdd, Int.toNat_natCast, Nat.add_zero, Owes_true]
  generalize hwE : w.push (.cells [.int .i64 0] 24 w.next 0 0) = wE at *
  have hEo := hE
  simp -dsimp -implicitDefEqProofs (maxSteps := 2000000) (disch := first | assumption | omega | (simp only [nx]; omega) | ((repeat refine Fresh.push ?_ _); assumption) | (simp only [smA]; done) | (simp [oneCell, AW.next_push]; done) | fail) only [go_sem, Nat.reduceEqDiff, reduceIte, Nat.reduceAdd, Int.toNat_natCast, Nat.add_zero, Owes_true]
  apply callXV_ofT (e := rfl)
  · exact isNil_ok bp bb wE hB1.own
  rintro _ _ ⟨rfl, rfl⟩
  simp -dsimp -implicitDefEqProofs (maxSteps := 2000000) (disch := first | assumption | omega | (simp only [nx]; omega) | ((repeat refine Fresh.push ?_ _); assumption) | (simp only [smA]; done) | (simp [oneCell, AW.next_push]; done) | fail) only [go_sem, Nat.reduceEqDiff, reduceIte, Nat.reduceAdd, Int.toNat_natCast, Nat.add_zero, Owes_true]
  apply callXV_of (e := rfl)
  · exact require_ok _ _ _
  rotate_left
  · rintro _ _ ⟨h, _⟩; cases h
  rintro _ _ ⟨_, rfl⟩
  simp -dsimp -implicitDefEqProofs (maxSteps := 2000000) (disch := first | assumption | omega | (simp only [nx]; omega) | ((repeat refine Fresh.push ?_ _); assumption) | (simp only [smA]; done) | (simp [oneCell, AW.next_push]; done) | fail) only [go_sem, Nat.reduceEqDiff, reduceIte, Nat.reduceAdd, Int.toNat_natCast, Nat.add_zero, Owes_true, ho]
  apply callXV_ofT (e := rfl)
  · exact today_ok bp bb r x vs vn F S1 S2 wE hB1 (by omega)
  rintro _ _ ⟨rfl, rfl⟩
  simp -dsimp -implicitDefEqProofs (maxSteps := 2000000) (disch := first | assumption | omega | (simp only [nx]; omega) | ((repeat refine Fresh.push ?_ _); assumption) | (simp only [smA]; done) | (simp [oneCell, AW.next_push]; done) | fail) only [go_sem, Nat.reduceEqDiff, reduceIte, Nat.reduceAdd, Int.toNat_natCast, Nat.add_zero, Owes_true]
  apply callXV_ofT (e := rfl)
  · exact within_ok _ _ _ _
  rintro _ _ ⟨rfl, rfl⟩
  simp -dsimp -implicitDefEqProofs (maxSteps := 2000000) (disch := first | assumption | omega | (simp only [nx]; omega) | ((repeat refine Fresh.push ?_ _); assumption) | (simp only [smA]; done) | (simp [oneCell, AW.next_push]; done) | fail) only [go_sem, Nat.reduceEqDiff, reduceIte, Nat.reduceAdd, Int.toNat_natCast, Nat.add_zero, Owes_true]
  have hFlt : ∀ j, F j → j < w.next := fun j hj => hB.lt j hj
  have hnE : wE.next = w.next + 1 := by rw [← hwE, AW.next_push]
  have hlE := hE.lt
  have harg : ∀ h : Operand → Value, ((#[] : Array Value) ++ Array.map h #[] ++ #[.pointer (some ⟨w.next, 0, none⟩)]) = #[.pointer (some ⟨w.next, 0, none⟩)] := fun h => by simp
  -- a panic, recovered
  have hrec : ∀ (e : Int) (w2 : AW), PurAt w2 F bp bb r x → MutS (fun j => F j ∨ G j) wE w2 → PurAt (w2.put w.next (.cells [.int .i64 e] 24 w.next 0 0)) F bp bb r x ∧ MutS (fun j => F j ∨ G j) w (w2.put w.next (.cells [.int .i64 e] 24 w.next 0 0)) ∧ Own (w2.put w.next (.cells [.int .i64 e] 24 w.next 0 0)) w.next 24 [.int .i64 e] := by
    intro e w2 hP hM
    have hE2 := hM.own hE (fun q => q.elim (fun q => by have := hFlt _ q; omega) (fun q => by have := (hG _ q).1; omega))
    obtain ⟨vs', vn', S1', S2', hB'⟩ := hP
    have hk : MutS (fun j => j = w.next) w2 (w2.put w.next (.cells [.int .i64 e] 24 w.next 0 0)) := MutS.put (S := fun j => j = w.next) hM.fresh rfl hE2.lt _
    refine ⟨⟨vs', vn', S1', S2', hB'.other hk fun j hj q => by have := hFlt j hj; omega⟩, ?_, hE2.put _⟩
    have h1 : MutS (fun j => F j ∨ G j) w w2 := (MutS.of gE).trans hM (Within.refl _ _)
    exact h1.trans hk (fun j q => .inr (by omega))
  apply callXV_of (e := rfl)
  · exact require_ok _ _ _
  rotate_left
  · rintro _ _ ⟨hd, rfl, rfl⟩
    simp -dsimp -implicitDefEqProofs (maxSteps := 2000000) (disch := first | assumption | omega | (simp only [nx]; omega) | ((repeat refine Fresh.push ?_ _); assumption) | (simp only [smA]; done) | (simp [oneCell, AW.next_push]; done) | fail) only [go_sem, Nat.reduceEqDiff, reduceIte, Nat.reduceAdd, Int.toNat_natCast, Nat.add_zero, Owes_true]
    refine leftX_recovered ?_
    rw [harg]
    refine DefT.mono (defer_ok w.next 34 _ wE hE (.inr rfl)) ?_
    rintro b w' (⟨q, _⟩ | ⟨_, rfl, rfl⟩)
    · cases q
    obtain ⟨h1, h2, h3⟩ := hrec 34 wE ⟨vs, vn, S1, S2, hB1⟩ (MutS.refl gE.2)
    have c0 := h3.cell (o := 0) rfl rfl
    refine ⟨rfl, [.int .i64 0, .int .i64 34], ?_, 0, 34, F, x, rfl, h1, h2, Within.refl _ _, .inl ⟨hd, rfl, rfl, rfl, ⟨gE.1.put (b := w.next) (Nat.le_refl _) _, gE.2.put hE.lt _⟩⟩⟩
    show aresults (prg Try.prog) false _ _ Try.f75.results.toList = _
    rw [Try.results75]
    rw [resX_tmp (v := .int .i64 0) (by simp -dsimp -implicitDefEqProofs (maxSteps := 2000000) (disch := first | assumption | omega | (simp only [nx]; omega) | ((repeat refine Fresh.push ?_ _); assumption) | (simp only [smA]; done) | (simp [oneCell, AW.next_push]; done) | fail) only [go_sem, Nat.reduceEqDiff, reduceIte, Nat.reduceAdd, Int.toNat_natCast, Nat.add_zero, Owes_true]) rfl, resX_cell]
    simp -dsimp -implicitDefEqProofs (maxSteps := 2000000) (disch := first | assumption | omega | (simp only [nx]; omega) | ((repeat refine Fresh.push ?_ _); assumption) | (simp only [smA]; done) | (simp [oneCell, AW.next_push]; done) | fail) only [go_sem, Nat.reduceEqDiff, reduceIte, Nat.reduceAdd, Int.toNat_natCast, Nat.add_zero, Owes_true, resX_nil, c0]
  rintro _ _ ⟨hd, rfl⟩
  simp -dsimp -implicitDefEqProofs (maxSteps := 2000000) (disch := first | assumption | omega | (simp only [nx]; omega) | ((repeat refine Fresh.push ?_ _); assumption) | (simp only [smA]; done) | (simp [oneCell, AW.next_push]; done) | fail) only [go_sem, Nat.reduceEqDiff, reduceIte, Nat.reduceAdd, Int.toNat_natCast, Nat.add_zero, Owes_true]
  apply callXV_of (e := rfl)
  · exact hcall wE gE ⟨vs, vn, S1, S2, hB1⟩
  rotate_left
  · rintro _ w2 ⟨e, rfl, hP2, hM, hEw⟩
    have hE2 := hM.own hE (fun q => q.elim (fun q => by have := hFlt _ q; omega) (fun q => by have := (hG _ q).1; omega))
    simp -dsimp -implicitDefEqProofs (maxSteps := 2000000) (disch := first | assumption | omega | (simp only [nx]; omega) | ((repeat refine Fresh.push ?_ _); assumption) | (simp only [smA]; done) | (simp [oneCell, AW.next_push]; done) | fail) only [go_sem, Nat.reduceEqDiff, reduceIte, Nat.reduceAdd, Int.toNat_natCast, Nat.add_zero, Owes_true]
    refine leftX_recovered ?_
    rw [harg]
    refine DefT.mono (defer_ok w.next e _ w2 hE2 (.inr rfl)) ?_
    rintro b w' (⟨q, _⟩ | ⟨_, rfl, rfl⟩)
    · cases q
    obtain ⟨h1, h2, h3⟩ := hrec e w2 hP2 hM
    have c0 := h3.cell (o := 0) rfl rfl
    refine ⟨rfl, [.int .i64 0, .int .i64 e], ?_, 0, e, F, x, rfl, h1, h2, Within.refl _ _, .inr (.inl ⟨hd, rfl, hEE e w2 _ hEw (MutS.put (S := fun j => j = w.next) hM.fresh rfl hE2.lt _), rfl⟩)⟩
    show aresults (prg Try.prog) false _ _ Try.f75.results.toList = _
    rw [Try.results75]
    rw [resX_tmp (v := .int .i64 0) (by simp -dsimp -implicitDefEqProofs (maxSteps := 2000000) (disch := first | assumption | omega | (simp only [nx]; omega) | ((repeat refine Fresh.push ?_ _); assumption) | (simp only [smA]; done) | (simp [oneCell, AW.next_push]; done) | fail) only [go_sem, Nat.reduceEqDiff, reduceIte, Nat.reduceAdd, Int.toNat_natCast, Nat.add_zero, Owes_true]) rfl, resX_cell]
    simp -dsimp -implicitDefEqProofs (maxSteps := 2000000) (disch := first | assumption | omega | (simp only [nx]; omega) | ((repeat refine Fresh.push ?_ _); assumption) | (simp only [smA]; done) | (simp [oneCell, AW.next_push]; done) | fail) only [go_sem, Nat.reduceEqDiff, reduceIte, Nat.reduceAdd, Int.toNat_natCast, Nat.add_zero, Owes_true, resX_nil, c0]
  rintro _ w2 ⟨sum, F', x', rfl, ⟨vs2, vn2, T1, T2, hB2⟩, hM, hW, hN, hQQ⟩
  have hE2 := hM.own hE (fun q => q.elim (fun q => by have := hFlt _ q; omega) (fun q => by have := (hG _ q).1; omega))
  obtain ⟨pn, nn, cn, rfl⟩ := hB2.not.isSlice
  obtain ⟨qs, ms, ks, rfl⟩ := hB2.sur.isSlice
  have fr2 := hM.fresh
  have o2 := hB2.own.cell (o := 0) rfl rfl
  have b4 := hB2.bk.cell (o := 4) rfl rfl
  have hnew := Own.new fr2 87 [.int .i64 kind, .int .i64 day, .int .i64 sum]
  have fu := fr2.push (.cells [.int .i64 kind, .int .i64 day, .int .i64 sum] 87 w2.next 0 0)
  have kU := (Keep.refl w2.next w2).push (Nat.le_refl _) (.cells [.int .i64 kind, .int .i64 day, .int .i64 sum] 87 w2.next 0 0)
  have hun : (w2.push (.cells [.int .i64 kind, .int .i64 day, .int .i64 sum] 87 w2.next 0 0)).next = w2.next + 1 := AW.next_push _ _
  obtain ⟨vn', w3, hap, hA3, f3, hn3, hbk3, hfm3, hwl3⟩ := append_anyS Try.ty58 Try.ty87 rfl (by omega) (by omega) (hB2.not.keep kU) fu (firstOfL rfl fun i y hy => hnew.cell hy (notc_one ⟨kind, day, sum⟩ y (List.mem_of_getElem? hy))) rfl (notc_one ⟨kind, day, sum⟩) (by rw [hN]; omega)
  obtain ⟨pn', nn', cn', rfl⟩ := hA3.isSlice
  have mU : MutS T2 w2 w3 := (MutS.of ⟨kU, fu⟩).trans (S' := T2) ⟨fun i hi _ => hbk3 i hi, hfm3, by omega, f3⟩ (Within.refl _ _)
  have hbk := mU.own hB2.bk (fun q => (hB2.f2 _ q).2.2.1 rfl)
  have hst := storeV_own1 (o := 4) (v := .slice pn' nn' cn') hbk (by simp) rfl
  simp only [setL] at hst
  have m4 : MutS (fun j => j = bb) w3 (w3.put bb (.cells [.int .i64 x'.T, .slice qs ms ks, .map (some r), .int .i64 x'.W, .slice pn' nn' cn'] 117 bb 0 0)) := MutS.put (S := fun j => j = bb) f3 rfl hbk.lt _
  have hbk4 := hbk.put [.int .i64 x'.T, .slice qs ms ks, .map (some r), .int .i64 x'.W, .slice pn' nn' cn']
  have hag := same_agg3 kind day sum
  simp -dsimp -implicitDefEqProofs (maxSteps := 2000000) (disch := first | assumption | omega | (simp only [nx]; omega) | ((repeat refine Fresh.push ?_ _); assumption) | (simp only [smA]; done) | (simp [oneCell, AW.next_push]; done) | fail) only [go_sem, Nat.reduceEqDiff, reduceIte, Nat.reduceAdd, Int.toNat_natCast, Nat.add_zero, Owes_true, o2, b4, fr2, hap, hwl3, hst]
  generalize w3.put bb (.cells [.int .i64 x'.T, .slice qs ms ks, .map (some r), .int .i64 x'.W, .slice pn' nn' cn'] 117 bb 0 0) = w4 at *
  have hnE2 := hM.next
  have hb1 : w.next ≠ bb := by have := hFlt _ hB.f.2.1; omega
  have hb2 : w.next ≠ bp := by have := hFlt _ hB.f.1; omega
  have hF'w : ∀ j, F' j → j ≠ w.next := fun j hj q => by
    rcases hW j hj with z | z
    · have := hFlt j z; omega
    · omega
  have hE3 := mU.own hE2 (fun q => hF'w _ (hB2.f2 _ q).1 rfl)
  have hE4 := m4.own hE3 hb1
  have hst5 := storeV_own1 (o := 0) (v := .int .i64 0) hE4 (by simp) rfl
  simp only [setL] at hst5
  have m5 : MutS (fun _ => False) w4 (w4.put w.next (.cells [.int .i64 0] 24 w.next 0 0)) := MutS.put_same m4.fresh hE4
  have hE5 := m5.own hE4 (fun q => q)
  simp -dsimp -implicitDefEqProofs (maxSteps := 2000000) (disch := first | assumption | omega | (simp only [nx]; omega) | ((repeat refine Fresh.push ?_ _); assumption) | (simp only [smA]; done) | (simp [oneCell, AW.next_push]; done) | fail) only [go_sem, Nat.reduceEqDiff, reduceIte, Nat.reduceAdd, Int.toNat_natCast, Nat.add_zero, Owes_true, hst5]
  generalize w4.put w.next (.cells [.int .i64 0] 24 w.next 0 0) = w5 at *
  refine leftX_done ?_
  rw [harg]
  refine DefT.mono (defer_ok w.next 0 _ w5 hE5 (.inl rfl)) ?_
  rintro b w' (⟨_, rfl, rfl⟩ | ⟨q, _⟩)
  rotate_left
  · cases q
  have c0 := hE5.cell (o := 0) rfl rfl
  have mAll : MutS F' w2 w5 := ((mU.mono fun j q => (hB2.f2 j q).1).trans m4 (fun j q => .inl (by rw [q]; exact hB2.f.2.1))).trans m5 (fun j q => q.elim)
  have hn4 := m4.next
  have hn5 := m5.next
  refine ⟨rfl, [.int .i64 sum, .int .i64 0], ?_, sum, 0, fun j => F' j ∨ j = w2.next + 1, { x' with N := x.N ++ [⟨kind, day, sum⟩] }, rfl, ⟨.slice qs ms ks, .slice pn' nn' cn', T1, fun j => T2 j ∨ j = w2.next + 1, ?_⟩, ?_, ?_, .inr (.inr ⟨hd, rfl, x', rfl, hQ _ _ _ _ _ hQQ mAll⟩)⟩
  · show aresults (prg Try.prog) true _ _ Try.f75.results.toList = _
    rw [Try.results75]
    simp -dsimp -implicitDefEqProofs (maxSteps := 2000000) (disch := first | assumption | omega | (simp only [nx]; omega) | ((repeat refine Fresh.push ?_ _); assumption) | (simp only [smA]; done) | (simp [oneCell, AW.next_push]; done) | fail) only [go_sem, Nat.reduceEqDiff, reduceIte, Nat.reduceAdd, Int.toNat_natCast, Nat.add_zero, Owes_true, c0]
  · have hn : (x.N ++ [(⟨kind, day, sum⟩ : NotN)]).length = x'.N.length + 1 := by rw [hN]; simp
    have hc : (x.N ++ [(⟨kind, day, sum⟩ : NotN)]).flatMap notc = x'.N.flatMap notc ++ [.int .i64 kind, .int .i64 day, .int .i64 sum] := by rw [hN, List.flatMap_append]; rfl
    have mT : MutS (fun j => j = bb) w3 w5 := m4.trans m5 (fun j q => q.elim)
    have hl2 := hB2.lt
    have hbb := hl2 _ hB2.f.2.1
    rw [hun] at hA3
    refine ⟨mT.own (mU.own hB2.own (fun q => (hB2.f2 _ q).2.1 rfl)) (fun q => hB2.ne.1 q), m5.own hbk4 (fun q => q), ((hB2.sur.other mU fun j hj q => (hB2.f1 j hj).2.1 q).other mT fun j hj q => (hB2.f1 j hj).2.2.2.1 q), ?_, ?_, ⟨.inl hB2.f.1, .inl hB2.f.2.1, .inl hB2.f.2.2⟩, ?_, ?_, hB2.ne, ?_⟩
    · show AOwnS _ w5 87 3 _ (x.N ++ [(⟨kind, day, sum⟩ : NotN)]).length ((x.N ++ [(⟨kind, day, sum⟩ : NotN)]).flatMap notc)
      rw [hn, hc]
      refine hA3.other mT fun j hj q => ?_
      rcases hj with z | z
      · exact (hB2.f2 j z).2.2.1 q
      · omega
    · exact (hB2.map.other mU fun q => (hB2.f2 _ q).2.2.2 rfl).other mT fun q => hB2.ne.2.2 q.symm
    · intro j hj
      have h1 := hB2.f1 j hj
      have h2 := hl2 j h1.1
      exact ⟨.inl h1.1, fun q => q.elim h1.2.1 (by omega), h1.2.2⟩
    · intro j hj
      rcases hj with z | z
      · exact ⟨.inl (hB2.f2 j z).1, (hB2.f2 j z).2⟩
      · have h1 := hl2 _ hB2.f.1
        have h2 := hl2 _ hB2.f.2.2
        exact ⟨.inr z, by omega, by omega, by omega⟩
    · intro j hj
      rcases hj with z | z
      · have := hl2 j z; omega
      · omega
  · exact (MutS.of gE).trans (hM.trans mAll (fun j q => (hW j q).imp .inl id)) (Within.refl _ _)
  · intro j hj
    rcases hj with q | q
    · rcases hW j q with z | z
      · exact .inl z
      · exact .inr (by omega)
    · exact .inr (by omega)
end Go.Proofs
