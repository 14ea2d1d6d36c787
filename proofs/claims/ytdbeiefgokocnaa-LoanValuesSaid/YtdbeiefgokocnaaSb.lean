/- Sorting at this program: the library's contract, laid. -/
import Derived.Test.YtdbeiefgokocnaaProg
import Derived.Ground.GgsProg
import Derived.Shelf.GgSortFunc.Whole
import Derived.Shelf.GgSortFunc.Tiny
import Derived.Deep.QuietTactic
import Derived.Lib.RowBridge
import Derived.Lib.SortBridge
import Derived.WalkKit
import Derived.Test.YtdbeiefgokocnaaSa
set_option linter.unusedVariables false
set_option linter.unusedSimpArgs false
/- sort.Slice at this program: the contract, laid; what is asked of a less that compares numbers. -/
namespace Go.Proofs
open Go.Shelf
def Try.laysSort_ren : Go.Shelf.Ren := ⟨fun | 6 => 68 | 10 => 78 | 11 => 79 | 12 => 80 | 13 => 81 | 14 => 82 | 24 => 102 | 25 => 103 | 26 => 104 | 27 => 105 | 28 => 106 | 29 => 107 | 30 => 108 | 31 => 109 | 32 => 110 | 33 => 111 | 34 => 112 | 35 => 113 | 36 => 114 | 37 => 115 | 38 => 116 | 39 => 117 | n => n, fun | 20 => 20 | 26 => 128 | 35 => 140 | 0 => 0 | 37 => 142 | 3 => 3 | 41 => 145 | 44 => 148 | 49 => 163 | 51 => 165 | 4 => 4 | 54 => 168 | 53 => 167 | 58 => 172 | 5 => 5 | 9 => 9 | 60 => 177 | 64 => 181 | 66 => 183 | 67 => 184 | 17 => 17 | 32 => 137 | 33 => 138 | 82 => 199 | 12 => 12 | 75 => 192 | 76 => 193 | 77 => 194 | 78 => 195 | 79 => 196 | 80 => 197 | n => n, fun | n => n⟩
theorem Try.laysSort : Go.Proofs.LaysGg.n6 Try.prog Try.laysSort_ren := {
  mixed := by kernel_rfl
  f6 := Try.func68.trans (congrArg some (by kernel_rfl))
  f10 := Try.func78.trans (congrArg some (by kernel_rfl))
  f11 := Try.func79.trans (congrArg some (by kernel_rfl))
  f12 := Try.func80.trans (congrArg some (by kernel_rfl))
  f13 := Try.func81.trans (congrArg some (by kernel_rfl))
  f14 := Try.func82.trans (congrArg some (by kernel_rfl))
  f24 := Try.func102.trans (congrArg some (by kernel_rfl))
  f25 := Try.func103.trans (congrArg some (by kernel_rfl))
  f26 := Try.func104.trans (congrArg some (by kernel_rfl))
  f27 := Try.func105.trans (congrArg some (by kernel_rfl))
  f28 := Try.func106.trans (congrArg some (by kernel_rfl))
  f29 := Try.func107.trans (congrArg some (by kernel_rfl))
  f30 := Try.func108.trans (congrArg some (by kernel_rfl))
  f31 := Try.func109.trans (congrArg some (by kernel_rfl))
  f32 := Try.func110.trans (congrArg some (by kernel_rfl))
  f33 := Try.func111.trans (congrArg some (by kernel_rfl))
  f34 := Try.func112.trans (congrArg some (by kernel_rfl))
  f35 := Try.func113.trans (congrArg some (by kernel_rfl))
  f36 := Try.func114.trans (congrArg some (by kernel_rfl))
  f37 := Try.func115.trans (congrArg some (by kernel_rfl))
  f38 := Try.func116.trans (congrArg some (by kernel_rfl))
  f39 := Try.func117.trans (congrArg some (by kernel_rfl))
  t0 := Try.underlying0
  a0 := Try.isAgg0
  z0 := Try.sizeOf0
  v0 := Try.zeroValue0
  i0 := by kernel_rfl
  t3 := Try.underlying3
  a3 := Try.isAgg3
  z3 := Try.sizeOf3
  v3 := Try.zeroValue3
  i3 := by kernel_rfl
  t4 := Try.underlying4
  a4 := Try.isAgg4
  z4 := Try.sizeOf4
  v4 := Try.zeroValue4
  i4 := by kernel_rfl
  t5 := Try.underlying5
  a5 := Try.isAgg5
  z5 := Try.sizeOf5
  v5 := Try.zeroValue5
  i5 := by kernel_rfl
  t9 := Try.underlying9
  a9 := Try.isAgg9
  z9 := Try.sizeOf9
  v9 := Try.zeroValue9
  i9 := by kernel_rfl
  t12 := Try.underlying12
  a12 := Try.isAgg12
  z12 := Try.sizeOf12
  v12 := Try.zeroValue12
  i12 := by kernel_rfl
  t17 := Try.underlying17
  a17 := Try.isAgg17
  z17 := Try.sizeOf17
  v17 := Try.zeroValue17
  i17 := by kernel_rfl
  t20 := Try.underlying20
  a20 := Try.isAgg20
  z20 := Try.sizeOf20
  v20 := Try.zeroValue20
  i20 := by kernel_rfl
  t26 := Try.underlying128
  a26 := Try.isAgg128
  z26 := Try.sizeOf128
  v26 := Try.zeroValue128
  i26 := by kernel_rfl
  t32 := Try.underlying137
  a32 := Try.isAgg137
  z32 := Try.sizeOf137
  v32 := Try.zeroValue137
  i32 := by kernel_rfl
  t33 := Try.underlying138
  a33 := Try.isAgg138
  z33 := Try.sizeOf138
  v33 := Try.zeroValue138
  i33 := by kernel_rfl
  t35 := Try.underlying140
  a35 := Try.isAgg140
  z35 := Try.sizeOf140
  v35 := Try.zeroValue140
  i35 := by kernel_rfl
  t37 := Try.underlying142
  a37 := Try.isAgg142
  z37 := Try.sizeOf142
  v37 := Try.zeroValue142
  i37 := by kernel_rfl
  t41 := Try.underlying145
  a41 := Try.isAgg145
  z41 := Try.sizeOf145
  v41 := Try.zeroValue145
  i41 := by kernel_rfl
  t44 := Try.underlying148
  a44 := Try.isAgg148
  z44 := Try.sizeOf148
  v44 := Try.zeroValue148
  i44 := by kernel_rfl
  t49 := Try.underlying163
  a49 := Try.isAgg163
  z49 := Try.sizeOf163
  v49 := Try.zeroValue163
  i49 := by kernel_rfl
  t51 := Try.underlying165
  a51 := Try.isAgg165
  z51 := Try.sizeOf165
  v51 := Try.zeroValue165
  i51 := by kernel_rfl
  t53 := Try.underlying167
  a53 := Try.isAgg167
  z53 := Try.sizeOf167
  v53 := Try.zeroValue167
  i53 := by kernel_rfl
  t54 := Try.underlying168
  a54 := Try.isAgg168
  z54 := Try.sizeOf168
  v54 := Try.zeroValue168
  i54 := by kernel_rfl
  t58 := Try.underlying172
  a58 := Try.isAgg172
  z58 := Try.sizeOf172
  v58 := Try.zeroValue172
  i58 := by kernel_rfl
  t60 := Try.underlying177
  a60 := Try.isAgg177
  z60 := Try.sizeOf177
  v60 := Try.zeroValue177
  i60 := by kernel_rfl
  t64 := Try.underlying181
  a64 := Try.isAgg181
  z64 := Try.sizeOf181
  v64 := Try.zeroValue181
  i64 := by kernel_rfl
  t66 := Try.underlying183
  a66 := Try.isAgg183
  z66 := Try.sizeOf183
  v66 := Try.zeroValue183
  i66 := by kernel_rfl
  t67 := Try.underlying184
  a67 := Try.isAgg184
  z67 := Try.sizeOf184
  v67 := Try.zeroValue184
  i67 := by kernel_rfl
  t75 := Try.underlying192
  a75 := Try.isAgg192
  z75 := Try.sizeOf192
  v75 := Try.zeroValue192
  i75 := by kernel_rfl
  t76 := Try.underlying193
  a76 := Try.isAgg193
  z76 := Try.sizeOf193
  v76 := Try.zeroValue193
  i76 := by kernel_rfl
  t77 := Try.underlying194
  a77 := Try.isAgg194
  z77 := Try.sizeOf194
  v77 := Try.zeroValue194
  i77 := by kernel_rfl
  t78 := Try.underlying195
  a78 := Try.isAgg195
  z78 := Try.sizeOf195
  v78 := Try.zeroValue195
  i78 := by kernel_rfl
  t79 := Try.underlying196
  a79 := Try.isAgg196
  z79 := Try.sizeOf196
  v79 := Try.zeroValue196
  i79 := by kernel_rfl
  t80 := Try.underlying197
  a80 := Try.isAgg197
  z80 := Try.sizeOf197
  v80 := Try.zeroValue197
  i80 := by kernel_rfl
  t82 := Try.underlying199
  a82 := Try.isAgg199
  z82 := Try.sizeOf199
  v82 := Try.zeroValue199
  i82 := by kernel_rfl }
end Go.Proofs
namespace Go.Proofs
open Go Go.Shelf Go.RowKit Go.Lib Go.Sort Go.Sim
noncomputable def Try.siT : TypeInfo := (Try.prog.info? 23).get (by kernel_rfl)
noncomputable def Try.siE : TypeInfo := (Try.prog.info? 3).get (by kernel_rfl)
theorem Try.siK (n : Nat) (h2 : 2 ≤ n) : Lib.swapperK n Try.siE 2 = 5 := by
  have a : Try.siE.hasPointers = false := by kernel_rfl
  have b : Try.siE.bytes = 8 := by kernel_rfl
  have c : (n == 0) = false := by simp; omega
  have d : (n == 1) = false := by simp; omega
  simp [Lib.swapperK, a, b, c, d]
set_option maxHeartbeats 2000000 in
theorem Try.less (blk off c : Nat) (bx : Addr) (size : Nat) (W : World) (G : Nat → Int) (hsp : bx.spot = none) (hs : W.cell? bx = some (.slice (some ⟨blk, off, none⟩) size c))
    (hc : ∀ t, t < size → W.cell? ⟨blk, off + t, none⟩ = some (.int .i64 (G t))) (i j : Nat) (hi : i < size) (hj : j < size) :
    Calls Try.prog 69 #[.int .i64 i, .int .i64 j, .pointer (some bx)] W fun e w' => e = .returned (.bool (decide (G i < G j))) ∧ ∃ q, w' = W.drewN q := by
  obtain ⟨Bs, ob, sp⟩ := bx
  simp only at hsp
  subst hsp
  have ci := hc i hi
  have cj := hc j hj
  go_enter Try.func69, Try.ntmps69
  go_wp2
  go_quiet (fail)
  go_wp2
  go_ret
  exact ⟨rfl, nq, rfl⟩
theorem Try.sortedL_eq (d d' : Array Int) (hp : PermIn 0 d.size d d') (hs : SortedIn ltInt 0 d.size d') : d' = (sortedL d.toList).toArray := by
  have h := sorted_unique_holds (lt := ltInt) swo_ltInt (fun x y h1 h2 => by simp only [ltInt, decide_eq_false_iff_not] at h1 h2; omega) d d' hp hs
  have e : (fun x y : Int => !ltInt y x) = fun x y => decide (x ≤ y) := by
    funext x y
    simp only [ltInt]
    by_cases h : x ≤ y
    · first | (simp [h]; done) | (simp [h]; omega)
    · first | (simp [h]; done) | (simp [h]; omega)
  rw [e] at h
  unfold sortedL
  rw [← h]
set_option maxHeartbeats 2000000 in
theorem Try.sliceOk : SliceOk Try.prog ⟨68, 69, 23⟩ := {
  enters := fun args W => Try.call68 args W
  tiny := fun p n c lb W h => by
    match n, h with
    | 0, h => exact Any.sort_Slice_tiny Try.laysSort 23 3 Try.siT Try.siE (by kernel_rfl) (by kernel_rfl) (by kernel_rfl) (by kernel_rfl) 2 (fun _ => by kernel_rfl) p 0 c h 93 (by kernel_rfl) _ _ lb W
    | 1, h => exact Any.sort_Slice_tiny Try.laysSort 23 3 Try.siT Try.siE (by kernel_rfl) (by kernel_rfl) (by kernel_rfl) (by kernel_rfl) 2 (fun _ => by kernel_rfl) p 1 c h 94 (by kernel_rfl) _ _ lb W
  sorts := fun blk off c c' d bx W h2 hsz hH hblk hbx hsp hcell hapart => by
    have hless : LessReads Try.prog 69 #[.pointer (some bx)] encInt ltInt blk off d.size W := by
      intro m os dk hs i j hi hj
      have e : sortWorld encInt W blk off m dk os = putRow encInt (grow (Sort.ahead W m) os) blk off dk := by
        unfold sortWorld; rw [putRow_grow _ (Sort.ahead W m) _ blk off _ hblk]
      have hHg : Holds encInt (grow (Sort.ahead W m) os) blk off d := holds_grow _ _ _ blk off d hblk (holds_ahead _ _ _ _ _ _ hH)
      refine Try.less blk off c' bx d.size _ (fun t => dk[t]!) hsp ?_ (fun t ht => ?_) i j hi hj
      · rw [e, cell?_putRow_other _ _ blk off dk _ (by rw [hs]; exact hapart), cell?_grow _ _ _ (show bx.block < (Sort.ahead W m).heap.size from hbx)]; exact hcell
      · rw [e]; exact cell?_putRow _ _ blk off d dk hHg hs t (by omega)
    have hS := Any.sort_Slice_sorted Try.laysSort 23 3 Try.siT Try.siE (by kernel_rfl) (by kernel_rfl) (by kernel_rfl) (by kernel_rfl) 2 (fun _ => by kernel_rfl) (by kernel_rfl) (fun _ => by kernel_rfl) encInt (fun _ => rfl) ltInt swo_ltInt 69 #[.pointer (some bx)]
      (fun args w => Try.call69 args w) blk off c d h2 (by omega) 97 (by rw [Try.siK _ h2]; kernel_rfl) true
      (fun args W => run_callFunc_extern Try.func97 (by kernel_rfl) (by kernel_rfl) (by kernel_rfl) (e := Extern.ReflectliteSwapper.swap true) (by kernel_rfl) args W) W hless hH hblk
    refine hS.mono ?_
    rintro e w' ⟨rfl, d', n, os, hp, hso, rfl⟩
    refine ⟨rfl, n, os, ?_⟩
    rw [Try.sortedL_eq d d' hp hso] }
end Go.Proofs
