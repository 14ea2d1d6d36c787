/- Sums shared out by the greatest quotient, and spread over dues: the numbers. Rows that are filled in place. -/
import Derived.Test.YtnbfkakjdifcpaaGreatNc
set_option linter.unusedVariables false
set_option linter.unusedSimpArgs false
namespace Go.Sim
def W (l:List Int) (i:Nat):Int:=l.getD i 0
theorem W_at {l:List Int} {i:Nat} (h:i < l.length):W l i=l[i]:=by simp [W,List.getD,h]
theorem W_zero (x:Int) (l:List Int):W (x :: l) 0=x:=rfl
def NN (w:List Int):Prop:=∀ i,0≤W w i
structure IsNext (w l:List Int) (n b:Nat):Prop where
  lt:b < n ∨ b=0
  all:∀ k,k < n→W w k * (W l b+1)≤W w b * (W l k+1)
  first:∀ k,k < n→k < b→W w k * (W l b+1) < W w b * (W l k+1)
theorem IsNext.zero (w l:List Int):IsNext w l 0 0:=⟨.inr rfl,fun k h=>by omega,fun k h=>by omega⟩
theorem IsNext.keep {w l:List Int} {n b:Nat} (h:IsNext w l n b) (k:¬ W w b * (W l n+1) < W w n * (W l b+1)):IsNext w l (n+1) b:=by
  refine ⟨by have:=h.lt;omega,fun i hi=>?_,fun i hi hb=>?_⟩
  · rcases Nat.lt_or_ge i n with z|z
    · exact h.all i z
    · obtain rfl:i=n:=by omega
      omega
  · exact h.first i (by have:=h.lt;omega) hb
theorem IsNext.take {w l:List Int} {n b:Nat} (hl:∀ i,0≤W l i) (h:IsNext w l n b) (k:W w b * (W l n+1) < W w n * (W l b+1)):IsNext w l (n+1) n:=by
  have key:∀ i,i < n→W w i * (W l n+1) < W w n * (W l i+1):=by
    intro i hi
    have a:=h.all i hi
    have l1:=hl i
    have l2:=hl n
    have l3:=hl b
    have a2:W w i * (W l b+1) * (W l n+1)≤W w b * (W l i+1) * (W l n+1):=Int.mul_le_mul_of_nonneg_right a (by omega)
    have k2:W w b * (W l n+1) * (W l i+1) < W w n * (W l b+1) * (W l i+1):=Int.mul_lt_mul_of_pos_right k (by omega)
    have e1:W w b * (W l i+1) * (W l n+1)=W w b * (W l n+1) * (W l i+1):=by rw [Int.mul_assoc,Int.mul_assoc,Int.mul_comm (W l i+1)]
    have e2:W w i * (W l b+1) * (W l n+1)=W w i * (W l n+1) * (W l b+1):=by rw [Int.mul_assoc,Int.mul_assoc,Int.mul_comm (W l b+1)]
    have e3:W w n * (W l b+1) * (W l i+1)=W w n * (W l i+1) * (W l b+1):=by rw [Int.mul_assoc,Int.mul_assoc,Int.mul_comm (W l b+1)]
    exact Int.lt_of_mul_lt_mul_right (show W w i * (W l n+1) * (W l b+1) < W w n * (W l i+1) * (W l b+1) by omega) (by omega)
  refine ⟨.inl (by omega),fun i hi=>?_,fun i hi hb=>key i hb⟩
  rcases Nat.lt_or_ge i n with z|z
  · have:=key i z;omega
  · obtain rfl:i=n:=by omega
    exact Int.le_refl _
theorem exists_pos:∀ {w:List Int},NN w→0 < w.sum→∃ k,k < w.length∧0 < W w k
  | [],_,h=>by simp at h
  | x :: w,hw,h=>by
    have h0:=hw 0
    rw [W_zero] at h0
    rcases Int.lt_or_le 0 x with z|z
    · exact ⟨0,by simp,z⟩
    · rw [List.sum_cons] at h
      obtain ⟨k,h1,h2⟩:=exists_pos (w:=w) (fun i=>hw (i+1)) (by omega)
      exact ⟨k+1,by simpa using h1,h2⟩
theorem IsNext.pos {w l:List Int} {b:Nat} (hw:NN w) (hs:0 < w.sum) (hl:∀ i,0≤W l i) (h:IsNext w l w.length b):b < w.length∧0 < W w b:=by
  obtain ⟨k,h1,h2⟩:=exists_pos hw hs
  have a:=h.all k h1
  have l1:=hl b
  have l2:=hl k
  have p:0 < W w k * (W l b+1):=Int.mul_pos h2 (by omega)
  refine ⟨by have:=h.lt;omega,?_⟩
  rcases Int.lt_or_le 0 (W w b) with z|z
  · exact z
  · have:=hw b
    have e:W w b=0:=by omega
    rw [e,Int.zero_mul] at a;omega
end Go.Sim

namespace Go.Sim
def pick (p:Nat→Bool) (n:Nat):List Nat:=(List.range n).filter p
end Go.Sim

namespace Go.Sim
open Go Go.RowKit
section
variable {P:Program} {told:ToldF} {draw tie:Bool} {d:Option Tmp} {ty0:TypeId} {pos:String} {af:Array Edge} {gd:Option (Tmp × Bool)}
theorem flat_icells (L:List Int):L.flatMap icells=L.map (Value.int .i64):=by
  induction L with
  | nil=>rfl
  | cons x L ih=>rw [List.flatMap_cons,ih];rfl
theorem icells_flat_len (L:List Int):(L.flatMap icells).length=L.length:=by rw [flat_icells,List.length_map]
theorem icells_at {L:List Int} {i:Nat} (h:i < L.length):(L.flatMap icells)[i]? = some (.int .i64 (W L i)):=by
  rw [flat_icells,List.getElem?_map,W_at h];simp [h]
theorem setL_ic (L:List Int) (i:Nat) (x:Int):setL (L.flatMap icells) i (.int .i64 x)=(L.set i x).flatMap icells:=by
  rw [setL_eq,flat_icells,flat_icells,List.map_set]
theorem Own.icell {w:AW} {b:Nat} {e:TypeId} {L:List Int} (h:Own w b e (L.flatMap icells)) {i:Nat} (hi:i < L.length):w.cell? ⟨b,i,none⟩=some (.int .i64 (W L i)):=h.cell (icells_at hi) rfl
theorem Own.arr {α:Type} {w:AW} {b:Nat} {e:TypeId} {enc:α→List Value} {z:Nat} {L:List α} (h:Own w b e (L.flatMap enc)) (hz:∀ x,(enc x).length=z) (h1:∀ x,∀ v ∈ enc x,oneCell v=true) (hl:L.length≤140737488355328):ArrOf w z enc (.slice (some ⟨b,0,none⟩) L.length L.length) L:=by
  refine ⟨_,_,_,rfl,by simp,Nat.le_refl _,by omega,fun _=>⟨b,0,rfl,h.lt,fun i j r x hi hx=>?_⟩⟩
  rw [List.getElem?_map] at hi
  obtain ⟨y,hy,rfl⟩:=Option.map_eq_some_iff.mp hi
  have hj:j < z:=by
    rw [← hz y]
    rcases Nat.lt_or_ge j (enc y).length with q|q
    · exact q
    · rw [List.getElem?_eq_none q] at hx;cases hx
  rw [Nat.zero_add]
  have hx':(L.flatMap enc)[i * z+j]? = some x:=by rw [flatMap_get hz L i j y hy hj];exact hx
  exact h.cell hx' (h1 y x (List.mem_of_getElem? hx))
theorem Own.iarr {w:AW} {b:Nat} {e:TypeId} {L:List Int} (h:Own w b e (L.flatMap icells)) (hl:L.length≤140737488355328):ArrOf w 1 icells (.slice (some ⟨b,0,none⟩) L.length L.length) L:=h.arr icells_len icells_one hl
end
end Go.Sim

namespace Go.Sim
open Go Go.RowKit
end Go.Sim

namespace Go.Sim
open Go Go.RowKit
end Go.Sim
