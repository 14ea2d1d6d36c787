/- Sums shared out by the greatest quotient, and spread over dues: the numbers. Rows that are filled in place. -/
import Derived.Test.YtnbfkakjdifcpaaGreatNc
set_option linter.unusedVariables false
set_option linter.unusedSimpArgs false
namespace Go.Sim
def W (l:List Int) (i:Nat):Int:=l.getD i 0
theorem W_at {l:List Int} {i:Nat} (h:i < l.length):W l i=l[i]:=by simp [W,List.getD,h]
def NN (w:List Int):Prop:=∀ i,0≤W w i
end Go.Sim

namespace Go.Sim
def pick (p:Nat→Bool) (n:Nat):List Nat:=(List.range n).filter p
end Go.Sim

namespace Go.Sim
open Go Go.RowKit
section
variable {P:Program} {told:ToldF} {draw tie:Bool} {d:Option Tmp} {ty0:TypeId} {pos:String} {af:Array Edge} {gd:Option (Tmp × Bool)}
theorem flat_icells (L:List Int):L.flatMap icells=L.map (Value.int .i64):=by
  induction L with
  | nil=>rfl
  | cons x L ih=>rw [List.flatMap_cons,ih];rfl
theorem icells_flat_len (L:List Int):(L.flatMap icells).length=L.length:=by rw [flat_icells,List.length_map]
end
end Go.Sim

namespace Go.Sim
open Go Go.RowKit
theorem strike_same {me cls j i:Nat} {w:AW} {c:List Value} {e r z:Nat} (h:w.blk i=some (.cells c e r 0 z)):∃ c',(strike me cls w j).blk i=some (.cells c' e r 0 z)∧c'.length=c.length∧(i=me→c'=c):=by
  by_cases hij:i=j
  · subst hij
    unfold strike
    cases hb:Nat.beq i me with
    | true=>exact ⟨c,h,rfl,fun _=>rfl⟩
    | false =>
      have hne:i ≠ me:=fun q=>by rw [q,Nat.beq_refl] at hb;cases hb
      simp only [h]
      split
      · split
        · exact ⟨_,by rw [AW.blk_put _ _ _ _ (Trie.in_ _) (Trie.in_ _),if_pos rfl],by rw [setL_eq,List.length_set],fun q=>absurd q hne⟩
        · exact ⟨c,h,rfl,fun _=>rfl⟩
      · exact ⟨c,h,rfl,fun _=>rfl⟩
  · rw [strike_other hij];exact ⟨c,h,rfl,fun _=>rfl⟩
theorem strikes_same {me cls i e r z:Nat}:∀ (l:List Nat) {w:AW} {c:List Value},w.blk i=some (.cells c e r 0 z)→∃ c',(strikes me cls l w).blk i=some (.cells c' e r 0 z)∧c'.length=c.length∧(i=me→c'=c)
  | [],w,c,h=>⟨c,h,rfl,fun _=>rfl⟩
  | j :: l,w,c,h=>by
    obtain ⟨c1,h1,h2,h3⟩:=strike_same (me:=me) (cls:=cls) (j:=j) h
    obtain ⟨c2,k1,k2,k3⟩:=strikes_same (me:=me) (cls:=cls) l h1
    exact ⟨c2,k1,by omega,fun q=>by rw [k3 q,h3 q]⟩
end Go.Sim

namespace Go.Sim
open Go Go.RowKit
end Go.Sim
