/- Sums shared out by the greatest quotient, and spread over dues: the numbers. Rows that are filled in place. -/
import Derived.Test.YtnbfkakjdifcpaaGreatNc
set_option linter.unusedVariables false
set_option linter.unusedSimpArgs false
namespace Go.Sim
def W (l:List Int) (i:Nat):Int:=l.getD i 0
theorem W_at {l:List Int} {i:Nat} (h:i < l.length):W l i=l[i]:=by simp[W,List.getD,h]
def pick (p:Nat->Bool) (n:Nat):List Nat:=(List.range n).filter p
end Go.Sim

namespace Go.Sim
open Go Go.RowKit
section
variable {P:Program} {told:ToldF} {draw tie:Bool} {d:Option Tmp} {ty0:TypeId} {pos:String} {af:Array Edge} {gd:Option (Tmp × Bool)}
theorem flat_icells (L:List Int):L.flatMap icells=L.map (Value.int .i64):=by
 induction L with
 | nil=>rfl
 | cons x L ih=>rw[List.flatMap_cons,ih];rfl
theorem icells_flat_len (L:List Int):(L.flatMap icells).length=L.length:=by rw[flat_icells,List.length_map]
end
end Go.Sim

namespace Go.Sim
open Go Go.RowKit
end Go.Sim
