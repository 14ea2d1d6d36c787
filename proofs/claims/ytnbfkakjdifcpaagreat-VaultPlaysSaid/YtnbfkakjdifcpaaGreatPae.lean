/- This program: its code, contracts, numbers, part 5. -/
import Derived.Test.YtnbfkakjdifcpaaGreatPaa
import Derived.Test.YtnbfkakjdifcpaaGreatNa
import Derived.Test.YtnbfkakjdifcpaaGreatPad
set_option linter.unusedVariables false
set_option linter.unusedSimpArgs false
namespace Go.Proofs
open Go Go.RowKit Go.Sim
set_option maxRecDepth 100000
def Tryz.s92:SC:=(.seq (.ops false [zo 4 (.assign (zk 0)) 3]) (.seq (.seq (.ops false [zo 5 (.assign (zk 0)) 3]) (.block 0 (.loop (.seq (.seq (.ops false [zo 6 (.move (zv 5)) 3,zo 7 (.move (zv 0)) 24,zo 8 (.call ⟨.builtin .len,⟨[(zv 7)]⟩,⟨[24]⟩⟩) 3,zo 9 (.binOp .lss 3 (zv 6) (zv 8) 3) 4]) (.cond (.tmp 9) .skip (.exit 0))) (.seq (.block 1 (.seq (.ops false [zo 12 (.move (zv 0)) 24,zo 13 (.move (zv 5)) 3,zo 14 (.indexAddr 24 (zv 12) (zv 13)) 0,zo 15 (.load 3 (zv 14)) 3,zo 16 (.move (zv 1)) 3,zo 17 (.binOp .eql 3 (zv 15) (zv 16) 3) 4]) (.cond (.tmp 17) (.seq (.ops false [zo 18 (.move (zv 5)) 3,zo 4 (.assign (zv 18)) 3]) .ret) .skip))) (.ops false [zo 10 (.move (zv 5)) 3,zo 11 (.binOp .add 3 (zv 10) (zk 1) 3) 3,zo 5 (.assign (zv 11)) 3])))))) (.seq (.ops false [zo 4 (.assign (.const (.int .i64 (-1)))) 3]) .ret)))
theorem Tryz.s92_eq:Tryz.f92.body.map sOf=some Tryz.s92:=by kernel_rfl
end Go.Proofs

namespace Go.Proofs
open Go Go.RowKit Go.Sim
set_option maxRecDepth 100000
end Go.Proofs

namespace Go.Proofs
open Go Go.RowKit Go.Sim
set_option maxRecDepth 100000
theorem natsL_app (L:List Nat) (x:Nat):(natsL (L++[x])).flatMap icells=(natsL L).flatMap icells++[.int .i64 (x:Int)]:=by
 unfold natsL
 rw[List.map_append,List.flatMap_append];rfl
theorem natsL_len (L:List Nat):(natsL L).length=L.length:=by simp[natsL]
theorem Tryz.bs24x1 (t:Tmps) (l:List (Nat × Operand)):makes (prg Tryz.prog) t (.buildSlice 24 1 ⟨l⟩)=bsQ 3 1 1 [.int .i64 0] (l.map fun p=>(p.1,ev t p.2)):=makes_bs Tryz.ty24 Tryz.ty3 rfl (by kernel_rfl)
attribute [go_sem] Tryz.bs24x1
def RowS (e:TypeId) (B:Nat) (w:AW) (v:Value) (L:List Nat):Prop:=AOwn B w e 1 v L.length ((natsL L).flatMap icells)
theorem RowS.arr {e B:Nat} {w:AW} {v:Value} {L:List Nat} (h:RowS e B w v L) (hl:L.length≤1048576):ArrOf w 1 icells v (natsL L):=by
 unfold RowS at h
 rw[← natsL_len L]at h
 exact AOwn.arr h icells_len (by rw[natsL_len];exact hl)
end Go.Proofs

namespace Go.Proofs
open Go Go.RowKit Go.Sim
set_option maxRecDepth 100000
def reachB (s:StrN) (goals g:Nat):Bool:=!decide (endR s g 1 &&& goals=0)
end Go.Proofs

namespace Go.Proofs
open Go Go.RowKit Go.Sim
set_option maxRecDepth 100000
def lessN (a b:Nat):Nat:=(BitVec.ofNat 64 a &&& ~~~BitVec.ofNat 64 b).toNat
def guardB (s:StrN) (goals g:Nat):Bool:=!reachB s goals (lessN (2 ^ s.staff.length - 1) g)
end Go.Proofs

namespace Go.Proofs
open Go Go.RowKit Go.Sim
theorem and_pow {a k:Nat}:a &&& 2 ^ k=0↔a.testBit k=false:=by
 constructor
 · intro h
   have:(a &&& 2 ^ k).testBit k=false:=by rw[h];simp
   rw[Nat.testBit_and,bit_pow.2 rfl,Bool.and_true]at this
   exact this
 · intro h
   apply Nat.eq_of_testBit_eq
   intro i
   rw[Nat.testBit_and,Nat.zero_testBit]
   cases q:(2 ^ k).testBit i with
   | false=>simp
   | true=>rw[← bit_pow.1 q,h];rfl
theorem reachB_iff {s:StrN} {k g:Nat}:reachB s (2 ^ k) g=true↔(endR s g 1).testBit k=true:=by
 unfold reachB
 rw[Bool.not_eq_true',decide_eq_false_iff_not,and_pow]
 cases (endR s g 1).testBit k <;> simp
end Go.Proofs

namespace Go.Proofs
open Go Go.RowKit Go.Sim
set_option maxRecDepth 100000
end Go.Proofs

namespace Go.Proofs
open Go Go.RowKit Go.Sim
set_option maxRecDepth 100000
end Go.Proofs

namespace Go.Proofs
open Go Go.RowKit Go.Sim
set_option maxRecDepth 100000
theorem nats_at {L:List Nat} {v:Value} {w:AW} (hv:ArrOf w 1 icells v (natsL L)):∃ p c,v=.slice p L.length c∧(L.length:Int)≤140737488355328∧∀ i (h:i < L.length),∃ b o,p=some ⟨b,o,none⟩∧∀ w',Keep w.next w w'→w'.cell? ⟨b,o+i,none⟩=some (.int .i64 (L[i]:Int)):=by
 obtain⟨p,c,rfl,h1,h2,hat⟩:=hv.open
 have hl:=natsL_len L
 refine⟨p,c,by rw[hl],by omega,fun i h=>?_⟩
 obtain⟨b,o,hp,_,hcell⟩:=hat i (by omega)
 refine⟨b,o,hp,fun w' k=>?_⟩
 have a0:=hcell w' k 0 _ rfl
 have hget:(natsL L)[i]'(by omega)=(L[i]:Int):=by simp[natsL]
 rw[Nat.add_zero,Nat.mul_one,hget]at a0
 exact a0
end Go.Proofs
