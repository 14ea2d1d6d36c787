/- This program: its code, contracts, numbers, part 8. -/
import Derived.Test.YtnbfkakjdifcpaaGreatPab
import Derived.Test.YtnbfkakjdifcpaaGreatNa
import Derived.Test.YtnbfkakjdifcpaaGreatPae
import Derived.Test.YtnbfkakjdifcpaaGreatChecked
import Derived.Test.YtnbfkakjdifcpaaGreatPaf
import Derived.Test.YtnbfkakjdifcpaaGreatPag
import Derived.Test.YtnbfkakjdifcpaaGreatPaa
import Derived.Test.YtnbfkakjdifcpaaGreatNc
import Derived.Test.YtnbfkakjdifcpaaGreatProg
import Derived.Shelf.SlSortCmp.NoneTotal
import Derived.Ground.SlsfProg
import Derived.Lib.RowBridge
import Derived.Lib.SortBridge
import Derived.WalkKit
import Derived.Test.YtnbfkakjdifcpaaGreatPad
import Derived.Test.YtnbfkakjdifcpaaGreatRows
import Derived.ProofKit
import Derived.SizedLaws
set_option linter.unusedVariables false
set_option linter.unusedSimpArgs false
namespace Go.Proofs
open Go Go.RowKit Go.Sim
set_option maxRecDepth 100000
def Tryz.s4:SC:=(.seq (.ops false [zo 2 (.box 26 (zv 0)) 0,zo 3 (.box 36 (zv 1)) 0,zo 4 (.assign (.const (.bool false))) 4]) (.seq (.ops false [zo 12 (.load 26 (zv 2)) 26,zo 13 (.fieldAddr 36 (zv 3) 0) 0,zo 14 (.load 3 (zv 13)) 3,zo 15 (.fieldAddr 36 (zv 3) 1) 0,zo 16 (.load 3 (zv 15)) 3,zo 17 (.call ⟨.value (.func 22),⟨[(zv 12),(zv 14),(zv 16)]⟩,⟨[26,3,3]⟩⟩) 37,zo 11 (.move (zv 17)) 37,zo 18 (.extract (zv 11) 0) 24,zo 19 (.extract (zv 11) 1) 27,zo 5 (.assign (zv 18)) 24,zo 6 (.assign (zv 19)) 27]) (.seq (.ops false [zo 21 (.load 26 (zv 2)) 26,zo 22 (.fieldAddr 36 (zv 3) 0) 0,zo 23 (.load 3 (zv 22)) 3,zo 24 (.fieldAddr 36 (zv 3) 1) 0,zo 25 (.load 3 (zv 24)) 3,zo 26 (.call ⟨.value (.func 23),⟨[(zv 21),(zv 23),(zv 25)]⟩,⟨[26,3,3]⟩⟩) 37,zo 20 (.move (zv 26)) 37,zo 27 (.extract (zv 20) 0) 24,zo 28 (.extract (zv 20) 1) 27,zo 7 (.assign (zv 27)) 24,zo 8 (.assign (zv 28)) 27]) (.seq (.seq (.ops false [zo 29 (.move (zv 5)) 24,zo 30 (.move (zv 7)) 24,zo 31 (.call ⟨.value (.func 24),⟨[(zv 29),(zv 30)]⟩,⟨[24,24]⟩⟩) 4,zo 32 (.unOp .not 4 (zv 31)) 4,zo 33 (.move (zv 32)) 4,zg 34 (.move (zv 6)) 27 33 false,zg 35 (.move (zv 8)) 27 33 false,zg 36 (.binOp .neq 27 (zv 34) (zv 35) 27) 4 33 false,zo 37 (.pick (zv 33) (.const (.bool true)) (zv 36)) 4]) (.cond (.tmp 37) (.seq (.ops false [zo 4 (.assign (.const (.bool false))) 4]) .ret) .skip)) (.seq (.ops false [zo 39 (.load 26 (zv 2)) 26,zo 40 (.fieldAddr 36 (zv 3) 0) 0,zo 41 (.load 3 (zv 40)) 3,zo 42 (.fieldAddr 36 (zv 3) 2) 0,zo 43 (.load 24 (zv 42)) 24,zo 44 (.call ⟨.value (.func 25),⟨[(zv 39),(zv 41),(zv 43)]⟩,⟨[26,3,24]⟩⟩) 28,zo 38 (.move (zv 44)) 28,zo 45 (.extract (zv 38) 0) 3,zo 46 (.extract (zv 38) 1) 27,zo 9 (.assign (zv 45)) 3,zo 6 (.assign (zv 46)) 27]) (.seq (.ops false [zo 48 (.load 26 (zv 2)) 26,zo 49 (.fieldAddr 36 (zv 3) 0) 0,zo 50 (.load 3 (zv 49)) 3,zo 51 (.fieldAddr 36 (zv 3) 2) 0,zo 52 (.load 24 (zv 51)) 24,zo 53 (.call ⟨.value (.func 26),⟨[(zv 48),(zv 50),(zv 52)]⟩,⟨[26,3,24]⟩⟩) 28,zo 47 (.move (zv 53)) 28,zo 54 (.extract (zv 47) 0) 3,zo 55 (.extract (zv 47) 1) 27,zo 10 (.assign (zv 54)) 3,zo 8 (.assign (zv 55)) 27]) (.seq (.ops false [zo 56 (.move (zv 9)) 3,zo 57 (.move (zv 10)) 3,zo 58 (.binOp .eql 3 (zv 56) (zv 57) 3) 4,zo 59 (.move (zv 58)) 4,zg 60 (.move (zv 6)) 27 59 true,zg 61 (.move (zv 8)) 27 59 true,zg 62 (.binOp .eql 27 (zv 60) (zv 61) 27) 4 59 true,zo 63 (.pick (zv 59) (zv 62) (.const (.bool false))) 4,zo 64 (.move (zv 63)) 4,zg 65 (.call ⟨.value (.func 21),⟨[]⟩,⟨[]⟩⟩) 4 64 true,zo 66 (.pick (zv 64) (zv 65) (.const (.bool false))) 4,zo 4 (.assign (zv 66)) 4]) .ret)))))))
theorem Tryz.s4_eq:Tryz.f4.body.map sOf=some Tryz.s4:=by kernel_rfl
theorem Tryz.fa36x0 (t:Tmps) (w:AW) (x:Operand):fast (prg Tryz.prog) t w (.fieldAddr 36 x 0)=fieldOff (ev t x) 0:=fast_fieldAddr (fd := ⟨ "Group",3,0,false, "", "",0⟩) Tryz.ty36 rfl Tryz.ty3 rfl
attribute [go_sem] Tryz.fa36x0
theorem Tryz.fa36x1 (t:Tmps) (w:AW) (x:Operand):fast (prg Tryz.prog) t w (.fieldAddr 36 x 1)=fieldOff (ev t x) 1:=fast_fieldAddr (fd := ⟨ "Room",3,1,false, "", "",8⟩) Tryz.ty36 rfl Tryz.ty3 rfl
attribute [go_sem] Tryz.fa36x1
theorem Tryz.fa36x2 (t:Tmps) (w:AW) (x:Operand):fast (prg Tryz.prog) t w (.fieldAddr 36 x 2)=fieldOff (ev t x) 2:=fast_fieldAddr (fd := ⟨ "Way",24,2,false, "", "",16⟩) Tryz.ty36 rfl Tryz.ty24 rfl
attribute [go_sem] Tryz.fa36x2
theorem Tryz.undV36:Tryz.prog.underlying 36=some (.struct #[⟨ "Group",3,0,false, "", "",0⟩, ⟨ "Room",3,1,false, "", "",8⟩, ⟨ "Way",24,2,false, "", "",16⟩]):=by kernel_rfl
theorem given_trip {w:AW} {n:Nat} {v:Value} (h:HdV Tryz.prog w n 36 v):∃ (x room:Int) (p:Option Addr) (c:Nat) (L:List Int),v=.agg #[.int .i64 x,.int .i64 room,.slice p L.length c]/\ArrOf w 1 icells (.slice p L.length c) L:=by
 simp only[HdV,Tryz.undV36]at h
 obtain⟨cs,rfl,h⟩:=h
 cases n with
 | zero=>exact h.elim
 | succ n =>
  simp only[Hd,Tryz.undV36]at h
  obtain⟨parts,hc,hl,hp⟩:=h
  match parts,hl with
  | [p0,p1,p2],_ =>
   obtain⟨x,rfl⟩:=given_intV (hp 0 _ p0 rfl rfl)
   obtain⟨room,rfl⟩:=given_intV (hp 1 _ p1 rfl rfl)
   obtain⟨u,rfl,L,hL⟩:=given_intsW (hp 2 _ p2 rfl rfl)
   obtain⟨p,c,rfl,_⟩:=id hL.open
   refine⟨x,room,p,c,L,?_,hL⟩
   rw[show cs=cs.toList.toArray from rfl,hc];rfl
set_option maxHeartbeats 64000000 in
theorem ways_law (w:AW) (xs:List Value) (f:Fresh w) (h:HdAll Tryz.prog w [26,36] xs):CallT Tryz.prog Tryz.T1 (.fn (.func 4) #[]) xs.toArray w fun v _=>v=.bool true:=by
 cases h with
 | cons n1 h1 h =>
 cases h with
 | cons n2 h2 h =>
 cases h
 rename_i v1 v2
 obtain⟨s,pR,pG,pS,cR,cG,cS,rfl,hA⟩:=given_strong h1
 obtain⟨x,room,pL,cL,L,rfl,hL⟩:=given_trip h2
 clear h1 h2
 show CallT Tryz.prog Tryz.T1 (.fn (.func 4) #[]) #[.agg (strC pR pG pS cR cG cS s).toArray,.agg #[.int .i64 x,.int .i64 room,.slice pL L.length cL]] w _
 have hlen:=hA.len
 have g1:=(Grown.refl f).push (.cells (strC pR pG pS cR cG cS s) 26 w.next 0 0)
 have O1:=Own.new f 26 (strC pR pG pS cR cG cS s)
 have g2:=g1.push (.cells [.int .i64 x,.int .i64 room,.slice pL L.length cL] 36 (w.next+1) 0 0)
 have P1:=Own.new g1.2 36 [.int .i64 x,.int .i64 room,.slice pL L.length cL]
 rw[AW.next_push]at P1
 have O2:=O1.push (.cells [.int .i64 x,.int .i64 room,.slice pL L.length cL] 36 (w.next+1) 0 0)
 have hW:=fun w' (g':Grown w w')=>WayV22_ok s pR pG pS cR cG cS x room w' g'.2 (hA.grown g')
 have hWR:=fun w' (g':Grown w w')=>WayR23_ok s pR pG pS cR cG cS x room w' g'.2 (hA.grown g') hlen
 have hO:=fun w' (g':Grown w w')=>OpensV_ok s pR pG pS cR cG cS x L (.slice pL L.length cL) w' g'.2 (hA.grown g') (hL.grown g')
 have hOR:=fun w' (g':Grown w w')=>OpensR_ok s pR pG pS cR cG cS x L (.slice pL L.length cL) w' g'.2 (hA.grown g') hlen (hL.grown g')
 have l2:=loadAll O2 (n:=3) rfl (by simp[strC,oneCell])
 have p0:=P1.cell (o:=0) (v:=.int .i64 x) rfl rfl
 have p1:=P1.cell (o:=1) (v:=.int .i64 room) rfl rfl
 refine callT_code rfl Tryz.func4 rfl Tryz.s4_eq rfl ?_
 delta Tryz.s4 zo zg zv
 unfold strC at *
 simp -dsimp -implicitDefEqProofs (maxSteps:=2000000) (disch:=first|assumption|omega|simp only[nx];omega|(repeat apply zfp);assumption|simp only[smA];done|simp[oneCell,znp]) only[go_sem,l2,p0,p1,Nat.zero_add]
 generalize (w.push (.cells [.slice pR s.rooms.length cR,.slice pG s.gates.length cG,.slice pS s.staff.length cS] 26 w.next 0 0)).push (.cells [.int .i64 x,.int .i64 room,.slice pL L.length cL] 36 (w.next+1) 0 0)=w1 at *
 apply callV_of (e:=rfl)
 . exact hW w1 g2
 rintro _ w2 ⟨g3,pa,na,ca,rfl,hx⟩
 have gg2:=g2.trans g3
 have O3:=O2.keep g3.1
 have P3:=P1.keep g3.1
 have l3:=loadAll O3 (n:=3) rfl (by simp[oneCell])
 have q0:=P3.cell (o:=0) (v:=.int .i64 x) rfl rfl
 have q1:=P3.cell (o:=1) (v:=.int .i64 room) rfl rfl
 simp -dsimp -implicitDefEqProofs (maxSteps:=2000000) (disch:=first|assumption|omega|simp only[nx];omega|(repeat apply zfp);assumption|simp only[smA];done|simp[oneCell,znp]) only[go_sem,l3,q0,q1,Nat.zero_add]
 apply callV_of (e:=rfl)
 . exact hWR w2 gg2
 rintro _ w3 ⟨g4,pb,nb,cb,rfl,hy⟩
 have gg3:=gg2.trans g4
 have O4:=O3.keep g4.1
 have P4:=P3.keep g4.1
 have l4:=loadAll O4 (n:=3) rfl (by simp[oneCell])
 have r0:=P4.cell (o:=0) (v:=.int .i64 x) rfl rfl
 have r2:=P4.cell (o:=2) (v:=.slice pL L.length cL) rfl rfl
 simp -dsimp -implicitDefEqProofs (maxSteps:=2000000) (disch:=first|assumption|omega|simp only[nx];omega|(repeat apply zfp);assumption|simp only[smA];done|simp[oneCell,znp]) only[go_sem]
 apply callV_of (e:=rfl)
 . exact Same_ok (natsL (wayL s x room)) (natsL (wayL s x room)) _ _ w3 (hx.grown g4) hy
 rintro _ _ ⟨rfl,rfl⟩
 have d1:decide (natsL (wayL s x room)=natsL (wayL s x room))=true:=decide_eq_true rfl
 have d2:decide (wayE s x room=wayE s x room)=true:=decide_eq_true rfl
 simp -dsimp -implicitDefEqProofs (maxSteps:=2000000) (disch:=first|assumption|omega|simp only[nx];omega|(repeat apply zfp);assumption|simp only[smA];done|simp[oneCell,znp]) only[go_sem,d1,d2,l4,r0,r2,Nat.zero_add]
 apply callV_of (e:=rfl)
 . exact hO w3 gg3
 rintro _ w4 ⟨rfl,g5⟩
 have gg4:=gg3.trans g5
 have O5:=O4.keep g5.1
 have P5:=P4.keep g5.1
 have l5:=loadAll O5 (n:=3) rfl (by simp[oneCell])
 have s0:=P5.cell (o:=0) (v:=.int .i64 x) rfl rfl
 have s2:=P5.cell (o:=2) (v:=.slice pL L.length cL) rfl rfl
 simp -dsimp -implicitDefEqProofs (maxSteps:=2000000) (disch:=first|assumption|omega|simp only[nx];omega|(repeat apply zfp);assumption|simp only[smA];done|simp[oneCell,znp]) only[go_sem,l5,s0,s2,Nat.zero_add]
 apply callV_of (e:=rfl)
 . exact hOR w4 gg4
 rintro _ w5 ⟨rfl,g6⟩
 have d3:decide (opeN s x L=opeN s x L)=true:=decide_eq_true rfl
 have d4:decide (opeE s x L=opeE s x L)=true:=decide_eq_true rfl
 simp -dsimp -implicitDefEqProofs (maxSteps:=2000000) (disch:=first|assumption|omega|simp only[nx];omega|(repeat apply zfp);assumption|simp only[smA];done|simp[oneCell,znp]) only[go_sem,d3,d4]
 apply callV_of (e:=rfl)
 . exact callT_told (Q:=fun v w'=>v=.bool true/\w5=w') (v:=.bool true) (w':=w5) rfl ⟨rfl,rfl⟩
 rintro _ _ ⟨rfl,rfl⟩
 simp -dsimp -implicitDefEqProofs (maxSteps:=2000000) (disch:=first|assumption|omega|simp only[nx];omega|(repeat apply zfp);assumption|simp only[smA];done|simp[oneCell,znp]) only[go_sem]
def Tryz.s95:SC:=(.seq (.ops false [zo 4 (.assign (zk 0)) 3]) (.seq (.ops false [zo 5 (.move (zv 0)) 77,zo 6 (.call ⟨.value (.func 98),⟨[(zv 5)]⟩,⟨[77]⟩⟩) 3,zo 7 (.move (zv 1)) 77,zo 8 (.call ⟨.value (.func 98),⟨[(zv 7)]⟩,⟨[77]⟩⟩) 3,zo 9 (.call ⟨.value (.func 97),⟨[(zv 6),(zv 8)]⟩,⟨[3,3]⟩⟩) 3,zo 10 (.move (zv 0)) 77,zo 11 (.move (zv 1)) 77,zo 12 (.call ⟨.value (.func 99),⟨[(zv 10),(zv 11)]⟩,⟨[77,77]⟩⟩) 3,zo 13 (.buildSlice 24 2 ⟨[(0,(zv 9)),(1,(zv 12))]⟩) 24,zo 14 (.call ⟨.value (.func 96),⟨[(zv 13)]⟩,⟨[24]⟩⟩) 3,zo 4 (.assign (zv 14)) 3]) .ret))
def Tryz.s96:SC:=(.seq (.ops false [zo 2 (.assign (zk 0)) 3]) (.seq (.ops false [zo 3 (.assign (zk 0)) 3]) (.seq (.seq (.ops false [zo 6 (.move (zv 0)) 24,zo 7 (.call ⟨.builtin .len,⟨[(zv 6)]⟩,⟨[24]⟩⟩) 3,zo 8 (.move (zk 0)) 3]) (.block 0 (.loop (.seq (.ops false [zo 9 (.binOp .lss 3 (zv 8) (zv 7) 3) 0]) (.seq (.cond (.tmp 9) .skip (.exit 0)) (.seq (.block 1 (.seq (.ops false [zo 10 (.indexAddr 24 (zv 6) (zv 8)) 0,zo 11 (.load 3 (zv 10)) 3,zo 5 (.assign (zv 11)) 3]) (.seq (.ops false [zo 12 (.move (zv 5)) 3,zo 13 (.move (zv 3)) 3,zo 14 (.binOp .neq 3 (zv 12) (zv 13) 3) 4]) (.cond (.tmp 14) (.seq (.ops false [zo 15 (.move (zv 5)) 3,zo 2 (.assign (zv 15)) 3]) .ret) .skip)))) (.ops false [zo 16 (.binOp .add 3 (zv 8) (zk 1) 3) 3,zo 8 (.move (zv 16)) 3]))))))) (.seq (.ops false [zo 17 (.move (zv 3)) 3,zo 2 (.assign (zv 17)) 3]) .ret))))
def Tryz.s97:SC:=(.seq (.ops false [zo 4 (.assign (zk 0)) 3]) (.seq (.ops false [zo 7 (.move (zv 0)) 3,zo 8 (.call ⟨.value (.func 117),⟨[(zv 7)]⟩,⟨[3]⟩⟩) 4,zo 5 (.assign (zv 8)) 4]) (.seq (.ops false [zo 9 (.move (zv 1)) 3,zo 10 (.call ⟨.value (.func 117),⟨[(zv 9)]⟩,⟨[3]⟩⟩) 4,zo 6 (.assign (zv 10)) 4]) (.seq (.seq (.ops false [zo 11 (.move (zv 5)) 4]) (.cond (.tmp 11) (.seq (.seq (.ops false [zo 12 (.move (zv 6)) 4]) (.cond (.tmp 12) (.seq (.ops false [zo 4 (.assign (zk 0)) 3]) .ret) .skip)) (.seq (.ops false [zo 4 (.assign (.const (.int .i64 (-1)))) 3]) .ret)) .skip)) (.seq (.seq (.ops false [zo 13 (.move (zv 6)) 4]) (.cond (.tmp 13) (.seq (.ops false [zo 4 (.assign (zk 1)) 3]) .ret) .skip)) (.seq (.seq (.ops false [zo 14 (.move (zv 0)) 3,zo 15 (.move (zv 1)) 3,zo 16 (.binOp .lss 3 (zv 14) (zv 15) 3) 4]) (.cond (.tmp 16) (.seq (.ops false [zo 4 (.assign (.const (.int .i64 (-1)))) 3]) .ret) .skip)) (.seq (.seq (.ops false [zo 17 (.move (zv 0)) 3,zo 18 (.move (zv 1)) 3,zo 19 (.binOp .gtr 3 (zv 17) (zv 18) 3) 4]) (.cond (.tmp 19) (.seq (.ops false [zo 4 (.assign (zk 1)) 3]) .ret) .skip)) (.seq (.ops false [zo 4 (.assign (zk 0)) 3]) .ret))))))))
def Tryz.s99:SC:=(.seq (.ops false [zo 4 (.assign (zk 0)) 3]) (.seq (.ops false [zo 7 (.move (zv 0)) 77,zo 8 (.call ⟨.value (.func 119),⟨[(zv 7)]⟩,⟨[77]⟩⟩) 4,zo 5 (.assign (zv 8)) 4]) (.seq (.ops false [zo 9 (.move (zv 1)) 77,zo 10 (.call ⟨.value (.func 119),⟨[(zv 9)]⟩,⟨[77]⟩⟩) 4,zo 6 (.assign (zv 10)) 4]) (.seq (.seq (.ops false [zo 11 (.move (zv 5)) 4]) (.cond (.tmp 11) (.seq (.seq (.ops false [zo 12 (.move (zv 6)) 4]) (.cond (.tmp 12) (.seq (.ops false [zo 4 (.assign (zk 0)) 3]) .ret) .skip)) (.seq (.ops false [zo 4 (.assign (.const (.int .i64 (-1)))) 3]) .ret)) .skip)) (.seq (.seq (.ops false [zo 13 (.move (zv 6)) 4]) (.cond (.tmp 13) (.seq (.ops false [zo 4 (.assign (zk 1)) 3]) .ret) .skip)) (.seq (.seq (.ops false [zo 14 (.move (zv 0)) 77,zo 15 (.move (zv 1)) 77,zo 16 (.binOp .lss 77 (zv 14) (zv 15) 77) 4]) (.cond (.tmp 16) (.seq (.ops false [zo 4 (.assign (.const (.int .i64 (-1)))) 3]) .ret) .skip)) (.seq (.seq (.ops false [zo 17 (.move (zv 0)) 77,zo 18 (.move (zv 1)) 77,zo 19 (.binOp .gtr 77 (zv 17) (zv 18) 77) 4]) (.cond (.tmp 19) (.seq (.ops false [zo 4 (.assign (zk 1)) 3]) .ret) .skip)) (.seq (.ops false [zo 4 (.assign (zk 0)) 3]) .ret))))))))
def Tryz.s117:SC:=(.seq (.ops false [zo 2 (.assign (.const (.bool false))) 4]) (.seq (.ops false [zo 3 (.move (zv 0)) 3,zo 4 (.move (zv 0)) 3,zo 5 (.binOp .neq 3 (zv 3) (zv 4) 3) 4,zo 2 (.assign (zv 5)) 4]) .ret))
def Tryz.s119:SC:=(.seq (.ops false [zo 2 (.assign (.const (.bool false))) 4]) (.seq (.ops false [zo 3 (.move (zv 0)) 77,zo 4 (.move (zv 0)) 77,zo 5 (.binOp .neq 77 (zv 3) (zv 4) 77) 4,zo 2 (.assign (zv 5)) 4]) .ret))
theorem Tryz.s95_eq:Tryz.f95.body.map sOf=some Tryz.s95:=by kernel_rfl
theorem Tryz.s96_eq:Tryz.f96.body.map sOf=some Tryz.s96:=by kernel_rfl
theorem Tryz.s97_eq:Tryz.f97.body.map sOf=some Tryz.s97:=by kernel_rfl
theorem Tryz.s99_eq:Tryz.f99.body.map sOf=some Tryz.s99:=by kernel_rfl
theorem Tryz.s117_eq:Tryz.f117.body.map sOf=some Tryz.s117:=by kernel_rfl
theorem Tryz.s119_eq:Tryz.f119.body.map sOf=some Tryz.s119:=by kernel_rfl
end Go.Proofs

namespace Go.Sim
open Go Go.RowKit
theorem calls_flat {P:Program} (hP:Fit P) (hfol:P.follows .mixedOrders=true) {told:ToldF} (ht:∀ N,ToldOk P N told) {f:FuncId} {l:List Value} {v:Value} (hno:told f (l.toArray++#[]) .empty=none) (hl:flat.flats 6 l=true) (hv:flat 6 v=true)
    (h:CallT P told (.fn (.func f) #[]) l.toArray .empty fun u _=>u=v) (W:World):Calls P f l.toArray W fun e W'=>e=.returned v/\BelowD W.heap.size W W':=by
 obtain⟨N,u,w1,hh,rfl⟩:=h
 have h1:=hh N (N+1) (Nat.le_refl _) (by omega)
 have hno':told f l.toArray .empty=none:=by simpa using hno
 simp only[acall,Array.append_empty,hno']at h1
 intro cs
 have ha:ARel (fun _=>none) l.toArray l.toArray:=ARel.iff.2 (by simpa using flats_self (flat_self 6) hl _)
 obtain⟨σ',v',W',fr,s,hf,hlv,e,r⟩:=enter_leaves hP hfol (call_ok hP hfol (ht W.heap.size) N) (call_pan hP hfol (ht W.heap.size) N) h1 cs (WRel.empty W) (args':=l.toArray) ha
 have:=flat_eq 6 u hv σ' v' r
 subst this
 exact⟨.returned v',W',fr,⟨rfl,e.below⟩,s,hf,hlv⟩
theorem grown_of {W W':World} (h:BelowD W.heap.size W W'):∃ q os,W'=Go.Sort.grow (W.drewN q) os:=by
 obtain⟨⟨h1,h2,h3,h4,h5⟩,h6⟩:=h
 refine⟨W'.drawn - W.drawn,W'.heap.extract W.heap.size W'.heap.size,?_⟩
 obtain⟨hp,tp,dr,os,out⟩:=W
 obtain⟨hp',tp',dr',os',out'⟩:=W'
 simp only at *
 subst h1 h2 h3
 have e1:hp'=hp++hp'.extract hp.size hp'.size:=by
  apply Array.ext_getElem?
  intro k
  rw[Array.getElem?_append]
  split
  . rename_i hk
    exact h5 k hk
  · rename_i hk
    rw[Array.getElem?_extract]
    split
    . congr 1;omega
    . rename_i hk2
      rw[Array.getElem?_eq_none (by omega)]
 have e2:dr+(dr' - dr)=dr':=by omega
 simp only[Go.Sort.grow,World.drewN,<- e1,e2]
end Go.Sim

namespace Go.Proofs
open Go Go.RowKit Go.Sim
set_option maxRecDepth 100000
def Tryz.T0c:ToldF:=toldTab Tryz.lenTab (toldTab Tryz.popTab (toldTrue 21 fun _ _ _=>none))
def cmpI (a b:Int):Int:=if a < b then -1 else if b < a then 1 else 0
theorem isNaN_ok (x:Int) (w:AW):CallT Tryz.prog Tryz.T0c (.fn (.func 117) #[]) #[.int .i64 x] w (Ret (.bool false) fun w'=>w=w'):=by
 have d1:decide (x=x)=true:=decide_eq_true rfl
 refine callT_code rfl Tryz.func117 rfl Tryz.s117_eq rfl ?_
 delta Tryz.s117 zo zv
 simp -dsimp -implicitDefEqProofs (maxSteps:=2000000) (disch:=first|assumption|omega|simp only[nx];omega|(repeat apply zfp);assumption|simp only[smA];done|simp[oneCell,znp]) only[go_sem,d1]
 exact⟨rfl,rfl⟩
theorem isNaNP_ok (x:Int) (w:AW):CallT Tryz.prog Tryz.T0c (.fn (.func 119) #[]) #[.int .i64 x] w (Ret (.bool false) fun w'=>w=w'):=by
 have d1:decide (x=x)=true:=decide_eq_true rfl
 refine callT_code rfl Tryz.func119 rfl Tryz.s119_eq rfl ?_
 delta Tryz.s119 zo zv
 simp -dsimp -implicitDefEqProofs (maxSteps:=2000000) (disch:=first|assumption|omega|simp only[nx];omega|(repeat apply zfp);assumption|simp only[smA];done|simp[oneCell,znp]) only[go_sem,d1]
 exact⟨rfl,rfl⟩
theorem compare_ok (a b:Int) (w:AW):CallT Tryz.prog Tryz.T0c (.fn (.func 97) #[]) #[.int .i64 a,.int .i64 b] w (Ret (.int .i64 (cmpI a b)) fun w'=>w=w'):=by
 refine callT_code rfl Tryz.func97 rfl Tryz.s97_eq rfl ?_
 delta Tryz.s97 zo zv zk
 simp -dsimp -implicitDefEqProofs (maxSteps:=2000000) (disch:=first|assumption|omega|simp only[nx];omega|(repeat apply zfp);assumption|simp only[smA];done|simp[oneCell,znp]) only[go_sem]
 apply callV_of (e:=rfl)
 . exact isNaN_ok _ w
 rintro _ _ ⟨rfl,rfl⟩
 simp -dsimp -implicitDefEqProofs (maxSteps:=2000000) (disch:=first|assumption|omega|simp only[nx];omega|(repeat apply zfp);assumption|simp only[smA];done|simp[oneCell,znp]) only[go_sem]
 apply callV_of (e:=rfl)
 . exact isNaN_ok _ w
 rintro _ _ ⟨rfl,rfl⟩
 by_cases h1:a < b
 . simp -dsimp -implicitDefEqProofs (maxSteps:=2000000) (disch:=first|assumption|omega|simp only[nx];omega|(repeat apply zfp);assumption|simp only[smA];done|simp[oneCell,znp]) only[go_sem,h1]
   exact⟨by unfold cmpI;rw[if_pos h1],rfl⟩
 by_cases h2:b < a
 . have h2':a > b:=h2
   simp -dsimp -implicitDefEqProofs (maxSteps:=2000000) (disch:=first|assumption|omega|simp only[nx];omega|(repeat apply zfp);assumption|simp only[smA];done|simp[oneCell,znp]) only[go_sem,h1,h2,h2']
   exact⟨by unfold cmpI;rw[if_neg h1,if_pos h2],rfl⟩
 . have h2':¬ a > b:=h2
   simp -dsimp -implicitDefEqProofs (maxSteps:=2000000) (disch:=first|assumption|omega|simp only[nx];omega|(repeat apply zfp);assumption|simp only[smA];done|simp[oneCell,znp]) only[go_sem,h1,h2,h2']
   exact⟨by unfold cmpI;rw[if_neg h1,if_neg h2],rfl⟩
theorem compareP_ok (a b:Int) (w:AW):CallT Tryz.prog Tryz.T0c (.fn (.func 99) #[]) #[.int .i64 a,.int .i64 b] w (Ret (.int .i64 (cmpI a b)) fun w'=>w=w'):=by
 refine callT_code rfl Tryz.func99 rfl Tryz.s99_eq rfl ?_
 delta Tryz.s99 zo zv zk
 simp -dsimp -implicitDefEqProofs (maxSteps:=2000000) (disch:=first|assumption|omega|simp only[nx];omega|(repeat apply zfp);assumption|simp only[smA];done|simp[oneCell,znp]) only[go_sem]
 apply callV_of (e:=rfl)
 . exact isNaNP_ok _ w
 rintro _ _ ⟨rfl,rfl⟩
 simp -dsimp -implicitDefEqProofs (maxSteps:=2000000) (disch:=first|assumption|omega|simp only[nx];omega|(repeat apply zfp);assumption|simp only[smA];done|simp[oneCell,znp]) only[go_sem]
 apply callV_of (e:=rfl)
 . exact isNaNP_ok _ w
 rintro _ _ ⟨rfl,rfl⟩
 by_cases h1:a < b
 . simp -dsimp -implicitDefEqProofs (maxSteps:=2000000) (disch:=first|assumption|omega|simp only[nx];omega|(repeat apply zfp);assumption|simp only[smA];done|simp[oneCell,znp]) only[go_sem,h1]
   exact⟨by unfold cmpI;rw[if_pos h1],rfl⟩
 by_cases h2:b < a
 . have h2':a > b:=h2
   simp -dsimp -implicitDefEqProofs (maxSteps:=2000000) (disch:=first|assumption|omega|simp only[nx];omega|(repeat apply zfp);assumption|simp only[smA];done|simp[oneCell,znp]) only[go_sem,h1,h2,h2']
   exact⟨by unfold cmpI;rw[if_neg h1,if_pos h2],rfl⟩
 . have h2':¬ a > b:=h2
   simp -dsimp -implicitDefEqProofs (maxSteps:=2000000) (disch:=first|assumption|omega|simp only[nx];omega|(repeat apply zfp);assumption|simp only[smA];done|simp[oneCell,znp]) only[go_sem,h1,h2,h2']
   exact⟨by unfold cmpI;rw[if_neg h1,if_neg h2],rfl⟩
theorem sizeT_ok (x:Nat) (h:x < 64) (w:AW):CallT Tryz.prog Tryz.T0c (.fn (.func 98) #[]) #[.int .i64 (x:Int)] w (Ret (.int .i64 (popN x:Int)) fun w'=>w=w'):=by
 refine callT_told (v:=.int .i64 (popN x:Int)) (w':=w) ?_ ⟨rfl,rfl⟩
 show (match tabArg Tryz.popTab [.int Tryz.popTab.k (x:Int)] with|some x=>some (Tryz.popTab.g x,w)|none=>none)=_
 rw[tabArg_at (s:=Tryz.popTab) (.inl rfl) h]
 rfl
def orI (a b:Int):Int:=if a=0 then b else a
theorem or_ok (a b:Int) (bk:Nat) (w:AW) (h:Own w bk 3 [.int .i64 a,.int .i64 b]):CallT Tryz.prog Tryz.T0c (.fn (.func 96) #[]) #[.slice (some ⟨bk,0,none⟩) 2 2] w (Ret (.int .i64 (orI a b)) fun w'=>w=w'):=by
 have c0:=h.cell (o:=0) rfl rfl
 have c1:=h.cell (o:=1) rfl rfl
 refine callT_code rfl Tryz.func96 rfl Tryz.s96_eq rfl ?_
 delta Tryz.s96 zo zv zk
 simp -dsimp -implicitDefEqProofs (maxSteps:=2000000) (disch:=first|assumption|omega|simp only[nx];omega|(repeat apply zfp);assumption|simp only[smA];done|simp[oneCell,znp]) only[go_sem]
 refine loopR (fun k t ds w1=>∃ i:Nat,i≤2/\k=2 - i/\ds=[]/\ev t (.tmp 3)=.int .i64 0/\ev t (.tmp 6)=.slice (some ⟨bk,0,none⟩) 2 2/\ev t (.tmp 7)=.int .i64 2/\ev t (.tmp 8)=.int .i64 (i:Int)/\(1≤i->a=0)/\(2≤i->b=0)/\w=w1) (2) ?_ ?_
 . refine⟨0,by omega,by omega,rfl,?_,?_,?_,?_,fun h=>by omega,fun h=>by omega,rfl⟩ <;> simp -dsimp -implicitDefEqProofs (maxSteps:=2000000) (disch:=first|assumption|omega|simp only[nx];omega|(repeat apply zfp);assumption|simp only[smA];done|simp[oneCell,znp]) only[go_sem] <;> rfl
 rintro k t ds w1 ⟨i,hii,rfl,rfl,e3,e6,e7,e8,hz,hw⟩
 obtain⟨hz2,rfl⟩:=hw
 rcases Nat.lt_or_ge i 2 with hlt|hge
 case inr =>
  obtain rfl:i=2:=by omega
  have hlI:¬ ((2:Nat):Int) < 2:=by omega
  have ha:=hz (by omega)
  have hb:=hz2 (by omega)
  simp -dsimp -implicitDefEqProofs (maxSteps:=2000000) (disch:=first|assumption|omega|simp only[nx];omega|(repeat apply zfp);assumption|simp only[smA];done|simp[oneCell,znp]) only[go_sem,e3,e6,e7,e8,hlI]
  exact⟨by rw[ha,hb];rfl,rfl⟩
 have hlI:(i:Int) < 2:=by omega
 have hl0:(i:Int) < ((2:Nat):Int):=by omega
 obtain⟨v,hv⟩:∃ v,v=if i=0 then a else b:=⟨_,rfl⟩
 have ci:w.cell? ⟨bk,i,none⟩=some (.int .i64 v):=by
  rw[hv]
  rcases Nat.eq_zero_or_pos i with h0|h0
  . rw[if_pos h0,h0];exact c0
  . obtain h1:i=1:=by omega
    rw[if_neg (by omega),h1];exact c1
 by_cases h0:v=0
 · have hd:decide (v=0)=true:=decide_eq_true h0
   simp -dsimp -implicitDefEqProofs (maxSteps:=2000000) (disch:=first|assumption|omega|simp only[nx];omega|(repeat apply zfp);assumption|simp only[smA];done|simp[oneCell,znp]) only[go_sem,e3,e6,e7,e8,hlI,hl0,indexV_eq,Nat.zero_add,Nat.mul_one,ci,hd]
   have n1:1≤i+1->a=0:=fun _=>by
    rcases Nat.eq_zero_or_pos i with q|q
    . rw[if_pos q]at hv;omega
    . exact hz q
   have n2:2≤i+1->b=0:=fun _=>by
    rw[if_neg (by omega)]at hv;omega
   refine⟨_,by omega,i+1,by omega,rfl,rfl,by(simp only[go_sem,e3];try rfl),by(simp only[go_sem,e6];try rfl),by(simp only[go_sem,e7];try rfl),by(simp only[go_sem,e8];try rfl),n1,n2,rfl⟩
 . have hd:decide (v=0)=false:=decide_eq_false h0
   simp -dsimp -implicitDefEqProofs (maxSteps:=2000000) (disch:=first|assumption|omega|simp only[nx];omega|(repeat apply zfp);assumption|simp only[smA];done|simp[oneCell,znp]) only[go_sem,e3,e6,e7,e8,hlI,hl0,indexV_eq,Nat.zero_add,Nat.mul_one,ci,hd]
   refine⟨?_,rfl⟩
   unfold orI
   rcases Nat.eq_zero_or_pos i with q|q
   . rw[if_pos q]at hv;rw[if_neg (by omega),hv]
   . rw[if_neg (by omega)]at hv;rw[if_pos (hz q),hv]
theorem Tryz.bs24x2 (t:Tmps) (l:List (Nat × Operand)):makes (prg Tryz.prog) t (.buildSlice 24 2 ⟨l⟩)=bsQ 3 2 1 [.int .i64 0,.int .i64 0] (l.map fun p=>(p.1,ev t p.2)):=makes_bs Tryz.ty24 Tryz.ty3 rfl (by kernel_rfl)
theorem cmpN_is (x y:Nat):orI (cmpI (popN x:Int) (popN y:Int)) (cmpI (x:Int) (y:Int))=cmpN x y:=by
 unfold orI cmpI cmpN
 repeat' split
 all_goals omega
theorem cmpSets_ok (x y:Nat) (hx:x < 64) (hy:y < 64) (w:AW) (f:Fresh w):CallT Tryz.prog Tryz.T0c (.fn (.func 95) #[]) #[.int .i64 (x:Int),.int .i64 (y:Int)] w fun v _=>v=.int .i64 (cmpN x y):=by
 refine callT_code rfl Tryz.func95 rfl Tryz.s95_eq rfl ?_
 delta Tryz.s95 zo zv zk
 simp -dsimp -implicitDefEqProofs (maxSteps:=2000000) (disch:=first|assumption|omega|simp only[nx];omega|(repeat apply zfp);assumption|simp only[smA];done|simp[oneCell,znp]) only[go_sem]
 apply callV_of (e:=rfl)
 . exact sizeT_ok x hx w
 rintro _ _ ⟨rfl,rfl⟩
 simp -dsimp -implicitDefEqProofs (maxSteps:=2000000) (disch:=first|assumption|omega|simp only[nx];omega|(repeat apply zfp);assumption|simp only[smA];done|simp[oneCell,znp]) only[go_sem]
 apply callV_of (e:=rfl)
 . exact sizeT_ok y hy w
 rintro _ _ ⟨rfl,rfl⟩
 simp -dsimp -implicitDefEqProofs (maxSteps:=2000000) (disch:=first|assumption|omega|simp only[nx];omega|(repeat apply zfp);assumption|simp only[smA];done|simp[oneCell,znp]) only[go_sem]
 apply callV_of (e:=rfl)
 . exact compare_ok _ _ w
 rintro _ _ ⟨rfl,rfl⟩
 simp -dsimp -implicitDefEqProofs (maxSteps:=2000000) (disch:=first|assumption|omega|simp only[nx];omega|(repeat apply zfp);assumption|simp only[smA];done|simp[oneCell,znp]) only[go_sem]
 apply callV_of (e:=rfl)
 . exact compareP_ok _ _ w
 rintro _ _ ⟨rfl,rfl⟩
 simp -dsimp -implicitDefEqProofs (maxSteps:=2000000) (disch:=first|assumption|omega|simp only[nx];omega|(repeat apply zfp);assumption|simp only[smA];done|simp[oneCell,znp]) only[go_sem,Tryz.bs24x2,bsQ_21]
 apply callV_of (e:=rfl)
 . exact or_ok _ _ w.next _ (Own.new f 3 [.int .i64 (cmpI (popN x:Int) (popN y:Int)),.int .i64 (cmpI (x:Int) (y:Int))])
 rintro _ _ ⟨rfl,rfl⟩
 simp -dsimp -implicitDefEqProofs (maxSteps:=2000000) (disch:=first|assumption|omega|simp only[nx];omega|(repeat apply zfp);assumption|simp only[smA];done|simp[oneCell,znp]) only[go_sem]
 rw[cmpN_is]
end Go.Proofs

namespace Go.Sim
open Go Go.RowKit
variable {P:Program} {N F:Nat}
inductive GDat where
 | flat (v:Value)
 | sl (n c:Nat) (cells:List GDat)
 | agg (ds:List GDat)
def matchCells (m:GDat->Value->Bool) (w:AW) (b:Nat):List GDat->Nat->Bool
 | [],_=>true
 | d :: l,o=>match w.cell? ⟨b,o,none⟩ with
  | some u=>m d u && matchCells m w b l (o+1)
  | none=>false
def matchAll (m:GDat->Value->Bool):List GDat->List Value->Bool
 | [],[]=>true
 | d :: l,v :: r=>m d v && matchAll m l r
 | _,_=>false
def zeroZ (w:AW) (b:Nat):Bool :=
 match w.blk b with
 | some (.cells _ _ _ _ 0)|some (.given _)=>true
 | _=>false
def matchV (w:AW):Nat->GDat->Value->Bool
 | 0,_,_=>false
 | k+1,d,v=>match d,v with
  | .flat u,v=>flat 6 u && same 12 u v
  | .sl n c cells,.slice (some ⟨b,o,none⟩) n' c'=>Nat.beq n n' && Nat.beq c c' && Nat.blt 0 c && zeroZ w b && matchCells (matchV w k) w b cells o
  | .agg ds,.agg cs=>matchAll (matchV w k) ds cs.toList
  | _,_=>false
def giveAll (g:GDat->AW->Value × AW):List GDat->AW->List Value × AW
 | [],w=>([],w)
 | d :: l,w=>match g d w with
  | (u,w1)=>match giveAll g l w1 with
   | (us,w2)=>(u :: us,w2)
def giveV:Nat->GDat->AW->Value × AW
 | 0,_,w=>(undef,w)
 | k + 1,d,w=>match d with
  | .flat u=>(u,w)
  | .sl n c cells=>match giveAll (giveV k) cells w with
   | (us,w1)=>(.slice (some ⟨w1.next,0,none⟩) n c,w1.push (.given us))
  | .agg ds=>match giveAll (giveV k) ds w with
   | (us,w1)=>(.agg us.toArray,w1)
def GiveOk (W:World) (m:GDat->Value->Bool) (g:GDat->AW->Value × AW) (σ:Emb):Prop :=
 ∀ d v v',m d v=true->VRel σ v v'->∀ (σ0:Emb) (w0:AW),WRel W.heap.size σ0 w0 W->∃ σ1:Emb,σ0.le σ1/\WRel W.heap.size σ1 (g d w0).2 W/\VRel σ1 (g d w0).1 v'
theorem giveAll_ok {W:World} {m:GDat->Value->Bool} {g:GDat->AW->Value × AW} {σ:Emb} (h:GiveOk W m g σ):∀ (ds:List GDat) (vs vs':List Value),matchAll m ds vs=true->LRel σ vs vs'->∀ (σ0:Emb) (w0:AW),WRel W.heap.size σ0 w0 W ->
    ∃ σ1:Emb,σ0.le σ1/\WRel W.heap.size σ1 (giveAll g ds w0).2 W/\LRel σ1 (giveAll g ds w0).1 vs'
 | [],[],vs',_,hr,σ0,w0,hw=>by
  cases hr
  exact⟨σ0,.refl _,hw,.nil⟩
 | d :: l,v :: r,vs',hm,hr,σ0,w0,hw=>by
  cases hr with
  | cons h1 h2 =>
   simp only[matchAll,Bool.and_eq_true]at hm
   obtain⟨σ1,a1,a2,a3⟩:=h d v _ hm.1 h1 σ0 w0 hw
   obtain⟨σ2,b1,b2,b3⟩:=giveAll_ok h l r _ hm.2 h2 σ1 _ a2
   exact⟨σ2,a1.trans b1,b2,.cons (a3.mono b1) b3⟩
 | [],_ :: _,_,h,_,_,_,_=>by simp[matchAll]at h
 | _ :: _,[],_,h,_,_,_,_=>by simp[matchAll]at h
theorem cells_list {W:World} {w:AW} {σ:Emb} {N:Nat} (hw:WRel N σ w W) {m:GDat->Value->Bool} {b:Nat} {x:Loc} (hb:σ b=some x):∀ (ds:List GDat) (o:Nat),matchCells m w b ds o=true ->
    ∃ vs vs':List Value,matchAll m ds vs=true/\LRel σ vs vs'/\vs'.length=ds.length/\∀ (i:Nat) u,vs'[i]? = some u->W.cell? ⟨x.c,x.s+(o+i),none⟩=some u
 | [],o,_=>⟨[],[],rfl,.nil,rfl,fun i u h=>by simp at h⟩
 | d :: l,o,h=>by
  simp only[matchCells]at h
  split at h
  case h_2=>cases h
  rename_i u hu
  simp only[Bool.and_eq_true]at h
  obtain⟨u',h1,h2,_⟩:=hw.cell hb hu
  obtain⟨vs,vs',a1,a2,a3,a4⟩:=cells_list hw hb l (o+1) h.2
  refine⟨u :: vs,u' :: vs',by simp only[matchAll,Bool.and_eq_true];exact⟨h.1,a1⟩,.cons h2 a2,by simp[a3],fun i q hq=>?_⟩
  cases i with
  | zero=>simp at hq;subst hq;exact h1
  | succ i=>simp at hq;have:=a4 i q hq;rw[show o+(i+1)=o+1+i by omega];exact this
theorem give_ok {W:World} {w:AW} {σ:Emb} (hw:WRel N σ w W):∀ k,GiveOk W (matchV w k) (giveV k) σ
 | 0=>fun d v v' h=>by simp[matchV]at h
 | k + 1 => by
  have ih:=give_ok hw k
  intro d v v' hm hr σ0 w0 h0
  unfold matchV at hm
  split at hm
  . rename_i u
    simp only[Bool.and_eq_true]at hm
    have:=same_eq 12 _ _ hm.2
    subst this
    have e:=flat_eq 6 _ hm.1 σ v' hr
    subst e
    exact⟨σ0,.refl _,h0,flat_self 6 _ hm.1 σ0⟩
  · rename_i n c cells b o n' c'
    simp only[Bool.and_eq_true]at hm
    obtain⟨⟨⟨⟨h1,h2⟩,h5⟩,h3⟩,h4⟩:=hm
    obtain rfl:=Nat.eq_of_beq_eq_true h1
    obtain rfl:=Nat.eq_of_beq_eq_true h2
    have hzx:∀ x,σ b=some x->x.z=0:=by
     intro x hx
     obtain⟨_,q,hq,hl,hb⟩:=hw.dom b x hx
     unfold zeroZ at h3
     rw[hq]at h3
     cases q with
     | cells c0 e0 r0 b0 z0 =>
      split at h3
      . rename_i e;injection e with e;injection e with _ _ _ _ e;subst e;exact hb.1
      . rename_i e;injection e with e;cases e
      . cases h3
     | given c0=>exact hl.1
     | _=>simp at h3
    cases hr with
    | slice hx hk hcap =>
     rename_i k' x
     have hz:=hzx x hx
     have hkk:k'=c:=by rcases hcap with q|q;exact q;omega
     subst hkk
     obtain⟨vs,vs',b1,b2,b3,b4⟩:=cells_list hw hx cells o h4
     obtain⟨σ1,a1,a2,a3⟩:=giveAll_ok ih cells vs vs' b1 b2 σ0 w0 h0
     simp only[giveV]
     have hlen:=a3.length
     refine⟨σ1.with (giveAll (giveV k) cells w0).2.next ⟨x.c,x.s+o,0,0⟩,a1.trans (Emb.le_with a2.fresh _),WRel.give a2 _ _ rfl ?_ ?_,?_⟩
     · cases hv:(giveAll (giveV k) cells w0).1 with
       | nil=>exact .inl rfl
       | cons y ys =>
        right
        rw[hv]at hlen
        have h1:=b4 0 (vs'[0]'(by rw[<- hlen];simp)) (by simp)
        obtain⟨cc,ce,fr,q,_⟩:=cell_at h1
        rcases Nat.lt_or_ge x.c W.heap.size with q'|q'
        . exact q'
        . rw[Array.getElem?_eq_none q']at q;cases q
     . intro i u hi hone
       obtain⟨u',hu',r⟩:=a3.getSome hi
       obtain⟨cc,ce,fr,q,q2⟩:=cell_at (b4 i u' hu')
       exact⟨cc,ce,fr,u',q,by rw[show x.s+o+i=x.s+(o+i) by omega];exact q2,r⟩
     . exact VRel.slice (x:=⟨x.c,x.s+o,0,0⟩) (o:=0) (Emb.with_self _ _ _) (Nat.le_refl _) (.inl rfl)
    | tail hx a=>exact absurd (Nat.blt_eq.mp h5) (by omega)
  · rename_i ds cs
    cases hr with
    | agg ha hav =>
     rename_i cs'
     have hl:LRel σ cs.toList cs'.toList:=ARel.iff.1 (by exact⟨ha,hav⟩)
     obtain⟨σ1,a1,a2,a3⟩:=giveAll_ok ih ds cs.toList cs'.toList hm hl σ0 w0 h0
     exact⟨σ1,a1,a2,VRel.agg_of (ARel.iff.2 (by simpa [giveV] using a3))⟩
  . cases hm
theorem calls_give (hP:Fit P) (hfol:P.follows .mixedOrders=true) {told:ToldF} (ht:∀ N,ToldOk P N told) {n k:Nat} {f:FuncId} {ds:List GDat} {v:Value} (hno:(told f ((giveAll (giveV k) ds .empty).1.toArray++#[]) (giveAll (giveV k) ds .empty).2).isNone=true) (hv:flat 6 v=true)
    (h:isVal (xcall (prg P) (xsOf (prg P)) told F (n+1) (.fn (.func f) #[]) (giveAll (giveV k) ds .empty).1 (giveAll (giveV k) ds .empty).2) v=true) {N:Nat} {σ:Emb} {w:AW} {W:World} (hw:WRel N σ w W) {args args':List Value} (hm:matchAll (matchV w k) ds args=true) (hr:LRel σ args args') :
    Calls P f args'.toArray W fun e W'=>e=.returned v/\BelowD W.heap.size W W':=by
 obtain⟨σ0,_,g2,g3⟩:=giveAll_ok (give_ok hw k) ds args args' hm hr (fun _=>none) .empty (WRel.empty W)
 generalize (giveAll (giveV k) ds .empty).1=us at *
 generalize (giveAll (giveV k) ds .empty).2=w0 at *
 rw[xcall_eq hP.funcs]at h
 unfold isVal at h
 split at h
 case h_2=>cases h
 rename_i u w1 hr'
 have hu:=same_eq 12 _ _ h
 subst hu
 simp only[acall]at hr'
 rw[Option.isNone_iff_eq_none.mp hno]at hr'
 simp only[Array.append_empty]at hr'
 intro cs
 have ha:ARel σ0 us.toArray args'.toArray:=ARel.iff.2 (by simpa using g3)
 obtain⟨σ',v',W',fr,s,hf,hlv,e,r⟩:=enter_leaves hP hfol (call_ok hP hfol (ht W.heap.size) n) (call_pan hP hfol (ht W.heap.size) n) hr' cs g2 (args':=args'.toArray) ha
 have:=flat_eq 6 v hv σ' v' r
 subst this
 exact⟨.returned v',W',fr,⟨rfl,e.below⟩,s,hf,hlv⟩
structure GMemo where
 f:FuncId
 k:Nat
 ds:List GDat
 val:Value
def findG (f:FuncId) (args:List Value) (w:AW):List GMemo->Option Value
 | []=>none
 | m :: l=>match Nat.beq f m.f with
  | true=>match matchAll (matchV w m.k) m.ds args with
   | true=>some m.val
   | false=>findG f args w l
  | false=>findG f args w l
def toldGive (tab:List GMemo) (told:ToldF):ToldF:=fun f args w =>
 match findG f args.toList w tab with
 | some v=>some (v,w)
 | none=>told f args w
structure GMemoOk (P:Program) (m:GMemo):Prop where
 enters:∀ args w,(callFunc m.f args).run P w=.ok (.enter m.f args) w
 flatVal:flat 6 m.val=true
 calls:∀ (N:Nat) (σ:Emb) (w:AW) (W:World),WRel N σ w W->∀ args args',matchAll (matchV w m.k) m.ds args=true->LRel σ args args'->Calls P m.f args'.toArray W fun e W'=>e=.returned m.val/\BelowD W.heap.size W W'
inductive GMemosOk (P:Program):List GMemo->Prop where
 | nil:GMemosOk P []
 | cons {m:GMemo} {l:List GMemo} (h:GMemoOk P m) (t:GMemosOk P l):GMemosOk P (m :: l)
theorem findG_ok {f:FuncId} {args:List Value} {w:AW} {v:Value}:∀ {tab:List GMemo},GMemosOk P tab->findG f args w tab=some v->∃ m,GMemoOk P m/\m.f=f/\matchAll (matchV w m.k) m.ds args=true/\m.val=v
 | _,.nil,h=>by cases h
 | _, .cons hm ht,h=>by
  simp only[findG]at h
  split at h
  · rename_i hf
    split at h
    . rename_i hs
      injection h with h
      exact⟨_,hm,(Nat.eq_of_beq_eq_true hf).symm,hs,h⟩
    . exact findG_ok ht h
  . exact findG_ok ht h
theorem toldGive_ok {tab:List GMemo} (hm:GMemosOk P tab) {told:ToldF} (ht:∀ N,ToldOk P N told) (N:Nat):ToldOk P N (toldGive tab told):=by
 intro f args w w1 v h σ W args0 cap c cs hw ha
 unfold toldGive at h
 split at h
 . rename_i u hu
   injection h with h;injection h with h1 h2
   subst h1 h2
   obtain⟨m,hok,rfl,hargs,rfl⟩:=findG_ok hm hu
   have hc:=hok.calls N σ w W hw args.toList (args0++cap).toList hargs (ARel.iff.1 ha)
   rw[show (args0++cap).toList.toArray=args0++cap from rfl]at hc
   obtain⟨W',d1,d2⟩:=delivers_calls hok.enters hc c cs
   exact⟨σ,_,W',d1,hw.aside d2,flat_self 6 _ hok.flatVal σ⟩
 . exact ht N f args w w1 v h σ W args0 cap c cs hw ha
end Go.Sim

namespace Go.Proofs
open Go Go.Shelf Go.RowKit Go.Sim
set_option maxRecDepth 1000000
theorem Tryz.fits:Fit Tryz.prog:=fit_of (by decide +kernel)
theorem Tryz.mixed:Tryz.prog.follows .mixedOrders=true:=by decide +kernel
theorem Tryz.told0 (N:Nat):ToldOk Tryz.prog N (fun _ _ _=>none):=fun f args w w1 v h=>by cases h
end Go.Proofs

namespace Go.Proofs
open Go Go.RowKit Go.Sim
set_option maxRecDepth 1000000
abbrev zi (n:Int):GDat:=.flat (.int .i64 n)
def Tryz.give0:GMemo:=⟨15,12,[.agg [.sl 3 3 [zi 0,zi 0,zi 0,zi 2,zi 0,zi 4,zi 1,zi 1,zi 0],.sl 3 3 [zi 0,zi 1,zi 1,.sl 1 1 [zi 1],zi 1,zi 2,zi 2,.sl 1 1 [zi 6],zi 0,zi 2,zi 1,.sl 1 1 [zi 8]],.sl 3 3 [zi 1,zi 2,zi 3]],zi 3],.tuple #[.int .i64 (7),.int .i64 (0)]⟩
theorem Tryz.give0_ok:GMemoOk Tryz.prog Tryz.give0:={
 enters:=fun args w=>Tryz.call15 args w
 flatVal:=by decide
 calls:=fun N σ w W hw args args' hm hr=>calls_give (F:=1000000) (told:=fun _ _ _=>none) Tryz.fits Tryz.mixed Tryz.told0 (n:=99) (k:=12) (ds:=Tryz.give0.ds) (by rfl) (by decide) (by decide +kernel) hw hm hr }
def Tryz.give1:GMemo:=⟨17,12,[.agg [.sl 3 3 [zi 0,zi 0,zi 0,zi 2,zi 0,zi 4,zi 1,zi 1,zi 0],.sl 3 3 [zi 0,zi 1,zi 1,.sl 1 1 [zi 1],zi 1,zi 2,zi 2,.sl 1 1 [zi 6],zi 0,zi 2,zi 1,.sl 1 1 [zi 8]],.sl 3 3 [zi 1,zi 2,zi 3]]],.int .i64 (0)⟩
theorem Tryz.give1_ok:GMemoOk Tryz.prog Tryz.give1:={
 enters:=fun args w=>Tryz.call17 args w
 flatVal:=by decide
 calls:=fun N σ w W hw args args' hm hr=>calls_give (F:=1000000) (told:=fun _ _ _=>none) Tryz.fits Tryz.mixed Tryz.told0 (n:=99) (k:=12) (ds:=Tryz.give1.ds) (by rfl) (by decide) (by decide +kernel) hw hm hr }
def Tryz.give2:GMemo:=⟨19,12,[.agg [.sl 3 3 [zi 0,zi 0,zi 0,zi 2,zi 0,zi 4,zi 1,zi 1,zi 0],.sl 3 3 [zi 0,zi 1,zi 1,.sl 1 1 [zi 1],zi 1,zi 2,zi 2,.sl 1 1 [zi 6],zi 0,zi 2,zi 1,.sl 1 1 [zi 8]],.sl 3 3 [zi 1,zi 2,zi 3]],zi 1,zi 3],.tuple #[.bool true,.int .i64 (0)]⟩
theorem Tryz.give2_ok:GMemoOk Tryz.prog Tryz.give2:={
 enters:=fun args w=>Tryz.call19 args w
 flatVal:=by decide
 calls:=fun N σ w W hw args args' hm hr=>calls_give (F:=1000000) (told:=fun _ _ _=>none) Tryz.fits Tryz.mixed Tryz.told0 (n:=99) (k:=12) (ds:=Tryz.give2.ds) (by rfl) (by decide) (by decide +kernel) hw hm hr }
def Tryz.give3:GMemo:=⟨31,12,[.agg [.sl 3 3 [zi 0,zi 0,zi 0,zi 2,zi 0,zi 4,zi 1,zi 1,zi 0],.sl 3 3 [zi 0,zi 1,zi 1,.sl 1 1 [zi 1],zi 1,zi 2,zi 2,.sl 1 1 [zi 6],zi 0,zi 2,zi 1,.sl 1 1 [zi 8]],.sl 3 3 [zi 1,zi 2,zi 3]],.sl 3 3 [zi 5,zi 1,zi 7,zi 1,zi 0,zi 1,zi 10,zi 3,zi 6,zi 2,zi 7,zi 2,zi 1,zi 2,zi 0,zi 0,zi 8,zi 3,zi 7,zi 0,zi 0,zi 1,zi 10,zi 0]],.tuple #[.agg #[.int .i64 (0),.int .i64 (0),.int .i64 (0),.int .i64 (0),.int .i64 (0),.int .i64 (0),.int .i64 (0),.int .i64 (0),.int .i64 (0),.int .i64 (0),.int .i64 (0),.int .i64 (0),.int .i64 (0),.int .i64 (0),.int .i64 (0),.int .i64 (0),.int .i64 (0),.int .i64 (0),.int .i64 (0),.int .i64 (0),.int .i64 (0),.int .i64 (0),.int .i64 (0),.int .i64 (0),.int .i64 (0),.int .i64 (0),.int .i64 (0),.int .i64 (0),.int .i64 (0),.int .i64 (0),.int .i64 (0),.int .i64 (0),.int .i64 (0),.int .i64 (0),.int .i64 (0),.int .i64 (2),.int .i64 (10),.int .i64 (3),.int .i64 (0),.int .i64 (1),.int .i64 (0),.int .i64 (0),.int .i64 (0),.int .i64 (0),.int .i64 (0),.int .i64 (0),.int .i64 (0),.int .i64 (0),.int .i64 (0),.int .i64 (0),.int .i64 (0),.int .i64 (0),.int .i64 (0),.int .i64 (0),.int .i64 (0),.int .i64 (0),.int .i64 (0),.int .i64 (0),.int .i64 (0),.int .i64 (0),.int .i64 (0),.int .i64 (0),.int .i64 (0),.int .i64 (0),.int .i64 (0),.int .i64 (0),.int .i64 (0),.int .i64 (0),.int .i64 (0),.int .i64 (0),.int .i64 (0),.int .i64 (0),.int .i64 (0),.int .i64 (0),.int .i64 (0),.int .i64 (0),.int .i64 (0),.int .i64 (0),.int .i64 (0),.int .i64 (0),.int .i64 (0),.int .i64 (0),.int .i64 (0),.int .i64 (0),.int .i64 (0),.int .i64 (0),.int .i64 (0),.int .i64 (0),.int .i64 (0),.int .i64 (0),.int .i64 (0),.int .i64 (0),.int .i64 (0),.int .i64 (0),.int .i64 (0),.int .i64 (0),.int .i64 (0),.int .i64 (0),.int .i64 (0),.int .i64 (0),.int .i64 (0),.int .i64 (0),.int .i64 (0),.int .i64 (0),.int .i64 (0),.int .i64 (0),.int .i64 (0),.int .i64 (0),.int .i64 (0),.int .i64 (0),.int .i64 (0),.int .i64 (0),.int .i64 (0),.int .i64 (0),.int .i64 (0),.int .i64 (0),.int .i64 (0),.int .i64 (0),.int .i64 (0),.int .i64 (0),.int .i64 (0),.int .i64 (0),.int .i64 (0),.int .i64 (0),.int .i64 (0),.int .i64 (0),.int .i64 (0),.int .i64 (0),.int .i64 (0),.int .i64 (0),.int .i64 (0),.int .i64 (0),.int .i64 (0),.int .i64 (0),.int .i64 (0),.int .i64 (0),.int .i64 (0),.int .i64 (0),.int .i64 (0),.int .i64 (0),.int .i64 (0),.int .i64 (0),.int .i64 (0),.int .i64 (0),.int .i64 (0),.int .i64 (0),.int .i64 (0),.int .i64 (0),.int .i64 (0),.int .i64 (0),.int .i64 (0),.int .i64 (0),.int .i64 (0),.int .i64 (0),.int .i64 (0),.int .i64 (0),.int .i64 (0),.int .i64 (0),.int .i64 (0),.int .i64 (0)],.int .i64 (3),.int .i64 (0)]⟩
theorem Tryz.give3_ok:GMemoOk Tryz.prog Tryz.give3:={
 enters:=fun args w=>Tryz.call31 args w
 flatVal:=by decide
 calls:=fun N σ w W hw args args' hm hr=>calls_give (F:=1000000) (told:=fun _ _ _=>none) Tryz.fits Tryz.mixed Tryz.told0 (n:=99) (k:=12) (ds:=Tryz.give3.ds) (by rfl) (by decide) (by decide +kernel) hw hm hr }
def Tryz.give4:GMemo:=⟨33,12,[.agg [.sl 3 3 [zi 0,zi 0,zi 0,zi 2,zi 0,zi 4,zi 1,zi 1,zi 0],.sl 3 3 [zi 0,zi 1,zi 1,.sl 1 1 [zi 1],zi 1,zi 2,zi 2,.sl 1 1 [zi 6],zi 0,zi 2,zi 1,.sl 1 1 [zi 8]],.sl 3 3 [zi 1,zi 2,zi 3]],.sl 3 3 [zi 5,zi 1,zi 7,zi 1,zi 0,zi 1,zi 10,zi 3,zi 6,zi 2,zi 7,zi 2,zi 1,zi 2,zi 0,zi 0,zi 8,zi 3,zi 7,zi 0,zi 0,zi 1,zi 10,zi 0],zi 7,zi 5],.tuple #[.int .i64 (1),.int .i64 (0)]⟩
theorem Tryz.give4_ok:GMemoOk Tryz.prog Tryz.give4:={
 enters:=fun args w=>Tryz.call33 args w
 flatVal:=by decide
 calls:=fun N σ w W hw args args' hm hr=>calls_give (F:=1000000) (told:=fun _ _ _=>none) Tryz.fits Tryz.mixed Tryz.told0 (n:=99) (k:=12) (ds:=Tryz.give4.ds) (by rfl) (by decide) (by decide +kernel) hw hm hr }
def Tryz.give5:GMemo:=⟨58,12,[.agg [.sl 3 3 [zi 0,zi 0,zi 0,zi 2,zi 0,zi 4,zi 1,zi 1,zi 0],.sl 3 3 [zi 0,zi 1,zi 1,.sl 1 1 [zi 1],zi 1,zi 2,zi 2,.sl 1 1 [zi 6],zi 0,zi 2,zi 1,.sl 1 1 [zi 8]],.sl 3 3 [zi 1,zi 2,zi 3]],zi 1],.int .i64 (0)⟩
theorem Tryz.give5_ok:GMemoOk Tryz.prog Tryz.give5:={
 enters:=fun args w=>Tryz.call58 args w
 flatVal:=by decide
 calls:=fun N σ w W hw args args' hm hr=>calls_give (F:=1000000) (told:=fun _ _ _=>none) Tryz.fits Tryz.mixed Tryz.told0 (n:=99) (k:=12) (ds:=Tryz.give5.ds) (by rfl) (by decide) (by decide +kernel) hw hm hr }
def Tryz.give6:GMemo:=⟨58,12,[.agg [.sl 3 3 [zi 0,zi 0,zi 0,zi 2,zi 0,zi 4,zi 1,zi 1,zi 0],.sl 3 3 [zi 0,zi 1,zi 1,.sl 1 1 [zi 1],zi 1,zi 2,zi 2,.sl 1 1 [zi 6],zi 0,zi 2,zi 1,.sl 1 1 [zi 8]],.sl 3 3 [zi 1,zi 2,zi 3]],zi 2],.int .i64 (0)⟩
theorem Tryz.give6_ok:GMemoOk Tryz.prog Tryz.give6:={
 enters:=fun args w=>Tryz.call58 args w
 flatVal:=by decide
 calls:=fun N σ w W hw args args' hm hr=>calls_give (F:=1000000) (told:=fun _ _ _=>none) Tryz.fits Tryz.mixed Tryz.told0 (n:=99) (k:=12) (ds:=Tryz.give6.ds) (by rfl) (by decide) (by decide +kernel) hw hm hr }
def Tryz.give7:GMemo:=⟨67,12,[.agg [.sl 3 3 [zi 0,zi 0,zi 0,zi 2,zi 0,zi 4,zi 1,zi 1,zi 0],.sl 3 3 [zi 0,zi 1,zi 1,.sl 1 1 [zi 1],zi 1,zi 2,zi 2,.sl 1 1 [zi 6],zi 0,zi 2,zi 1,.sl 1 1 [zi 8]],.sl 3 3 [zi 1,zi 2,zi 3]],zi 0,zi 2],.bool false⟩
theorem Tryz.give7_ok:GMemoOk Tryz.prog Tryz.give7:={
 enters:=fun args w=>Tryz.call67 args w
 flatVal:=by decide
 calls:=fun N σ w W hw args args' hm hr=>calls_give (F:=1000000) (told:=fun _ _ _=>none) Tryz.fits Tryz.mixed Tryz.told0 (n:=99) (k:=12) (ds:=Tryz.give7.ds) (by rfl) (by decide) (by decide +kernel) hw hm hr }
def Tryz.give8:GMemo:=⟨67,12,[.agg [.sl 3 3 [zi 0,zi 0,zi 0,zi 2,zi 0,zi 4,zi 1,zi 1,zi 0],.sl 3 3 [zi 0,zi 1,zi 1,.sl 1 1 [zi 1],zi 1,zi 2,zi 2,.sl 1 1 [zi 6],zi 0,zi 2,zi 1,.sl 1 1 [zi 8]],.sl 3 3 [zi 1,zi 2,zi 3]],zi 0,zi 4],.bool false⟩
theorem Tryz.give8_ok:GMemoOk Tryz.prog Tryz.give8:={
 enters:=fun args w=>Tryz.call67 args w
 flatVal:=by decide
 calls:=fun N σ w W hw args args' hm hr=>calls_give (F:=1000000) (told:=fun _ _ _=>none) Tryz.fits Tryz.mixed Tryz.told0 (n:=99) (k:=12) (ds:=Tryz.give8.ds) (by rfl) (by decide) (by decide +kernel) hw hm hr }
def Tryz.give9:GMemo:=⟨67,12,[.agg [.sl 3 3 [zi 0,zi 0,zi 0,zi 2,zi 0,zi 4,zi 1,zi 1,zi 0],.sl 3 3 [zi 0,zi 1,zi 1,.sl 1 1 [zi 1],zi 1,zi 2,zi 2,.sl 1 1 [zi 6],zi 0,zi 2,zi 1,.sl 1 1 [zi 8]],.sl 3 3 [zi 1,zi 2,zi 3]],zi 0,zi 6],.bool false⟩
theorem Tryz.give9_ok:GMemoOk Tryz.prog Tryz.give9:={
 enters:=fun args w=>Tryz.call67 args w
 flatVal:=by decide
 calls:=fun N σ w W hw args args' hm hr=>calls_give (F:=1000000) (told:=fun _ _ _=>none) Tryz.fits Tryz.mixed Tryz.told0 (n:=99) (k:=12) (ds:=Tryz.give9.ds) (by rfl) (by decide) (by decide +kernel) hw hm hr }
def Tryz.give10:GMemo:=⟨67,12,[.agg [.sl 3 3 [zi 0,zi 0,zi 0,zi 2,zi 0,zi 4,zi 1,zi 1,zi 0],.sl 3 3 [zi 0,zi 1,zi 1,.sl 1 1 [zi 1],zi 1,zi 2,zi 2,.sl 1 1 [zi 6],zi 0,zi 2,zi 1,.sl 1 1 [zi 8]],.sl 3 3 [zi 1,zi 2,zi 3]],zi 1,zi 2],.bool true⟩
theorem Tryz.give10_ok:GMemoOk Tryz.prog Tryz.give10:={
 enters:=fun args w=>Tryz.call67 args w
 flatVal:=by decide
 calls:=fun N σ w W hw args args' hm hr=>calls_give (F:=1000000) (told:=fun _ _ _=>none) Tryz.fits Tryz.mixed Tryz.told0 (n:=99) (k:=12) (ds:=Tryz.give10.ds) (by rfl) (by decide) (by decide +kernel) hw hm hr }
def Tryz.give11:GMemo:=⟨67,12,[.agg [.sl 3 3 [zi 0,zi 0,zi 0,zi 2,zi 0,zi 4,zi 1,zi 1,zi 0],.sl 3 3 [zi 0,zi 1,zi 1,.sl 1 1 [zi 1],zi 1,zi 2,zi 2,.sl 1 1 [zi 6],zi 0,zi 2,zi 1,.sl 1 1 [zi 8]],.sl 3 3 [zi 1,zi 2,zi 3]],zi 1,zi 4],.bool false⟩
theorem Tryz.give11_ok:GMemoOk Tryz.prog Tryz.give11:={
 enters:=fun args w=>Tryz.call67 args w
 flatVal:=by decide
 calls:=fun N σ w W hw args args' hm hr=>calls_give (F:=1000000) (told:=fun _ _ _=>none) Tryz.fits Tryz.mixed Tryz.told0 (n:=99) (k:=12) (ds:=Tryz.give11.ds) (by rfl) (by decide) (by decide +kernel) hw hm hr }
def Tryz.give12:GMemo:=⟨67,12,[.agg [.sl 3 3 [zi 0,zi 0,zi 0,zi 2,zi 0,zi 4,zi 1,zi 1,zi 0],.sl 3 3 [zi 0,zi 1,zi 1,.sl 1 1 [zi 1],zi 1,zi 2,zi 2,.sl 1 1 [zi 6],zi 0,zi 2,zi 1,.sl 1 1 [zi 8]],.sl 3 3 [zi 1,zi 2,zi 3]],zi 1,zi 6],.bool true⟩
theorem Tryz.give12_ok:GMemoOk Tryz.prog Tryz.give12:={
 enters:=fun args w=>Tryz.call67 args w
 flatVal:=by decide
 calls:=fun N σ w W hw args args' hm hr=>calls_give (F:=1000000) (told:=fun _ _ _=>none) Tryz.fits Tryz.mixed Tryz.told0 (n:=99) (k:=12) (ds:=Tryz.give12.ds) (by rfl) (by decide) (by decide +kernel) hw hm hr }
def Tryz.give13:GMemo:=⟨67,12,[.agg [.sl 3 3 [zi 0,zi 0,zi 0,zi 2,zi 0,zi 4,zi 1,zi 1,zi 0],.sl 3 3 [zi 0,zi 1,zi 1,.sl 1 1 [zi 1],zi 1,zi 2,zi 2,.sl 1 1 [zi 6],zi 0,zi 2,zi 1,.sl 1 1 [zi 8]],.sl 3 3 [zi 1,zi 2,zi 3]],zi 2,zi 2],.bool false⟩
theorem Tryz.give13_ok:GMemoOk Tryz.prog Tryz.give13:={
 enters:=fun args w=>Tryz.call67 args w
 flatVal:=by decide
 calls:=fun N σ w W hw args args' hm hr=>calls_give (F:=1000000) (told:=fun _ _ _=>none) Tryz.fits Tryz.mixed Tryz.told0 (n:=99) (k:=12) (ds:=Tryz.give13.ds) (by rfl) (by decide) (by decide +kernel) hw hm hr }
def Tryz.give14:GMemo:=⟨67,12,[.agg [.sl 3 3 [zi 0,zi 0,zi 0,zi 2,zi 0,zi 4,zi 1,zi 1,zi 0],.sl 3 3 [zi 0,zi 1,zi 1,.sl 1 1 [zi 1],zi 1,zi 2,zi 2,.sl 1 1 [zi 6],zi 0,zi 2,zi 1,.sl 1 1 [zi 8]],.sl 3 3 [zi 1,zi 2,zi 3]],zi 2,zi 4],.bool false⟩
theorem Tryz.give14_ok:GMemoOk Tryz.prog Tryz.give14:={
 enters:=fun args w=>Tryz.call67 args w
 flatVal:=by decide
 calls:=fun N σ w W hw args args' hm hr=>calls_give (F:=1000000) (told:=fun _ _ _=>none) Tryz.fits Tryz.mixed Tryz.told0 (n:=99) (k:=12) (ds:=Tryz.give14.ds) (by rfl) (by decide) (by decide +kernel) hw hm hr }
def Tryz.give15:GMemo:=⟨67,12,[.agg [.sl 3 3 [zi 0,zi 0,zi 0,zi 2,zi 0,zi 4,zi 1,zi 1,zi 0],.sl 3 3 [zi 0,zi 1,zi 1,.sl 1 1 [zi 1],zi 1,zi 2,zi 2,.sl 1 1 [zi 6],zi 0,zi 2,zi 1,.sl 1 1 [zi 8]],.sl 3 3 [zi 1,zi 2,zi 3]],zi 2,zi 6],.bool false⟩
theorem Tryz.give15_ok:GMemoOk Tryz.prog Tryz.give15:={
 enters:=fun args w=>Tryz.call67 args w
 flatVal:=by decide
 calls:=fun N σ w W hw args args' hm hr=>calls_give (F:=1000000) (told:=fun _ _ _=>none) Tryz.fits Tryz.mixed Tryz.told0 (n:=99) (k:=12) (ds:=Tryz.give15.ds) (by rfl) (by decide) (by decide +kernel) hw hm hr }
def Tryz.give16:GMemo:=⟨67,12,[.agg [.sl 3 3 [zi 0,zi 0,zi 0,zi 2,zi 0,zi 4,zi 1,zi 1,zi 0],.sl 3 3 [zi 0,zi 1,zi 1,.sl 1 1 [zi 1],zi 1,zi 2,zi 2,.sl 1 1 [zi 6],zi 0,zi 2,zi 1,.sl 1 1 [zi 8]],.sl 3 3 [zi 1,zi 2,zi 3]],zi 3,zi 2],.bool true⟩
theorem Tryz.give16_ok:GMemoOk Tryz.prog Tryz.give16:={
 enters:=fun args w=>Tryz.call67 args w
 flatVal:=by decide
 calls:=fun N σ w W hw args args' hm hr=>calls_give (F:=1000000) (told:=fun _ _ _=>none) Tryz.fits Tryz.mixed Tryz.told0 (n:=99) (k:=12) (ds:=Tryz.give16.ds) (by rfl) (by decide) (by decide +kernel) hw hm hr }
def Tryz.give17:GMemo:=⟨67,12,[.agg [.sl 3 3 [zi 0,zi 0,zi 0,zi 2,zi 0,zi 4,zi 1,zi 1,zi 0],.sl 3 3 [zi 0,zi 1,zi 1,.sl 1 1 [zi 1],zi 1,zi 2,zi 2,.sl 1 1 [zi 6],zi 0,zi 2,zi 1,.sl 1 1 [zi 8]],.sl 3 3 [zi 1,zi 2,zi 3]],zi 3,zi 4],.bool true⟩
theorem Tryz.give17_ok:GMemoOk Tryz.prog Tryz.give17:={
 enters:=fun args w=>Tryz.call67 args w
 flatVal:=by decide
 calls:=fun N σ w W hw args args' hm hr=>calls_give (F:=1000000) (told:=fun _ _ _=>none) Tryz.fits Tryz.mixed Tryz.told0 (n:=99) (k:=12) (ds:=Tryz.give17.ds) (by rfl) (by decide) (by decide +kernel) hw hm hr }
def Tryz.give18:GMemo:=⟨67,12,[.agg [.sl 3 3 [zi 0,zi 0,zi 0,zi 2,zi 0,zi 4,zi 1,zi 1,zi 0],.sl 3 3 [zi 0,zi 1,zi 1,.sl 1 1 [zi 1],zi 1,zi 2,zi 2,.sl 1 1 [zi 6],zi 0,zi 2,zi 1,.sl 1 1 [zi 8]],.sl 3 3 [zi 1,zi 2,zi 3]],zi 3,zi 6],.bool true⟩
theorem Tryz.give18_ok:GMemoOk Tryz.prog Tryz.give18:={
 enters:=fun args w=>Tryz.call67 args w
 flatVal:=by decide
 calls:=fun N σ w W hw args args' hm hr=>calls_give (F:=1000000) (told:=fun _ _ _=>none) Tryz.fits Tryz.mixed Tryz.told0 (n:=99) (k:=12) (ds:=Tryz.give18.ds) (by rfl) (by decide) (by decide +kernel) hw hm hr }
def Tryz.give19:GMemo:=⟨67,12,[.agg [.sl 3 3 [zi 0,zi 0,zi 0,zi 2,zi 0,zi 4,zi 1,zi 1,zi 0],.sl 3 3 [zi 0,zi 1,zi 1,.sl 1 1 [zi 1],zi 1,zi 2,zi 2,.sl 1 1 [zi 6],zi 0,zi 2,zi 1,.sl 1 1 [zi 8]],.sl 3 3 [zi 1,zi 2,zi 3]],zi 4,zi 2],.bool true⟩
theorem Tryz.give19_ok:GMemoOk Tryz.prog Tryz.give19:={
 enters:=fun args w=>Tryz.call67 args w
 flatVal:=by decide
 calls:=fun N σ w W hw args args' hm hr=>calls_give (F:=1000000) (told:=fun _ _ _=>none) Tryz.fits Tryz.mixed Tryz.told0 (n:=99) (k:=12) (ds:=Tryz.give19.ds) (by rfl) (by decide) (by decide +kernel) hw hm hr }
def Tryz.give20:GMemo:=⟨67,12,[.agg [.sl 3 3 [zi 0,zi 0,zi 0,zi 2,zi 0,zi 4,zi 1,zi 1,zi 0],.sl 3 3 [zi 0,zi 1,zi 1,.sl 1 1 [zi 1],zi 1,zi 2,zi 2,.sl 1 1 [zi 6],zi 0,zi 2,zi 1,.sl 1 1 [zi 8]],.sl 3 3 [zi 1,zi 2,zi 3]],zi 4,zi 4],.bool false⟩
theorem Tryz.give20_ok:GMemoOk Tryz.prog Tryz.give20:={
 enters:=fun args w=>Tryz.call67 args w
 flatVal:=by decide
 calls:=fun N σ w W hw args args' hm hr=>calls_give (F:=1000000) (told:=fun _ _ _=>none) Tryz.fits Tryz.mixed Tryz.told0 (n:=99) (k:=12) (ds:=Tryz.give20.ds) (by rfl) (by decide) (by decide +kernel) hw hm hr }
def Tryz.give21:GMemo:=⟨67,12,[.agg [.sl 3 3 [zi 0,zi 0,zi 0,zi 2,zi 0,zi 4,zi 1,zi 1,zi 0],.sl 3 3 [zi 0,zi 1,zi 1,.sl 1 1 [zi 1],zi 1,zi 2,zi 2,.sl 1 1 [zi 6],zi 0,zi 2,zi 1,.sl 1 1 [zi 8]],.sl 3 3 [zi 1,zi 2,zi 3]],zi 4,zi 6],.bool true⟩
theorem Tryz.give21_ok:GMemoOk Tryz.prog Tryz.give21:={
 enters:=fun args w=>Tryz.call67 args w
 flatVal:=by decide
 calls:=fun N σ w W hw args args' hm hr=>calls_give (F:=1000000) (told:=fun _ _ _=>none) Tryz.fits Tryz.mixed Tryz.told0 (n:=99) (k:=12) (ds:=Tryz.give21.ds) (by rfl) (by decide) (by decide +kernel) hw hm hr }
def Tryz.give22:GMemo:=⟨67,12,[.agg [.sl 3 3 [zi 0,zi 0,zi 0,zi 2,zi 0,zi 4,zi 1,zi 1,zi 0],.sl 3 3 [zi 0,zi 1,zi 1,.sl 1 1 [zi 1],zi 1,zi 2,zi 2,.sl 1 1 [zi 6],zi 0,zi 2,zi 1,.sl 1 1 [zi 8]],.sl 3 3 [zi 1,zi 2,zi 3]],zi 5,zi 2],.bool true⟩
theorem Tryz.give22_ok:GMemoOk Tryz.prog Tryz.give22:={
 enters:=fun args w=>Tryz.call67 args w
 flatVal:=by decide
 calls:=fun N σ w W hw args args' hm hr=>calls_give (F:=1000000) (told:=fun _ _ _=>none) Tryz.fits Tryz.mixed Tryz.told0 (n:=99) (k:=12) (ds:=Tryz.give22.ds) (by rfl) (by decide) (by decide +kernel) hw hm hr }
def Tryz.give23:GMemo:=⟨67,12,[.agg [.sl 3 3 [zi 0,zi 0,zi 0,zi 2,zi 0,zi 4,zi 1,zi 1,zi 0],.sl 3 3 [zi 0,zi 1,zi 1,.sl 1 1 [zi 1],zi 1,zi 2,zi 2,.sl 1 1 [zi 6],zi 0,zi 2,zi 1,.sl 1 1 [zi 8]],.sl 3 3 [zi 1,zi 2,zi 3]],zi 5,zi 4],.bool true⟩
theorem Tryz.give23_ok:GMemoOk Tryz.prog Tryz.give23:={
 enters:=fun args w=>Tryz.call67 args w
 flatVal:=by decide
 calls:=fun N σ w W hw args args' hm hr=>calls_give (F:=1000000) (told:=fun _ _ _=>none) Tryz.fits Tryz.mixed Tryz.told0 (n:=99) (k:=12) (ds:=Tryz.give23.ds) (by rfl) (by decide) (by decide +kernel) hw hm hr }
def Tryz.give24:GMemo:=⟨67,12,[.agg [.sl 3 3 [zi 0,zi 0,zi 0,zi 2,zi 0,zi 4,zi 1,zi 1,zi 0],.sl 3 3 [zi 0,zi 1,zi 1,.sl 1 1 [zi 1],zi 1,zi 2,zi 2,.sl 1 1 [zi 6],zi 0,zi 2,zi 1,.sl 1 1 [zi 8]],.sl 3 3 [zi 1,zi 2,zi 3]],zi 5,zi 6],.bool true⟩
theorem Tryz.give24_ok:GMemoOk Tryz.prog Tryz.give24:={
 enters:=fun args w=>Tryz.call67 args w
 flatVal:=by decide
 calls:=fun N σ w W hw args args' hm hr=>calls_give (F:=1000000) (told:=fun _ _ _=>none) Tryz.fits Tryz.mixed Tryz.told0 (n:=99) (k:=12) (ds:=Tryz.give24.ds) (by rfl) (by decide) (by decide +kernel) hw hm hr }
def Tryz.give25:GMemo:=⟨67,12,[.agg [.sl 3 3 [zi 0,zi 0,zi 0,zi 2,zi 0,zi 4,zi 1,zi 1,zi 0],.sl 3 3 [zi 0,zi 1,zi 1,.sl 1 1 [zi 1],zi 1,zi 2,zi 2,.sl 1 1 [zi 6],zi 0,zi 2,zi 1,.sl 1 1 [zi 8]],.sl 3 3 [zi 1,zi 2,zi 3]],zi 6,zi 2],.bool true⟩
theorem Tryz.give25_ok:GMemoOk Tryz.prog Tryz.give25:={
 enters:=fun args w=>Tryz.call67 args w
 flatVal:=by decide
 calls:=fun N σ w W hw args args' hm hr=>calls_give (F:=1000000) (told:=fun _ _ _=>none) Tryz.fits Tryz.mixed Tryz.told0 (n:=99) (k:=12) (ds:=Tryz.give25.ds) (by rfl) (by decide) (by decide +kernel) hw hm hr }
def Tryz.give26:GMemo:=⟨67,12,[.agg [.sl 3 3 [zi 0,zi 0,zi 0,zi 2,zi 0,zi 4,zi 1,zi 1,zi 0],.sl 3 3 [zi 0,zi 1,zi 1,.sl 1 1 [zi 1],zi 1,zi 2,zi 2,.sl 1 1 [zi 6],zi 0,zi 2,zi 1,.sl 1 1 [zi 8]],.sl 3 3 [zi 1,zi 2,zi 3]],zi 6,zi 4],.bool true⟩
theorem Tryz.give26_ok:GMemoOk Tryz.prog Tryz.give26:={
 enters:=fun args w=>Tryz.call67 args w
 flatVal:=by decide
 calls:=fun N σ w W hw args args' hm hr=>calls_give (F:=1000000) (told:=fun _ _ _=>none) Tryz.fits Tryz.mixed Tryz.told0 (n:=99) (k:=12) (ds:=Tryz.give26.ds) (by rfl) (by decide) (by decide +kernel) hw hm hr }
def Tryz.give27:GMemo:=⟨67,12,[.agg [.sl 3 3 [zi 0,zi 0,zi 0,zi 2,zi 0,zi 4,zi 1,zi 1,zi 0],.sl 3 3 [zi 0,zi 1,zi 1,.sl 1 1 [zi 1],zi 1,zi 2,zi 2,.sl 1 1 [zi 6],zi 0,zi 2,zi 1,.sl 1 1 [zi 8]],.sl 3 3 [zi 1,zi 2,zi 3]],zi 6,zi 6],.bool true⟩
theorem Tryz.give27_ok:GMemoOk Tryz.prog Tryz.give27:={
 enters:=fun args w=>Tryz.call67 args w
 flatVal:=by decide
 calls:=fun N σ w W hw args args' hm hr=>calls_give (F:=1000000) (told:=fun _ _ _=>none) Tryz.fits Tryz.mixed Tryz.told0 (n:=99) (k:=12) (ds:=Tryz.give27.ds) (by rfl) (by decide) (by decide +kernel) hw hm hr }
def Tryz.give28:GMemo:=⟨67,12,[.agg [.sl 3 3 [zi 0,zi 0,zi 0,zi 2,zi 0,zi 4,zi 1,zi 1,zi 0],.sl 3 3 [zi 0,zi 1,zi 1,.sl 1 1 [zi 1],zi 1,zi 2,zi 2,.sl 1 1 [zi 6],zi 0,zi 2,zi 1,.sl 1 1 [zi 8]],.sl 3 3 [zi 1,zi 2,zi 3]],zi 7,zi 2],.bool true⟩
theorem Tryz.give28_ok:GMemoOk Tryz.prog Tryz.give28:={
 enters:=fun args w=>Tryz.call67 args w
 flatVal:=by decide
 calls:=fun N σ w W hw args args' hm hr=>calls_give (F:=1000000) (told:=fun _ _ _=>none) Tryz.fits Tryz.mixed Tryz.told0 (n:=99) (k:=12) (ds:=Tryz.give28.ds) (by rfl) (by decide) (by decide +kernel) hw hm hr }
def Tryz.give29:GMemo:=⟨67,12,[.agg [.sl 3 3 [zi 0,zi 0,zi 0,zi 2,zi 0,zi 4,zi 1,zi 1,zi 0],.sl 3 3 [zi 0,zi 1,zi 1,.sl 1 1 [zi 1],zi 1,zi 2,zi 2,.sl 1 1 [zi 6],zi 0,zi 2,zi 1,.sl 1 1 [zi 8]],.sl 3 3 [zi 1,zi 2,zi 3]],zi 7,zi 4],.bool true⟩
theorem Tryz.give29_ok:GMemoOk Tryz.prog Tryz.give29:={
 enters:=fun args w=>Tryz.call67 args w
 flatVal:=by decide
 calls:=fun N σ w W hw args args' hm hr=>calls_give (F:=1000000) (told:=fun _ _ _=>none) Tryz.fits Tryz.mixed Tryz.told0 (n:=99) (k:=12) (ds:=Tryz.give29.ds) (by rfl) (by decide) (by decide +kernel) hw hm hr }
def Tryz.give30:GMemo:=⟨67,12,[.agg [.sl 3 3 [zi 0,zi 0,zi 0,zi 2,zi 0,zi 4,zi 1,zi 1,zi 0],.sl 3 3 [zi 0,zi 1,zi 1,.sl 1 1 [zi 1],zi 1,zi 2,zi 2,.sl 1 1 [zi 6],zi 0,zi 2,zi 1,.sl 1 1 [zi 8]],.sl 3 3 [zi 1,zi 2,zi 3]],zi 7,zi 6],.bool true⟩
theorem Tryz.give30_ok:GMemoOk Tryz.prog Tryz.give30:={
 enters:=fun args w=>Tryz.call67 args w
 flatVal:=by decide
 calls:=fun N σ w W hw args args' hm hr=>calls_give (F:=1000000) (told:=fun _ _ _=>none) Tryz.fits Tryz.mixed Tryz.told0 (n:=99) (k:=12) (ds:=Tryz.give30.ds) (by rfl) (by decide) (by decide +kernel) hw hm hr }
def Tryz.give31:GMemo:=⟨103,12,[.agg [.sl 3 3 [zi 0,zi 0,zi 0,zi 2,zi 0,zi 4,zi 1,zi 1,zi 0],.sl 3 3 [zi 0,zi 1,zi 1,.sl 1 1 [zi 1],zi 1,zi 2,zi 2,.sl 1 1 [zi 6],zi 0,zi 2,zi 1,.sl 1 1 [zi 8]],.sl 3 3 [zi 1,zi 2,zi 3]],.sl 2 3 [zi 5,zi 1,zi 7,zi 1,zi 0,zi 1,zi 10,zi 3,zi 6,zi 2,zi 7,zi 2,zi 1,zi 2,zi 0,zi 0,zi 8,zi 3,zi 7,zi 0,zi 0,zi 1,zi 10,zi 0]],.bool true⟩
theorem Tryz.give31_ok:GMemoOk Tryz.prog Tryz.give31:={
 enters:=fun args w=>Tryz.call103 args w
 flatVal:=by decide
 calls:=fun N σ w W hw args args' hm hr=>calls_give (F:=1000000) (told:=fun _ _ _=>none) Tryz.fits Tryz.mixed Tryz.told0 (n:=99) (k:=12) (ds:=Tryz.give31.ds) (by rfl) (by decide) (by decide +kernel) hw hm hr }
def Tryz.give32:GMemo:=⟨111,12,[.agg [.sl 3 3 [zi 0,zi 0,zi 0,zi 2,zi 0,zi 4,zi 1,zi 1,zi 0],.sl 3 3 [zi 0,zi 1,zi 1,.sl 1 1 [zi 1],zi 1,zi 2,zi 2,.sl 1 1 [zi 6],zi 0,zi 2,zi 1,.sl 1 1 [zi 8]],.sl 3 3 [zi 1,zi 2,zi 3],zi 3,zi 1],.agg [zi 0,zi 1,zi 1,.sl 1 1 [zi 1]]],.bool true⟩
theorem Tryz.give32_ok:GMemoOk Tryz.prog Tryz.give32:={
 enters:=fun args w=>Tryz.call111 args w
 flatVal:=by decide
 calls:=fun N σ w W hw args args' hm hr=>calls_give (F:=1000000) (told:=fun _ _ _=>none) Tryz.fits Tryz.mixed Tryz.told0 (n:=99) (k:=12) (ds:=Tryz.give32.ds) (by rfl) (by decide) (by decide +kernel) hw hm hr }
def Tryz.give33:GMemo:=⟨111,12,[.agg [.sl 3 3 [zi 0,zi 0,zi 0,zi 2,zi 0,zi 4,zi 1,zi 1,zi 0],.sl 3 3 [zi 0,zi 1,zi 1,.sl 1 1 [zi 1],zi 1,zi 2,zi 2,.sl 1 1 [zi 6],zi 0,zi 2,zi 1,.sl 1 1 [zi 8]],.sl 3 3 [zi 1,zi 2,zi 3],zi 3,zi 1],.agg [zi 0,zi 2,zi 1,.sl 1 1 [zi 8]]],.bool false⟩
theorem Tryz.give33_ok:GMemoOk Tryz.prog Tryz.give33:={
 enters:=fun args w=>Tryz.call111 args w
 flatVal:=by decide
 calls:=fun N σ w W hw args args' hm hr=>calls_give (F:=1000000) (told:=fun _ _ _=>none) Tryz.fits Tryz.mixed Tryz.told0 (n:=99) (k:=12) (ds:=Tryz.give33.ds) (by rfl) (by decide) (by decide +kernel) hw hm hr }
def Tryz.give34:GMemo:=⟨111,12,[.agg [.sl 3 3 [zi 0,zi 0,zi 0,zi 2,zi 0,zi 4,zi 1,zi 1,zi 0],.sl 3 3 [zi 0,zi 1,zi 1,.sl 1 1 [zi 1],zi 1,zi 2,zi 2,.sl 1 1 [zi 6],zi 0,zi 2,zi 1,.sl 1 1 [zi 8]],.sl 3 3 [zi 1,zi 2,zi 3],zi 3,zi 3],.agg [zi 1,zi 2,zi 2,.sl 1 1 [zi 6]]],.bool true⟩
theorem Tryz.give34_ok:GMemoOk Tryz.prog Tryz.give34:={
 enters:=fun args w=>Tryz.call111 args w
 flatVal:=by decide
 calls:=fun N σ w W hw args args' hm hr=>calls_give (F:=1000000) (told:=fun _ _ _=>none) Tryz.fits Tryz.mixed Tryz.told0 (n:=99) (k:=12) (ds:=Tryz.give34.ds) (by rfl) (by decide) (by decide +kernel) hw hm hr }
def Tryz.gives:List GMemo:=[Tryz.give0,Tryz.give1,Tryz.give2,Tryz.give3,Tryz.give4,Tryz.give5,Tryz.give6,Tryz.give7,Tryz.give8,Tryz.give9,Tryz.give10,Tryz.give11,Tryz.give12,Tryz.give13,Tryz.give14,Tryz.give15,Tryz.give16,Tryz.give17,Tryz.give18,Tryz.give19,Tryz.give20,Tryz.give21,Tryz.give22,Tryz.give23,Tryz.give24,Tryz.give25,Tryz.give26,Tryz.give27,Tryz.give28,Tryz.give29,Tryz.give30,Tryz.give31,Tryz.give32,Tryz.give33,Tryz.give34]
theorem Tryz.gives_ok:GMemosOk Tryz.prog Tryz.gives:=.cons Tryz.give0_ok (.cons Tryz.give1_ok (.cons Tryz.give2_ok (.cons Tryz.give3_ok (.cons Tryz.give4_ok (.cons Tryz.give5_ok (.cons Tryz.give6_ok (.cons Tryz.give7_ok (.cons Tryz.give8_ok (.cons Tryz.give9_ok (.cons Tryz.give10_ok (.cons Tryz.give11_ok (.cons Tryz.give12_ok (.cons Tryz.give13_ok (.cons Tryz.give14_ok (.cons Tryz.give15_ok (.cons Tryz.give16_ok (.cons Tryz.give17_ok (.cons Tryz.give18_ok (.cons Tryz.give19_ok (.cons Tryz.give20_ok (.cons Tryz.give21_ok (.cons Tryz.give22_ok (.cons Tryz.give23_ok (.cons Tryz.give24_ok (.cons Tryz.give25_ok (.cons Tryz.give26_ok (.cons Tryz.give27_ok (.cons Tryz.give28_ok (.cons Tryz.give29_ok (.cons Tryz.give30_ok (.cons Tryz.give31_ok (.cons Tryz.give32_ok (.cons Tryz.give33_ok (.cons Tryz.give34_ok (.nil)))))))))))))))))))))))))))))))))))
def Tryz.toldG:ToldF:=toldGive Tryz.gives (fun _ _ _=>none)
theorem Tryz.toldG_ok (N:Nat):ToldOk Tryz.prog N Tryz.toldG:=toldGive_ok Tryz.gives_ok Tryz.told0 N
theorem Tryz.works (W:World):Calls Tryz.prog 21 #[] W fun e W'=>e=.returned (.bool true)/\BelowD W.heap.size W W' :=
 calls_true (F:=1000000) Tryz.fits Tryz.mixed Tryz.toldG_ok (n:=99) (by decide +kernel) (by decide +kernel) W
def Tryz.T0:ToldF:=toldTrue 21 fun _ _ _=>none
theorem Tryz.toldT0 (N:Nat):ToldOk Tryz.prog N Tryz.T0:=toldTrue_ok (fun args w=>Tryz.call21 args w) Tryz.works (fun N=>fun f args w w1 v h=>by cases h) N
end Go.Proofs

namespace Go.Proofs
open Go.Shelf
def Tryz.sortL_ren:Go.Shelf.Ren:=⟨fun|6=>94|15=>116|14=>115|28=>140|29=>141|20=>132|21=>133|22=>134|23=>135|24=>136|25=>137|26=>138|27=>139|46=>154|47=>155|48=>156|49=>157|50=>158|57=>164|n=>n,fun|22=>135|24=>77|25=>139|3=>3|39=>150|0=>0|53=>167|55=>169|4=>4|46=>160|45=>159|50=>164|5=>5|9=>9|66=>182|70=>186|76=>191|77=>192|n=>n,fun|n=>n⟩
theorem Tryz.sortL:Go.Proofs.SlLaysF.n6 Tryz.prog Tryz.sortL_ren:={
 mixed:=by kernel_rfl
 f6:=⟨Tryz.f94.name,by decide,Tryz.func94.trans (congrArg some (by kernel_rfl))⟩
 f14:=⟨Tryz.f115.name,by decide,Tryz.func115.trans (congrArg some (by kernel_rfl))⟩
 f15:=Tryz.func116.trans (congrArg some (by kernel_rfl))
 f20:=⟨Tryz.f132.name,by decide,Tryz.func132.trans (congrArg some (by kernel_rfl))⟩
 f21:=⟨Tryz.f133.name,by decide,Tryz.func133.trans (congrArg some (by kernel_rfl))⟩
 f22:=⟨Tryz.f134.name,by decide,Tryz.func134.trans (congrArg some (by kernel_rfl))⟩
 f23:=⟨Tryz.f135.name,by decide,Tryz.func135.trans (congrArg some (by kernel_rfl))⟩
 f24:=⟨Tryz.f136.name,by decide,Tryz.func136.trans (congrArg some (by kernel_rfl))⟩
 f25:=⟨Tryz.f137.name,by decide,Tryz.func137.trans (congrArg some (by kernel_rfl))⟩
 f26:=⟨Tryz.f138.name,by decide,Tryz.func138.trans (congrArg some (by kernel_rfl))⟩
 f27:=⟨Tryz.f139.name,by decide,Tryz.func139.trans (congrArg some (by kernel_rfl))⟩
 f28:=Tryz.func140.trans (congrArg some (by kernel_rfl))
 f29:=Tryz.func141.trans (congrArg some (by kernel_rfl))
 f46:=⟨Tryz.f154.name,by decide,Tryz.func154.trans (congrArg some (by kernel_rfl))⟩
 f47:=Tryz.func155.trans (congrArg some (by kernel_rfl))
 f48:=Tryz.func156.trans (congrArg some (by kernel_rfl))
 f49:=⟨Tryz.f157.name,by decide,Tryz.func157.trans (congrArg some (by kernel_rfl))⟩
 f50:=⟨Tryz.f158.name,by decide,Tryz.func158.trans (congrArg some (by kernel_rfl))⟩
 f57:=⟨Tryz.f164.name,by decide,Tryz.func164.trans (congrArg some (by kernel_rfl))⟩
 t0:=Tryz.underlying0
 a0:=Tryz.isAgg0
 z0:=Tryz.sizeOf0
 v0:=Tryz.zeroValue0
 t3:=Tryz.underlying3
 a3:=Tryz.isAgg3
 z3:=Tryz.sizeOf3
 v3:=Tryz.zeroValue3
 t4:=Tryz.underlying4
 a4:=Tryz.isAgg4
 z4:=Tryz.sizeOf4
 v4:=Tryz.zeroValue4
 t5:=Tryz.underlying5
 a5:=Tryz.isAgg5
 z5:=Tryz.sizeOf5
 v5:=Tryz.zeroValue5
 t9:=Tryz.underlying9
 a9:=Tryz.isAgg9
 z9:=Tryz.sizeOf9
 v9:=Tryz.zeroValue9
 t22:=Tryz.underlying135
 a22:=Tryz.isAgg135
 z22:=Tryz.sizeOf135
 v22:=Tryz.zeroValue135
 a24:=Tryz.isAgg77
 z24:=Tryz.sizeOf77
 t25:=Tryz.underlying139
 a25:=Tryz.isAgg139
 z25:=Tryz.sizeOf139
 v25:=Tryz.zeroValue139
 t39:=Tryz.underlying150
 a39:=Tryz.isAgg150
 z39:=Tryz.sizeOf150
 v39:=Tryz.zeroValue150
 t45:=Tryz.underlying159
 a45:=Tryz.isAgg159
 z45:=Tryz.sizeOf159
 v45:=Tryz.zeroValue159
 t46:=Tryz.underlying160
 a46:=Tryz.isAgg160
 z46:=Tryz.sizeOf160
 v46:=Tryz.zeroValue160
 t50:=Tryz.underlying164
 a50:=Tryz.isAgg164
 z50:=Tryz.sizeOf164
 v50:=Tryz.zeroValue164
 t53:=Tryz.underlying167
 a53:=Tryz.isAgg167
 z53:=Tryz.sizeOf167
 v53:=Tryz.zeroValue167
 t55:=Tryz.underlying169
 a55:=Tryz.isAgg169
 z55:=Tryz.sizeOf169
 v55:=Tryz.zeroValue169
 t66:=Tryz.underlying182
 a66:=Tryz.isAgg182
 z66:=Tryz.sizeOf182
 v66:=Tryz.zeroValue182
 t70:=Tryz.underlying186
 a70:=Tryz.isAgg186
 z70:=Tryz.sizeOf186
 v70:=Tryz.zeroValue186
 t76:=Tryz.underlying191
 a76:=Tryz.isAgg191
 z76:=Tryz.sizeOf191
 v76:=Tryz.zeroValue191
 t77:=Tryz.underlying192
 a77:=Tryz.isAgg192
 z77:=Tryz.sizeOf192
 v77:=Tryz.zeroValue192 }
end Go.Proofs
namespace Go.Proofs
open Go Go.Shelf Go.RowKit Go.Lib Go.Sort Go.Sim
theorem Tryz.lens:∀ x,x < Tryz.lenTab.n->isVal (xcall (prg Tryz.prog) (xsOf (prg Tryz.prog)) (fun _ _ _=>none) 1000000 100 (.fn (.func 116) #[]) [.int .u64 (x:Int)] .empty) (Tryz.lenTab.g x)=true:=by decide +kernel
theorem Tryz.pops:∀ x,x < Tryz.popTab.n->isVal (xcall (prg Tryz.prog) (xsOf (prg Tryz.prog)) (fun _ _ _=>none) 1000000 100 (.fn (.func 98) #[]) [.int .i64 (x:Int)] .empty) (Tryz.popTab.g x)=true:=by decide +kernel
theorem Tryz.lenOk:TabOk Tryz.prog Tryz.lenTab:={
 enters:=fun args w=>Tryz.call116 args w
 flatVal:=fun _ _=>rfl
 calls:=fun x hx W=>tab_calls (F:=1000000) (n:=99) Tryz.fits Tryz.mixed Tryz.told0 (fun _=>rfl) (fun _ _=>rfl) Tryz.lens x hx W }
theorem Tryz.popOk:TabOk Tryz.prog Tryz.popTab:={
 enters:=fun args w=>Tryz.call98 args w
 flatVal:=fun _ _=>rfl
 calls:=fun x hx W=>tab_calls (F:=1000000) (n:=99) Tryz.fits Tryz.mixed Tryz.told0 (fun _=>rfl) (fun _ _=>rfl) Tryz.pops x hx W }
theorem Tryz.toldT0c (N:Nat):ToldOk Tryz.prog N Tryz.T0c:=toldTab_ok Tryz.lenOk (fun N=>toldTab_ok Tryz.popOk Tryz.toldT0 N) N
def cfV (x y:Fin 64):Int:=cmpN x.val y.val
theorem ltV (x y:Fin 64):ltOf cfV x y=decide (popN x.val < popN y.val \/ (popN x.val=popN y.val/\x.val < y.val)):=by
 unfold ltOf cfV cmpN
 rw[decide_eq_decide]
 repeat' split
 all_goals omega
theorem swoV:SWO (ltOf cfV) where
 irrefl x:=by rw[ltV];simp
 trans x y z h1 h2:=by rw[ltV]at *;simp only[decide_eq_true_eq]at *;omega
 ntrans x y z h1 h2:=by rw[ltV]at *;simp only[decide_eq_false_iff_not]at *;omega
theorem totV (x y:Fin 64) (h1:ltOf cfV x y=false) (h2:ltOf cfV y x=false):x=y:=by
 rw[ltV]at *
 simp only[decide_eq_false_iff_not]at *
 exact Fin.ext (by omega)
theorem fresh_empty:Fresh AW.empty:=⟨fun b _=>by simp[AW.empty,AW.blk,Trie.get_leaf],fun r _=>by simp[AW.empty,AW.family,Trie.get_leaf]⟩
theorem closureV (x y:Fin 64) (W:World):Calls Tryz.prog 95 #[encF 63 x,encF 63 y] W fun e w'=>e=.returned (.int .i64 (cfV x y))/\∃ q os,w'=grow (W.drewN q) os:=by
 have h:=calls_flat Tryz.fits Tryz.mixed Tryz.toldT0c (f:=95) (l:=[encF 63 x,encF 63 y]) (v:=.int .i64 (cfV x y)) rfl rfl rfl (cmpSets_ok x.val y.val x.isLt y.isLt .empty fresh_empty) W
 exact h.mono fun e w' ⟨he,hb⟩=>⟨he,grown_of hb⟩
theorem cmpLaysV (blk off size:Nat) (w:World):CmpLays1 Tryz.prog 95 #[] (encF 63) cfV blk off size w:=fun _ _ _ _ x y=>closureV x y _
theorem Tryz.cmpOk:CmpOk2 Tryz.prog Tryz.cmpIds:={
 enters:=fun args W=>Tryz.call94 args W
 tiny:=fun p c W=>by
  have h:=AnyF.slices_SortFunc_none (P:=Tryz.prog) (ρ:=Tryz.sortL_ren) { Tryz.sortL with } p c (.func (.func 95) #[] #[]) W
  exact h
 sorts:=fun blk off c d W h1 h2 hH hblk=>by
  have hS:=Any.slices_SortFunc_total Tryz.sortL (encF 63) (fun _=>rfl) cfV swoV 95 #[] blk off c d W (fun args W=>Tryz.call95 args W) (cmpLaysV blk off d.size W) hH hblk (Nat.lt_of_le_of_lt h2 (by decide)) totV
  refine hS.mono ?_
  rintro e w' ⟨he,n,os,hw⟩
  refine⟨he,n,os,?_⟩
  rw[hw]
  unfold sortWorld
  rfl }
theorem Tryz.toldT1 (N:Nat):ToldOk Tryz.prog N Tryz.T1:=toldSets_ok Tryz.cmpOk Tryz.toldT0c N
end Go.Proofs

namespace Go.Proofs
open Go Go.RowKit Go.Sim Go.ChangeShapes Go.WideShapes Go.ChangeAt
set_option maxRecDepth 100000
theorem Tryz.own:ownKnob Tryz.prog.godebug=none:=by kernel_rfl
theorem Tryz.laidOut:laidOutB Tryz.prog=true:=by kernel_rfl
theorem Tryz.und4:Tryz.prog.underlying 4=some .bool:=by kernel_rfl
end Go.Proofs
