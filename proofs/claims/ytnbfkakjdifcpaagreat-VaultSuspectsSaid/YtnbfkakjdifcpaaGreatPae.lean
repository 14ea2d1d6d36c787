/- This program: its code, contracts, numbers, part 5. -/
import Derived.Test.YtnbfkakjdifcpaaGreatPaa
import Derived.Test.YtnbfkakjdifcpaaGreatNa
import Derived.Test.YtnbfkakjdifcpaaGreatPad
set_option linter.unusedVariables false
set_option linter.unusedSimpArgs false
namespace Go.Proofs
open Go Go.RowKit Go.Sim
set_option maxRecDepth 100000
def Tryz.s63:SC:=(.seq (.ops false [zo 2 (.box 26 (zv 0)) 0,zo 3 (.box 78 (zv 1)) 0,zo 4 (.assign (.const (.slice none 0 0))) 24]) (.seq (.ops false [zo 5 (.fieldAddr 26 (zv 2) 2) 0,zo 6 (.load 24 (zv 5)) 24,zo 7 (.call ⟨.builtin .len,⟨[(zv 6)]⟩,⟨[24]⟩⟩) 3,zo 8 (.makeFunc (.func 90) ⟨[]⟩ ⟨[(zv 2),(zv 3)]⟩) 102,zo 9 (.call ⟨.value (.func 69),⟨[(zv 7),(zv 8)]⟩,⟨[3,102]⟩⟩) 24,zo 4 (.assign (zv 9)) 24]) .ret))
def Tryz.s90:SC:=(.seq (.ops false [zo 4 (.assign (.const (.bool false))) 4]) (.seq (.ops false [zo 5 (.load 26 (zv 1)) 26,zo 6 (.move (zv 0)) 77,zo 7 (.load 78 (zv 2)) 78,zo 8 (.call ⟨.value (.func 67),⟨[(zv 5),(zv 6),(zv 7)]⟩,⟨[26,77,78]⟩⟩) 4,zo 4 (.assign (zv 8)) 4]) .ret))
def Tryz.s69:SC:=(.seq (.ops false [zo 4 (.assign (.const (.slice none 0 0))) 24]) (.seq (.ops false [zo 5 (.assign (.const (.slice none 0 0))) 135]) (.seq (.seq (.ops false [zo 10 (.move (zv 0)) 3,zo 11 (.binOp .shl 3 (zk 1) (zv 10) 3) 3,zo 12 (.move (zk 0)) 3]) (.block 0 (.loop (.seq (.ops false [zo 13 (.binOp .lss 3 (zv 12) (zv 11) 3) 4]) (.seq (.cond (.tmp 13) .skip (.exit 0)) (.seq (.block 1 (.seq (.ops false [zo 14 (.move (zv 12)) 3,zo 6 (.assign (zv 14)) 3]) (.seq (.ops false [zo 15 (.move (zv 1)) 102,zo 16 (.move (zv 6)) 3,zo 17 (.call ⟨.value (zv 15),⟨[(zv 16)]⟩,⟨[77]⟩⟩) 4]) (.cond (.tmp 17) (.ops false [zo 18 (.move (zv 5)) 135,zo 19 (.move (zv 6)) 3,zo 20 (.buildSlice 135 1 ⟨[(0,(zv 19))]⟩) 135,zo 21 (.call ⟨.builtin .append,⟨[(zv 18),(zv 20)]⟩,⟨[135,135]⟩⟩) 135,zo 5 (.assign (zv 21)) 135]) .skip)))) (.ops false [zo 22 (.binOp .add 3 (zv 12) (zk 1) 3) 3,zo 12 (.move (zv 22)) 3]))))))) (.seq (.ops false [zo 23 (.move (zv 5)) 135,zo 24 (.call ⟨.value (.func 94),⟨[(zv 23),(.func 95)]⟩,⟨[135,139]⟩⟩) 0]) (.seq (.ops false [zo 7 (.assign (.const (.slice none 0 0))) 24]) (.seq (.seq (.ops false [zo 25 (.move (zv 5)) 135,zo 26 (.call ⟨.builtin .len,⟨[(zv 25)]⟩,⟨[135]⟩⟩) 3,zo 27 (.move (zk 0)) 3]) (.block 2 (.loop (.seq (.ops false [zo 28 (.binOp .lss 3 (zv 27) (zv 26) 3) 0]) (.seq (.cond (.tmp 28) .skip (.exit 2)) (.seq (.block 3 (.seq (.ops false [zo 29 (.indexAddr 135 (zv 25) (zv 27)) 0,zo 30 (.load 77 (zv 29)) 77,zo 9 (.alloc 77) 0,zon (.store 77 (zv 9) (zv 30)) 0]) (.seq (.ops false [zo 31 (.move (zv 7)) 24,zo 32 (.makeFunc (.func 101) ⟨[]⟩ ⟨[(zv 9)]⟩) 123,zo 33 (.call ⟨.value (.func 100),⟨[(zv 31),(zv 32)]⟩,⟨[24,123]⟩⟩) 4,zo 34 (.unOp .not 4 (zv 33)) 4]) (.cond (.tmp 34) (.ops false [zo 35 (.move (zv 7)) 24,zo 36 (.load 77 (zv 9)) 77,zo 37 (.buildSlice 24 1 ⟨[(0,(zv 36))]⟩) 24,zo 38 (.call ⟨.builtin .append,⟨[(zv 35),(zv 37)]⟩,⟨[24,24]⟩⟩) 24,zo 7 (.assign (zv 38)) 24]) .skip)))) (.ops false [zo 39 (.binOp .add 3 (zv 27) (zk 1) 3) 3,zo 27 (.move (zv 39)) 3]))))))) (.seq (.ops false [zo 40 (.move (zv 7)) 24,zo 4 (.assign (zv 40)) 24]) .ret)))))))
def Tryz.s101:SC:=(.seq (.ops false [zo 3 (.assign (.const (.bool false))) 4]) (.seq (.ops false [zo 4 (.load 77 (zv 1)) 77,zo 5 (.move (zv 0)) 3,zo 6 (.call ⟨.value (.func 102),⟨[(zv 4),(zv 5)]⟩,⟨[77,77]⟩⟩) 4,zo 3 (.assign (zv 6)) 4]) .ret))
def Tryz.s102:SC:=(.seq (.ops false [zo 4 (.assign (.const (.bool false))) 4]) (.seq (.ops false [zo 5 (.move (zv 0)) 77,zo 6 (.move (zv 1)) 77,zo 7 (.binOp .and 77 (zv 5) (zv 6) 77) 77,zo 8 (.move (zv 1)) 77,zo 9 (.binOp .eql 77 (zv 7) (zv 8) 77) 4,zo 4 (.assign (zv 9)) 4]) .ret))
def Tryz.s64:SC:=(.seq (.ops false [zo 2 (.assign (.const (.slice none 0 0))) 24]) (.seq (.ops false [zo 3 (.assign (.const (.slice none 0 0))) 24]) (.seq (.seq (.ops false [zo 4 (.assign (zk 0)) 3]) (.block 0 (.loop (.seq (.seq (.ops false [zo 8 (.move (zv 4)) 3,zo 9 (.binOp .leq 3 (zv 8) (zk 6) 3) 4]) (.cond (.tmp 9) .skip (.exit 0))) (.seq (.block 1 (.seq (.ops false [zo 5 (.assign (zk 0)) 3]) (.block 2 (.loop (.seq (.seq (.ops false [zo 12 (.move (zv 5)) 3,zo 13 (.binOp .lss 3 (zv 12) (zk 64) 3) 4]) (.cond (.tmp 13) .skip (.exit 2))) (.seq (.block 3 (.seq (.seq (.ops false [zo 16 (.move (zv 5)) 3,zo 17 (.call ⟨.value (.func 91),⟨[(zv 16)]⟩,⟨[3]⟩⟩) 3,zo 18 (.move (zv 4)) 3,zo 19 (.binOp .neq 3 (zv 17) (zv 18) 3) 4,zo 20 (.move (zv 19)) 4,zg 21 (.move (zv 0)) 24 20 false,zg 22 (.move (zv 5)) 3 20 false,zg 23 (.call ⟨.value (.func 92),⟨[(zv 21),(zv 22)]⟩,⟨[24,3]⟩⟩) 3 20 false,zg 24 (.binOp .lss 3 (zv 23) (zk 0) 3) 4 20 false,zo 25 (.pick (zv 20) (.const (.bool true)) (zv 24)) 4]) (.cond (.tmp 25) (.exit 3) .skip)) (.seq (.ops false [zo 6 (.assign (.const (.bool true))) 4]) (.seq (.seq (.ops false [zo 7 (.assign (zk 0)) 3]) (.block 4 (.loop (.seq (.seq (.ops false [zo 26 (.move (zv 7)) 3,zo 27 (.move (zv 3)) 24,zo 28 (.call ⟨.builtin .len,⟨[(zv 27)]⟩,⟨[24]⟩⟩) 3,zo 29 (.binOp .lss 3 (zv 26) (zv 28) 3) 4]) (.cond (.tmp 29) .skip (.exit 4))) (.seq (.block 5 (.ops false [zo 32 (.move (zv 6)) 4,zo 33 (.move (zv 32)) 4,zg 34 (.move (zv 5)) 3 33 true,zg 35 (.move (zv 3)) 24 33 true,zg 36 (.move (zv 7)) 3 33 true,zg 37 (.indexAddr 24 (zv 35) (zv 36)) 0 33 true,zg 38 (.load 3 (zv 37)) 3 33 true,zg 39 (.call ⟨.value (.func 93),⟨[(zv 34),(zv 38)]⟩,⟨[3,3]⟩⟩) 4 33 true,zg 40 (.unOp .not 4 (zv 39)) 4 33 true,zo 41 (.pick (zv 33) (zv 40) (.const (.bool false))) 4,zo 6 (.assign (zv 41)) 4])) (.ops false [zo 30 (.move (zv 7)) 3,zo 31 (.binOp .add 3 (zv 30) (zk 1) 3) 3,zo 7 (.assign (zv 31)) 3])))))) (.seq (.ops false [zo 42 (.move (zv 6)) 4]) (.cond (.tmp 42) (.ops false [zo 43 (.move (zv 3)) 24,zo 44 (.move (zv 5)) 3,zo 45 (.buildSlice 24 1 ⟨[(0,(zv 44))]⟩) 24,zo 46 (.call ⟨.builtin .append,⟨[(zv 43),(zv 45)]⟩,⟨[24,24]⟩⟩) 24,zo 3 (.assign (zv 46)) 24]) .skip)))))) (.ops false [zo 14 (.move (zv 5)) 3,zo 15 (.binOp .add 3 (zv 14) (zk 1) 3) 3,zo 5 (.assign (zv 15)) 3]))))))) (.ops false [zo 10 (.move (zv 4)) 3,zo 11 (.binOp .add 3 (zv 10) (zk 1) 3) 3,zo 4 (.assign (zv 11)) 3])))))) (.seq (.ops false [zo 47 (.move (zv 3)) 24,zo 2 (.assign (zv 47)) 24]) .ret))))
def Tryz.s65:SC:=(.seq (.ops false [zo 2 (.box 26 (zv 0)) 0,zo 4 (.assign (.const (.slice none 0 0))) 24]) (.seq (.ops false [zo 5 (.assign (.const (.slice none 0 0))) 24]) (.seq (.seq (.ops false [zo 6 (.assign (zk 0)) 3]) (.block 0 (.loop (.seq (.seq (.ops false [zo 7 (.move (zv 6)) 3,zo 8 (.fieldAddr 26 (zv 2) 2) 0,zo 9 (.load 24 (zv 8)) 24,zo 10 (.call ⟨.builtin .len,⟨[(zv 9)]⟩,⟨[24]⟩⟩) 3,zo 11 (.binOp .shl 3 (zk 1) (zv 10) 3) 3,zo 12 (.binOp .lss 3 (zv 7) (zv 11) 3) 4]) (.cond (.tmp 12) .skip (.exit 0))) (.seq (.block 1 (.seq (.ops false [zo 15 (.load 26 (zv 2)) 26,zo 16 (.move (zv 6)) 3,zo 17 (.call ⟨.value (.func 50),⟨[(zv 15),(zv 16)]⟩,⟨[26,3]⟩⟩) 3,zo 18 (.move (zv 1)) 3,zo 19 (.call ⟨.value (.func 40),⟨[(zv 17),(zv 18)]⟩,⟨[3,3]⟩⟩) 4]) (.cond (.tmp 19) (.ops false [zo 20 (.move (zv 5)) 24,zo 21 (.move (zv 6)) 3,zo 22 (.buildSlice 24 1 ⟨[(0,(zv 21))]⟩) 24,zo 23 (.call ⟨.builtin .append,⟨[(zv 20),(zv 22)]⟩,⟨[24,24]⟩⟩) 24,zo 5 (.assign (zv 23)) 24]) .skip))) (.ops false [zo 13 (.move (zv 6)) 3,zo 14 (.binOp .add 3 (zv 13) (zk 1) 3) 3,zo 6 (.assign (zv 14)) 3])))))) (.seq (.ops false [zo 24 (.move (zv 5)) 24,zo 4 (.assign (zv 24)) 24]) .ret))))
def Tryz.s92:SC:=(.seq (.ops false [zo 4 (.assign (zk 0)) 3]) (.seq (.seq (.ops false [zo 5 (.assign (zk 0)) 3]) (.block 0 (.loop (.seq (.seq (.ops false [zo 6 (.move (zv 5)) 3,zo 7 (.move (zv 0)) 24,zo 8 (.call ⟨.builtin .len,⟨[(zv 7)]⟩,⟨[24]⟩⟩) 3,zo 9 (.binOp .lss 3 (zv 6) (zv 8) 3) 4]) (.cond (.tmp 9) .skip (.exit 0))) (.seq (.block 1 (.seq (.ops false [zo 12 (.move (zv 0)) 24,zo 13 (.move (zv 5)) 3,zo 14 (.indexAddr 24 (zv 12) (zv 13)) 0,zo 15 (.load 3 (zv 14)) 3,zo 16 (.move (zv 1)) 3,zo 17 (.binOp .eql 3 (zv 15) (zv 16) 3) 4]) (.cond (.tmp 17) (.seq (.ops false [zo 18 (.move (zv 5)) 3,zo 4 (.assign (zv 18)) 3]) .ret) .skip))) (.ops false [zo 10 (.move (zv 5)) 3,zo 11 (.binOp .add 3 (zv 10) (zk 1) 3) 3,zo 5 (.assign (zv 11)) 3])))))) (.seq (.ops false [zo 4 (.assign (.const (.int .i64 (-1)))) 3]) .ret)))
theorem Tryz.s63_eq:Tryz.f63.body.map sOf=some Tryz.s63:=by kernel_rfl
theorem Tryz.s90_eq:Tryz.f90.body.map sOf=some Tryz.s90:=by kernel_rfl
theorem Tryz.s69_eq:Tryz.f69.body.map sOf=some Tryz.s69:=by kernel_rfl
theorem Tryz.s101_eq:Tryz.f101.body.map sOf=some Tryz.s101:=by kernel_rfl
theorem Tryz.s102_eq:Tryz.f102.body.map sOf=some Tryz.s102:=by kernel_rfl
theorem Tryz.s64_eq:Tryz.f64.body.map sOf=some Tryz.s64:=by kernel_rfl
theorem Tryz.s65_eq:Tryz.f65.body.map sOf=some Tryz.s65:=by kernel_rfl
theorem Tryz.s92_eq:Tryz.f92.body.map sOf=some Tryz.s92:=by kernel_rfl
theorem containsP_ok (x p:Nat) (hx:x < 256) (hp:p < 256) (w:AW):CallT Tryz.prog Tryz.T1 (.fn (.func 102) #[]) #[.int .i64 (x:Int),.int .i64 (p:Int)] w (Ret (.bool (subB x p)) fun w'=>w=w'):=by
 have han:=and_nat (a:=x) (b:=p) (by omega) (by omega)
 have hd:decide (((x &&& p:Nat):Int)=(p:Int))=subB x p:=by unfold subB;rw[decide_eq_decide];omega
 refine callT_code rfl Tryz.func102 rfl Tryz.s102_eq rfl ?_
 delta Tryz.s102 zo zv
 simp -dsimp -implicitDefEqProofs (maxSteps:=2000000) (disch:=first|assumption|omega|simp only[nx];omega|(repeat apply zfp);assumption|simp only[smA];done|simp[oneCell,znp]) only[go_sem,han,hd]
 exact⟨rfl,rfl⟩
theorem holds_ok (x p:Nat) (hx:x < 256) (hp:p < 256) (b:Nat) (w:AW) (hb:Own w b 77 [.int .i64 (x:Int)]) :
    CallT Tryz.prog Tryz.T1 (.fn (.func 101) #[.pointer (some ⟨b,0,none⟩)]) #[.int .i64 (p:Int)] w (Ret (.bool (subB x p)) fun w'=>w=w'):=by
 have c0:=hb.cell (o:=0) rfl rfl
 refine callT_code rfl Tryz.func101 rfl Tryz.s101_eq rfl ?_
 delta Tryz.s101 zo zv
 simp -dsimp -implicitDefEqProofs (maxSteps:=2000000) (disch:=first|assumption|omega|simp only[nx];omega|(repeat apply zfp);assumption|simp only[smA];done|simp[oneCell,znp]) only[go_sem,c0]
 apply callV_of (e:=rfl)
 . exact containsP_ok x p hx hp w
 rintro _ _ ⟨rfl,rfl⟩
 simp -dsimp -implicitDefEqProofs (maxSteps:=2000000) (disch:=first|assumption|omega|simp only[nx];omega|(repeat apply zfp);assumption|simp only[smA];done|simp[oneCell,znp]) only[go_sem]
 exact⟨rfl,rfl⟩
theorem kept_idx (x:Nat) (hx:x < 256) (L:List Nat) (hL:∀ y ∈ L,y < 256) (v:Value) (b:Nat) (w:AW) (hb:Own w b 77 [.int .i64 (x:Int)]) (hv:ArrOf w 1 icells v (natsL L)) :
    CallT Tryz.prog Tryz.T1 (.fn (.func 120) #[]) #[v,.func (.func 101) #[] #[.pointer (some ⟨b,0,none⟩)]] w (fun r w'=>w=w'/\∃ n:Int,r=.int .i64 n/\(n ≥ 0↔L.any (subB x)=true)/\-1≤n/\n≤1000000000000000):=by
 obtain⟨p,c,rfl,hc1,hc2,hat⟩:=hv.open
 have hl:(natsL L).length=L.length:=by simp[natsL]
 rw[hl]
 rw[hl]at hc1
 refine callT_code rfl Tryz.func120 rfl Tryz.s120_eq rfl ?_
 delta Tryz.s120 zo zv zk
 simp -dsimp -implicitDefEqProofs (maxSteps:=2000000) (disch:=first|assumption|omega|simp only[nx];omega|(repeat apply zfp);assumption|simp only[smA];done|simp[oneCell,znp]) only[go_sem]
 refine loopR (fun k t ds w1=>∃ i:Nat,i≤L.length/\k=L.length - i/\ds=[]/\ev t (.tmp 0)=.slice p L.length c/\ev t (.tmp 1)=.func (.func 101) #[] #[.pointer (some ⟨b,0,none⟩)]/\ev t (.tmp 7)=.int .i64 (L.length:Int)/\ev t (.tmp 8)=.int .i64 (i:Int)/\(L.take i).any (subB x)=false/\w=w1) (L.length) ?_ ?_
 . refine⟨0,by omega,by omega,rfl,?_,?_,?_,?_,rfl,rfl⟩ <;> simp -dsimp -implicitDefEqProofs (maxSteps:=2000000) (disch:=first|assumption|omega|simp only[nx];omega|(repeat apply zfp);assumption|simp only[smA];done|simp[oneCell,znp]) only[go_sem] <;> rfl
 rintro k t ds w1 ⟨i,hii,rfl,rfl,e0,e1,e7,e8,hno,hw⟩
 subst hw
 by_cases hlt:(i:Int) < (L.length:Int)
 case neg =>
  obtain rfl:i=L.length:=by omega
  rw[List.take_length]at hno
  simp -dsimp -implicitDefEqProofs (maxSteps:=2000000) (disch:=first|assumption|omega|simp only[nx];omega|(repeat apply zfp);assumption|simp only[smA];done|simp[oneCell,znp]) only[go_sem,e0,e1,e7,e8,hlt]
  exact⟨trivial,-1,rfl,by rw[hno];simp,by omega,by omega⟩
 have hlt':i < L.length:=by omega
 obtain⟨b1,o1,rfl,_,hcell⟩:=hat i (by omega)
 have a0:=hcell w (.refl _ _) 0 _ rfl
 have hget:(natsL L)[i]'(by omega)=(L[i]:Int):=by simp[natsL]
 rw[Nat.add_zero,hget]at a0
 have hsucc:(L.take (i+1)).any (subB x)=subB x L[i]:=by
  rw[List.take_add_one,List.getElem?_eq_getElem hlt',List.any_append,hno];simp
 have hLi:=hL _ (List.getElem_mem hlt')
 simp -dsimp -implicitDefEqProofs (maxSteps:=2000000) (disch:=first|assumption|omega|simp only[nx];omega|(repeat apply zfp);assumption|simp only[smA];done|simp[oneCell,znp]) only[go_sem,e0,e1,e7,e8,hlt,indexV_eq,a0]
 apply callV_of (e:=rfl)
 . exact holds_ok x L[i] hx hLi b w hb
 rintro _ _ ⟨rfl,rfl⟩
 cases hk:subB x L[i] with
 | true =>
  have hT:L.any (subB x)=true:=List.any_eq_true.2 ⟨_,List.getElem_mem hlt',hk⟩
  simp -dsimp -implicitDefEqProofs (maxSteps:=2000000) (disch:=first|assumption|omega|simp only[nx];omega|(repeat apply zfp);assumption|simp only[smA];done|simp[oneCell,znp]) only[go_sem,e0,e1,e7,e8,hk]
  exact⟨trivial,i,rfl,⟨fun _=>hT,fun _=>by omega⟩,by omega,by omega⟩
 | false =>
  simp -dsimp -implicitDefEqProofs (maxSteps:=2000000) (disch:=first|assumption|omega|simp only[nx];omega|(repeat apply zfp);assumption|simp only[smA];done|simp[oneCell,znp]) only[go_sem,e0,e1,e7,e8,hk]
  refine⟨_,by omega,i+1,by omega,rfl,rfl,by(simp only[go_sem,e0];try rfl),by(simp only[go_sem,e1];try rfl),by(simp only[go_sem,e7];try rfl),by(simp only[go_sem,e8];try rfl),(by rw[hsucc,hk]),rfl⟩
theorem kept_any (x:Nat) (hx:x < 256) (L:List Nat) (hL:∀ y ∈ L,y < 256) (v:Value) (b:Nat) (w:AW) (hb:Own w b 77 [.int .i64 (x:Int)]) (hv:ArrOf w 1 icells v (natsL L)) :
    CallT Tryz.prog Tryz.T1 (.fn (.func 100) #[]) #[v,.func (.func 101) #[] #[.pointer (some ⟨b,0,none⟩)]] w (Ret (.bool (L.any (subB x))) fun w'=>w=w'):=by
 refine callT_code rfl Tryz.func100 rfl Tryz.s100_eq rfl ?_
 delta Tryz.s100 zo zv zk
 simp -dsimp -implicitDefEqProofs (maxSteps:=2000000) (disch:=first|assumption|omega|simp only[nx];omega|(repeat apply zfp);assumption|simp only[smA];done|simp[oneCell,znp]) only[go_sem]
 apply callV_of (e:=rfl)
 . exact kept_idx x hx L hL v b w hb hv
 rintro _ _ ⟨rfl,n,rfl,hn,hn1,hn2⟩
 cases hq:L.any (subB x) with
 | true =>
  have hge:n ≥ 0:=hn.2 hq
  simp -dsimp -implicitDefEqProofs (maxSteps:=2000000) (disch:=first|assumption|omega|simp only[nx];omega|(repeat apply zfp);assumption|simp only[smA];done|simp[oneCell,znp]) only[go_sem,hge]
  exact⟨rfl,rfl⟩
 | false =>
  have hge:¬ n ≥ 0:=fun z=>by rw[hn.1 z]at hq;cases hq
  simp -dsimp -implicitDefEqProofs (maxSteps:=2000000) (disch:=first|assumption|omega|simp only[nx];omega|(repeat apply zfp);assumption|simp only[smA];done|simp[oneCell,znp]) only[go_sem,hge]
  exact⟨rfl,rfl⟩
theorem aStores_row2 {S:Nat->Prop} {e n:Nat} {b:Nat}:∀ (l pre old:List Value) {w:AW},AOwnS S w e 1 (.slice (some ⟨b,0,none⟩) n n) n (pre++old)->Fresh w->old.length=l.length->(∀ x ∈ l,oneCell x=true) ->
    ∃ w',aStores b pre.length l w=some w'/\AOwnS S w' e 1 (.slice (some ⟨b,0,none⟩) n n) n (pre++l)/\MutS S w w'/\w'.next=w.next
 | [],pre,old,w,h,f,hl,_=>by
  have:old=[]:=List.length_eq_zero_iff.mp hl
  subst this
  exact⟨w,rfl,h,MutS.refl f,rfl⟩
 | x :: l,pre,old,w,h,f,hl,h1=>by
  obtain ⟨y,old',rfl⟩:∃ y old',old=y :: old':=by
   cases old with
   | nil=>simp at hl
   | cons y o=>exact⟨y,o,rfl⟩
  obtain⟨b',e',_,w1,st,A1,m1,n1,_⟩:=aownS_store h f (by omega) (o:=pre.length) (by simp) (x:=x) (h1 x List.mem_cons_self)
  injection e' with e' _ _
  injection e' with e'
  injection e' with e' _ _
  subst e'
  have hset:setL (pre++y :: old') pre.length x=(pre++[x])++old':=by
   rw[setL_eq,List.set_append_right _ _ (by omega),Nat.sub_self];simp
  rw[hset]at A1
  have hst:w.store ⟨b,pre.length,none⟩ x=some w1:=by
   have hx:=h1 x List.mem_cons_self
   simp only[storeV,hx]at st
   exact st
  obtain⟨w2,s2,A2,m2,n2⟩:=aStores_row2 l (pre++[x]) old' A1 m1.fresh (by simpa using hl) (fun z hz=>h1 z (List.mem_cons_of_mem _ hz))
  refine⟨w2,?_,by simpa using A2,m1.trans m2 (fun j q=>.inl q),by omega⟩
  simp only[aStores,hst]
  simpa using s2
theorem readInts_map {w:AW} {b:Nat} {L:List Int} (h:∀ j (hj:j < L.length),w.cell? ⟨b,j,none⟩=some (.int .i64 L[j])):∀ n o,o+n=L.length->readInts w b o n=some (L.drop o)
 | 0,o,ho=>by rw[readInts,List.drop_of_length_le (by omega)]
 | n+1,o,ho=>by
  rw[readInts,h o (by omega)]
  simp only[readInts_map h n (o+1) (by omega)]
  rw[List.drop_eq_getElem_cons (by omega:o < L.length)]
def sortN (L:List Nat):List Nat:=L.mergeSort fun x y=>!decide (cmpN y x < 0)
theorem sortN_len (L:List Nat):(sortN L).length=L.length:=List.length_mergeSort L
theorem sortN_is (L:List Nat):sortedC Tryz.cmpIds (natsL L)=natsL (sortN L):=by
 unfold sortedC natsL sortN
 rw[<- List.map_mergeSort]
 intro a _ b _
 unfold CmpIds.le Tryz.cmpIds
 simp
theorem sort_ok {B:Nat} (L:List Nat) (hL:∀ x ∈ L,x < 64) (hl:L.length≤1048576) (v:Value) (w:AW) (f:Fresh w) (hA:AOwn B w 77 1 v L.length ((natsL L).flatMap icells)) (hB:B≤w.next) :
    CallT Tryz.prog Tryz.T1 (.fn (.func 94) #[]) #[v,.func (.func 95) #[] #[]] w (fun _ w'=>AOwn B w' 77 1 v L.length ((natsL (sortN L)).flatMap icells)/\Keep B w w'/\Fresh w'):=by
 have hnl:(natsL L).length=L.length:=by simp[natsL]
 rcases Nat.eq_zero_or_pos L.length with h0|hpos
 · have:L=[]:=List.length_eq_zero_iff.mp h0
   subst this
   have hs:∃ p c,v=.slice p 0 c:=by
    rcases hA with ⟨rfl,_,_⟩|⟨b,r,rfl,_⟩
    . exact⟨_,_,rfl⟩
    . exact⟨_,_,rfl⟩
   obtain⟨p,c,rfl⟩:=hs
   exact callT_told (v:=.tuple #[]) (w':=w) rfl ⟨by rw[show sortN []=[]from by simp[sortN]];exact hA,Keep.refl _ _,f⟩
 · have hAS:AOwnS (fun j=>B≤j) w 77 1 v L.length ((natsL L).flatMap icells):=hA
   obtain ⟨b,rfl,_,hblt,hcell⟩:∃ b,v=.slice (some ⟨b,0,none⟩) L.length L.length/\B≤b/\b < w.next/\∀ (i:Nat) (y:Value),((natsL L).flatMap icells)[i]? = some y->w.cell? ⟨b,i,none⟩=some y:=by
    rcases hA with ⟨_,q,_⟩|⟨b,r,e,a2,a3,a4,a5,a6,a7,a9,a8⟩
    . omega
    . exact⟨b,e,a2,a3,fun j y hy=>by simp only[AW.cell?,a6,getL_eq,hy,a9 _ (List.mem_of_getElem? hy)]⟩
   have hread:readInts w b 0 L.length=some (natsL L):=by
    have:=readInts_map (L:=natsL L) (fun j hj=>hcell j _ (by rw[flat_icells,List.getElem?_map,List.getElem?_eq_getElem hj];rfl)) L.length 0 (by omega)
    rw[this,List.drop_zero]
   have hfit:Tryz.cmpIds.fits (natsL L)=true:=by
    unfold CmpIds.fits natsL
    rw[List.all_eq_true]
    intro x hx
    obtain⟨y,hy,rfl⟩:=List.mem_map.1 hx
    have:=hL y hy
    rw[Bool.and_eq_true,decide_eq_true_eq,decide_eq_true_eq]
    exact⟨by omega,by show (y:Int) < ((63+1:Nat):Int);omega⟩
   obtain ⟨w',st,A',m',n'⟩:=aStores_row2 ((sortedC Tryz.cmpIds (natsL L)).map encInt) [] ((natsL L).flatMap icells) (by simpa using hAS) f (by rw[icells_flat_len,List.length_map,sortedC_len]) (by
    intro z hz;obtain⟨y,_,rfl⟩:=List.mem_map.1 hz;rfl)
   rw[List.nil_append,sortN_is]at A'
   rw[sortN_is]at st
   have he:(natsL (sortN L)).map encInt=(natsL (sortN L)).flatMap icells:=by rw[flat_icells];rfl
   refine callT_told (v:=.tuple #[]) (w':=w') ?_ ⟨by rw[<- he];exact A',m'.keep (fun j q=>q) hB,m'.fresh⟩
   show sortCT Tryz.cmpIds [.slice (some ⟨b,0,none⟩) L.length L.length,.func (.func 95) #[] #[]] w=_
   have hn:Nat.beq L.length 0=false:=by
    cases q:Nat.beq L.length 0 with
    | false=>rfl
    | true=>have:=Nat.eq_of_beq_eq_true q;omega
   have hb:Nat.ble L.length 1048576=true:=Nat.ble_eq_true_of_le hl
   have hids:Nat.beq 95 Tryz.cmpIds.g=true:=rfl
   simp only[sortCT,hids,hn,sortRowC,hb,hread,hfit,sortN_is]
   rw[show ([]:List Value).length=0 from rfl]at st
   rw[st]
def keepL (out:List Nat) (x:Nat):List Nat:=if out.any (subB x)=true then out else out++[x]
def minTo (L:List Nat) (i:Nat):List Nat:=(L.take i).foldl keepL []
def minL (L:List Nat):List Nat:=L.foldl keepL []
theorem minTo_succ {L:List Nat} {i:Nat} (h:i < L.length):minTo L (i+1)=keepL (minTo L i) L[i]:=by
 unfold minTo
 rw[List.take_add_one,List.getElem?_eq_getElem h,List.foldl_append];rfl
theorem minTo_all (L:List Nat):minTo L L.length=minL L:=by unfold minTo minL;rw[List.take_length]
theorem keepL_len (out:List Nat) (x:Nat):(keepL out x).length≤out.length+1:=by
 unfold keepL
 split
 . omega
 . simp
theorem minTo_len (L:List Nat):∀ i,i≤L.length->(minTo L i).length≤i
 | 0,_=>by simp[minTo]
 | i+1,h=>by
  rw[minTo_succ (by omega)]
  have:=minTo_len L i (by omega)
  have:=keepL_len (minTo L i) (L[i]'(by omega))
  omega
theorem keepL_mem {out:List Nat} {x y:Nat} (h:y ∈ keepL out x):y ∈ out \/ y=x:=by
 unfold keepL at h
 split at h
 . exact .inl h
 . rcases List.mem_append.1 h with q|q
   . exact .inl q
   . exact .inr (by simpa using q)
theorem minTo_mem (L:List Nat):∀ i,i≤L.length->∀ y ∈ minTo L i,y ∈ L
 | 0,_,y,h=>by simp[minTo]at h
 | i+1,hi,y,h=>by
  rw[minTo_succ (by omega)]at h
  rcases keepL_mem h with q|rfl
  . exact minTo_mem L i (by omega) y q
  . exact List.getElem_mem _
def selTo (P:Nat->Bool) (i:Nat):List Nat:=(List.range i).filter P
theorem selTo_yes {P:Nat->Bool} {i:Nat} (h:P i=true):selTo P (i+1)=selTo P i++[i]:=by
 unfold selTo
 rw[List.range_succ,List.filter_append];simp[h]
theorem selTo_no {P:Nat->Bool} {i:Nat} (h:P i=false):selTo P (i+1)=selTo P i:=by
 unfold selTo
 rw[List.range_succ,List.filter_append];simp[h]
theorem selTo_len (P:Nat->Bool) (i:Nat):(selTo P i).length≤i:=by
 have:=List.length_filter_le P (List.range i)
 rw[List.length_range]at this;exact this
theorem selTo_lt {P:Nat->Bool} {i x:Nat} (h:x ∈ selTo P i):x < i:=List.mem_range.1 (List.mem_filter.1 h).1
def leastN (P:Nat->Bool) (m:Nat):List Nat:=minL (sortN (selTo P (2 ^ m)))
theorem sortN_mem {L:List Nat} {x:Nat}:x ∈ sortN L↔x ∈ L:=List.mem_mergeSort
theorem natsL_app (L:List Nat) (x:Nat):(natsL (L++[x])).flatMap icells=(natsL L).flatMap icells++[.int .i64 (x:Int)]:=by
 unfold natsL
 rw[List.map_append,List.flatMap_append];rfl
theorem natsL_len (L:List Nat):(natsL L).length=L.length:=by simp[natsL]
theorem Tryz.bs135 (t:Tmps) (l:List (Nat × Operand)):makes (prg Tryz.prog) t (.buildSlice 135 1 ⟨l⟩)=bsQ 77 1 1 [.int .i64 0] (l.map fun p=>(p.1,ev t p.2)):=makes_bs Tryz.ty135 Tryz.ty77 rfl (by kernel_rfl)
theorem Tryz.bs24x1 (t:Tmps) (l:List (Nat × Operand)):makes (prg Tryz.prog) t (.buildSlice 24 1 ⟨l⟩)=bsQ 3 1 1 [.int .i64 0] (l.map fun p=>(p.1,ev t p.2)):=makes_bs Tryz.ty24 Tryz.ty3 rfl (by kernel_rfl)
attribute [go_sem] Tryz.bs135 Tryz.bs24x1
def RowS (e:TypeId) (B:Nat) (w:AW) (v:Value) (L:List Nat):Prop:=AOwn B w e 1 v L.length ((natsL L).flatMap icells)
theorem RowS.nil (e B:Nat) (w:AW):RowS e B w (.slice none 0 0) []:=.inl ⟨rfl,rfl,rfl⟩
theorem RowS.appP {B:Nat} {w:AW} {v:Value} {L:List Nat} (h:RowS 77 B w v L) (f:Fresh w) (hB:B≤w.next) (hl:L.length+1≤1048576) (x:Nat) :
    ∃ v' w',append (prg Tryz.prog) (w.push (.cells [.int .i64 (x:Int)] 77 w.next 0 0)) 135 135 v (.slice (some ⟨w.next,0,none⟩) 1 1)=some (v',w')/\RowS 77 B w' v' (L++[x])/\Keep B w w'/\Fresh w'/\w.next < w'.next:=by
 obtain⟨u5,w5,happ,hA5,hk5,hf5,hn5,_⟩:=append_one (e':=77) Tryz.ty135 Tryz.ty77 rfl (by omega) (by omega) h f hB (new:=[.int .i64 (x:Int)]) rfl (by intro y hy;simp at hy;subst hy;rfl) (by omega)
 exact⟨u5,w5,happ,by unfold RowS;rw[natsL_app,List.length_append];exact hA5,hk5,hf5,hn5⟩
theorem RowS.app {B:Nat} {w:AW} {v:Value} {L:List Nat} (h:RowS 3 B w v L) (f:Fresh w) (hB:B≤w.next) (hl:L.length+1≤1048576) (x:Nat) :
    ∃ v' w',append (prg Tryz.prog) (w.push (.cells [.int .i64 (x:Int)] 3 w.next 0 0)) 24 24 v (.slice (some ⟨w.next,0,none⟩) 1 1)=some (v',w')/\RowS 3 B w' v' (L++[x])/\Keep B w w'/\Fresh w'/\w.next < w'.next:=by
 obtain⟨u5,w5,happ,hA5,hk5,hf5,hn5,_⟩:=append_one (e':=3) Tryz.ty24 Tryz.ty3 rfl (by omega) (by omega) h f hB (new:=[.int .i64 (x:Int)]) rfl (by intro y hy;simp at hy;subst hy;rfl) (by omega)
 exact⟨u5,w5,happ,by unfold RowS;rw[natsL_app,List.length_append];exact hA5,hk5,hf5,hn5⟩
theorem RowS.arr {e B:Nat} {w:AW} {v:Value} {L:List Nat} (h:RowS e B w v L) (hl:L.length≤1048576):ArrOf w 1 icells v (natsL L):=by
 unfold RowS at h
 rw[<- natsL_len L]at h
 exact AOwn.arr h icells_len (by rw[natsL_len];exact hl)
theorem RowS.isSlice {e B:Nat} {w:AW} {v:Value} {L:List Nat} (h:RowS e B w v L):∃ p c,v=.slice p L.length c:=by
 rcases h with ⟨rfl,h2,_⟩|⟨b,r,rfl,_⟩
 . exact⟨_,_,by rw[h2]⟩
 . exact⟨_,_,rfl⟩
theorem RowS.keep {e B:Nat} {w w':AW} {v:Value} {L:List Nat} (h:RowS e B w v L) (k:Keep w.next w w'):RowS e B w' v L:=AOwn.keep h k (Nat.le_refl _)
theorem pow6 {m:Nat} (h:m≤6):2 ^ m≤64:=by
 have:∀ m,m≤6->2 ^ m≤64:=by decide
 exact this m h
set_option maxHeartbeats 16000000 in
theorem least_ok (m:Nat) (hm:m≤6) (P:Nat->Bool) (fn:FuncId) (cap:Array Value) (w:AW) (f:Fresh w)
    (hP:∀ x:Nat,x < 2 ^ m->∀ w',Grown w w'->CallT Tryz.prog Tryz.T1 (.fn (.func fn) cap) #[.int .i64 (x:Int)] w' (Ret (.bool (P x)) (Grown w'))) :
    CallT Tryz.prog Tryz.T1 (.fn (.func 69) #[]) #[.int .i64 (m:Int),.func (.func fn) #[] cap] w (fun v w'=>Grown w w'/\RowS 3 w.next w' v (leastN P m)):=by
 have hsh:=full_shl (n:=m) (by omega)
 have h0:¬ (m:Int) < 0:=by omega
 have hp:=pow6 hm
 have hle:leastN P m=minL (sortN (selTo P (2 ^ m))):=rfl
 have hsl:=selTo_len P (2 ^ m)
 generalize hN:2 ^ m=N at *
 refine callT_code rfl Tryz.func69 rfl Tryz.s69_eq rfl ?_
 delta Tryz.s69 zo zon zv zk
 simp -dsimp -implicitDefEqProofs (maxSteps:=2000000) (disch:=first|assumption|omega|simp only[nx];omega|(repeat apply zfp);assumption|simp only[smA];done|simp[oneCell,znp]) only[go_sem,h0,hsh]
 refine loopR (fun k t ds w1=>∃ i:Nat,i≤N/\k=N - i/\ds=[]/\ev t (.tmp 1)=.func (.func fn) #[] cap/\ev t (.tmp 11)=.int .i64 (N:Int)/\ev t (.tmp 12)=.int .i64 (i:Int)/\∃ v5:Value,ev t (.tmp 5)=v5/\RowS 77 w.next w1 v5 (selTo P i)/\Keep w.next w w1/\Fresh w1) (N) ?_ ?_
 . refine⟨0,by omega,by omega,rfl,?_,?_,?_,_,(by simp -dsimp -implicitDefEqProofs (maxSteps:=2000000) (disch:=first|assumption|omega|simp only[nx];omega|(repeat apply zfp);assumption|simp only[smA];done|simp[oneCell,znp]) only[go_sem]),RowS.nil _ _ _,.refl _ _,f⟩ <;> simp -dsimp -implicitDefEqProofs (maxSteps:=2000000) (disch:=first|assumption|omega|simp only[nx];omega|(repeat apply zfp);assumption|simp only[smA];done|simp[oneCell,znp]) only[go_sem] <;> rfl
 rintro k t ds w1 ⟨i,hii,rfl,rfl,e1,e11,e12,v5,e5,hrow,k1,f1⟩
 have hsli:=selTo_len P i
 by_cases hlt:(i:Int) < (N:Int)
 case pos =>
  simp -dsimp -implicitDefEqProofs (maxSteps:=2000000) (disch:=first|assumption|omega|simp only[nx];omega|(repeat apply zfp);assumption|simp only[smA];done|simp[oneCell,znp]) only[go_sem,e1,e5,e11,e12,hlt]
  apply callV_of (e:=rfl)
  . exact hP i (by omega) w1 ⟨k1,f1⟩
  rintro _ w2 ⟨rfl,g2⟩
  have hrow2:=hrow.keep g2.1
  have k2:=k1.trans (g2.1.mono k1.next)
  cases hk:P i with
  | false =>
   rw[<- selTo_no hk]at hrow2
   simp -dsimp -implicitDefEqProofs (maxSteps:=2000000) (disch:=first|assumption|omega|simp only[nx];omega|(repeat apply zfp);assumption|simp only[smA];done|simp[oneCell,znp]) only[go_sem,e1,e5,e11,e12,hk]
   refine⟨_,by omega,i+1,by omega,rfl,rfl,by(simp only[go_sem,e1];try rfl),by(simp only[go_sem,e11];try rfl),by(simp only[go_sem,e12];try rfl),v5,(by simp -dsimp -implicitDefEqProofs (maxSteps:=2000000) (disch:=first|assumption|omega|simp only[nx];omega|(repeat apply zfp);assumption|simp only[smA];done|simp[oneCell,znp]) only[go_sem,e5]),hrow2,k2,g2.2⟩
  | true =>
   obtain⟨u3,w3,happ,hA3,hk3,hf3,hn3⟩:=hrow2.appP g2.2 k2.next (by omega) i
   rw[<- selTo_yes hk]at hA3
   simp -dsimp -implicitDefEqProofs (maxSteps:=2000000) (disch:=first|assumption|omega|simp only[nx];omega|(repeat apply zfp);assumption|simp only[smA];done|simp[oneCell,znp]) only[go_sem,e1,e5,e11,e12,hk,happ]
   refine⟨_,by omega,i+1,by omega,rfl,rfl,by(simp only[go_sem,e1];try rfl),by(simp only[go_sem,e11];try rfl),by(simp only[go_sem,e12];try rfl),u3,(by simp -dsimp -implicitDefEqProofs (maxSteps:=2000000) (disch:=first|assumption|omega|simp only[nx];omega|(repeat apply zfp);assumption|simp only[smA];done|simp[oneCell,znp]) only[go_sem]),hA3,k2.trans hk3,hf3⟩
 obtain rfl:i=N:=by omega
 have hslt:=fun x (h:x ∈ selTo P i)=>selTo_lt h
 rw[hle]
 generalize selTo P i=L at *
 have hLl:∀ x ∈ L,x < 64:=fun x h=>by have:=hslt x h;omega
 simp -dsimp -implicitDefEqProofs (maxSteps:=2000000) (disch:=first|assumption|omega|simp only[nx];omega|(repeat apply zfp);assumption|simp only[smA];done|simp[oneCell,znp]) only[go_sem,e1,e5,e11,e12,hlt]
 apply callV_of (e:=rfl)
 . exact sort_ok L hLl (by omega) _ w1 f1 hrow k1.next
 rintro _ w2 ⟨hA2,k12,f2⟩
 have hR2:RowS 77 w.next w2 v5 (sortN L):=by unfold RowS;rw[sortN_len];exact hA2
 have k2:=k1.trans k12
 have hSl:=sortN_len L
 have hSm:∀ x ∈ sortN L,x < 64:=fun x h=>hLl x (sortN_mem.1 h)
 have hR:=hR2.arr (by omega)
 obtain⟨p5,c5,rfl⟩:=hR2.isSlice
 generalize sortN L=S at *
 simp -dsimp -implicitDefEqProofs (maxSteps:=2000000) (disch:=first|assumption|omega|simp only[nx];omega|(repeat apply zfp);assumption|simp only[smA];done|simp[oneCell,znp]) only[go_sem,e5]
 refine loopR (fun k t ds w3=>∃ j:Nat,j≤S.length/\k=S.length - j/\ds=[]/\ev t (.tmp 25)=.slice p5 S.length c5/\ev t (.tmp 26)=.int .i64 (S.length:Int)/\ev t (.tmp 27)=.int .i64 (j:Int)/\∃ v7:Value,ev t (.tmp 7)=v7/\RowS 3 w2.next w3 v7 (minTo S j)/\Keep w2.next w2 w3/\Fresh w3) (S.length) ?_ ?_
 . refine⟨0,by omega,by omega,rfl,?_,?_,?_,_,(by simp -dsimp -implicitDefEqProofs (maxSteps:=2000000) (disch:=first|assumption|omega|simp only[nx];omega|(repeat apply zfp);assumption|simp only[smA];done|simp[oneCell,znp]) only[go_sem]),RowS.nil _ _ _,.refl _ _,f2⟩ <;> simp -dsimp -implicitDefEqProofs (maxSteps:=2000000) (disch:=first|assumption|omega|simp only[nx];omega|(repeat apply zfp);assumption|simp only[smA];done|simp[oneCell,znp]) only[go_sem,e5] <;> rfl
 rintro k t ds w3 ⟨j,hij,rfl,rfl,e25,e26,e27,v7,e7,hout,k3,f3⟩
 have hml:=minTo_len S j (by omega)
 by_cases hlj:(j:Int) < (S.length:Int)
 case neg =>
  obtain rfl:j=S.length:=by omega
  have hms:=minTo_all S
  rw[hms]at hout
  simp -dsimp -implicitDefEqProofs (maxSteps:=2000000) (disch:=first|assumption|omega|simp only[nx];omega|(repeat apply zfp);assumption|simp only[smA];done|simp[oneCell,znp]) only[go_sem,e7,e25,e26,e27,hlj]
  exact⟨⟨k2.trans (k3.mono k2.next),f3⟩,AOwn.weak hout k2.next⟩
 have hlj':j < S.length:=by omega
 have hnl:=natsL_len S
 obtain⟨_,_,ex,_,_,hat⟩:=hR.open
 injection ex with ex1 ex2 ex3
 subst ex1
 obtain⟨b4,o4,rfl,_,hcell⟩:=hat j (by omega)
 have a0:=hcell w3 k3 0 _ rfl
 have hget:(natsL S)[j]'(by omega)=(S[j]:Int):=by simp[natsL]
 rw[Nat.add_zero,hget]at a0
 have hsucc:=minTo_succ hlj'
 have hmm:=minTo_mem S j (by omega)
 have hSj:=hSm _ (List.getElem_mem hlj')
 generalize S[j]=x at *
 have g4:=(Grown.refl f3).push (.cells [.int .i64 0] 77 w3.next 0 0)
 have O4:=Own.new f3 77 [.int .i64 0]
 have st:=storeV_own1 (o:=0) (v:=.int .i64 (x:Int)) O4 (by simp) rfl
 simp only[setL]at st
 have m5:=MutS.put (S:=fun j=>j=w3.next) g4.2 rfl O4.lt (.cells [.int .i64 (x:Int)] 77 w3.next 0 0)
 have O5:=O4.put [.int .i64 (x:Int)]
 have g5:Grown w3 _:=⟨g4.1.trans (m5.keep (B:=w3.next) (fun j q=>by omega) g4.1.next),m5.fresh⟩
 have hout5:=hout.keep g5.1
 have hka:=kept_any x (by omega) (minTo S j) (fun y hy=>by have:=hSm y (hmm y hy);omega) v7 w3.next _ O5 (hout5.arr (by omega))
 have c5':=O5.cell (o:=0) rfl rfl
 simp -dsimp -implicitDefEqProofs (maxSteps:=2000000) (disch:=first|assumption|omega|simp only[nx];omega|(repeat apply zfp);assumption|simp only[smA];done|simp[oneCell,znp]) only[go_sem,e7,e25,e26,e27,hlj,indexV_eq,a0,st]
 generalize (w3.push (.cells [.int .i64 0] 77 w3.next 0 0)).put w3.next (.cells [.int .i64 (x:Int)] 77 w3.next 0 0)=w5 at *
 apply callV_of (e:=rfl)
 . exact hka
 rintro _ _ ⟨rfl,rfl⟩
 have k5:=k3.trans (g5.1.mono k3.next)
 cases hk:(minTo S j).any (subB x) with
 | true =>
  have hN2:minTo S (j+1)=minTo S j:=by rw[hsucc,keepL,if_pos hk]
  rw[<- hN2]at hout5
  simp -dsimp -implicitDefEqProofs (maxSteps:=2000000) (disch:=first|assumption|omega|simp only[nx];omega|(repeat apply zfp);assumption|simp only[smA];done|simp[oneCell,znp]) only[go_sem,e7,e25,e26,e27,hk]
  refine⟨_,by omega,j+1,by omega,rfl,rfl,by(simp only[go_sem,e25];try rfl),by(simp only[go_sem,e26];try rfl),by(simp only[go_sem,e27];try rfl),v7,(by simp -dsimp -implicitDefEqProofs (maxSteps:=2000000) (disch:=first|assumption|omega|simp only[nx];omega|(repeat apply zfp);assumption|simp only[smA];done|simp[oneCell,znp]) only[go_sem,e7]),hout5,k5,g5.2⟩
 | false =>
  have hN2:minTo S (j+1)=minTo S j++[x]:=by rw[hsucc,keepL,if_neg (by rw[hk];intro z;cases z)]
  obtain⟨u6,w6,happ,hA6,hk6,hf6,hn6⟩:=hout5.app g5.2 k5.next (by omega) x
  rw[<- hN2]at hA6
  simp -dsimp -implicitDefEqProofs (maxSteps:=2000000) (disch:=first|assumption|omega|simp only[nx];omega|(repeat apply zfp);assumption|simp only[smA];done|simp[oneCell,znp]) only[go_sem,e7,e25,e26,e27,hk,c5',happ]
  refine⟨_,by omega,j+1,by omega,rfl,rfl,by(simp only[go_sem,e25];try rfl),by(simp only[go_sem,e26];try rfl),by(simp only[go_sem,e27];try rfl),u6,(by simp -dsimp -implicitDefEqProofs (maxSteps:=2000000) (disch:=first|assumption|omega|simp only[nx];omega|(repeat apply zfp);assumption|simp only[smA];done|simp[oneCell,znp]) only[go_sem]),hA6,k5.trans hk6,hf6⟩
def reachB (s:StrN) (goals g:Nat):Bool:=!decide (endR s g 1 &&& goals=0)
set_option maxHeartbeats 8000000 in
theorem groups1_ok {s:StrN} (hs:strB s=true) {pR pG pS:Option Addr} {cR cG cS:Nat} (goals:Nat) (hgo:goals < 256) (b1 b2:Nat) (x:Nat) (hx:x < 2 ^ s.staff.length) (w:AW) (f:Fresh w) (hA:StrAt w pR pG pS cR cG cS s)
    (O1:Own w b1 26 (strC pR pG pS cR cG cS s)) (O2:Own w b2 78 [.int .i64 (goals:Int)]) :
    CallT Tryz.prog Tryz.T1 (.fn (.func 90) #[.pointer (some ⟨b1,0,none⟩),.pointer (some ⟨b2,0,none⟩)]) #[.int .i64 (x:Int)] w (Ret (.bool (reachB s goals x)) (Grown w)):=by
 have hl1:=loadAll O1 (n:=3) rfl (by simp[strC,oneCell])
 have c0:=O2.cell (o:=0) rfl rfl
 have hp:=pow6 (str_staff hs).2.1
 have hr:=reaches_ok hs (g:=x) (by omega) (fun k hk=>bit_lt hx hk) goals hgo w f hA
 unfold strC at *
 refine callT_code rfl Tryz.func90 rfl Tryz.s90_eq rfl ?_
 delta Tryz.s90 zo zv
 simp -dsimp -implicitDefEqProofs (maxSteps:=2000000) (disch:=first|assumption|omega|simp only[nx];omega|(repeat apply zfp);assumption|simp only[smA];done|simp[oneCell,znp]) only[go_sem,hl1,c0]
 apply callV_of (e:=rfl)
 . exact hr
 rintro _ w2 ⟨rfl,g2⟩
 simp -dsimp -implicitDefEqProofs (maxSteps:=2000000) (disch:=first|assumption|omega|simp only[nx];omega|(repeat apply zfp);assumption|simp only[smA];done|simp[oneCell,znp]) only[go_sem]
 exact⟨rfl,g2⟩
set_option maxHeartbeats 8000000 in
theorem groupsV_ok {s:StrN} (hs:strB s=true) {pR pG pS:Option Addr} {cR cG cS:Nat} (goals:Nat) (hgo:goals < 256) (w:AW) (f:Fresh w) (hA:StrAt w pR pG pS cR cG cS s) :
    CallT Tryz.prog Tryz.T1 (.fn (.func 63) #[]) #[.agg (strC pR pG pS cR cG cS s).toArray,.int .i64 (goals:Int)] w (fun v w'=>Grown w w'/\RowS 3 w.next w' v (leastN (reachB s goals) s.staff.length)):=by
 have g1:=(Grown.refl f).push (.cells (strC pR pG pS cR cG cS s) 26 w.next 0 0)
 have O1:=Own.new f 26 (strC pR pG pS cR cG cS s)
 have g2:=g1.push (.cells [.int .i64 (goals:Int)] 78 (w.next+1) 0 0)
 have O2:=Own.new g1.2 78 [.int .i64 (goals:Int)]
 rw[AW.next_push]at O2
 have O1':=O1.push (.cells [.int .i64 (goals:Int)] 78 (w.next+1) 0 0)
 have c2:=O1'.cell (o:=2) (v:=.slice pS s.staff.length cS) rfl rfl
 have hlo:=fun w2 (g2:Grown w w2) (O1:Own w2 w.next 26 (strC pR pG pS cR cG cS s)) (O2:Own w2 (w.next+1) 78 [.int .i64 (goals:Int)])=>least_ok s.staff.length (str_staff hs).2.1 (reachB s goals) 90 #[.pointer (some ⟨w.next,0,none⟩),.pointer (some ⟨w.next+1,0,none⟩)] w2 g2.2
  (fun x hx w' g'=>groups1_ok hs goals hgo _ _ x hx w' g'.2 (hA.grown (g2.trans g')) (O1.keep g'.1) (O2.keep g'.1))
 unfold strC at *
 refine callT_code rfl Tryz.func63 rfl Tryz.s63_eq rfl ?_
 delta Tryz.s63 zo zv
 simp -dsimp -implicitDefEqProofs (maxSteps:=2000000) (disch:=first|assumption|omega|simp only[nx];omega|(repeat apply zfp);assumption|simp only[smA];done|simp[oneCell,znp]) only[go_sem,c2,Nat.zero_add]
 generalize (w.push (.cells [.slice pR s.rooms.length cR,.slice pG s.gates.length cG,.slice pS s.staff.length cS] 26 w.next 0 0)).push (.cells [.int .i64 (goals:Int)] 78 (w.next+1) 0 0)=w2 at *
 apply callV_of (e:=rfl)
 . exact hlo w2 g2 O1' O2
 rintro v w3 ⟨g3,hR⟩
 simp -dsimp -implicitDefEqProofs (maxSteps:=2000000) (disch:=first|assumption|omega|simp only[nx];omega|(repeat apply zfp);assumption|simp only[smA];done|simp[oneCell,znp]) only[go_sem]
 exact⟨g2.trans g3,AOwn.weak hR g2.1.next⟩
def lessN (a b:Nat):Nat:=(BitVec.ofNat 64 a &&& ~~~BitVec.ofNat 64 b).toNat
def guardB (s:StrN) (goals g:Nat):Bool:=!reachB s goals (lessN (2 ^ s.staff.length - 1) g)
end Go.Proofs

namespace Go.Proofs
open Go Go.RowKit Go.Sim
def ordR (x y:Nat):Prop:=popN x < popN y \/ (popN x=popN y/\x < y)
theorem cmpN_lt {x y:Nat}:cmpN x y < 0↔ordR x y:=by
 unfold cmpN ordR
 repeat' split
 all_goals omega
theorem sortN_le (L:List Nat):(sortN L).Pairwise fun x y=>¬ ordR y x:=by
 have h:=List.pairwise_mergeSort (le:=fun x y=>!decide (cmpN y x < 0)) (fun a b c h1 h2=>by
  simp only[Bool.not_eq_true',decide_eq_false_iff_not,cmpN_lt]at *
  unfold ordR at *;omega) (fun a b=>by
  simp only[Bool.or_eq_true,Bool.not_eq_true',decide_eq_false_iff_not,cmpN_lt]
  unfold ordR;omega) L
 refine h.imp fun {a b} q=>?_
 simpa [cmpN_lt] using q
theorem minL_mem {S:List Nat} {x:Nat} (h:x ∈ minL S):x ∈ S:=by
 rw[<- minTo_all]at h
 exact minTo_mem S S.length (Nat.le_refl _) x h
theorem leastN_len {P:Nat->Bool} {m:Nat} (hm:m≤6):(leastN P m).length≤64:=by
 have hp:=pow6 hm
 have h1:=minTo_len (sortN (selTo P (2 ^ m))) _ (Nat.le_refl _)
 rw[minTo_all,sortN_len]at h1
 have:=selTo_len P (2 ^ m)
 unfold leastN
 omega
theorem and_pow {a k:Nat}:a &&& 2 ^ k=0↔a.testBit k=false:=by
 constructor
 . intro h
   have:(a &&& 2 ^ k).testBit k=false:=by rw[h];simp
   rw[Nat.testBit_and,bit_pow.2 rfl,Bool.and_true]at this
   exact this
 . intro h
   apply Nat.eq_of_testBit_eq
   intro i
   rw[Nat.testBit_and,Nat.zero_testBit]
   cases q:(2 ^ k).testBit i with
   | false=>simp
   | true=>rw[<- bit_pow.1 q,h];rfl
theorem reachB_iff {s:StrN} {k g:Nat}:reachB s (2 ^ k) g=true↔(endR s g 1).testBit k=true:=by
 unfold reachB
 rw[Bool.not_eq_true',decide_eq_false_iff_not,and_pow]
 cases (endR s g 1).testBit k <;> simp
end Go.Proofs

namespace Go.Proofs
open Go Go.RowKit Go.Sim
set_option maxRecDepth 100000
theorem nats_at {L:List Nat} {v:Value} {w:AW} (hv:ArrOf w 1 icells v (natsL L)):∃ p c,v=.slice p L.length c/\(L.length:Int)≤140737488355328/\∀ i (h:i < L.length),∃ b o,p=some ⟨b,o,none⟩/\∀ w',Keep w.next w w'->w'.cell? ⟨b,o+i,none⟩=some (.int .i64 (L[i]:Int)):=by
 obtain⟨p,c,rfl,h1,h2,hat⟩:=hv.open
 have hl:=natsL_len L
 refine⟨p,c,by rw[hl],by omega,fun i h=>?_⟩
 obtain⟨b,o,hp,_,hcell⟩:=hat i (by omega)
 refine⟨b,o,hp,fun w' k=>?_⟩
 have a0:=hcell w' k 0 _ rfl
 have hget:(natsL L)[i]'(by omega)=(L[i]:Int):=by simp[natsL]
 rw[Nat.add_zero,Nat.mul_one,hget]at a0
 exact a0
end Go.Proofs
